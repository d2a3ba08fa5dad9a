/- Runs over unknown values, told by the kernel: part GE. -/
import Derived.Test.YtfpebgpcpoefpaaGreatDoorGD
noncomputable section
open Int (ofNat)
set_option linter.unusedSimpArgs false
set_option linter.unusedVariables false
set_option maxRecDepth 20000
namespace Go.Proofs.Cl
open Go Go.Sim Go.Proofs Go.Proofs.Cd Go.Proofs.St Go.Proofs.YtfpebgpcpoefpaaGreatDoor
abbrev eA (c:CS) (n:Int):Bool:=(decide (n=ofNat (mV c 0)) && (decide (ofNat (mV c 1)=ofNat (mV c 1)) && ((decide (ofNat (mV c 2)=ofNat (mV c 2)) && (decide (ofNat (mV c 3)=ofNat (mV c 3)) && (decide (ofNat (mV c 4)=ofNat (mV c 4)) && true))) && true)))
abbrev tA (f:Int->Int->Int->Int->Int->List Nat) (c:CS) (n:Int):List Nat:=f (n) (ofNat (mV c 1)) (ofNat (mV c 2)) (ofNat (mV c 3)) (ofNat (mV c 4))
abbrev aA (c:CS) (n:Int):AV:=.agg [.i .i64 (n),.i .i64 (ofNat (mV c 1)),.i .i64 (ofNat (mV c 2)),.i .i64 (ofNat (mV c 3)),.i .i64 (ofNat (mV c 4))]
abbrev eJ (c:CS) (n:Int):Bool:=(decide (ofNat (mV c 0)=ofNat (mV c 0)) && (decide (n=ofNat (mV c 1)) && ((decide (ofNat (mV c 2)=ofNat (mV c 2)) && (decide (ofNat (mV c 3)=ofNat (mV c 3)) && (decide (ofNat (mV c 4)=ofNat (mV c 4)) && true))) && true)))
abbrev tJ (f:Int->Int->Int->Int->Int->List Nat) (c:CS) (n:Int):List Nat:=f (ofNat (mV c 0)) (n) (ofNat (mV c 2)) (ofNat (mV c 3)) (ofNat (mV c 4))
abbrev aJ (c:CS) (n:Int):AV:=.agg [.i .i64 (ofNat (mV c 0)),.i .i64 (n),.i .i64 (ofNat (mV c 2)),.i .i64 (ofNat (mV c 3)),.i .i64 (ofNat (mV c 4))]
theorem ofN (k:Nat):(0:Int)<=ofNat k:=by simp
theorem ofL {k:Nat} (h:k<3):ofNat k<(3:Int):=by simp;omega
theorem adE0_vq (w:Int->Int->Int->Bool) (fl:Bool->Bool->Int) (c:CS) (rd:Bool) (s:SS) (n:Int) (h4:decide (fl rd (w n 1 1099511627776)=0)=false):VD Tryz.prog 46 [.p 0 0,.i .i64 n] (oR c rd s) (.cal [] (.b (w n 1 1099511627776)) [] (.cal [0,1] (.i .i64 (fl rd (w n 1 1099511627776))) [.keep,.keep] (.t .z))) (.i .i64 (fl rd (w n 1 1099511627776))) [.keep,.keep] [] 3 (fun Lf=>Con Tryz.prog 67 [.i .i64 n,.i .i64 1,.i .i64 1099511627776] [] (.b (w n 1 1099511627776)) []/\Con Tryz.prog 66 [.p 0 0,.b (w n 1 1099511627776)] (oR c rd s) (.i .i64 (fl rd (w n 1 1099511627776))) [.keep,.keep]/\(!decide (fl rd (w n 1 1099511627776)=0))=true/\Lf):=by unfold VD VQ;kernel_rfl
theorem adE_con (c:CS) (rd:Bool) (s:SS) (n:Int) (h4:decide (flE rd (wq n 1 1099511627776)=0)=false):Con Tryz.prog 46 [.p 0 0,.i .i64 n] (oR c rd s) (.i .i64 (flE rd (wq n 1 1099511627776))) [.keep,.keep]:=by
 exact con_d (adE0_vq (w:=wq) (fl:=flE) (c:=c) (rd:=rd) (s:=s) (n:=n) (h4:=h4)) (by repeat' first | exact trivial | assumption | exact rfl | exact nT (by assumption) | exact nF (by assumption) | exact wi_con _ _ _ | exact flt_con _ _ _ _ | exact meta_con _ _ _ ht | assumption | assumption | apply And.intro | decide)
theorem adL0_vq (w:Int->Int->Int->Bool) (fl:Bool->Bool->Int) (c:CS) (rd:Bool) (s:SS) (n:Int) (h4:decide (fl rd (w n 1 1099511627776)=0)=true) (h5:decide (n<ofNat (mV c 0))=true):VD Tryz.prog 46 [.p 0 0,.i .i64 n] (oR c rd s) (.cal [] (.b (w n 1 1099511627776)) [] (.cal [0,1] (.i .i64 (fl rd (w n 1 1099511627776))) [.keep,.keep] (.f (.cal [0,1] ((mA c)) [.keep,.keep] (.t .z))))) (.i .i64 21) [.keep,.keep] [] 3 (fun Lf=>Con Tryz.prog 67 [.i .i64 n,.i .i64 1,.i .i64 1099511627776] [] (.b (w n 1 1099511627776)) []/\Con Tryz.prog 66 [.p 0 0,.b (w n 1 1099511627776)] (oR c rd s) (.i .i64 (fl rd (w n 1 1099511627776))) [.keep,.keep]/\(!decide (fl rd (w n 1 1099511627776)=0))=false/\Con Tryz.prog 68 [.p 0 0] (oR c rd s) ((mA c)) [.keep,.keep]/\decide (n<ofNat (mV c 0))=true/\Lf):=by unfold VD VQ;kernel_rfl
theorem adL_con (c:CS) (rd:Bool) (s:SS) (n:Int) (ht:Txt c) (h4:decide (flE rd (wq n 1 1099511627776)=0)=true) (h5:decide (n<ofNat (mV c 0))=true):Con Tryz.prog 46 [.p 0 0,.i .i64 n] (oR c rd s) (.i .i64 21) [.keep,.keep]:=by
 exact con_d (adL0_vq (w:=wq) (fl:=flE) (c:=c) (rd:=rd) (s:=s) (n:=n) (h4:=h4) (h5:=h5)) (by repeat' first | exact trivial | assumption | exact rfl | exact nT (by assumption) | exact nF (by assumption) | exact wi_con _ _ _ | exact flt_con _ _ _ _ | exact meta_con _ _ _ ht | assumption | assumption | apply And.intro | decide)
theorem adS0_vq (w:Int->Int->Int->Bool) (fl:Bool->Bool->Int) (c:CS) (rd:Bool) (s:SS) (n:Int) (h4:decide (fl rd (w n 1 1099511627776)=0)=true) (h5:decide (n<ofNat (mV c 0))=false) (h6:(eA c n)=true):VD Tryz.prog 46 [.p 0 0,.i .i64 n] (oR c rd s) (.cal [] (.b (w n 1 1099511627776)) [] (.cal [0,1] (.i .i64 (fl rd (w n 1 1099511627776))) [.keep,.keep] (.f (.cal [0,1] ((mA c)) [.keep,.keep] (.f (.inl (.cal [0,1] ((mA c)) [.keep,.keep] (.inl (.t .z))))))))) (.i .i64 0) [.keep,.keep] [] 5 (fun Lf=>Con Tryz.prog 67 [.i .i64 n,.i .i64 1,.i .i64 1099511627776] [] (.b (w n 1 1099511627776)) []/\Con Tryz.prog 66 [.p 0 0,.b (w n 1 1099511627776)] (oR c rd s) (.i .i64 (fl rd (w n 1 1099511627776))) [.keep,.keep]/\(!decide (fl rd (w n 1 1099511627776)=0))=false/\Con Tryz.prog 68 [.p 0 0] (oR c rd s) ((mA c)) [.keep,.keep]/\decide (n<ofNat (mV c 0))=false/\Con Tryz.prog 68 [.p 0 0] (oR c rd s) ((mA c)) [.keep,.keep]/\True/\True/\(decide (n=ofNat (mV c 0)) && (decide (ofNat (mV c 1)=ofNat (mV c 1)) && (decide (ofNat (mV c 2)=ofNat (mV c 2)) && (decide (ofNat (mV c 3)=ofNat (mV c 3)) && (decide (ofNat (mV c 4)=ofNat (mV c 4)) && true)) && true)))=true/\Lf):=by unfold VD VQ;kernel_rfl
theorem adS_con (c:CS) (rd:Bool) (s:SS) (n:Int) (ht:Txt c) (h4:decide (flE rd (wq n 1 1099511627776)=0)=true) (h5:decide (n<ofNat (mV c 0))=false) (h6:(eA c n)=true):Con Tryz.prog 46 [.p 0 0,.i .i64 n] (oR c rd s) (.i .i64 0) [.keep,.keep]:=by
 exact con_d (adS0_vq (w:=wq) (fl:=flE) (c:=c) (rd:=rd) (s:=s) (n:=n) (h4:=h4) (h5:=h5) (h6:=h6)) (by repeat' first | exact trivial | assumption | exact rfl | exact nT (by assumption) | exact nF (by assumption) | exact wi_con _ _ _ | exact flt_con _ _ _ _ | exact meta_con _ _ _ ht | assumption | assumption | apply And.intro | decide)
theorem adP0_vq (w:Int->Int->Int->Bool) (fl:Bool->Bool->Int) (mti:Int->Int->Int->Int->Int->List Nat) (c:CS) (rd:Bool) (s:SS) (n:Int) (h4:decide (fl rd (w n 1 1099511627776)=0)=true) (h5:decide (n<ofNat (mV c 0))=false) (h6:(eA c n)=false):VD Tryz.prog 46 [.p 0 0,.i .i64 n] (oR c rd s) (.cal [] (.b (w n 1 1099511627776)) [] (.cal [0,1] (.i .i64 (fl rd (w n 1 1099511627776))) [.keep,.keep] (.f (.cal [0,1] ((mA c)) [.keep,.keep] (.f (.inl (.cal [0,1] ((mA c)) [.keep,.keep] (.inl (.f (.cal [] (.s (tA mti c n)) [] (.cal [0,1] (.i .i64 (rE c s 128 (tA mti c n))) (uP c s 128 (tA mti c n)) .z))))))))))) (.i .i64 (rE c s 128 (tA mti c n))) (uP c s 128 (tA mti c n)) [] 5 (fun Lf=>Con Tryz.prog 67 [.i .i64 n,.i .i64 1,.i .i64 1099511627776] [] (.b (w n 1 1099511627776)) []/\Con Tryz.prog 66 [.p 0 0,.b (w n 1 1099511627776)] (oR c rd s) (.i .i64 (fl rd (w n 1 1099511627776))) [.keep,.keep]/\(!decide (fl rd (w n 1 1099511627776)=0))=false/\Con Tryz.prog 68 [.p 0 0] (oR c rd s) ((mA c)) [.keep,.keep]/\decide (n<ofNat (mV c 0))=false/\Con Tryz.prog 68 [.p 0 0] (oR c rd s) ((mA c)) [.keep,.keep]/\True/\True/\(decide (n=ofNat (mV c 0)) && (decide (ofNat (mV c 1)=ofNat (mV c 1)) && (decide (ofNat (mV c 2)=ofNat (mV c 2)) && (decide (ofNat (mV c 3)=ofNat (mV c 3)) && (decide (ofNat (mV c 4)=ofNat (mV c 4)) && true)) && true)))=false/\Con Tryz.prog 104 [(aA c n)] [] (.s (tA mti c n)) []/\Con Tryz.prog 103 [.p 0 0,.i .i64 128,.s (tA mti c n)] (oR c rd s) (.i .i64 (rE c s 128 (tA mti c n))) (uP c s 128 (tA mti c n))/\Lf):=by unfold VD VQ;kernel_rfl
theorem adP_con (c:CS) (rd:Bool) (s:SS) (n:Int) (ht:Txt c) (hx:Con Tryz.prog 104 [(aA c n)] [] (.s (tA mtI c n)) []) (hp:Con Tryz.prog 103 [.p 0 0,.i .i64 128,.s (tA mtI c n)] (oR c rd s) (.i .i64 (rE c s 128 (tA mtI c n))) (uP c s 128 (tA mtI c n))) (h4:decide (flE rd (wq n 1 1099511627776)=0)=true) (h5:decide (n<ofNat (mV c 0))=false) (h6:(eA c n)=false):Con Tryz.prog 46 [.p 0 0,.i .i64 n] (oR c rd s) (.i .i64 (rE c s 128 (tA mtI c n))) (uP c s 128 (tA mtI c n)):=by
 exact con_d (adP0_vq (w:=wq) (fl:=flE) (mti:=mtI) (c:=c) (rd:=rd) (s:=s) (n:=n) (h4:=h4) (h5:=h5) (h6:=h6)) (by repeat' first | exact trivial | assumption | exact rfl | exact nT (by assumption) | exact nF (by assumption) | exact wi_con _ _ _ | exact flt_con _ _ _ _ | exact meta_con _ _ _ ht | assumption | assumption | apply And.intro | decide)
theorem joE0_vq (w:Int->Int->Int->Bool) (fl:Bool->Bool->Int) (c:CS) (rd:Bool) (s:SS) (n:Int) (h4:decide (fl rd (w n 0 1099511627776)=0)=false):VD Tryz.prog 48 [.p 0 0,.i .i64 n] (oR c rd s) (.cal [] (.b (w n 0 1099511627776)) [] (.cal [0,1] (.i .i64 (fl rd (w n 0 1099511627776))) [.keep,.keep] (.t .z))) (.i .i64 (fl rd (w n 0 1099511627776))) [.keep,.keep] [] 3 (fun Lf=>Con Tryz.prog 67 [.i .i64 n,.i .i64 0,.i .i64 1099511627776] [] (.b (w n 0 1099511627776)) []/\Con Tryz.prog 66 [.p 0 0,.b (w n 0 1099511627776)] (oR c rd s) (.i .i64 (fl rd (w n 0 1099511627776))) [.keep,.keep]/\(!decide (fl rd (w n 0 1099511627776)=0))=true/\Lf):=by unfold VD VQ;kernel_rfl
theorem joE_con (c:CS) (rd:Bool) (s:SS) (n:Int) (h4:decide (flE rd (wq n 0 1099511627776)=0)=false):Con Tryz.prog 48 [.p 0 0,.i .i64 n] (oR c rd s) (.i .i64 (flE rd (wq n 0 1099511627776))) [.keep,.keep]:=by
 exact con_d (joE0_vq (w:=wq) (fl:=flE) (c:=c) (rd:=rd) (s:=s) (n:=n) (h4:=h4)) (by repeat' first | exact trivial | assumption | exact rfl | exact nT (by assumption) | exact nF (by assumption) | exact wi_con _ _ _ | exact flt_con _ _ _ _ | exact meta_con _ _ _ ht | assumption | assumption | apply And.intro | decide)
theorem joS0_vq (w:Int->Int->Int->Bool) (fl:Bool->Bool->Int) (c:CS) (rd:Bool) (s:SS) (n:Int) (h4:decide (fl rd (w n 0 1099511627776)=0)=true) (h6:(eJ c n)=true):VD Tryz.prog 48 [.p 0 0,.i .i64 n] (oR c rd s) (.cal [] (.b (w n 0 1099511627776)) [] (.cal [0,1] (.i .i64 (fl rd (w n 0 1099511627776))) [.keep,.keep] (.f (.inl (.cal [0,1] ((mA c)) [.keep,.keep] (.inl (.t .z))))))) (.i .i64 0) [.keep,.keep] [] 5 (fun Lf=>Con Tryz.prog 67 [.i .i64 n,.i .i64 0,.i .i64 1099511627776] [] (.b (w n 0 1099511627776)) []/\Con Tryz.prog 66 [.p 0 0,.b (w n 0 1099511627776)] (oR c rd s) (.i .i64 (fl rd (w n 0 1099511627776))) [.keep,.keep]/\(!decide (fl rd (w n 0 1099511627776)=0))=false/\Con Tryz.prog 68 [.p 0 0] (oR c rd s) ((mA c)) [.keep,.keep]/\True/\True/\(decide (ofNat (mV c 0)=ofNat (mV c 0)) && (decide (n=ofNat (mV c 1)) && (decide (ofNat (mV c 2)=ofNat (mV c 2)) && (decide (ofNat (mV c 3)=ofNat (mV c 3)) && (decide (ofNat (mV c 4)=ofNat (mV c 4)) && true)) && true)))=true/\Lf):=by unfold VD VQ;kernel_rfl
theorem joS_con (c:CS) (rd:Bool) (s:SS) (n:Int) (ht:Txt c) (h4:decide (flE rd (wq n 0 1099511627776)=0)=true) (h6:(eJ c n)=true):Con Tryz.prog 48 [.p 0 0,.i .i64 n] (oR c rd s) (.i .i64 0) [.keep,.keep]:=by
 exact con_d (joS0_vq (w:=wq) (fl:=flE) (c:=c) (rd:=rd) (s:=s) (n:=n) (h4:=h4) (h6:=h6)) (by repeat' first | exact trivial | assumption | exact rfl | exact nT (by assumption) | exact nF (by assumption) | exact wi_con _ _ _ | exact flt_con _ _ _ _ | exact meta_con _ _ _ ht | assumption | assumption | apply And.intro | decide)
theorem joP0_vq (w:Int->Int->Int->Bool) (fl:Bool->Bool->Int) (mti:Int->Int->Int->Int->Int->List Nat) (c:CS) (rd:Bool) (s:SS) (n:Int) (h4:decide (fl rd (w n 0 1099511627776)=0)=true) (h6:(eJ c n)=false):VD Tryz.prog 48 [.p 0 0,.i .i64 n] (oR c rd s) (.cal [] (.b (w n 0 1099511627776)) [] (.cal [0,1] (.i .i64 (fl rd (w n 0 1099511627776))) [.keep,.keep] (.f (.inl (.cal [0,1] ((mA c)) [.keep,.keep] (.inl (.f (.cal [] (.s (tJ mti c n)) [] (.cal [0,1] (.i .i64 (rE c s 128 (tJ mti c n))) (uP c s 128 (tJ mti c n)) .z))))))))) (.i .i64 (rE c s 128 (tJ mti c n))) (uP c s 128 (tJ mti c n)) [] 5 (fun Lf=>Con Tryz.prog 67 [.i .i64 n,.i .i64 0,.i .i64 1099511627776] [] (.b (w n 0 1099511627776)) []/\Con Tryz.prog 66 [.p 0 0,.b (w n 0 1099511627776)] (oR c rd s) (.i .i64 (fl rd (w n 0 1099511627776))) [.keep,.keep]/\(!decide (fl rd (w n 0 1099511627776)=0))=false/\Con Tryz.prog 68 [.p 0 0] (oR c rd s) ((mA c)) [.keep,.keep]/\True/\True/\(decide (ofNat (mV c 0)=ofNat (mV c 0)) && (decide (n=ofNat (mV c 1)) && (decide (ofNat (mV c 2)=ofNat (mV c 2)) && (decide (ofNat (mV c 3)=ofNat (mV c 3)) && (decide (ofNat (mV c 4)=ofNat (mV c 4)) && true)) && true)))=false/\Con Tryz.prog 104 [(aJ c n)] [] (.s (tJ mti c n)) []/\Con Tryz.prog 103 [.p 0 0,.i .i64 128,.s (tJ mti c n)] (oR c rd s) (.i .i64 (rE c s 128 (tJ mti c n))) (uP c s 128 (tJ mti c n))/\Lf):=by unfold VD VQ;kernel_rfl
theorem joP_con (c:CS) (rd:Bool) (s:SS) (n:Int) (ht:Txt c) (hx:Con Tryz.prog 104 [(aJ c n)] [] (.s (tJ mtI c n)) []) (hp:Con Tryz.prog 103 [.p 0 0,.i .i64 128,.s (tJ mtI c n)] (oR c rd s) (.i .i64 (rE c s 128 (tJ mtI c n))) (uP c s 128 (tJ mtI c n))) (h4:decide (flE rd (wq n 0 1099511627776)=0)=true) (h6:(eJ c n)=false):Con Tryz.prog 48 [.p 0 0,.i .i64 n] (oR c rd s) (.i .i64 (rE c s 128 (tJ mtI c n))) (uP c s 128 (tJ mtI c n)):=by
 exact con_d (joP0_vq (w:=wq) (fl:=flE) (mti:=mtI) (c:=c) (rd:=rd) (s:=s) (n:=n) (h4:=h4) (h6:=h6)) (by repeat' first | exact trivial | assumption | exact rfl | exact nT (by assumption) | exact nF (by assumption) | exact wi_con _ _ _ | exact flt_con _ _ _ _ | exact meta_con _ _ _ ht | assumption | assumption | apply And.intro | decide)
theorem apX0_vq (w:Int->Int->Int->Bool) (fl:Bool->Bool->Int) (c:CS) (rd:Bool) (s:SS) (b x:Int) (d:List Nat) (v g:Int) (h1:w b 0 127=false) (h4:decide (fl rd false=0)=false):VD Tryz.prog 95 [.p 0 0,.i .i64 b,.agg [.i .i64 x,.s d],.i .i64 v,.i .i64 g] (oR c rd s) (.cal [] (.b (w b 0 127)) [] (of_ 3 (oc 6 (.cal [0,1] (.i .i64 (fl rd false)) [.keep,.keep] (.t .z))))) (.i .i64 (fl rd false)) [.keep,.keep] [] 3 (fun Lf=>Con Tryz.prog 108 [.i .i64 b] [] (.b (w b 0 127)) []/\r3 (w b 0 127=false) (Con Tryz.prog 66 [.p 0 0,.b false] (oR c rd s) (.i .i64 (fl rd false)) [.keep,.keep]/\(!decide (fl rd false=0))=true/\Lf)):=by unfold VD VQ;kernel_rfl
theorem apX_con (c:CS) (rd:Bool) (s:SS) (b x:Int) (d:List Nat) (v g:Int) (h1:wq b 0 127=false) (h4:decide (flE rd false=0)=false):Con Tryz.prog 95 [.p 0 0,.i .i64 b,.agg [.i .i64 x,.s d],.i .i64 v,.i .i64 g] (oR c rd s) (.i .i64 (flE rd false)) [.keep,.keep]:=by
 exact con_d (apX0_vq (w:=wq) (fl:=flE) (c:=c) (rd:=rd) (s:=s) (b:=b) (x:=x) (d:=d) (v:=v) (g:=g) (h1:=h1) (h4:=h4)) (by repeat' first | exact trivial | assumption | exact rfl | exact nT (by assumption) | exact nF (by assumption) | exact ib_con _ | exact inx_con _ _ | exact isv_con _ | exact ign_con _ | exact flt_con _ _ _ _ | exact meta_con _ _ _ ht | exact block_con _ _ _ _ ht | assumption | assumption | apply And.intro | decide)
theorem apY0_vq (w:Int->Int->Int->Bool) (nx:Int->List Nat->Bool) (fl:Bool->Bool->Int) (c:CS) (rd:Bool) (s:SS) (b x:Int) (d:List Nat) (v g:Int) (h1:w b 0 127=true) (h2:nx x d=false) (h4:decide (fl rd false=0)=false):VD Tryz.prog 95 [.p 0 0,.i .i64 b,.agg [.i .i64 x,.s d],.i .i64 v,.i .i64 g] (oR c rd s) (.cal [] (.b (w b 0 127)) [] (.t (.t (.cal [] (.b (nx x d)) [] (.t (of_ 3 (oc 3 (.cal [0,1] (.i .i64 (fl rd false)) [.keep,.keep] (.t .z))))))))) (.i .i64 (fl rd false)) [.keep,.keep] [] 3 (fun Lf=>Con Tryz.prog 108 [.i .i64 b] [] (.b (w b 0 127)) []/\r2 (w b 0 127=true) (Con Tryz.prog 120 [.agg [.i .i64 x,.s d]] [] (.b (nx x d)) []/\w b 0 127=true/\r3 (nx x d=false) (Con Tryz.prog 66 [.p 0 0,.b false] (oR c rd s) (.i .i64 (fl rd false)) [.keep,.keep]/\(!decide (fl rd false=0))=true/\Lf))):=by unfold VD VQ;kernel_rfl
theorem apY_con (c:CS) (rd:Bool) (s:SS) (b x:Int) (d:List Nat) (v g:Int) (h1:wq b 0 127=true) (h2:nxB x d=false) (h4:decide (flE rd false=0)=false):Con Tryz.prog 95 [.p 0 0,.i .i64 b,.agg [.i .i64 x,.s d],.i .i64 v,.i .i64 g] (oR c rd s) (.i .i64 (flE rd false)) [.keep,.keep]:=by
 exact con_d (apY0_vq (w:=wq) (nx:=nxB) (fl:=flE) (c:=c) (rd:=rd) (s:=s) (b:=b) (x:=x) (d:=d) (v:=v) (g:=g) (h1:=h1) (h2:=h2) (h4:=h4)) (by repeat' first | exact trivial | assumption | exact rfl | exact nT (by assumption) | exact nF (by assumption) | exact ib_con _ | exact inx_con _ _ | exact isv_con _ | exact ign_con _ | exact flt_con _ _ _ _ | exact meta_con _ _ _ ht | exact block_con _ _ _ _ ht | assumption | assumption | apply And.intro | decide)
theorem apZ0_vq (w:Int->Int->Int->Bool) (nx:Int->List Nat->Bool) (fl:Bool->Bool->Int) (c:CS) (rd:Bool) (s:SS) (b x:Int) (d:List Nat) (v g:Int) (h1:w b 0 127=true) (h2:nx x d=true) (h3:w v 0 2=false) (h4:decide (fl rd false=0)=false):VD Tryz.prog 95 [.p 0 0,.i .i64 b,.agg [.i .i64 x,.s d],.i .i64 v,.i .i64 g] (oR c rd s) (.cal [] (.b (w b 0 127)) [] (.t (.t (.cal [] (.b (nx x d)) [] (ot 3 (.cal [] (.b (w v 0 2)) [] (.t (of_ 3 (.cal [0,1] (.i .i64 (fl rd false)) [.keep,.keep] (.t .z)))))))))) (.i .i64 (fl rd false)) [.keep,.keep] [] 3 (fun Lf=>Con Tryz.prog 108 [.i .i64 b] [] (.b (w b 0 127)) []/\r2 (w b 0 127=true) (Con Tryz.prog 120 [.agg [.i .i64 x,.s d]] [] (.b (nx x d)) []/\w b 0 127=true/\r2 (nx x d=true) (Con Tryz.prog 121 [.i .i64 v] [] (.b (w v 0 2)) []/\nx x d=true/\r3 (w v 0 2=false) (Con Tryz.prog 66 [.p 0 0,.b false] (oR c rd s) (.i .i64 (fl rd false)) [.keep,.keep]/\(!decide (fl rd false=0))=true/\Lf)))):=by unfold VD VQ;kernel_rfl
theorem apZ_con (c:CS) (rd:Bool) (s:SS) (b x:Int) (d:List Nat) (v g:Int) (h1:wq b 0 127=true) (h2:nxB x d=true) (h3:wq v 0 2=false) (h4:decide (flE rd false=0)=false):Con Tryz.prog 95 [.p 0 0,.i .i64 b,.agg [.i .i64 x,.s d],.i .i64 v,.i .i64 g] (oR c rd s) (.i .i64 (flE rd false)) [.keep,.keep]:=by
 exact con_d (apZ0_vq (w:=wq) (nx:=nxB) (fl:=flE) (c:=c) (rd:=rd) (s:=s) (b:=b) (x:=x) (d:=d) (v:=v) (g:=g) (h1:=h1) (h2:=h2) (h3:=h3) (h4:=h4)) (by repeat' first | exact trivial | assumption | exact rfl | exact nT (by assumption) | exact nF (by assumption) | exact ib_con _ | exact inx_con _ _ | exact isv_con _ | exact ign_con _ | exact flt_con _ _ _ _ | exact meta_con _ _ _ ht | exact block_con _ _ _ _ ht | assumption | assumption | apply And.intro | decide)
theorem apE0_vq (w:Int->Int->Int->Bool) (nx:Int->List Nat->Bool) (fl:Bool->Bool->Int) (c:CS) (rd:Bool) (s:SS) (b x:Int) (d:List Nat) (v g:Int) (h1:w b 0 127=true) (h2:nx x d=true) (h3:w v 0 2=true) (h4:decide (fl rd (w g 1 1099511627776)=0)=false):VD Tryz.prog 95 [.p 0 0,.i .i64 b,.agg [.i .i64 x,.s d],.i .i64 v,.i .i64 g] (oR c rd s) (.cal [] (.b (w b 0 127)) [] (.t (.t (.cal [] (.b (nx x d)) [] (ot 3 (.cal [] (.b (w v 0 2)) [] (ot 3 (.cal [] (.b (w g 1 1099511627776)) [] (.t (.cal [0,1] (.i .i64 (fl rd (w g 1 1099511627776))) [.keep,.keep] (.t .z))))))))))) (.i .i64 (fl rd (w g 1 1099511627776))) [.keep,.keep] [] 3 (fun Lf=>Con Tryz.prog 108 [.i .i64 b] [] (.b (w b 0 127)) []/\r2 (w b 0 127=true) (Con Tryz.prog 120 [.agg [.i .i64 x,.s d]] [] (.b (nx x d)) []/\w b 0 127=true/\r2 (nx x d=true) (Con Tryz.prog 121 [.i .i64 v] [] (.b (w v 0 2)) []/\nx x d=true/\r2 (w v 0 2=true) (Con Tryz.prog 122 [.i .i64 g] [] (.b (w g 1 1099511627776)) []/\w v 0 2=true/\Con Tryz.prog 66 [.p 0 0,.b (w g 1 1099511627776)] (oR c rd s) (.i .i64 (fl rd (w g 1 1099511627776))) [.keep,.keep]/\(!decide (fl rd (w g 1 1099511627776)=0))=true/\Lf)))):=by unfold VD VQ;kernel_rfl
theorem apE_con (c:CS) (rd:Bool) (s:SS) (b x:Int) (d:List Nat) (v g:Int) (h1:wq b 0 127=true) (h2:nxB x d=true) (h3:wq v 0 2=true) (h4:decide (flE rd (wq g 1 1099511627776)=0)=false):Con Tryz.prog 95 [.p 0 0,.i .i64 b,.agg [.i .i64 x,.s d],.i .i64 v,.i .i64 g] (oR c rd s) (.i .i64 (flE rd (wq g 1 1099511627776))) [.keep,.keep]:=by
 exact con_d (apE0_vq (w:=wq) (nx:=nxB) (fl:=flE) (c:=c) (rd:=rd) (s:=s) (b:=b) (x:=x) (d:=d) (v:=v) (g:=g) (h1:=h1) (h2:=h2) (h3:=h3) (h4:=h4)) (by repeat' first | exact trivial | assumption | exact rfl | exact nT (by assumption) | exact nF (by assumption) | exact ib_con _ | exact inx_con _ _ | exact isv_con _ | exact ign_con _ | exact flt_con _ _ _ _ | exact meta_con _ _ _ ht | exact block_con _ _ _ _ ht | assumption | assumption | apply And.intro | decide)
theorem apF0_vq (w:Int->Int->Int->Bool) (nx:Int->List Nat->Bool) (fl:Bool->Bool->Int) (c:CS) (rd:Bool) (s:SS) (b x:Int) (d:List Nat) (k:Nat) (g:Int) (h1:w b 0 127=true) (h2:nx x d=true) (h3:w (ofNat k) 0 2=true) (h4:decide (fl rd (w g 1 1099511627776)=0)=true) (h5:decide (g<(fG c k))=true):VD Tryz.prog 95 [.p 0 0,.i .i64 b,.agg [.i .i64 x,.s d],.i .i64 (ofNat k),.i .i64 g] (oR c rd s) (.cal [] (.b (w b 0 127)) [] (.t (.t (.cal [] (.b (nx x d)) [] (ot 3 (.cal [] (.b (w (ofNat k) 0 2)) [] (ot 3 (.cal [] (.b (w g 1 1099511627776)) [] (.t (.cal [0,1] (.i .i64 (fl rd (w g 1 1099511627776))) [.keep,.keep] (.f (.cal [0,1] ((mA c)) [.keep,.keep] (.s (.t .z) .z))))))))))))) (.i .i64 22) [.keep,.keep] [] 3 (fun Lf=>Con Tryz.prog 108 [.i .i64 b] [] (.b (w b 0 127)) []/\r2 (w b 0 127=true) (Con Tryz.prog 120 [.agg [.i .i64 x,.s d]] [] (.b (nx x d)) []/\w b 0 127=true/\r2 (nx x d=true) (Con Tryz.prog 121 [.i .i64 (ofNat k)] [] (.b (w (ofNat k) 0 2)) []/\nx x d=true/\r2 (w (ofNat k) 0 2=true) (Con Tryz.prog 122 [.i .i64 g] [] (.b (w g 1 1099511627776)) []/\w (ofNat k) 0 2=true/\Con Tryz.prog 66 [.p 0 0,.b (w g 1 1099511627776)] (oR c rd s) (.i .i64 (fl rd (w g 1 1099511627776))) [.keep,.keep]/\(!decide (fl rd (w g 1 1099511627776)=0))=false/\Con Tryz.prog 68 [.p 0 0] (oR c rd s) ((mA c)) [.keep,.keep]/\(0<=ofNat k/\ofNat k<3)/\decide (g<(fG c k))=true/\Lf)))):=by unfold VD VQ;kernel_rfl
theorem apF_con (c:CS) (rd:Bool) (s:SS) (b x:Int) (d:List Nat) (k:Nat) (g:Int) (hk:k<3) (ht:Txt c) (h1:wq b 0 127=true) (h2:nxB x d=true) (h3:wq (ofNat k) 0 2=true) (h4:decide (flE rd (wq g 1 1099511627776)=0)=true) (h5:decide (g<(fG c k))=true):Con Tryz.prog 95 [.p 0 0,.i .i64 b,.agg [.i .i64 x,.s d],.i .i64 (ofNat k),.i .i64 g] (oR c rd s) (.i .i64 22) [.keep,.keep]:=by
 exact con_d (apF0_vq (w:=wq) (nx:=nxB) (fl:=flE) (c:=c) (rd:=rd) (s:=s) (b:=b) (x:=x) (d:=d) (k:=k) (g:=g) (h1:=h1) (h2:=h2) (h3:=h3) (h4:=h4) (h5:=h5)) (by repeat' first | exact trivial | assumption | exact rfl | exact nT (by assumption) | exact nF (by assumption) | exact ib_con _ | exact inx_con _ _ | exact isv_con _ | exact ign_con _ | exact flt_con _ _ _ _ | exact meta_con _ _ _ ht | exact block_con _ _ _ _ ht | assumption | assumption | exact hk | exact ⟨ofN k,ofL hk⟩ | apply And.intro | decide)
theorem apS0_vq (w:Int->Int->Int->Bool) (nx:Int->List Nat->Bool) (fl:Bool->Bool->Int) (c:CS) (rd:Bool) (s:SS) (b x:Int) (d:List Nat) (k:Nat) (g:Int) (h1:w b 0 127=true) (h2:nx x d=true) (h3:w (ofNat k) 0 2=true) (h4:decide (fl rd (w g 1 1099511627776)=0)=true) (h5:decide (g<(fG c k))=false) (h6:(decide (x=ofNat (bQ c b)) && (natsEq d (bD c b) && true))=true):VD Tryz.prog 95 [.p 0 0,.i .i64 b,.agg [.i .i64 x,.s d],.i .i64 (ofNat k),.i .i64 g] (oR c rd s) (.cal [] (.b (w b 0 127)) [] (.t (.t (.cal [] (.b (nx x d)) [] (ot 3 (.cal [] (.b (w (ofNat k) 0 2)) [] (ot 3 (.cal [] (.b (w g 1 1099511627776)) [] (.t (.cal [0,1] (.i .i64 (fl rd (w g 1 1099511627776))) [.keep,.keep] (.f (.cal [0,1] ((mA c)) [.keep,.keep] (.s (.f (.cal [0,1] (.agg [.i .i64 (ofNat (bQ c b)),.s (bD c b)]) [.keep,.keep] (.t .z))) .z))))))))))))) (.i .i64 0) [.keep,.keep] [] 4 (fun Lf=>Con Tryz.prog 108 [.i .i64 b] [] (.b (w b 0 127)) []/\r2 (w b 0 127=true) (Con Tryz.prog 120 [.agg [.i .i64 x,.s d]] [] (.b (nx x d)) []/\w b 0 127=true/\r2 (nx x d=true) (Con Tryz.prog 121 [.i .i64 (ofNat k)] [] (.b (w (ofNat k) 0 2)) []/\nx x d=true/\r2 (w (ofNat k) 0 2=true) (Con Tryz.prog 122 [.i .i64 g] [] (.b (w g 1 1099511627776)) []/\w (ofNat k) 0 2=true/\Con Tryz.prog 66 [.p 0 0,.b (w g 1 1099511627776)] (oR c rd s) (.i .i64 (fl rd (w g 1 1099511627776))) [.keep,.keep]/\(!decide (fl rd (w g 1 1099511627776)=0))=false/\Con Tryz.prog 68 [.p 0 0] (oR c rd s) ((mA c)) [.keep,.keep]/\(0<=ofNat k/\ofNat k<3)/\decide (g<(fG c k))=false/\Con Tryz.prog 75 [.p 0 0,.i .i64 b] (oR c rd s) (.agg [.i .i64 (ofNat (bQ c b)),.s (bD c b)]) [.keep,.keep]/\True/\(decide (x=ofNat (bQ c b)) && (natsEq d (bD c b) && true))=true/\Lf)))):=by unfold VD VQ;kernel_rfl
theorem apS_con (c:CS) (rd:Bool) (s:SS) (b x:Int) (d:List Nat) (k:Nat) (g:Int) (hk:k<3) (ht:Txt c) (h1:wq b 0 127=true) (h2:nxB x d=true) (h3:wq (ofNat k) 0 2=true) (h4:decide (flE rd (wq g 1 1099511627776)=0)=true) (h5:decide (g<(fG c k))=false) (h6:(decide (x=ofNat (bQ c b)) && (natsEq d (bD c b) && true))=true):Con Tryz.prog 95 [.p 0 0,.i .i64 b,.agg [.i .i64 x,.s d],.i .i64 (ofNat k),.i .i64 g] (oR c rd s) (.i .i64 0) [.keep,.keep]:=by
 exact con_d (apS0_vq (w:=wq) (nx:=nxB) (fl:=flE) (c:=c) (rd:=rd) (s:=s) (b:=b) (x:=x) (d:=d) (k:=k) (g:=g) (h1:=h1) (h2:=h2) (h3:=h3) (h4:=h4) (h5:=h5) (h6:=h6)) (by repeat' first | exact trivial | assumption | exact rfl | exact nT (by assumption) | exact nF (by assumption) | exact ib_con _ | exact inx_con _ _ | exact isv_con _ | exact ign_con _ | exact flt_con _ _ _ _ | exact meta_con _ _ _ ht | exact block_con _ _ _ _ ht | assumption | assumption | exact hk | exact ⟨ofN k,ofL hk⟩ | apply And.intro | decide)
theorem apT0_vq (w:Int->Int->Int->Bool) (nx:Int->List Nat->Bool) (fl:Bool->Bool->Int) (c:CS) (rd:Bool) (s:SS) (b x:Int) (d:List Nat) (k:Nat) (g:Int) (h1:w b 0 127=true) (h2:nx x d=true) (h3:w (ofNat k) 0 2=true) (h4:decide (fl rd (w g 1 1099511627776)=0)=true) (h5:decide (g<(fG c k))=false) (h6:(decide (x=ofNat (bQ c b)) && (natsEq d (bD c b) && true))=false) (h7:decide (x<=ofNat (bQ c b))=true):VD Tryz.prog 95 [.p 0 0,.i .i64 b,.agg [.i .i64 x,.s d],.i .i64 (ofNat k),.i .i64 g] (oR c rd s) (.cal [] (.b (w b 0 127)) [] (.t (.t (.cal [] (.b (nx x d)) [] (ot 3 (.cal [] (.b (w (ofNat k) 0 2)) [] (ot 3 (.cal [] (.b (w g 1 1099511627776)) [] (.t (.cal [0,1] (.i .i64 (fl rd (w g 1 1099511627776))) [.keep,.keep] (.f (.cal [0,1] ((mA c)) [.keep,.keep] (.s (.f (.cal [0,1] (.agg [.i .i64 (ofNat (bQ c b)),.s (bD c b)]) [.keep,.keep] (.f (.t .z)))) .z))))))))))))) (.i .i64 25) [.keep,.keep] [] 4 (fun Lf=>Con Tryz.prog 108 [.i .i64 b] [] (.b (w b 0 127)) []/\r2 (w b 0 127=true) (Con Tryz.prog 120 [.agg [.i .i64 x,.s d]] [] (.b (nx x d)) []/\w b 0 127=true/\r2 (nx x d=true) (Con Tryz.prog 121 [.i .i64 (ofNat k)] [] (.b (w (ofNat k) 0 2)) []/\nx x d=true/\r2 (w (ofNat k) 0 2=true) (Con Tryz.prog 122 [.i .i64 g] [] (.b (w g 1 1099511627776)) []/\w (ofNat k) 0 2=true/\Con Tryz.prog 66 [.p 0 0,.b (w g 1 1099511627776)] (oR c rd s) (.i .i64 (fl rd (w g 1 1099511627776))) [.keep,.keep]/\(!decide (fl rd (w g 1 1099511627776)=0))=false/\Con Tryz.prog 68 [.p 0 0] (oR c rd s) ((mA c)) [.keep,.keep]/\(0<=ofNat k/\ofNat k<3)/\decide (g<(fG c k))=false/\Con Tryz.prog 75 [.p 0 0,.i .i64 b] (oR c rd s) (.agg [.i .i64 (ofNat (bQ c b)),.s (bD c b)]) [.keep,.keep]/\True/\(decide (x=ofNat (bQ c b)) && (natsEq d (bD c b) && true))=false/\True/\True/\decide (x<=ofNat (bQ c b))=true/\Lf)))):=by unfold VD VQ;kernel_rfl
theorem apT_con (c:CS) (rd:Bool) (s:SS) (b x:Int) (d:List Nat) (k:Nat) (g:Int) (hk:k<3) (ht:Txt c) (h1:wq b 0 127=true) (h2:nxB x d=true) (h3:wq (ofNat k) 0 2=true) (h4:decide (flE rd (wq g 1 1099511627776)=0)=true) (h5:decide (g<(fG c k))=false) (h6:(decide (x=ofNat (bQ c b)) && (natsEq d (bD c b) && true))=false) (h7:decide (x<=ofNat (bQ c b))=true):Con Tryz.prog 95 [.p 0 0,.i .i64 b,.agg [.i .i64 x,.s d],.i .i64 (ofNat k),.i .i64 g] (oR c rd s) (.i .i64 25) [.keep,.keep]:=by
 exact con_d (apT0_vq (w:=wq) (nx:=nxB) (fl:=flE) (c:=c) (rd:=rd) (s:=s) (b:=b) (x:=x) (d:=d) (k:=k) (g:=g) (h1:=h1) (h2:=h2) (h3:=h3) (h4:=h4) (h5:=h5) (h6:=h6) (h7:=h7)) (by repeat' first | exact trivial | assumption | exact rfl | exact nT (by assumption) | exact nF (by assumption) | exact ib_con _ | exact inx_con _ _ | exact isv_con _ | exact ign_con _ | exact flt_con _ _ _ _ | exact meta_con _ _ _ ht | exact block_con _ _ _ _ ht | assumption | assumption | exact hk | exact ⟨ofN k,ofL hk⟩ | apply And.intro | decide)
theorem apP0_vq (w:Int->Int->Int->Bool) (nx:Int->List Nat->Bool) (fl:Bool->Bool->Int) (bti:Int->List Nat->List Nat) (c:CS) (rd:Bool) (s:SS) (b x:Int) (d:List Nat) (k:Nat) (g:Int) (h1:w b 0 127=true) (h2:nx x d=true) (h3:w (ofNat k) 0 2=true) (h4:decide (fl rd (w g 1 1099511627776)=0)=true) (h5:decide (g<(fG c k))=false) (h6:(decide (x=ofNat (bQ c b)) && (natsEq d (bD c b) && true))=false) (h7:decide (x<=ofNat (bQ c b))=false):VD Tryz.prog 95 [.p 0 0,.i .i64 b,.agg [.i .i64 x,.s d],.i .i64 (ofNat k),.i .i64 g] (oR c rd s) (.cal [] (.b (w b 0 127)) [] (.t (.t (.cal [] (.b (nx x d)) [] (ot 3 (.cal [] (.b (w (ofNat k) 0 2)) [] (ot 3 (.cal [] (.b (w g 1 1099511627776)) [] (.t (.cal [0,1] (.i .i64 (fl rd (w g 1 1099511627776))) [.keep,.keep] (.f (.cal [0,1] ((mA c)) [.keep,.keep] (.s (.f (.cal [0,1] (.agg [.i .i64 (ofNat (bQ c b)),.s (bD c b)]) [.keep,.keep] (.f (.f (.cal [] (.s (bti x d)) [] (.cal [0,1] (.i .i64 (rE c s b (bti x d))) (uP c s b (bti x d)) .z)))))) .z))))))))))))) (.i .i64 (rE c s b (bti x d))) (uP c s b (bti x d)) [] 4 (fun Lf=>Con Tryz.prog 108 [.i .i64 b] [] (.b (w b 0 127)) []/\r2 (w b 0 127=true) (Con Tryz.prog 120 [.agg [.i .i64 x,.s d]] [] (.b (nx x d)) []/\w b 0 127=true/\r2 (nx x d=true) (Con Tryz.prog 121 [.i .i64 (ofNat k)] [] (.b (w (ofNat k) 0 2)) []/\nx x d=true/\r2 (w (ofNat k) 0 2=true) (Con Tryz.prog 122 [.i .i64 g] [] (.b (w g 1 1099511627776)) []/\w (ofNat k) 0 2=true/\Con Tryz.prog 66 [.p 0 0,.b (w g 1 1099511627776)] (oR c rd s) (.i .i64 (fl rd (w g 1 1099511627776))) [.keep,.keep]/\(!decide (fl rd (w g 1 1099511627776)=0))=false/\Con Tryz.prog 68 [.p 0 0] (oR c rd s) ((mA c)) [.keep,.keep]/\(0<=ofNat k/\ofNat k<3)/\decide (g<(fG c k))=false/\Con Tryz.prog 75 [.p 0 0,.i .i64 b] (oR c rd s) (.agg [.i .i64 (ofNat (bQ c b)),.s (bD c b)]) [.keep,.keep]/\True/\(decide (x=ofNat (bQ c b)) && (natsEq d (bD c b) && true))=false/\True/\True/\decide (x<=ofNat (bQ c b))=false/\Con Tryz.prog 123 [.agg [.i .i64 x,.s d]] [] (.s (bti x d)) []/\Con Tryz.prog 103 [.p 0 0,.i .i64 b,.s (bti x d)] (oR c rd s) (.i .i64 (rE c s b (bti x d))) (uP c s b (bti x d))/\Lf)))):=by unfold VD VQ;kernel_rfl
theorem apP_con (c:CS) (rd:Bool) (s:SS) (b x:Int) (d:List Nat) (k:Nat) (g:Int) (hk:k<3) (ht:Txt c) (hb:Con Tryz.prog 123 [.agg [.i .i64 x,.s d]] [] (.s (btI x d)) []) (hp:Con Tryz.prog 103 [.p 0 0,.i .i64 b,.s (btI x d)] (oR c rd s) (.i .i64 (rE c s b (btI x d))) (uP c s b (btI x d))) (h1:wq b 0 127=true) (h2:nxB x d=true) (h3:wq (ofNat k) 0 2=true) (h4:decide (flE rd (wq g 1 1099511627776)=0)=true) (h5:decide (g<(fG c k))=false) (h6:(decide (x=ofNat (bQ c b)) && (natsEq d (bD c b) && true))=false) (h7:decide (x<=ofNat (bQ c b))=false):Con Tryz.prog 95 [.p 0 0,.i .i64 b,.agg [.i .i64 x,.s d],.i .i64 (ofNat k),.i .i64 g] (oR c rd s) (.i .i64 (rE c s b (btI x d))) (uP c s b (btI x d)):=by
 exact con_d (apP0_vq (w:=wq) (nx:=nxB) (fl:=flE) (bti:=btI) (c:=c) (rd:=rd) (s:=s) (b:=b) (x:=x) (d:=d) (k:=k) (g:=g) (h1:=h1) (h2:=h2) (h3:=h3) (h4:=h4) (h5:=h5) (h6:=h6) (h7:=h7)) (by repeat' first | exact trivial | assumption | exact rfl | exact nT (by assumption) | exact nF (by assumption) | exact ib_con _ | exact inx_con _ _ | exact isv_con _ | exact ign_con _ | exact flt_con _ _ _ _ | exact meta_con _ _ _ ht | exact block_con _ _ _ _ ht | assumption | assumption | exact hk | exact ⟨ofN k,ofL hk⟩ | apply And.intro | decide)
def actE (w:Int) (c:CS) (s:SS) (i:Int) (x:List Nat):Int:=bif decide (w=-1) then c.putE s i x else w
def actC (w:Int) (c:CS) (s:SS) (i:Int) (x:List Nat):CS:=bif decide (w=-1) then c.putC s i x else c
def actS (w:Int) (c:CS) (s:SS) (i:Int) (x:List Nat):SS:=bif decide (w=-1) then c.putS s i x else s
def actD (w:Int) (rd:Bool) (c:CS) (s:SS) (i:Int) (x:List Nat):Bool:=bif decide (w=-1) then decide (c.putE s i x=13) else rd
def Act (F:FuncId) (args:List AV) (w:Int) (c:CS) (rd:Bool) (s:SS) (i:Int) (x:List Nat):Prop:=
 Con Tryz.prog F args [some (c.ro rd),some s.o] (.i .i64 (actE w c s i x)) [.set ((actC w c s i x).ro (actD w rd c s i x)),.set (actS w c s i x).o]
theorem Act.no {F:FuncId} {args:List AV} {w:Int} {c:CS} {rd:Bool} {s:SS} {i:Int} {x:List Nat} (hw:decide (w=-1)=false)
 (k:Con Tryz.prog F args [some (c.ro rd),some s.o] (.i .i64 w) [.set (c.ro rd),.set s.o]):Act F args w c rd s i x:=by
 unfold Act actE actC actS actD
 rw [hw];exact k
theorem Act.yes {F:FuncId} {args:List AV} {w:Int} {c:CS} {rd:Bool} {s:SS} {i:Int} {x:List Nat} (hw:decide (w=-1)=true)
 (k:Con Tryz.prog F args [some (c.ro rd),some s.o] (.i .i64 (rE c s i x)) [.set ((rC c s i x).ro (rD c s i x)),.set (rS2 c s i x).o]):Act F args w c rd s i x:=by
 unfold Act actE actC actS actD
 rw [hw];exact k
theorem rpd_con {c:CS} {s:SS} {m:Nat} (h:Inv c s m) (hm:m<1073741823) (rd:Bool) (i:Int) (x:List Nat) (hx:∀b∈x,b<256) :
 Con Tryz.prog 103 [.p 0 0,.i .i64 i,.s x] [some (c.ro rd),some s.o] (.i .i64 (rE c s i x)) [.set ((rC c s i x).ro (rD c s i x)),.set (rS2 c s i x).o]:=rp_con h hm rd i x hx
def joinT (c:CS) (n:Nat):List Nat:=mtx (mV c 0) n (mV c 2) (mV c 3) (mV c 4)
def joinW (c:CS) (rd:Bool) (n:Nat):Int:=bif rd then 13 else bif !decide (ofNat n<=(1099511627776:Int)) then 2 else bif decide (ofNat n=ofNat (mV c 1)) then 0 else -1
def adoptT (c:CS) (n:Nat):List Nat:=mtx n (mV c 1) (mV c 2) (mV c 3) (mV c 4)
def adoptW (c:CS) (rd:Bool) (n:Nat):Int:=bif rd then 13 else bif decide ((1:Int)<=ofNat n) then (bif !decide (ofNat n<=(1099511627776:Int)) then 2 else bif decide (ofNat n<ofNat (mV c 0)) then 21 else bif decide (ofNat n=ofNat (mV c 0)) then 0 else -1) else 2
def fnc (c:CS) (sv:Int):Int:=[ofNat (mV c 2),ofNat (mV c 3),ofNat (mV c 4)].getD sv.toNat 0
def mayA (b x:Int) (d:List Nat) (sv gen:Int):Bool:=
 decide ((0:Int)<=b) && (decide (b<=(127:Int)) && (decide ((1:Int)<=x) && (decide (x<=(1099511627776:Int)) && (decide (ofNat d.length<=(44:Int)) && (decide ((0:Int)<=sv) && (decide (sv<=(2:Int)) && (decide ((1:Int)<=gen) && decide (gen<=(1099511627776:Int)))))))))
def applyW (c:CS) (rd:Bool) (b x:Int) (d:List Nat) (sv gen:Int):Int:=
 bif rd then 13 else bif mayA b x d sv gen then
  (bif decide (gen<fnc c sv) then 22 else bif decide (x=ofNat (bQ c b)) && natsEq d (bD c b) then 0 else bif decide (x<=ofNat (bQ c b)) then 25 else -1)
 else 2
theorem mtI_con {a b c d e:Nat} (ha:a<=1099511627776) (hb:b<=1099511627776) (hc:c<=1099511627776) (hd:d<=1099511627776) (he:e<=1099511627776) :
 Con Tryz.prog 104 [.agg [.i .i64 (ofNat a),.i .i64 (ofNat b),.i .i64 (ofNat c),.i .i64 (ofNat d),.i .i64 (ofNat e)]] [] (.s (mtI (ofNat a) (ofNat b) (ofNat c) (ofNat d) (ofNat e))) []:=
 metaText_con a b c d e (by omega) (by omega) (by omega) (by omega) (by omega)
def fv (c:CS) (sv gen:Int) (k:Nat):Nat:=bif decide (sv=ofNat k) then gen.toNat else mV c (2+k)
def adoptI (c:CS) (rd:Bool) (x:Int):Int:=bif decide ((0:Int)<=x) then adoptW c rd x.toNat else bif rd then 13 else 2
def joinI (c:CS) (rd:Bool) (x:Int):Int:=bif decide ((0:Int)<=x) then joinW c rd x.toNat else bif rd then 13 else 2
theorem Act.kk {F:FuncId} {args:List AV} {w:Int} {c:CS} {rd:Bool} {s:SS} {i:Int} {x:List Nat} (hw:decide (w=-1)=false)
 (k:Con Tryz.prog F args (oR c rd s) (.i .i64 w) [.keep,.keep]):Act F args w c rd s i x:=.no hw (k.post (.refl _) (OVL.refl _))
theorem act4 {F:FuncId} {args:List AV} {c:CS} {rd:Bool} {s:SS} {i:Int} {x:List Nat} {mm:Bool} {w0:Int} (w:Int) (hw:w=bif rd then 13 else bif mm then w0 else 2)
 (hE:decide (flE rd mm=0)=false->Con Tryz.prog F args (oR c rd s) (.i .i64 (flE rd mm)) [.keep,.keep]) (hG:rd=false->mm=true->Act F args w0 c rd s i x):Act F args w c rd s i x:=by
 subst hw
 cases rd with
 | true=>exact .kk rfl (hE rfl)
 | false=>
   cases mm with
   | true=>exact hG rfl rfl
   | false=>exact .kk rfl (hE rfl)
theorem bt_con {x:Int} {d:List Nat} (h0:0<=x) (hM:x<=1099511627776) (hl:d.length<=44):Con Tryz.prog 123 [.agg [.i .i64 x,.s d]] [] (.s (btI x d)) []:=by
 obtain ⟨n,rfl⟩:∃n:Nat,x=ofNat n:=⟨x.toNat,by simp;omega⟩
 exact blockText_con n d (by simp at hM;omega) (by omega)
theorem wq_bd {n a b:Int} (h:wq n a b=true):a<=n/\n<=b:=by
 unfold wq at h
 simpa only [Bool.and_eq_true,decide_eq_true_eq] using h
theorem nx_bd {x:Int} {d:List Nat} (h:nxB x d=true):0<=x/\x<=1099511627776/\d.length<=44:=by
 unfold nxB at h
 rw [Bool.and_eq_true] at h
 have:=wq_bd h.1
 have h2:=of_decide_eq_true h.2
 exact ⟨by omega,this.2,by simp at h2;omega⟩
theorem apply_con {c:CS} {s:SS} {m:Nat} (h:Inv c s m) (ht:Txt c) (hm:m<1073741823) (rd:Bool) (b x:Int) (d:List Nat) (sv gen:Int) (hd:∀x∈d,x<256) :
 Act 95 [.p 0 0,.i .i64 b,.agg [.i .i64 x,.s d],.i .i64 sv,.i .i64 gen] (applyW c rd b x d sv gen) c rd s b (btx x.toNat d):=by
 have em:mayA b x d sv gen=(wq b 0 127 && (nxB x d && (wq sv 0 2 && wq gen 1 1099511627776))):=by
  unfold mayA nxB wq
  simp only [Bool.and_assoc]
 have eS:(decide (x=ofNat (bQ c b)) && natsEq d (bD c b))=(decide (x=ofNat (bQ c b)) && (natsEq d (bD c b) && true)):=by rw [Bool.and_true]
 cases h1:wq b 0 127 with
 | false=>exact act4 (mm:=false) (w0:=0) _ (by unfold applyW;rw [em,h1];rfl) (fun q=>apX_con c rd s b x d sv gen h1 q) (fun _ q=>by cases q)
 | true=>
   cases h2:nxB x d with
   | false=>exact act4 (mm:=false) (w0:=0) _ (by unfold applyW;rw [em,h1,h2];rfl) (fun q=>apY_con c rd s b x d sv gen h1 h2 q) (fun _ q=>by cases q)
   | true=>
     cases h3:wq sv 0 2 with
     | false=>exact act4 (mm:=false) (w0:=0) _ (by unfold applyW;rw [em,h1,h2,h3];rfl) (fun q=>apZ_con c rd s b x d sv gen h1 h2 h3 q) (fun _ q=>by cases q)
     | true=>
       obtain ⟨s0,s2⟩:=wq_bd h3
       obtain ⟨k,rfl⟩:∃k:Nat,sv=ofNat k:=⟨sv.toNat,by simp;omega⟩
       have hk:k<3:=by simp at s2;omega
       obtain ⟨b0,b1,b2⟩:=nx_bd h2
       refine act4 (mm:=wq gen 1 1099511627776) (w0:=bif decide (gen<fG c k) then 22 else bif (decide (x=ofNat (bQ c b)) && (natsEq d (bD c b) && true)) then 0 else bif decide (x<=ofNat (bQ c b)) then 25 else -1) _ (by unfold applyW;rw [em,h1,h2,h3,eS];rfl) (fun q=>apE_con c rd s b x d (ofNat k) gen h1 h2 h3 q) (fun r z=>?_)
       subst r
       have h4:decide (flE false (wq gen 1 1099511627776)=0)=true:=by rw [z];rfl
       cases h5:decide (gen<fG c k) with
       | true=>exact .kk rfl (apF_con c false s b x d k gen hk ht h1 h2 h3 h4 h5)
       | false=>
         cases h6:(decide (x=ofNat (bQ c b)) && (natsEq d (bD c b) && true)) with
         | true=>exact .kk rfl (apS_con c false s b x d k gen hk ht h1 h2 h3 h4 h5 h6)
         | false=>
           cases h7:decide (x<=ofNat (bQ c b)) with
           | true=>exact .kk rfl (apT_con c false s b x d k gen hk ht h1 h2 h3 h4 h5 h6 h7)
           | false=>exact .yes rfl (apP_con c false s b x d k gen hk ht (bt_con b0 b1 b2) (rpd_con h hm false b _ (btx_lt (by omega) hd)) h1 h2 h3 h4 h5 h6 h7)
theorem mx_con {a0 a1 a2 a3 a4:Int} (h0:0<=a0/\a0<=1099511627776) (h1:0<=a1/\a1<=1099511627776) (h2:0<=a2/\a2<=1099511627776) (h3:0<=a3/\a3<=1099511627776) (h4:0<=a4/\a4<=1099511627776) :
 Con Tryz.prog 104 [.agg [.i .i64 a0,.i .i64 a1,.i .i64 a2,.i .i64 a3,.i .i64 a4]] [] (.s (mtI a0 a1 a2 a3 a4)) []/\∀x∈mtI a0 a1 a2 a3 a4,x<256:=by
 obtain ⟨b0,rfl⟩:∃n:Nat,a0=ofNat n:=⟨a0.toNat,by simp;omega⟩
 obtain ⟨b1,rfl⟩:∃n:Nat,a1=ofNat n:=⟨a1.toNat,by simp;omega⟩
 obtain ⟨b2,rfl⟩:∃n:Nat,a2=ofNat n:=⟨a2.toNat,by simp;omega⟩
 obtain ⟨b3,rfl⟩:∃n:Nat,a3=ofNat n:=⟨a3.toNat,by simp;omega⟩
 obtain ⟨b4,rfl⟩:∃n:Nat,a4=ofNat n:=⟨a4.toNat,by simp;omega⟩
 simp only [Int.ofNat_eq_natCast] at h0 h1 h2 h3 h4
 exact ⟨mtI_con (by omega) (by omega) (by omega) (by omega) (by omega),show ∀x∈mtx b0 b1 b2 b3 b4,x<256 from mtx_lt (by omega) (by omega) (by omega) (by omega) (by omega)⟩
theorem mI (c:CS) (j:Nat) (hj:j<5):(0:Int)<=ofNat (mV c j)/\ofNat (mV c j)<=1099511627776:=by
 have:=mV_le c j hj
 simp only [Int.ofNat_eq_natCast];omega
theorem eq0 (a:Int) (m0 m1 m2 m3 m4:Int):(decide (a=m0) && (decide (m1=m1) && ((decide (m2=m2) && (decide (m3=m3) && (decide (m4=m4) && true))) && true)))=decide (a=m0):=by simp
theorem eq1 (a:Int) (m0 m1 m2 m3 m4:Int):(decide (m0=m0) && (decide (a=m1) && ((decide (m2=m2) && (decide (m3=m3) && (decide (m4=m4) && true))) && true)))=decide (a=m1):=by simp
theorem adoptI_con {c:CS} {s:SS} {m:Nat} (h:Inv c s m) (ht:Txt c) (hm:m<1073741823) (rd:Bool) (x:Int):Act 46 [.p 0 0,.i .i64 x] (adoptI c rd x) c rd s 128 (adoptT c x.toNat):=by
 have ew:adoptI c rd x=bif rd then 13 else bif wq x 1 1099511627776 then (bif decide (x<ofNat (mV c 0)) then 21 else bif decide (x=ofNat (mV c 0)) then 0 else -1) else 2:=by
  unfold adoptI
  cases hx:decide ((0:Int)<=x) with
  | true=>
    obtain ⟨n,rfl⟩:∃n:Nat,x=ofNat n:=⟨x.toNat,by have:=of_decide_eq_true hx;simp;omega⟩
    rw [cond_true]
    show adoptW c rd n= _
    unfold adoptW wq
    cases rd<;>cases decide ((1:Int)<=ofNat n)<;>cases decide (ofNat n<=(1099511627776:Int))<;>rfl
  | false=>
    have:wq x 1 1099511627776=false:=by
     have:=of_decide_eq_false hx
     unfold wq
     rw [decide_eq_false (by omega:¬(1:Int)<=x)];rfl
    rw [this];rfl
 refine act4 (mm:=wq x 1 1099511627776) _ ew (fun q=>adE_con c rd s x q) (fun r z=>?_)
 subst r
 have h4:decide (flE false (wq x 1 1099511627776)=0)=true:=by rw [z];rfl
 obtain ⟨x0,x1⟩:=wq_bd z
 cases h5:decide (x<ofNat (mV c 0)) with
 | true=>exact .kk rfl (adL_con c false s x ht h4 h5)
 | false=>
   cases h6:decide (x=ofNat (mV c 0)) with
   | true=>exact .kk rfl (adS_con c false s x ht h4 h5 ((eq0 _ _ _ _ _ _).trans h6))
   | false=>
     obtain ⟨k1,k2⟩:=mx_con (a0:=x) ⟨by omega,x1⟩ (mI c 1 (by decide)) (mI c 2 (by decide)) (mI c 3 (by decide)) (mI c 4 (by decide))
     exact .yes rfl (adP_con c false s x ht k1 (rpd_con h hm false 128 _ k2) h4 h5 ((eq0 _ _ _ _ _ _).trans h6))
theorem joinI_con {c:CS} {s:SS} {m:Nat} (h:Inv c s m) (ht:Txt c) (hm:m<1073741823) (rd:Bool) (x:Int):Act 48 [.p 0 0,.i .i64 x] (joinI c rd x) c rd s 128 (joinT c x.toNat):=by
 have ew:joinI c rd x=bif rd then 13 else bif wq x 0 1099511627776 then (bif decide (x=ofNat (mV c 1)) then 0 else -1) else 2:=by
  unfold joinI
  cases hx:decide ((0:Int)<=x) with
  | true=>
    obtain ⟨n,rfl⟩:∃n:Nat,x=ofNat n:=⟨x.toNat,by have:=of_decide_eq_true hx;simp;omega⟩
    rw [cond_true]
    show joinW c rd n= _
    unfold joinW wq
    rw [hx]
    cases rd<;>cases decide (ofNat n<=(1099511627776:Int))<;>rfl
  | false=>
    have:wq x 0 1099511627776=false:=by unfold wq;rw [hx];rfl
    rw [this];rfl
 refine act4 (mm:=wq x 0 1099511627776) _ ew (fun q=>joE_con c rd s x q) (fun r z=>?_)
 subst r
 have h4:decide (flE false (wq x 0 1099511627776)=0)=true:=by rw [z];rfl
 have xb:=wq_bd z
 cases h6:decide (x=ofNat (mV c 1)) with
 | true=>exact .kk rfl (joS_con c false s x ht h4 ((eq1 _ _ _ _ _ _).trans h6))
 | false=>
   obtain ⟨k1,k2⟩:=mx_con (a1:=x) (mI c 0 (by decide)) xb (mI c 2 (by decide)) (mI c 3 (by decide)) (mI c 4 (by decide))
   exact .yes rfl (joP_con c false s x ht k1 (rpd_con h hm false 128 _ k2) h4 ((eq1 _ _ _ _ _ _).trans h6))
theorem put_bad {c:CS} (s:SS) {i:Int} {x:List Nat} (hd:c.dead=false) (h:¬(0<=i/\i<ofNat c.n)\/51<x.length):c.putE s i x=2/\c.putC s i x=c/\c.putS s i x=s:=by
 have hno:c.no i x=2:=by
  unfold CS.no
  rw [hd]
  simp only
  cases h1:decide (0<=i/\i<ofNat c.n) with
  | false=>rfl
  | true=>
    have h2:decide ((51:Int)<ofNat x.length)=true:=by
     rcases h with h | h
     · exact absurd (of_decide_eq_true h1) h
     · simp;omega
    simp only [h2]
 have d:decide (c.no i x=0)=false:=by rw [hno];rfl
 refine ⟨?_,?_,?_⟩
 · unfold CS.putE;rw [d];exact hno
 · unfold CS.putC;rw [d]
 · unfold CS.putS;rw [d]
theorem bf {n m:Nat} (h:¬n<=m):Nat.ble n m=false:=by rw [Bool.eq_false_iff,ne_eq,Nat.ble_eq];exact h
theorem bt {n m:Nat} (h:n<=m):Nat.ble n m=true:=Nat.ble_eq_true_of_le h
theorem lf {n m:Nat} (h:¬n<m):Nat.blt n m=false:=by rw [Bool.eq_false_iff,ne_eq,Nat.blt_eq];exact h
theorem lt_ {n m:Nat} (h:n<m):Nat.blt n m=true:=by rw [Nat.blt_eq];exact h
theorem ef {n m:Nat} (h:n≠m):Nat.beq n m=false:=by rw [Bool.eq_false_iff,ne_eq,Nat.beq_eq];exact h
theorem body_lo (q:Nat) (d:List Nat) {k:Nat} (h:k<4):bodyB q d k=fourB (q % 4294967296) k:=by
 unfold bodyB
 rw [bf (by omega:¬9<=k),ef (by omega:k≠8),bf (by omega:¬4<=k),bt (Nat.zero_le k),lt_ h]
 simp only [Bool.false_and,Bool.and_self,cond_false,cond_true]
theorem body_hi (q:Nat) (d:List Nat) {k:Nat} (h1:4<=k) (h:k<8):bodyB q d k=fourB (q / 4294967296 % 4294967296) (k-4):=by
 unfold bodyB
 rw [bf (by omega:¬9<=k),ef (by omega:k≠8),bt h1,lt_ h]
 simp only [Bool.false_and,Bool.and_self,cond_false,cond_true]
theorem body_8 (q:Nat) (d:List Nat):bodyB q d 8=d.length % 256:=by
 unfold bodyB
 rw [bf (by omega:¬9<=8),Nat.beq_refl]
 simp only [Bool.false_and,cond_false,cond_true]
theorem body_txt (q:Nat) (d:List Nat) {i:Nat} (h:i<d.length):bodyB q d (9+i)=d.getD i 0:=by
 unfold bodyB
 rw [bt (by omega:9<=9+i),lt_ (by omega:9+i<9+d.length)]
 simp only [Bool.and_self,cond_true]
 rw [Nat.add_sub_cancel_left]
theorem body_rest (q:Nat) (d:List Nat) {k:Nat} (h:9+d.length<=k):bodyB q d k=0:=by
 unfold bodyB
 rw [bt (by omega:9<=k),lf (by omega:¬k<9+d.length),ef (by omega:k≠8),lf (by omega:¬k<8),lf (by omega:¬k<4)]
 simp only [Bool.and_false,cond_false]
theorem sect_body (q:Nat) (d:List Nat) {k:Nat} (h:k<60):sectB q d k=bodyB q d k:=by
 unfold sectB;rw [lt_ h,cond_true]
theorem sect_sum (q:Nat) (d:List Nat) (k:Nat):sectB q d (60+k)=fourB (sumN (bodyB q d) 60) k:=by
 unfold sectB;rw [lf (by omega:¬60+k<60),cond_false,Nat.add_sub_cancel_left]
theorem bOf_by (b:Nat->Nat) (k:Nat):bOf (byF b) k=b k:=Eq.refl _
theorem bOf_sh (b:Nat->Nat) (l k:Nat):bOf (shiftF l (byF b)) k=b (l+k):=by
 show cvN (shiftF l (byF b) k 0)= _
 rw [shiftF_eq];exact Eq.refl _
theorem sect_open (q:Nat) (d:List Nat):openB (byF (sectB q d))=true:=by
 unfold openB
 refine decide_eq_true ?_
 have e1:sumN (bOf (byF (sectB q d))) 60=sumN (bodyB q d) 60:=sumN_congr fun k hk=>by rw [bOf_by,sect_body q d hk]
 have e2:four1 (bOf (shiftF 60 (byF (sectB q d))))=four1 (fourB (sumN (bodyB q d) 60)):=four1_congr fun k hk=>by rw [bOf_sh,sect_sum]
 rw [e1,e2,four1_four (sumN_lt _ _)]
theorem sect_num (q:Nat) (d:List Nat) (h:q<=1099511627776):numN (sectB q d)=q:=by
 have e1:four1 (bOf (byF (sectB q d)))=q % 4294967296:=by
  rw [four1_congr (b':=fourB (q % 4294967296)) fun k hk=>by rw [bOf_by,sect_body q d (by omega),body_lo q d hk]]
  exact four1_four (Nat.mod_lt _ (by decide))
 have e2:four1 (bOf (shiftF 4 (byF (sectB q d))))=q / 4294967296 % 4294967296:=by
  rw [four1_congr (b':=fourB (q / 4294967296 % 4294967296)) fun k hk=>by rw [bOf_sh,sect_body q d (by omega),body_hi q d (by omega) (by omega),Nat.add_sub_cancel_left]]
  exact four1_four (Nat.mod_lt _ (by decide))
 unfold numN
 rw [e1,e2]
 omega
theorem sect_8 (q:Nat) (d:List Nat) (h:d.length<=51):sectB q d 8=d.length:=by
 rw [sect_body q d (by omega),body_8,Nat.mod_eq_of_lt (by omega)]
theorem sect_rest (q:Nat) (d:List Nat) (h:d.length<=51):restN (sectB q d)=0:=by
 unfold restN
 rw [sect_8 q d h,trN_zero]
 intro k hk
 rw [bOf_sh,sect_body q d (by omega),body_rest q d (by omega)]
theorem sect_ok (q:Nat) (d:List Nat) (h1:1<=q) (h2:q<=1099511627776) (hl:d.length<=51):okB (sectB q d)=true:=by
 unfold okB
 rw [sect_open,sect_8 q d hl,sect_num q d h2,sect_rest q d hl,bt hl,bt h1,bt h2,Nat.beq_refl]
 simp only [Bool.and_self]
theorem sect_txt (q:Nat) (d:List Nat) (hl:d.length<=51) (hd:∀x∈d,x<256):txtD (sectB q d)=d:=by
 unfold txtD
 rw [sect_8 q d hl]
 unfold bytesF
 refine List.ext_getElem? fun i=>?_
 by_cases hi:i<d.length
 · rw [List.getElem?_map,List.getElem?_range hi]
   show some (Go.Sim.byteOf (shiftF 9 (byF (sectB q d)) i 0))= _
   rw [shiftF_eq]
   show some (Go.Sim.byteOf (.i .u8 (ofNat (sectB q d (9+i)))))= _
   rw [sect_body q d (by omega),body_txt q d hi,List.getD_eq_getElem?_getD,List.getElem?_eq_getElem hi]
   show some (d[i] % 256)=some d[i]
   rw [Nat.mod_eq_of_lt (hd _ (List.getElem_mem hi))]
 · rw [List.getElem?_eq_none (by simp;omega),List.getElem?_eq_none (by omega)]
theorem sect_lk (q:Nat) (d:List Nat) (h1:1<=q) (h2:q<=1099511627776) (hl:d.length<=51) (hd:∀x∈d,x<256):lkQ (sectB q d)=q/\lkD (sectB q d)=d:=by
 unfold lkQ lkD
 rw [sect_ok q d h1 h2 hl,cond_true,cond_true]
 exact ⟨sect_num q d h2,sect_txt q d hl hd⟩
def vQ (s:SS) (a:Nat):Nat:=bif s.torn a then 0 else lkQ (fun k=>(s.dur a k).toNat)
def vD (s:SS) (a:Nat):List Nat:=bif s.torn a then [] else lkD (fun k=>(s.dur a k).toNat)
theorem see_v {s:SS} (hP:s.P=[]) (ho:s.off=false) {a:Nat} (ha:a<s.n):seeQ s (ofNat a)=vQ s a/\seeD s (ofNat a)=vD s a:=by
 have d:decide (0<=ofNat a/\ofNat a<ofNat s.n)=true:=by simp;omega
 have et:(ofNat a).toNat=a:=rfl
 have lb:lB s.P a=false:=by rw [hP];rfl
 have eC:rdC s (ofNat a)=fun k=>(s.dur a k).toNat:=by
  funext k
  unfold rdC SS.rdB
  rw [et,lb]
 cases ht:s.torn a with
 | true=>
   have e:s.rdE (ofNat a)=14:=by unfold SS.rdE;rw [ho];simp only [d,et,lb,ht]
   unfold seeQ seeD vQ vD
   rw [e,ht,cond_true,cond_true]
   exact ⟨rfl,rfl⟩
 | false=>
   have e:s.rdE (ofNat a)=0:=by unfold SS.rdE;rw [ho];simp only [d,et,lb,ht]
   unfold seeQ seeD vQ vD
   rw [e,ht,cond_false,cond_false,eC]
   exact ⟨rfl,rfl⟩
theorem op_v {s:SS} (hP:s.P=[]) (ho:s.off=false) {i:Nat} (hi:2*i+1<s.n) :
 opQ s i=nwQ (vQ s (2*i)) (vQ s (2*i+1))/\opD s i=nwD (vQ s (2*i)) (vQ s (2*i+1)) (vD s (2*i)) (vD s (2*i+1))/\opS s i=nwS (vQ s (2*i)) (vQ s (2*i+1)):=by
 have e0:ofNat i*2+0=ofNat (2*i):=by simp;omega
 have e1:ofNat i*2+1=ofNat (2*i+1):=by simp;omega
 have k0:=see_v hP ho (a:=2*i) (by omega)
 have k1:=see_v hP ho (a:=2*i+1) hi
 unfold opQ opD opS
 rw [e0,e1,k0.1,k0.2,k1.1,k1.2]
 exact ⟨rfl,rfl,rfl⟩
structure Aft (s s':SS) (a q:Nat) (x:List Nat):Prop where
 n:s'.n=s.n
 off:s'.off=false
 P:s'.P=[]
 other:∀b,b≠a->vQ s' b=vQ s b/\vD s' b=vD s b
 here:(vQ s' a=q/\vD s' a=x)\/(vQ s' a=0/\vD s' a=[])\/(vQ s' a=vQ s a/\vD s' a=vD s a)
theorem setD_at (dur:Nat->Nat->Int) (q:Nat) (bs:Nat->Int) (i:Nat):setD dur q bs i=bif Nat.beq i q then bs else dur i:=Eq.refl _
theorem setT_at (torn:Nat->Bool) (q:Nat) (b:Bool) (i:Nat):setT torn q b i=bif Nat.beq i q then b else torn i:=Eq.refl _
theorem aft_new {s s':SS} {a q:Nat} {x:List Nat} (hn:s'.n=s.n) (ho:s'.off=false) (hP:s'.P=[]) (hd:s'.dur=setD s.dur a (fun k=>ofNat (sectB q x k))) (ht:s'.torn=setT s.torn a false)
 (h1:1<=q) (h2:q<=1099511627776) (hl:x.length<=51) (hx:∀b∈x,b<256):Aft s s' a q x/\vQ s' a=q/\vD s' a=x:=by
 have new:vQ s' a=q/\vD s' a=x:=by
  unfold vQ vD
  rw [ht,hd,setT_at,setD_at,Nat.beq_refl,cond_true,cond_false,cond_false]
  exact sect_lk q x h1 h2 hl hx
 refine ⟨⟨hn,ho,hP,fun b hb=>?_,.inl new⟩,new⟩
 unfold vQ vD
 rw [ht,hd,setT_at,setD_at,ef hb,cond_false,cond_false]
 exact ⟨rfl,rfl⟩
theorem aft_old {s s':SS} {a q:Nat} {x:List Nat} (hn:s'.n=s.n) (ho:s'.off=false) (hP:s'.P=[]) (hd:s'.dur=s.dur) (ht:s'.torn=s.torn):Aft s s' a q x:=by
 refine ⟨hn,ho,hP,fun b _=>?_,.inr (.inr ?_)⟩<;>(unfold vQ vD;rw [ht,hd];exact ⟨rfl,rfl⟩)
theorem aft_torn {s s':SS} {a q:Nat} {x:List Nat} (hn:s'.n=s.n) (ho:s'.off=false) (hP:s'.P=[]) (hd:s'.dur=setD s.dur a (fun _=>0)) (ht:s'.torn=setT s.torn a true):Aft s s' a q x:=by
 refine ⟨hn,ho,hP,fun b hb=>?_,.inr (.inl ?_)⟩
 · unfold vQ vD
   rw [ht,hd,setT_at,setD_at,ef hb,cond_false,cond_false]
   exact ⟨rfl,rfl⟩
 · unfold vQ vD
   rw [ht,setT_at,Nat.beq_refl,cond_true,cond_true]
   exact ⟨rfl,rfl⟩
structure Pend (s t:SS) (a:Nat) (bs:Nat->Int):Prop where
 n:t.n=s.n
 dur:t.dur=s.dur
 torn:t.torn=s.torn
 P:t.P=[(a,bs)]
theorem Pend.flush1 {s t:SS} {a:Nat} {bs:Nat->Int} (h:Pend s t a bs):(t.flush 1).n=s.n/\(t.flush 1).dur=setD s.dur a bs/\(t.flush 1).torn=setT s.torn a false/\(t.flush 1).P=[]/\(t.flush 1).off=t.off:=by
 refine ⟨h.n,?_,?_,rfl,rfl⟩
 · show durL t.dur (t.P.drop (t.P.length-1))= _
   rw [h.P,h.dur];exact Eq.refl _
 · show tornL t.torn (t.P.drop (t.P.length-1))= _
   rw [h.P,h.torn];exact Eq.refl _
theorem Pend.flush0 {s t:SS} {a:Nat} {bs:Nat->Int} (h:Pend s t a bs):(t.flush 0).n=s.n/\(t.flush 0).dur=s.dur/\(t.flush 0).torn=s.torn/\(t.flush 0).P=[]/\(t.flush 0).off=t.off:=by
 refine ⟨h.n,?_,?_,rfl,rfl⟩
 · show durL t.dur (t.P.drop (t.P.length-0))= _
   rw [h.P,h.dur];exact Eq.refl _
 · show tornL t.torn (t.P.drop (t.P.length-0))= _
   rw [h.P,h.torn];exact Eq.refl _
theorem Pend.rev {s t:SS} {a q:Nat} {x:List Nat} (h:Pend s t a (fun k=>ofNat (sectB q x k))) (ho:t.off=true) (kk:Int) (tt:Bool)
 (h1:1<=q) (h2:q<=1099511627776) (hl:x.length<=51) (hx:∀b∈x,b<256):Aft s (t.revived kk tt) a q x:=by
 have hL:t.P.length=1:=by rw [h.P];rfl
 have hk:keepN kk t.P.length=0\/keepN kk t.P.length=1:=by unfold keepN;rw [hL];omega
 unfold SS.revived
 rw [ho]
 simp only
 rcases hk with hk | hk<;>rw [hk,hL]
 · obtain ⟨f1,f2,f3,f4,f5⟩:=h.flush0
   have ea:oA t.P 0=a:=by rw [h.P];exact Eq.refl _
   rw [ea]
   cases tt with
   | true=>exact aft_torn f1 rfl f4 (by show setD (t.flush 0).dur a (fun _=>0)= _;rw [f2]) (by show setT (t.flush 0).torn a true= _;rw [f3])
   | false=>exact aft_old f1 rfl f4 f2 f3
 · obtain ⟨f1,f2,f3,f4,f5⟩:=h.flush1
   have eb:(tt && Nat.blt 1 1)=false:=by cases tt<;>rfl
   rw [eb]
   exact (aft_new (s':=(t.flush 1).on) f1 rfl f4 f2 f3 h1 h2 hl hx).1
theorem pay_a0 {s:SS} (h:s.armed=true) (h0:Nat.beq s.left 0=true):s.pay={ s with off:=true,armed:=false}:=by
 obtain ⟨n,dur,torn,P,wr,off,armed,left⟩:=s
 simp only at h h0
 subst h
 unfold SS.pay
 simp only
 rw [h0]
theorem pay_a1 {s:SS} (h:s.armed=true) (h0:Nat.beq s.left 0=false):s.pay={ s with left:=s.left-1}:=by
 obtain ⟨n,dur,torn,P,wr,off,armed,left⟩:=s
 simp only at h h0
 subst h
 unfold SS.pay
 simp only
 rw [h0]
theorem put_or {c:CS} {s:SS} {m:Nat} (h:Inv c s m) {i:Int} {x:List Nat} (hd:c.dead=false) (ho:s.off=false) (hP:s.P=[]) (hi:0<=i/\i<ofNat c.n) (hl:x.length<=51) (hq:c.q i.toNat<1099511627776) (hx:∀b∈x,b<256) :
 (c.putE s i x=0/\c.putC s i x=c.upd i.toNat (c.q i.toNat+1) x (1-c.sp i.toNat)/\Aft s (c.putS s i x) (i.toNat*2+c.sp i.toNat) (c.q i.toNat+1) x/\vQ (c.putS s i x) (i.toNat*2+c.sp i.toNat)=c.q i.toNat+1/\vD (c.putS s i x) (i.toNat*2+c.sp i.toNat)=x)\/
 (c.putE s i x=13/\(c.putS s i x).off=true/\Pend s (c.putS s i x) (i.toNat*2+c.sp i.toNat) (fun k=>ofNat (sectB (c.q i.toNat+1) x k))):=by
 obtain ⟨ea,hlt⟩:=h.at_ hi
 have hno:c.no i x=0:=by
  unfold CS.no
  rw [hd,decide_eq_true hi,show decide ((51:Int)<ofNat x.length)=false by simp;omega,show decide ((1099511627776:Int)<=ofNat (c.q i.toNat))=false by simp;omega]
 have d:decide (c.no i x=0)=true:=by rw [hno];rfl
 have en:(c.nx i).toNat=c.q i.toNat+1:=by unfold CS.nx;simp
 generalize hA:i.toNat*2+c.sp i.toNat=a at *
 have eW:wrote s (c.at_ i) (c.nx i) x=(s.wrote a (fun k=>ofNat (sectB (c.q i.toNat+1) x k))).pay:=by unfold wrote;rw [ea,en];exact wrS_on ho hlt _
 have eE:s.wrE (c.at_ i) 64=(s.wrote a fun _=>0).payE:=by
  rw [ea]
  have hd:decide (0<=ofNat a/\ofNat a<ofNat s.n/\64=64)=true:=by simp;omega
  unfold SS.wrE;rw [ho,hd];exact Eq.refl _
 have pend:∀t:SS,t.n=s.n->t.dur=s.dur->t.torn=s.torn->t.P=(a,fun k=>ofNat (sectB (c.q i.toNat+1) x k)) :: s.P->Pend s t a (fun k=>ofNat (sectB (c.q i.toNat+1) x k)):=fun t h1 h2 h3 h4=>⟨h1,h2,h3,by rw [h4,hP]⟩
 have good:s.wrE (c.at_ i) 64=0->(wrote s (c.at_ i) (c.nx i) x).off=false->Pend s (wrote s (c.at_ i) (c.nx i) x) a (fun k=>ofNat (sectB (c.q i.toNat+1) x k))->
  (c.putE s i x=0/\c.putC s i x=c.upd i.toNat (c.q i.toNat+1) x (1-c.sp i.toNat)/\Aft s (c.putS s i x) a (c.q i.toNat+1) x/\vQ (c.putS s i x) a=c.q i.toNat+1/\vD (c.putS s i x) a=x):=by
  intro g1 g2 g3
  have hcE:cmE s (c.at_ i) (c.nx i) x=0:=by
   unfold cmE;rw [decide_eq_true g1]
   simp only
   unfold SS.faultE;rw [g2];rfl
  have eS:c.putS s i x=(wrote s (c.at_ i) (c.nx i) x).flush 1:=by
   unfold CS.putS;rw [d]
   show cmS s (c.at_ i) (c.nx i) x= _
   unfold cmS;rw [decide_eq_true g1]
   simp only
   unfold SS.bar;rw [g2]
   simp only
   rw [g3.P];exact Eq.refl _
  obtain ⟨f1,f2,f3,f4,f5⟩:=g3.flush1
  rw [<-eS] at f1 f2 f3 f4 f5
  refine ⟨?_,?_,aft_new f1 (by rw [f5];exact g2) f4 f2 f3 (by omega) (by omega) hl hx⟩
  · unfold CS.putE;rw [d];simp only;rw [decide_eq_true hcE]
  · unfold CS.putC;rw [d];simp only;rw [decide_eq_true hcE]
 cases ham:s.armed with
 | false=>
   have e1:(s.wrote a (fun k=>ofNat (sectB (c.q i.toNat+1) x k))).pay=s.wrote a (fun k=>ofNat (sectB (c.q i.toNat+1) x k)):=by
    unfold SS.pay;rw [show (s.wrote a (fun k=>ofNat (sectB (c.q i.toNat+1) x k))).armed=s.armed from rfl,ham]
   have e2:(s.wrote a fun _=>0).payE=0:=by unfold SS.payE;rw [show (s.wrote a fun _=>0).armed=s.armed from rfl,ham]
   rw [e1] at eW;rw [e2] at eE
   exact .inl (good eE (by rw [eW];exact ho) (by rw [eW];exact pend _ rfl rfl rfl rfl))
 | true=>
   cases hl0:Nat.beq s.left 0 with
   | false=>
     have e1:(s.wrote a (fun k=>ofNat (sectB (c.q i.toNat+1) x k))).pay={ s.wrote a (fun k=>ofNat (sectB (c.q i.toNat+1) x k)) with left:=s.left-1}:=pay_a1 (s:=s.wrote a (fun k=>ofNat (sectB (c.q i.toNat+1) x k))) ham hl0
     have e2:(s.wrote a fun _=>0).payE=0:=by unfold SS.payE;rw [show (s.wrote a fun _=>0).armed=s.armed from rfl,ham,show (s.wrote a fun _=>0).left=s.left from rfl,hl0]
     rw [e1] at eW;rw [e2] at eE
     exact .inl (good eE (by rw [eW];exact ho) (by rw [eW];exact pend _ rfl rfl rfl rfl))
   | true=>
     have e1:(s.wrote a (fun k=>ofNat (sectB (c.q i.toNat+1) x k))).pay={ s.wrote a (fun k=>ofNat (sectB (c.q i.toNat+1) x k)) with off:=true,armed:=false}:=pay_a0 (s:=s.wrote a (fun k=>ofNat (sectB (c.q i.toNat+1) x k))) ham hl0
     have e2:(s.wrote a fun _=>0).payE=13:=by unfold SS.payE;rw [show (s.wrote a fun _=>0).armed=s.armed from rfl,ham,show (s.wrote a fun _=>0).left=s.left from rfl,hl0]
     rw [e1] at eW;rw [e2] at eE
     have g1:s.wrE (c.at_ i) 64≠0:=by rw [eE];decide
     have hcE:cmE s (c.at_ i) (c.nx i) x=13:=by
      unfold cmE;rw [decide_eq_false g1];exact eE
     have eS:c.putS s i x=wrote s (c.at_ i) (c.nx i) x:=by
      unfold CS.putS;rw [d]
      show cmS s (c.at_ i) (c.nx i) x= _
      unfold cmS;rw [decide_eq_false g1]
     refine .inr ⟨?_,by rw [eS,eW],by rw [eS,eW];exact pend _ rfl rfl rfl rfl⟩
     unfold CS.putE;rw [d];simp only
     rw [show decide (cmE s (c.at_ i) (c.nx i) x=0)=false by rw [hcE];rfl]
theorem nw_q1 {a b:Nat} (h:nwS a b=0):nwQ a b=b/\(a<b\/a=0/\b=0):=by
 unfold nwS at h
 by_cases hab:a<b
 · unfold nwQ;rw [lt_ hab];exact ⟨rfl,.inl hab⟩
 · rw [lf hab] at h
   simp only at h
   by_cases ha:a=0
   · subst ha
     have:b=0:=by omega
     subst this
     unfold nwQ;exact ⟨rfl,.inr ⟨rfl,rfl⟩⟩
   · rw [ef ha] at h;cases h
theorem nw_q0 {a b:Nat} (h:nwS a b=1):nwQ a b=a/\¬a<b/\a≠0:=by
 unfold nwS at h
 by_cases hab:a<b
 · rw [lt_ hab] at h;cases h
 · rw [lf hab] at h
   simp only at h
   by_cases ha:a=0
   · subst ha;cases h
   · unfold nwQ;rw [lf hab];exact ⟨rfl,hab,ha⟩
theorem nw_lt {a b:Nat} (h:a<b) (x y:List Nat):nwQ a b=b/\nwD a b x y=y/\nwS a b=0:=by
 unfold nwQ nwD nwS;rw [lt_ h];exact ⟨rfl,rfl,rfl⟩
theorem nw_ge {a b:Nat} (h:¬a<b) (h0:a≠0) (x y:List Nat):nwQ a b=a/\nwD a b x y=x/\nwS a b=1:=by
 unfold nwQ nwD nwS;rw [lf h,ef h0];exact ⟨rfl,rfl,rfl⟩
theorem v_zero (s:SS) (a:Nat) (h:vQ s a=0):vD s a=[]:=by
 unfold vQ at h
 unfold vD
 cases ht:s.torn a with
 | true=>rw [cond_true]
 | false=>
   rw [ht,cond_false] at h
   rw [cond_false]
   unfold lkQ at h
   unfold lkD
   cases ho:okB (fun k=>(s.dur a k).toNat) with
   | false=>rw [cond_false]
   | true=>
     rw [ho,cond_true] at h
     unfold okB at ho
     rw [h] at ho
     simp at ho
theorem nw_after {q0 q1 q0' q1':Nat} {d0 d1 d0' d1' x:List Nat} (z:q0=0->d0=[])
 (h:(nwS q0 q1=0/\(q1'=q1/\d1'=d1)/\((q0'=nwQ q0 q1+1/\d0'=x)\/(q0'=0/\d0'=[])\/(q0'=q0/\d0'=d0)))\/
   (nwS q0 q1=1/\(q0'=q0/\d0'=d0)/\((q1'=nwQ q0 q1+1/\d1'=x)\/(q1'=0/\d1'=[])\/(q1'=q1/\d1'=d1)))) :
 (nwQ q0' q1'=nwQ q0 q1+1/\nwD q0' q1' d0' d1'=x/\nwS q0' q1'=1-nwS q0 q1)\/
 (nwQ q0' q1'=nwQ q0 q1/\nwD q0' q1' d0' d1'=nwD q0 q1 d0 d1/\nwS q0' q1'=nwS q0 q1):=by
 rcases h with ⟨hs,⟨rfl,rfl⟩,h⟩ | ⟨hs,⟨rfl,rfl⟩,h⟩
 · obtain ⟨hq,hc⟩:=nw_q1 hs
   rcases h with ⟨rfl,rfl⟩ | ⟨rfl,rfl⟩ | ⟨rfl,rfl⟩
   · rw [hq,hs]
     exact .inl (nw_ge (by omega) (by omega) _ _)
   · rcases hc with hc | ⟨rfl,rfl⟩
     · have a:=nw_lt hc d0 d1'
       have b:=nw_lt (show 0<q1' by omega) [] d1'
       exact .inr ⟨b.1.trans a.1.symm,b.2.1.trans a.2.1.symm,b.2.2.trans a.2.2.symm⟩
     · exact .inr ⟨rfl,(z rfl).symm,rfl⟩
   · exact .inr ⟨rfl,rfl,rfl⟩
 · obtain ⟨hq,hc,h0⟩:=nw_q0 hs
   rcases h with ⟨rfl,rfl⟩ | ⟨rfl,rfl⟩ | ⟨rfl,rfl⟩
   · rw [hq,hs]
     exact .inl (nw_lt (by omega) _ _)
   · have a:=nw_ge hc h0 d0' d1
     have b:=nw_ge (show ¬q0'<0 by omega) h0 d0' []
     exact .inr ⟨b.1.trans a.1.symm,b.2.1.trans a.2.1.symm,b.2.2.trans a.2.2.symm⟩
   · exact .inr ⟨rfl,rfl,rfl⟩
theorem nw_done {q0 q1 q0' q1':Nat} {d0' d1' x:List Nat}
 (h:(nwS q0 q1=0/\q1'=q1/\q0'=nwQ q0 q1+1/\d0'=x)\/(nwS q0 q1=1/\q0'=q0/\q1'=nwQ q0 q1+1/\d1'=x)) :
 nwQ q0' q1'=nwQ q0 q1+1/\nwD q0' q1' d0' d1'=x/\nwS q0' q1'=1-nwS q0 q1:=by
 rcases h with ⟨hs,rfl,rfl,rfl⟩ | ⟨hs,rfl,rfl,rfl⟩
 · obtain ⟨hq,hc⟩:=nw_q1 hs
   rw [hq,hs]
   exact nw_ge (by omega) (by omega) _ _
 · obtain ⟨hq,hc,h0⟩:=nw_q0 hs
   rw [hq,hs]
   exact nw_lt (by omega) _ _
theorem sp01 (a b:Nat):nwS a b=0\/nwS a b=1:=by have:=nwS_le a b;omega
theorem open_after {s s':SS} {i a q:Nat} {x:List Nat} (hP:s.P=[]) (ho:s.off=false) (hn:s.n=258) (hi:i<129) (ha:a=i*2+opS s i) (hq:q=opQ s i+1) (h:Aft s s' a q x) :
 (∀j,j<129->j≠i->opQ s' j=opQ s j/\opD s' j=opD s j/\opS s' j=opS s j)/\
 ((opQ s' i=opQ s i+1/\opD s' i=x/\opS s' i=1-opS s i)\/(opQ s' i=opQ s i/\opD s' i=opD s i/\opS s' i=opS s i))/\
 (vQ s' a=q->vD s' a=x->opQ s' i=opQ s i+1/\opD s' i=x/\opS s' i=1-opS s i):=by
 have old:∀j,j<129->_:=fun j hj=>op_v hP ho (i:=j) (by omega)
 have new:∀j,j<129->_:=fun j hj=>op_v h.P h.off (i:=j) (by rw [h.n];omega)
 have sp:=sp01 (vQ s (2*i)) (vQ s (2*i+1))
 rw [(old i hi).2.2] at ha
 rw [(old i hi).1] at hq
 subst hq
 refine ⟨fun j hj hne=>?_,?_,fun h1 h2=>?_⟩
 · obtain ⟨a1,a2,a3⟩:=old j hj
   obtain ⟨b1,b2,b3⟩:=new j hj
   have k0:=h.other (2*j) (by omega)
   have k1:=h.other (2*j+1) (by omega)
   rw [k0.1,k1.1] at b1 b3
   rw [k0.1,k1.1,k0.2,k1.2] at b2
   exact ⟨b1.trans a1.symm,b2.trans a2.symm,b3.trans a3.symm⟩
 · obtain ⟨a1,a2,a3⟩:=old i hi
   obtain ⟨b1,b2,b3⟩:=new i hi
   rw [a1,a2,a3,b1,b2,b3]
   refine nw_after (v_zero s (2*i)) ?_
   rcases sp with e | e
   · have:a=2*i:=by omega
     subst this
     have k1:=h.other (2*i+1) (by omega)
     exact .inl ⟨e,k1,h.here⟩
   · have:a=2*i+1:=by omega
     subst this
     have k1:=h.other (2*i) (by omega)
     exact .inr ⟨e,k1,h.here⟩
 · obtain ⟨a1,a2,a3⟩:=old i hi
   obtain ⟨b1,b2,b3⟩:=new i hi
   rw [a1,a3,b1,b2,b3]
   refine nw_done ?_
   rcases sp with e | e
   · have:a=2*i:=by omega
     subst this
     exact .inl ⟨e,(h.other (2*i+1) (by omega)).1,h1,h2⟩
   · have:a=2*i+1:=by omega
     subst this
     exact .inr ⟨e,(h.other (2*i) (by omega)).1,h1,h2⟩
def tookD (d:Nat->List Nat) (k:Nat) (x:List Nat):Nat->List Nat:=fun j=>bif Nat.beq j k then x else d j
structure RvI (k:Nat) (c:CS) (s:SS):Prop where
 hk:k<=1001
 inv:Inv c s k
 n:c.n=129
 dead:c.dead=false
 off:s.off=false
 P:s.P=[]
 sn:s.n=258
 f:∀j,j<129->c.q j=opQ s j/\c.d j=opD s j/\c.sp j=opS s j
 q:∀j,j<129->c.q j<=k
theorem opened_at (s:SS) {j:Nat} (hj:j<129):(opened s 129).q j=opQ s j/\(opened s 129).d j=opD s j/\(opened s 129).sp j=opS s j:=by
 refine ⟨?_,?_,?_⟩
 · show (bif Nat.blt j 129 then opQ s j else 0)= _
   rw [lt_ hj,cond_true]
 · show (bif Nat.blt j 129 then opD s j else [])= _
   rw [lt_ hj,cond_true]
 · show (bif Nat.blt j 129 then opS s j else 0)= _
   rw [lt_ hj,cond_true]
theorem RvI.opened {s:SS} {k:Nat} (hk:k<=1001) (ok:OkM s k) (hb:Byt s) (ho:s.off=false) (hP:s.P=[]) (hn:s.n=258) (hq:∀j,j<129->opQ s j<=k):RvI k (opened s 129) s:=
 ⟨hk,.opened (by decide) (by rw [hn];decide) ok hb,rfl,rfl,ho,hP,hn,fun j hj=>opened_at s hj,fun j hj=>by rw [(opened_at s hj).1];exact hq j hj⟩
theorem op_eq {s s':SS} (hP:s.P=[]) (ho:s.off=false) (hn:s.n=258) (hP':s'.P=[]) (ho':s'.off=false) (hn':s'.n=258) (hd:s'.dur=s.dur) (ht:s'.torn=s.torn) {j:Nat} (hj:j<129) :
 opQ s' j=opQ s j/\opD s' j=opD s j/\opS s' j=opS s j:=by
 have a:=op_v hP ho (i:=j) (by omega)
 have b:=op_v hP' ho' (i:=j) (by omega)
 have e1:vQ s'=vQ s:=by funext k;unfold vQ;rw [hd,ht]
 have e2:vD s'=vD s:=by funext k;unfold vD;rw [hd,ht]
 rw [e1,e2] at b
 exact ⟨b.1.trans a.1.symm,b.2.1.trans a.2.1.symm,b.2.2.trans a.2.2.symm⟩
theorem RvI.arm {k:Nat} {c:CS} {s:SS} (h:RvI k c s) (hk:k<1001) {i:Int} (hi:i<=9223372036854775807):RvI (k+1) c (s.arm i):=by
 refine ⟨hk,⟨h.inv.hc,h.inv.hs,h.inv.sp,(h.inv.ok.arm hi).mono (Nat.le_succ k),h.inv.byt.arm i⟩,h.n,h.dead,h.off,h.P,h.sn,fun j hj=>?_,fun j hj=>Nat.le_succ_of_le (h.q j hj)⟩
 obtain ⟨a1,a2,a3⟩:=h.f j hj
 obtain ⟨b1,b2,b3⟩:=op_eq (s':=s.arm i) h.P h.off h.sn h.P h.off h.sn rfl rfl hj
 exact ⟨a1.trans b1.symm,a2.trans b2.symm,a3.trans b3.symm⟩
theorem RvI.put {k:Nat} {c:CS} {s:SS} (h:RvI k c s) (hk:k<1001) (i:Int) (x:List Nat) (hx:∀b∈x,b<256) :
 (c.putE s i x=2/\c.putC s i x=c/\c.putS s i x=s)\/
 ((0<=i/\i<129)/\c.putE s i x=0/\RvI (k+1) (c.putC s i x) (c.putS s i x)/\∀j,(c.putC s i x).d j=tookD c.d i.toNat x j)\/
 (c.putE s i x=13/\(c.putS s i x).off=true/\OkM (c.putS s i x) (k+1)/\∀(kk:Int) (tt:Bool),
   RvI (k+1) (Cl.opened ((c.putS s i x).revived kk tt) 129) ((c.putS s i x).revived kk tt)/\∀j,j<129->opD ((c.putS s i x).revived kk tt) j=c.d j\/(ofNat j=i/\opD ((c.putS s i x).revived kk tt) j=x)):=by
 by_cases hb:¬(0<=i/\i<ofNat c.n)\/51<x.length
 · exact .inl (put_bad s h.dead hb)
 have hi:0<=i/\i<ofNat c.n:=Classical.byContradiction fun g=>hb (.inl g)
 have hl:x.length<=51:=Nat.not_lt.mp fun g=>hb (.inr g)
 have hi4:0<=i/\i<129:=by rw [h.n] at hi;exact hi
 have it:i.toNat<129:=by omega
 have ei:ofNat i.toNat=i:=by simp;omega
 obtain ⟨g1,g2,g3⟩:=h.f i.toNat it
 have hq:=h.q i.toNat it
 have iv:=h.inv.put i x hx
 rcases put_or h.inv h.dead h.off h.P hi hl (by omega) hx with ⟨e1,e2,e3,e4,e5⟩ | ⟨e1,e2,e3⟩
 · refine .inr (.inl ⟨hi4,e1,?_,fun j=>by rw [e2];exact Eq.refl _⟩)
   obtain ⟨o1,_,o3⟩:=open_after (i:=i.toNat) h.P h.off h.sn it (by rw [g3]) (by rw [g1]) e3
   obtain ⟨n1,n2,n3⟩:=o3 e4 e5
   refine ⟨hk,iv,by rw [e2];exact h.n,by rw [e2];exact h.dead,e3.off,e3.P,by rw [e3.n];exact h.sn,fun j hj=>?_,fun j hj=>?_⟩
   · rw [e2]
     show (bif Nat.beq j i.toNat then c.q i.toNat+1 else c.q j)= _/\(bif Nat.beq j i.toNat then x else c.d j)= _/\(bif Nat.beq j i.toNat then 1-c.sp i.toNat else c.sp j)= _
     by_cases e:j=i.toNat
     · rw [e,Nat.beq_refl,cond_true,cond_true,cond_true,g1,g3]
       exact ⟨n1.symm,n2.symm,n3.symm⟩
     · rw [ef e,cond_false,cond_false,cond_false]
       obtain ⟨a1,a2,a3⟩:=h.f j hj
       obtain ⟨b1,b2,b3⟩:=o1 j hj e
       exact ⟨a1.trans b1.symm,a2.trans b2.symm,a3.trans b3.symm⟩
   · rw [e2]
     show (bif Nat.beq j i.toNat then c.q i.toNat+1 else c.q j)<=k+1
     cases Nat.beq j i.toNat with
     | true=>rw [cond_true];omega
     | false=>rw [cond_false];have:=h.q j hj;omega
 · refine .inr (.inr ⟨e1,e2,iv.ok,fun kk tt=>?_⟩)
   have af:=e3.rev e2 kk tt (by omega) (by omega) hl hx
   obtain ⟨o1,o2,_⟩:=open_after (i:=i.toNat) h.P h.off h.sn it (by rw [g3]) (by rw [g1]) af
   refine ⟨.opened hk (iv.ok.revived kk tt) (iv.byt.revived kk tt) af.off af.P (by rw [af.n];exact h.sn) fun j hj=>?_,fun j hj=>?_⟩
   · by_cases e:j=i.toNat
     · rw [e]
       rcases o2 with ⟨m1,_,_⟩ | ⟨m1,_,_⟩<;>rw [m1,<-g1]<;>omega
     · rw [(o1 j hj e).1,<-(h.f j hj).1];have:=h.q j hj;omega
   · by_cases e:j=i.toNat
     · rw [e]
       rcases o2 with ⟨_,m,_⟩ | ⟨_,m,_⟩
       · exact .inr ⟨ei,m⟩
       · exact .inl (by rw [m,<-g2])
     · exact .inl (by rw [(o1 j hj e).2.1,<-(h.f j hj).2.1])
end Go.Proofs.Cl
namespace Go.Proofs.Cl
open Go Go.Sim Go.Proofs Go.Proofs.Cd Go.Proofs.St
end Go.Proofs.Cl
namespace Go.Proofs.Cl
open Go Go.Sim Go.Proofs Go.Proofs.Cd Go.Proofs.St Go.Proofs.YtfpebgpcpoefpaaGreatDoor
theorem no_len {c:CS} {i:Int} {x:List Nat} (h:c.no i x=0):x.length<=51:=by
 unfold CS.no at h
 cases hd:c.dead with
 | true=>rw [hd] at h;cases h
 | false=>
   rw [hd] at h
   cases h1:decide (0<=i/\i<ofNat c.n) with
   | false=>rw [h1] at h;cases h
   | true=>
     rw [h1] at h
     cases h2:decide ((51:Int)<ofNat x.length) with
     | true=>rw [h2] at h;cases h
     | false=>have:=of_decide_eq_false h2;simp at this;omega
theorem Txt.put {c:CS} (h:Txt c) (s:SS) (i:Int) {x:List Nat} (hx:∀b∈x,b<256):Txt (c.putC s i x):=by
 unfold CS.putC
 cases hd:decide (c.no i x=0) with
 | false=>exact h
 | true=>
   have hl:=no_len (of_decide_eq_true hd)
   cases decide (cmE s (c.at_ i) (c.nx i) x=0) with
   | false=>exact ⟨h.n,h.b,h.l⟩
   | true=>
     refine ⟨h.n,fun j hj=>?_,fun j hj=>?_⟩
     · show ∀y∈(bif Nat.beq j i.toNat then x else c.d j),y<256
       cases Nat.beq j i.toNat with
       | true=>exact hx
       | false=>exact h.b j hj
     · show (bif Nat.beq j i.toNat then x else c.d j).length<=51
       cases Nat.beq j i.toNat with
       | true=>exact hl
       | false=>exact h.l j hj
theorem mV_eq {c:CS} (hn:c.n=129) (j:Nat):mV c j=mtV (c.d 128) j:=by
 unfold mV CS.getD
 rw [show decide ((0:Int)<=128/\(128:Int)<ofNat c.n)=true by rw [hn];decide]
 rfl
theorem RvI.mono {k m:Nat} {c:CS} {s:SS} (h:RvI k c s) (hm:k<=m) (h1:m<=1001):RvI m c s:=
 ⟨h1,h.inv.mono hm,h.n,h.dead,h.off,h.P,h.sn,h.f,fun j hj=>Nat.le_trans (h.q j hj) hm⟩
theorem Txt.opened {s:SS} (h:∀j,j<129->(∀b∈opD s j,b<256)/\(opD s j).length<=51):Txt (Cl.opened s 129):=by
 refine ⟨(by decide:(129:Nat)<=256),fun j hj=>?_,fun j hj=>?_⟩
 · rw [(opened_at s hj).2.1];exact (h j hj).1
 · rw [(opened_at s hj).2.1];exact (h j hj).2
theorem opened_mV (s:SS) (j:Nat):mV (opened s 129) j=mtV (opD s 128) j:=by
 rw [mV_eq rfl,(opened_at s (by decide)).2.1]
theorem act_no {w:Int} (hw:w≠-1) (c:CS) (rd:Bool) (s:SS) (i:Int) (x:List Nat):actE w c s i x=w/\actC w c s i x=c/\actD w rd c s i x=rd/\actS w c s i x=s:=by
 unfold actE actC actD actS
 rw [show decide (w=-1)=false from decide_eq_false hw]
 exact ⟨rfl,rfl,rfl,rfl⟩
theorem act_yes (c:CS) (rd:Bool) (s:SS) (i:Int) (x:List Nat):actE (-1) c s i x=c.putE s i x/\actC (-1) c s i x=c.putC s i x/\actD (-1) rd c s i x=decide (c.putE s i x=13)/\actS (-1) c s i x=c.putS s i x:=by
 unfold actE actC actD actS
 rw [show decide ((-1:Int)=-1)=true from rfl]
 exact ⟨rfl,rfl,rfl,rfl⟩
end Go.Proofs.Cl
