/- Runs over unknown values, told by the kernel: part GH. -/
import Derived.Test.YtfpebgpcpoefpaaGreatDoorGG
noncomputable section
open Int (ofNat)
set_option linter.unusedSimpArgs false
set_option linter.unusedVariables false
set_option maxRecDepth 20000
set_option maxHeartbeats 4000000
namespace Go.Proofs.Ly
open Go Go.Sim Go.Proofs Go.Proofs.Cd Go.Proofs.St Go.Proofs.Cl Go.Proofs.YtfpebgpcpoefpaaGreatDoor
theorem cR_lq (tt:List Nat) (num i0 cnt:Int) (ft:List Nat) (i:Nat) (G:Nat->List Nat) (h0:decide (i0<cnt)=true):LD Tryz.prog (loopAt Tryz.prog 89 0) 34 4 [(0,.yf 3),(1,.p 1 0),(2,.p 0 0),(4,.i .i64 cnt),(9,.i .i64 cnt),(10,.i .i64 i0)] [some (cellsO 3 [.i .i64 num]),some (cellsO 9 [.s tt]),some (cellsO 61 [.lr 4 1 0 i false]),some (lpO Tryz.prog 115 0 0 13 [(0,.l0),(1,.fn (.func 89) [] [.p 1 0,.p 0 0]),(2,.p 2 0),(4,.l0),(6,.fn (.func 89) [] [.p 1 0,.p 0 0])]),some (.rows 9 1 i (fun j _=>.s (G j)))] (.t (.cal [5] (.s ft) [.keep] (.c .z))) .nrm [0,1,2,3,7] [(0,.yf 3),(1,.p 1 0),(2,.p 0 0),(4,.i .i64 cnt),(9,.i .i64 cnt),(10,.i .i64 (i0+1))] [some (cellsO 3 [.i .i64 num]),some (cellsO 9 [.s tt]),some (cellsO 61 [.lr 4 1 0 (addN i 1) false]),some (lpO Tryz.prog 115 0 0 13 [(0,.l0),(1,.fn (.func 89) [] [.p 1 0,.p 0 0]),(2,.p 2 0),(4,.l0),(6,.fn (.func 89) [] [.p 1 0,.p 0 0])]),some (.rows 9 1 (addN i 1) (appZ i (fun j _=>.s (G j)) (listF 1 [.s (ft ++ List.take (Int.toNat (if ofNat (List.length tt)<(i0+1)*36 then ofNat (List.length tt) else (i0+1)*36)-Int.toNat (i0*36)) (List.drop (Int.toNat (i0*36)) tt))] 1)))] 8 (fun Lf=>decide (i0<cnt)=true/\rg (i0*36)/\rg (i0+1)/\rg ((i0+1)*36)/\(0<=i0*36/\(0<=if ofNat (List.length tt)<(i0+1)*36 then ofNat (List.length tt) else (i0+1)*36)/\Int.toNat (i0*36)<=Int.toNat (if ofNat (List.length tt)<(i0+1)*36 then ofNat (List.length tt) else (i0+1)*36)/\Int.toNat (if ofNat (List.length tt)<(i0+1)*36 then ofNat (List.length tt) else (i0+1)*36)<=List.length tt)/\Con Tryz.prog 34 [.l 0 0 3 3 1 true] [some (cellsO 3 [.i .i64 num,.i .i64 i0,.i .i64 cnt])] (.s ft) [.keep]/\List.length ft+List.length (List.take (Int.toNat (if ofNat (List.length tt)<(i0+1)*36 then ofNat (List.length tt) else (i0+1)*36)-Int.toNat (i0*36)) (List.drop (Int.toNat (i0*36)) tt))<=1073741824/\(0+i<=i/\True/\i+1<=140737488355328/\(3*(i+1)+1536)*16<=562949953421312)/\True/\rg (i0+1)/\Lf):=by unfold LD LQ;kernel_rfl
theorem cE_lq (tt:List Nat) (num i0 cnt:Int) (i:Nat) (G:Nat->List Nat) (h0:decide (i0<cnt)=false):LD Tryz.prog (loopAt Tryz.prog 89 0) 34 4 [(0,.yf 3),(1,.p 1 0),(2,.p 0 0),(4,.i .i64 cnt),(9,.i .i64 cnt),(10,.i .i64 i0)] [some (cellsO 3 [.i .i64 num]),some (cellsO 9 [.s tt]),some (cellsO 61 [.lr 4 1 0 i false]),some (lpO Tryz.prog 115 0 0 13 [(0,.l0),(1,.fn (.func 89) [] [.p 1 0,.p 0 0]),(2,.p 2 0),(4,.l0),(6,.fn (.func 89) [] [.p 1 0,.p 0 0])]),some (.rows 9 1 i (fun j _=>.s (G j)))] (.f .z) (.exit 0) [0,1,2,3,4] [] [some (cellsO 3 [.i .i64 num]),some (cellsO 9 [.s tt]),some (cellsO 61 [.lr 4 1 0 i false]),some (lpO Tryz.prog 115 0 0 13 [(0,.l0),(1,.fn (.func 89) [] [.p 1 0,.p 0 0]),(2,.p 2 0),(4,.l0),(6,.fn (.func 89) [] [.p 1 0,.p 0 0])]),some (.rows 9 1 i (fun j _=>.s (G j)))] 5 (fun Lf=>decide (i0<cnt)=false/\Lf):=by unfold LD LQ;kernel_rfl
theorem qvR_lq (c:CS) (ff:Nat->List Nat) (mm:Nat) (XG:Nat->List Nat) (i pp:Nat) (h0:decide (ofNat i<ofNat mm)=true) (h1:natsEq (XG i) (ff i)=true):LD Tryz.prog (loopAt Tryz.prog 81 0) 26 1 [(0,.lr 0 1 0 mm false),(1,.sv 1 pp (fun i _=>.s (ff i))),(12,.i .i64 (ofNat mm)),(13,.i .i64 (ofNat i))] [some (.rows 9 1 mm (fun j _=>.s (XG j)))] (.t (.f .z)) .nrm [0] [(0,.lr 0 1 0 mm false),(1,.sv 1 pp (fun i _=>.s (ff i))),(12,.i .i64 (ofNat mm)),(13,.i .i64 (ofNat i+1))] [some (.rows 9 1 mm (fun j _=>.s (XG j)))] 1 (fun Lf=>decide (ofNat i<ofNat mm)=true/\(0<=ofNat i/\ofNat i<↑mm)/\i<mm/\(0<=ofNat i/\ofNat i<↑pp)/\True/\(!natsEq (XG i) (ff i))=false/\rg (ofNat i+1)/\Lf):=by unfold LD LQ;kernel_rfl
theorem qvE_lq (ff:Nat->List Nat) (mm:Nat) (XG:Nat->List Nat) (i pp:Nat) (h0:decide (ofNat i<ofNat mm)=false):LD Tryz.prog (loopAt Tryz.prog 81 0) 26 1 [(0,.lr 0 1 0 mm false),(1,.sv 1 pp (fun i _=>.s (ff i))),(12,.i .i64 (ofNat mm)),(13,.i .i64 (ofNat i))] [some (.rows 9 1 mm (fun j _=>.s (XG j)))] (.f .z) (.exit 0) [0] [] [some (.rows 9 1 mm (fun j _=>.s (XG j)))] 1 (fun Lf=>decide (ofNat i<ofNat mm)=false/\Lf):=by unfold LD LQ;kernel_rfl
theorem fi0_vq (tt:List Nat) (n0:Nat) (Bq Vq:Nat->Int) (Dq:Nat->List Nat) (num:Int) (nb:Nat) (ff:Nat->List Nat) (mm:Nat) (XG:Nat->List Nat) (h1:decide (ofNat nb<(Int.tdiv (ofNat (List.length tt)+36-1) 36))=false) (h2:decide (ofNat mm=ofNat (Int.toNat (Int.tdiv (ofNat (List.length tt)+36-1) 36)))=true):VD Tryz.prog 52 [.sv 1 nb (fun i _=>.s (ff i)),.i .i64 num] [] (.cal [] (.s tt) [] (.cal [] (.tup [.lr 0 3 0 n0 false,.b true]) [.set (AObj.rows 47 3 n0 (uF Bq Vq Dq))] (.inl (oc 5 (ot 3 (.inl (.t (.inl (.inl (.inl (.inl (.lop [1,2,3,4] [0,1,2,4,9,10] 4 (.exit 0) [] [some (cellsO 3 [.i .i64 num]),some (cellsO 9 [.s tt]),some (cellsO 61 [.lr 4 1 0 mm false]),some (lpO Tryz.prog 115 0 0 13 [(0,.l0),(1,AV.fn (Fn.func 89) [] [.p 1 0,.p 0 0]),(2,.p 2 0),(4,.l0),(6,AV.fn (Fn.func 89) [] [.p 1 0,.p 0 0])]),some (AObj.rows 9 1 mm fun j x=>CV.s (XG j))] (ot 4 (.inl (.f (.lop [5] [0,1,12,13] 1 (.exit 0) [] [some (AObj.rows 9 1 mm fun j x=>CV.s (XG j))] (.t (.f (.c .z))))))))))))))))))) (.tup [.lr 0 3 0 n0 false,.i .i64 (Int.tdiv (ofNat (List.length tt)+36-1) 36)]) [.set (.rows 47 3 n0 (uF Bq Vq Dq))] [0] 6 (fun Lf=>Con Tryz.prog 79 [.sv 1 nb fun i x=>CV.s (ff i)] [] (.s tt) []/\Con Tryz.prog 80 [.s tt] [] (.tup [.lr 0 3 0 n0 false,.b true]) [.set (AObj.rows 47 3 n0 (uF Bq Vq Dq))]/\rg (ofNat (List.length tt)+36)/\rg (ofNat (List.length tt)+(36:Int)-(1:Int))/\((36:Int)≠(0:Int)/\(-9223372036854775808)<=Int.tdiv (ofNat (List.length tt)+(36:Int)-(1:Int)) 36/\Int.tdiv (ofNat (List.length tt)+(36:Int)-(1:Int)) (36:Int)<=(9223372036854775807:Int))/\True/\r4 ((!decide (ofNat nb<Int.tdiv (ofNat (List.length tt)+(36:Int)-(1:Int)) 36))=true) (rg (ofNat (List.length tt)+36)/\rg (ofNat (List.length tt)+(36:Int)-(1:Int))/\((36:Int)≠(0:Int)/\(-9223372036854775808)<=Int.tdiv (ofNat (List.length tt)+(36:Int)-(1:Int)) 36/\Int.tdiv (ofNat (List.length tt)+(36:Int)-(1:Int)) (36:Int)<=(9223372036854775807:Int))/\LDoes Tryz.prog (loopAt Tryz.prog 89 0) 34 4 (mkT [(0,AV.yf 3),(1,.p 1 0),(2,.p 0 0),(4,.i .i64 (Int.tdiv (ofNat (List.length tt)+(36:Int)-(1:Int)) 36)),(9,.i .i64 (Int.tdiv (ofNat (List.length tt)+(36:Int)-(1:Int)) 36)),(10,.i .i64 0)]) [some (cellsO 3 [.i .i64 num]),some (cellsO 9 [.s tt]),some (cellsO 61 [.l0]),some (lpO Tryz.prog 115 0 0 13 [(0,.l0),(1,AV.fn (Fn.func 89) [] [.p 1 0,.p 0 0]),(2,.p 2 0),(4,.l0),(6,AV.fn (Fn.func 89) [] [.p 1 0,.p 0 0])])] (.exit 0) (mkT []) [some (cellsO 3 [.i .i64 num]),some (cellsO 9 [.s tt]),some (cellsO 61 [.lr 4 1 0 mm false]),some (lpO Tryz.prog 115 0 0 13 [(0,.l0),(1,AV.fn (Fn.func 89) [] [.p 1 0,.p 0 0]),(2,.p 2 0),(4,.l0),(6,AV.fn (Fn.func 89) [] [.p 1 0,.p 0 0])]),some (AObj.rows 9 1 mm fun j x=>CV.s (XG j))]/\r3 ((!decide (ofNat nb<Int.tdiv (ofNat (List.length tt)+(36:Int)-(1:Int)) 36))=true) ((True/\0<=Int.tdiv (ofNat (List.length tt)+(36:Int)-(1:Int)) 36/\0<=Int.toNat (Int.tdiv (ofNat (List.length tt)+(36:Int)-(1:Int)) 36)/\Int.toNat (Int.tdiv (ofNat (List.length tt)+(36:Int)-(1:Int)) 36)<=nb)/\(!decide (ofNat nb<Int.tdiv (ofNat (List.length tt)+(36:Int)-(1:Int)) 36))=true/\(!decide (ofNat mm=ofNat (Int.toNat (Int.tdiv (ofNat (List.length tt)+(36:Int)-(1:Int)) 36))))=false/\LDoes Tryz.prog (loopAt Tryz.prog 81 0) 26 1 (mkT [(0,.lr 0 1 0 mm false),(1,.sv 1 (Int.toNat (Int.tdiv (ofNat (List.length tt)+(36:Int)-(1:Int)) 36)) fun i x=>CV.s (ff i)),(12,.i .i64 (ofNat mm)),(13,.i .i64 0)]) [some (AObj.rows 9 1 mm fun j x=>CV.s (XG j))] (.exit 0) (mkT []) [some (AObj.rows 9 1 mm fun j x=>CV.s (XG j))]/\(!decide (ofNat nb<Int.tdiv (ofNat (List.length tt)+(36:Int)-(1:Int)) 36))=true/\True/\decide (ofNat nb<Int.tdiv (ofNat (List.length tt)+(36:Int)-(1:Int)) 36)=false/\Lf))):=by unfold VD VQ;kernel_rfl
theorem fi_con (tt:List Nat) (n0 nb mm:Nat) (Bq Vq:Nat->Int) (Dq ff XG:Nat->List Nat) (num:Int) (ht:tt.length<=1000000) (hnb:nb<=1000000) (h1:decide (ofNat nb<(Int.tdiv (ofNat (List.length tt)+36-1) 36))=false) (h2:decide (ofNat mm=ofNat (Int.toNat (Int.tdiv (ofNat (List.length tt)+36-1) 36)))=true) (kjn:Con Tryz.prog 79 [.sv 1 nb (fun i _=>.s (ff i))] [] (.s tt) []) (kde:Con Tryz.prog 80 [.s tt] [] (.tup [.lr 0 3 0 n0 false,.b true]) [.set (.rows 47 3 n0 (uF Bq Vq Dq))]) (kcl:LDoes Tryz.prog (loopAt Tryz.prog 89 0) 34 4 (mkT [(0,.yf 3),(1,.p 1 0),(2,.p 0 0),(4,.i .i64 (Int.tdiv (ofNat (List.length tt)+36-1) 36)),(9,.i .i64 (Int.tdiv (ofNat (List.length tt)+36-1) 36)),(10,.i .i64 0)]) [some (cellsO 3 [.i .i64 num]),some (cellsO 9 [.s tt]),some (cellsO 61 [.l0]),some (lpO Tryz.prog 115 0 0 13 [(0,.l0),(1,.fn (.func 89) [] [.p 1 0,.p 0 0]),(2,.p 2 0),(4,.l0),(6,.fn (.func 89) [] [.p 1 0,.p 0 0])])] (.exit 0) (mkT []) [some (cellsO 3 [.i .i64 num]),some (cellsO 9 [.s tt]),some (cellsO 61 [.lr 4 1 0 mm false]),some (lpO Tryz.prog 115 0 0 13 [(0,.l0),(1,.fn (.func 89) [] [.p 1 0,.p 0 0]),(2,.p 2 0),(4,.l0),(6,.fn (.func 89) [] [.p 1 0,.p 0 0])]),some (.rows 9 1 mm (fun j _=>.s (XG j)))]) (kel:LDoes Tryz.prog (loopAt Tryz.prog 81 0) 26 1 (mkT [(0,.lr 0 1 0 mm false),(1,.sv 1 (Int.toNat (Int.tdiv (ofNat (List.length tt)+36-1) 36)) (fun i _=>.s (ff i))),(12,.i .i64 (ofNat mm)),(13,.i .i64 0)]) [some (.rows 9 1 mm (fun j _=>.s (XG j)))] (.exit 0) (mkT []) [some (.rows 9 1 mm (fun j _=>.s (XG j)))]):Con Tryz.prog 52 [.sv 1 nb (fun i _=>.s (ff i)),.i .i64 num] [] (.tup [.lr 0 3 0 n0 false,.i .i64 (Int.tdiv (ofNat (List.length tt)+36-1) 36)]) [.set (.rows 47 3 n0 (uF Bq Vq Dq))]:=by
 have hz:0<=Int.tdiv (ofNat (List.length tt)+36-1) 36/\Int.tdiv (ofNat (List.length tt)+36-1) 36<=1000036:=td_bd ht
 have hq:=of_decide_eq_false h1
 simp only [Int.ofNat_eq_natCast] at hq hz
 exact con_d (fi0_vq (tt:=tt) (n0:=n0) (Bq:=Bq) (Vq:=Vq) (Dq:=Dq) (num:=num) (nb:=nb) (ff:=ff) (mm:=mm) (XG:=XG) (h1:=h1) (h2:=h2)) (by repeat' first | exact trivial | assumption | exact rfl | exact nT (by assumption) | exact nF (by assumption) | assumption | assumption | assumption | assumption | (unfold rg;simp only [Int.ofNat_eq_natCast];omega) | (simp only [Int.ofNat_eq_natCast];omega) | omega | apply And.intro | decide)
theorem jz0_vq (nb:Nat) (ff:Nat->List Nat):VD Tryz.prog 79 [.sv 1 (nb+1) (fun i _=>.s (ff i))] [] (.c (.cal [] (.tup [.i .i64 0,.s []]) [] (.inl (oc 5 .z)))) (.s []) [] [] 0 (fun Lf=>((0:Int)<=(0:Int)/\(0:Int)<↑(nb+1))/\True/\Con Tryz.prog 110 [.s (ff 0)] [] (.tup [.i .i64 0,.s []]) []/\True/\Lf):=by unfold VD VQ;kernel_rfl
theorem jz_con (nb:Nat) (ff:Nat->List Nat) (hnb:nb<=1000000) (kpz:Con Tryz.prog 110 [.s (ff 0)] [] (.tup [.i .i64 0,.s []]) []):Con Tryz.prog 79 [.sv 1 (nb+1) (fun i _=>.s (ff i))] [] (.s []) []:=by
 exact con_d (jz0_vq (nb:=nb) (ff:=ff)) (by repeat' first | exact trivial | assumption | exact rfl | exact nT (by assumption) | exact nF (by assumption) | assumption | (unfold rg;simp only [Int.ofNat_eq_natCast];omega) | (simp only [Int.ofNat_eq_natCast];omega) | omega | apply And.intro | decide)
theorem jy0_vq (ff:Nat->List Nat):VD Tryz.prog 79 [.sv 1 0 (fun i _=>.s (ff i))] [] (.c .z) (.s []) [] [] 0 (fun Lf=>Lf):=by unfold VD VQ;kernel_rfl
theorem jy_con (ff:Nat->List Nat):Con Tryz.prog 79 [.sv 1 0 (fun i _=>.s (ff i))] [] (.s []) []:=by
 exact con_d (jy0_vq (ff:=ff)) (by repeat' first | exact trivial | assumption | exact rfl | exact nT (by assumption) | exact nF (by assumption) | apply And.intro | decide)
theorem d00_vq:VD Tryz.prog 80 [.s []] [] (.c (.inl (.c (.inl (.inl (.c (.inl (.inl (oc 2 (.inl (.inl (oc 2 (.inl (oc 5 (.cal [] (.tup [.s [],.i .i64 2]) [] (oc 4 .z)))))))))))))))) (.tup [.l0,.b false]) [] [] 2 (fun Lf=>rg ((-4))/\True/\True/\True/\True/\True/\True/\True/\Con Tryz.prog 30 [.l0] [] (.tup [.s [],.i .i64 2]) []/\Lf):=by unfold VD VQ;kernel_rfl
theorem d0_con (ke0:Con Tryz.prog 30 [.l0] [] (.tup [.s [],.i .i64 2]) []):Con Tryz.prog 80 [.s []] [] (.tup [.l0,.b false]) []:=by
 exact con_d (d00_vq) (by repeat' first | exact trivial | assumption | exact rfl | exact nT (by assumption) | exact nF (by assumption) | assumption | apply And.intro | decide)
theorem fn0_vq (num:Int) (pb:Nat) (g:Nat->Nat->CV):VD Tryz.prog 52 [.sv 1 pb g,.i .i64 num] [] (.cal [] (.s []) [] (.cal [] (.tup [.l0,.b false]) [] (.inl (oc 16 .z)))) (.tup [.l0,.i .i64 0]) [] [] 0 (fun Lf=>Con Tryz.prog 79 [.sv 1 pb g] [] (.s []) []/\Con Tryz.prog 80 [.s []] [] (.tup [.l0,.b false]) []/\rg (36)/\rg (35)/\((36:Int)≠(0:Int)/\(-9223372036854775808:Int)<=(0:Int)/\(0:Int)<=(9223372036854775807:Int))/\True/\Lf):=by unfold VD VQ;kernel_rfl
theorem fn_con (pb:Nat) (g:Nat->Nat->CV) (num:Int) (kjv:Con Tryz.prog 79 [.sv 1 pb g] [] (.s []) []) (kdv:Con Tryz.prog 80 [.s []] [] (.tup [.l0,.b false]) []):Con Tryz.prog 52 [.sv 1 pb g,.i .i64 num] [] (.tup [.l0,.i .i64 0]) []:=by
 exact con_d (fn0_vq (num:=num) (pb:=pb) (g:=g)) (by repeat' first | exact trivial | assumption | exact rfl | exact nT (by assumption) | exact nF (by assumption) | assumption | assumption | apply And.intro | decide)
set_option maxRecDepth 200000
set_option maxHeartbeats 1000000
def fmN (num:Int) (m i:Nat):List Nat:=fN num.toNat ++ fN (ofNat i).toNat ++ fN (ofNat m).toNat
def frN (num:Int) (t:List Nat) (m i:Nat):List Nat:=fmN num m i ++ pcE t i
theorem fmN_len {num:Int} {m i:Nat} (hu:0<=num/\num<128) (hm:m<128) (hi:i<128):(fmN num m i).length=3:=by
 unfold fmN
 rw [List.length_append,List.length_append,fN_len,fN_len,fN_len,show (ofNat i).toNat=i from rfl,show (ofNat m).toNat=m from rfl,wl_one (by omega),wl_one hi,wl_one hm]
theorem frN_len {num:Int} {t:List Nat} {m i:Nat} (hu:0<=num/\num<128) (hm:m<128) (hi:i<128):(frN num t m i).length<=44:=by
 unfold frN
 rw [List.length_append,fmN_len hu hm hi]
 have:=pcE_len t i
 omega
theorem frN_byt {num:Int} {t:List Nat} (hu:0<=num/\num<128) (h:Byt t) {m i:Nat} (hm:m<128) (hi:i<128):Byt (frN num t m i):=by
 have a:Byt (fN num.toNat):=fN_byt (by omega)
 have b:Byt (fN (ofNat i).toNat):=fN_byt (by show i<_;omega)
 have c:Byt (fN (ofNat m).toNat):=fN_byt (by show m<_;omega)
 exact ((a.app b).app c).app (pcE_byt h i)
theorem pieceN_con (num:Int) (t:List Nat) (m i:Nat) (hu:0<=num/\num<128) (hm:m<128) (hi:i<128) (hb:Byt t):Con Tryz.prog 110 [.s (frN num t m i)] [] (.tup [.i .i64 (ofNat m),.s (pcE t i)]) []:=by
 have pb:=pcE_byt hb i
 have fb:=frN_byt hu hb hm hi
 have fl:=frN_len (t:=t) hu hm hi
 have f3:=fmN_len hu hm hi
 have b1:Byt (fN i):=fN_byt (by omega)
 have b2:Byt (fN m):=fN_byt (by omega)
 have e0:frN num t m i=fN num.toNat ++ (fN i ++ (fN m ++ pcE t i)):=by
  show (fN num.toNat ++ fN (ofNat i).toNat ++ fN (ofNat m).toNat) ++ pcE t i= _
  simp only [List.append_assoc];rfl
 have k0:=newRL_con (frN num t m i).length (tB (frN num t m i)) (by omega)
 have m0:=rd_num num.toNat (fN i ++ (fN m ++ pcE t i)) (by omega) (b1.app (b2.app pb))
 have m1:=rd_num i (fN m ++ pcE t i) (by omega) (b2.app pb)
 have m2:=rd_num m (pcE t i) (by omega) pb
 rw [<-e0] at m0
 have ll:(frN num t m i).length=3+(pcE t i).length:=by unfold frN;rw [List.length_append,f3]
 have q:=pce_con (frN num t m i) _ _ _ _ num.toNat _ _ _ _ (ofNat i) (ofNat m) (by omega) (by omega) k0 m0 m1 m2
 have eN:Int.toNat (ofNat (frN num t m i).length-ofNat (pcE t i).length)=3:=by rw [ll];simp only [Int.ofNat_eq_natCast];omega
 rw [eN] at q
 have e3:List.take ((frN num t m i).length-3) (List.drop 3 (frN num t m i))=pcE t i:=by
  have:List.drop 3 (frN num t m i)=pcE t i:=by
   unfold frN
   rw [<-f3,List.drop_left]
  rw [this,ll,Nat.add_sub_cancel_left,List.take_length]
 rw [e3] at q
 exact q
theorem c_lp (num:Int) (t:List Nat) (m:Nat) (hu:0<=num/\num<128) (hm:m=(t.length+35) / 36) (hm2:m<=100):LDoes Tryz.prog (loopAt Tryz.prog 89 0) 34 4 (mkT [(0,.yf 3),(1,.p 1 0),(2,.p 0 0),(4,.i .i64 (ofNat m)),(9,.i .i64 (ofNat m)),(10,.i .i64 0)]) [some (cellsO 3 [.i .i64 num]),some (cellsO 9 [.s t]),some (cellsO 61 [.l0]),some (lpO Tryz.prog 115 0 0 13 [(0,.l0),(1,.fn (.func 89) [] [.p 1 0,.p 0 0]),(2,.p 2 0),(4,.l0),(6,.fn (.func 89) [] [.p 1 0,.p 0 0])])] (.exit 0) (mkT []) [some (cellsO 3 [.i .i64 num]),some (cellsO 9 [.s t]),some (cellsO 61 [.lr 4 1 0 m false]),some (lpO Tryz.prog 115 0 0 13 [(0,.l0),(1,.fn (.func 89) [] [.p 1 0,.p 0 0]),(2,.p 2 0),(4,.l0),(6,.fn (.func 89) [] [.p 1 0,.p 0 0])]),some (.rows 9 1 m (fun j _=>.s (frN num t m j)))]:=by
 have key:=loop_q (P:=Tryz.prog) (c:=loopAt Tryz.prog 89 0) (n:=34) (b:=4) (x:=.exit 0) (l':=[]) (objs':=[some (cellsO 3 [.i .i64 num]),some (cellsO 9 [.s t]),some (cellsO 61 [.lr 4 1 0 m false]),some (lpO Tryz.prog 115 0 0 13 [(0,.l0),(1,.fn (.func 89) [] [.p 1 0,.p 0 0]),(2,.p 2 0),(4,.l0),(6,.fn (.func 89) [] [.p 1 0,.p 0 0])]),some (.rows 9 1 m (fun j _=>.s (frN num t m j)))]) (D:=Nat)
  (fun i:Nat=>([(0,.yf 3),(1,.p 1 0),(2,.p 0 0),(4,.i .i64 (ofNat m)),(9,.i .i64 (ofNat m)),(10,.i .i64 (ofNat i))],[some (cellsO 3 [.i .i64 num]),some (cellsO 9 [.s t]),some (cellsO 61 [.lr 4 1 0 i false]),some (lpO Tryz.prog 115 0 0 13 [(0,.l0),(1,.fn (.func 89) [] [.p 1 0,.p 0 0]),(2,.p 2 0),(4,.l0),(6,.fn (.func 89) [] [.p 1 0,.p 0 0])]),some (.rows 9 1 i (fun j _=>.s (frN num t m j)))])) (fun i=>m-i) (fun i=>i<=m) (fun _=>by simp) ?_ 0 (Nat.zero_le _)
 · refine key.weak (TWL.refl _) ⟨OW.refl _,OW.refl _,OW.cells ⟨.inr ⟨rfl,.inl ⟨4,1,0,false,rfl⟩⟩,trivial⟩,OW.refl _,?_⟩
   intro o ho
   simp at ho;subst ho
   exact ⟨_,rfl,rfl⟩
 intro i hi
 rcases Nat.lt_or_ge i m with hlt | q
 · have h1:decide (ofNat i<ofNat m)=true:=decide_eq_true (by simp;omega)
   have z:=ii0 i
   have zi:ofNat i<=100:=by simp only [Int.ofNat_eq_natCast];omega
   have hl:i*36<=t.length:=by omega
   have hl2:t.length<=100000:=by omega
   have f3:=forms3_con num (ofNat i) (ofNat m) ⟨hu.1,by omega⟩ ⟨z,by omega⟩ ⟨ii0 m,by simp only [Int.ofNat_eq_natCast];omega⟩
   have sl:(0<=ofNat i*36/\(0<=(if ofNat (List.length t)<(ofNat i+1)*36 then ofNat (List.length t) else (ofNat i+1)*36))/\Int.toNat (ofNat i*36)<=Int.toNat (if ofNat (List.length t)<(ofNat i+1)*36 then ofNat (List.length t) else (ofNat i+1)*36)/\Int.toNat (if ofNat (List.length t)<(ofNat i+1)*36 then ofNat (List.length t) else (ofNat i+1)*36)<=List.length t):=by
    simp only [Int.ofNat_eq_natCast]
    refine ⟨by omega,?_,?_,?_⟩<;>split<;>omega
   have ln:(fmN num m i).length+(pcE t i).length<=1073741824:=by
    rw [fmN_len hu (by omega) (by omega)]
    have:=pcE_len t i
    omega
   have r1:rg (ofNat i*36):=⟨by omega,by omega⟩
   have r2:rg (ofNat i+1):=⟨by omega,by omega⟩
   have r3:rg ((ofNat i+1)*36):=⟨by omega,by omega⟩
   refine rd_nrm (cR_lq t num (ofNat i) (ofNat m) (fmN num m i) i (frN num t m) h1) (by
    repeat' first | exact trivial | exact h1 | exact sl | exact ln | exact f3 | exact r1 | exact r2 | exact r3 | apply And.intro | omega | exact rfl) (i+1) hlt (by show m-(i+1)<m-i;omega) rfl (.refl _) ?_
   rw [addN_eq]
   refine ⟨.refl _,.refl _,.refl _,.refl _,.rowsW fun j z hj hz=>.of ?_,trivial⟩
   obtain rfl:z=0:=by omega
   show appZ i (fun j _=>CV.s (frN num t m j)) (listF 1 [CV.s (frN num t m i)] 1) j 0=CV.s (frN num t m j)
   rw [appZ_s (f:=fun j _=>.s (frN num t m j)) (g:=listF 1 [.s (frN num t m i)] 1) (n:=i) (i:=j) (j:=0) (a:=frN num t m j) (b:=frN num t m i) rfl (by rw [show j-i=0 by omega];rfl)]
   split
   · rfl
   · obtain rfl:j=i:=by omega
     rfl
 · obtain rfl:i=m:=Nat.le_antisymm hi q
   have h1:decide (ofNat i<ofNat i)=false:=decide_eq_false (by simp)
   exact rd_out (cE_lq t num (ofNat i) (ofNat i) i (frN num t i) h1) ⟨h1,rfl⟩ rfl rfl (.refl _) (.refl _)
theorem eq_lp (ff XG:Nat->List Nat) (mm pp:Nat) (hp:mm<=pp) (hm:mm<=1000000) (h:∀i,i<mm->XG i=ff i):LDoes Tryz.prog (loopAt Tryz.prog 81 0) 26 1 (mkT [(0,.lr 0 1 0 mm false),(1,.sv 1 pp (fun i _=>.s (ff i))),(12,.i .i64 (ofNat mm)),(13,.i .i64 0)]) [some (.rows 9 1 mm (fun j _=>.s (XG j)))] (.exit 0) (mkT []) [some (.rows 9 1 mm (fun j _=>.s (XG j)))]:=by
 refine loop_q (fun i:Nat=>([(0,.lr 0 1 0 mm false),(1,.sv 1 pp (fun i _=>.s (ff i))),(12,.i .i64 (ofNat mm)),(13,.i .i64 (ofNat i))],[some (.rows 9 1 mm (fun j _=>.s (XG j)))])) (fun i=>mm-i) (fun i=>i<=mm) (fun _=>by simp) ?_ 0 (Nat.zero_le _)
 intro i hi
 rcases Nat.lt_or_ge i mm with hlt | q
 · have h1:decide (ofNat i<ofNat mm)=true:=decide_eq_true (by simp;omega)
   have b1:(0:Int)<=ofNat i/\ofNat i<(↑mm:Int):=⟨by simp,by simp;omega⟩
   have b2:(0:Int)<=ofNat i/\ofNat i<(↑pp:Int):=⟨by simp,by simp;omega⟩
   have ri:rg (ofNat i+1):=⟨by simp<;>omega,by simp<;>omega⟩
   have e:natsEq (XG i) (ff i)=true:=by rw [h i hlt];exact nats_rfl _
   exact rd_nrm (qvR_lq (opened (SS.new 258) 129) ff mm XG i pp h1 e) (by
    repeat' first | exact trivial | exact h1 | exact b1 | exact b2 | exact e | exact nT e | exact ri | apply And.intro | omega | exact rfl) (i+1) hlt (by show mm-(i+1)<mm-i;omega) rfl (.refl _) (.refl _)
 · obtain rfl:i=mm:=Nat.le_antisymm hi q
   have h1:decide (ofNat i<ofNat i)=false:=decide_eq_false (by simp)
   exact rd_out (qvE_lq ff i XG i pp h1) ⟨h1,rfl⟩ rfl rfl (.refl _) (.refl _)
theorem first_con {n:Nat} {B V:Nat->Int} {D:Nat->List Nat} (h:encB n B V D=true) (hb:∀i,i<n->Byt (D i)) (num:Int) (hu:0<=num/\num<128) (nb:Nat) (f:Nat->List Nat) (hnb:nb<=15) (hm:nfr (rcT n B V D)<=nb) (hf:∀i,i<nfr (rcT n B V D)->f i=frN num (rcT n B V D) (nfr (rcT n B V D)) i) :
 Con Tryz.prog 52 [.sv 1 nb (fun i _=>.s (f i)),.i .i64 num] [] (.tup [.lr 0 3 0 n false,.i .i64 (ofNat (nfr (rcT n B V D)))]) [.set (.rows 47 3 n (uF B V D))]:=by
 have hl:=rc_540' h
 have h2:=h
 unfold encB at h2
 rw [Bool.and_eq_true] at h2
 have ok:=mb_ok h2.1 hb
 have by_:=rcT_byt ok
 have de:=decode_con h hb
 have l4:4<=(rcT n B V D).length:=by unfold rcT;rw [slL_len];omega
 generalize ht:rcT n B V D=t at *
 have m1:1<=nfr t:=by unfold nfr;omega
 have jn:=joined_con nb (nfr t) f (fun _=>ofNat (nfr t)) (pcE t) (by omega) m1 hm rfl (fun k hk=>by have:=pcE_len t k;omega) (by
  rw [cat_all]
  intro e
  rw [e] at l4
  exact absurd l4 (by decide)) (fun k hk=>by rw [hf k hk];exact pieceN_con num t (nfr t) k hu (by omega) (by omega) by_)
 rw [cat_all] at jn
 have ct:=td_eq t
 have cl:=c_lp num t (nfr t) hu rfl (by omega)
 have eT:Int.toNat (Int.tdiv (ofNat (List.length t)+36-1) 36)=nfr t:=by rw [ct];rfl
 have el:=eq_lp f (frN num t (nfr t)) (nfr t) (nfr t) (Nat.le_refl _) (by omega) (fun i hi=>(hf i hi).symm)
 have q:=fi_con t n nb (nfr t) B V D f (frN num t (nfr t)) num (by omega) (by omega) (by rw [ct];exact decide_eq_false (by show ¬ofNat nb<ofNat (nfr t);simp only [Int.ofNat_eq_natCast];omega)) (by rw [eT];exact decide_eq_true rfl) jn de (by rw [ct];exact cl) (by rw [eT];exact el)
 rw [ct] at q
 exact q
theorem firstN_con (num:Int) (nb:Nat) (f:Nat->List Nat) (hnb:nb<=15) (hf:0<nb->f 0=[]):Con Tryz.prog 52 [.sv 1 nb (fun i _=>.s (f i)),.i .i64 num] [] (.tup [.l0,.i .i64 0]) []:=by
 refine fn_con nb _ num ?_ (d0_con enc0_con)
 cases nb with
 | zero=>exact jy_con f
 | succ nb=>exact jz_con nb f (by omega) (by rw [hf (by omega)];exact pc0_con)
theorem oq10_vq (c:CS) (s:SS) (ow wr gn:Int) (tb:Nat->List Nat) (n1 m1:Nat) (Bq Vq:Nat->Int) (Dq:Nat->List Nat) (o1:decide (0<=ow)=true) (o2:decide (ow<=2)=true) (o3:decide (0<=wr)=true) (o4:decide (wr<=2)=true) (o5:decide (1<=gn)=true) (o6:decide (gn<=1099511627776)=true) (o7:natsEq (tb 0) []=true) (h1:decide (ofNat m1=0)=false) (h2:decide (15<ofNat m1)=false):VD Tryz.prog 8 [.p 0 0,cfA,.i .i64 ow,.i .i64 wr,.i .i64 gn] [some chO,some nsO,some noO,some s.o,some (r3O c false)] (.c (.inl (.inl (ot 6 (.inl (.inl (ot 5 (.f (.t (.t (.inl (ot 5 (.f (.f (.inl (.cal [0,1,2,3,4] (.tup [.sv 1 16 fun i x=>CV.s (tb i),.i .i64 0]) [.keep,.keep,.keep,.keep,.keep] (.c (.inl (.t (.c (.inl (.inl (.cal [] (.tup [.lr 0 3 0 n1 false,.i .i64 (ofNat m1)]) [.set (AObj.rows 47 3 n1 (uF Bq Vq Dq))] (.f (.inl (.cal [] (.tup [.l0,.i .i64 0]) [] (.c .z))))))))))))))))))))))))))) (.tup [.p 5 0,.l 6 0 1 1 1 false,.i .i64 0]) [.keep,.keep,.keep,.keep,.keep,.set (lgO ow wr gn 1 1 (0+ofNat m1) []),.set (cellsO 39 [.lr 7 3 0 n1 false]),.set (.rows 47 3 n1 (uF Bq Vq Dq))] [9,8,6] 10 (fun Lf=>True/\r4 (decide (0<=ow)=true) (True/\r2 ((!!decide (ow<=2))=true) (r4 (decide (0<=wr)=true) ((!!decide (ow<=2))=true/\True/\(!decide (ow<=2))=false/\r2 ((!!decide (wr<=2))=true) (r4 (decide (1<=gn)=true) ((!!decide (wr<=2))=true/\True/\(!decide (wr<=2))=false/\(!decide (gn<=1099511627776))=false/\rg (16*ow)/\rg ((80:Int)+(16:Int)*ow)/\Con Tryz.prog 26 [.p 0 0,cfA,.i .i64 ((80:Int)+(16:Int)*ow)] [some chO,some nsO,some noO,some (SS.o s),some (r3O c false)] (.tup [.sv 1 16 fun i x=>CV.s (tb i),.i .i64 0]) [.keep,.keep,.keep,.keep,.keep]/\((0:Int)<=(0:Int)/\(0:Int)<(16:Int))/\True/\natsEq (tb 0) []=true/\((0:Int)<=(1:Int)/\True/\1<=16/\16<=16)/\((0:Int)<=(0:Int)/\True/\0<=15/\15<=15)/\rg (1)/\Con Tryz.prog 52 [.sv 1 15 (shiftF 1 fun i x=>CV.s (tb i)),.i .i64 1] [] (.tup [.lr 0 3 0 n1 false,.i .i64 (ofNat m1)]) [.set (AObj.rows 47 3 n1 (uF Bq Vq Dq))]/\decide (ofNat m1=0)=false/\rg (0+ofNat m1)/\((0:Int)<=(0:Int)+ofNat m1/\True/\Int.toNat (0+ofNat m1)<=15/\15<=15)/\rg (2)/\Con Tryz.prog 52 [.sv 1 (15-Int.toNat (0+ofNat m1)) (shiftF (Int.toNat (0+ofNat m1)) (shiftF 1 fun i x=>CV.s (tb i))),.i .i64 2] [] (.tup [.l0,.i .i64 0]) []/\Lf)))))):=by unfold VD VQ;kernel_rfl
theorem oq1_con (c:CS) (s:SS) (ow wr gn:Int) (tb:Nat->List Nat) (n1 m1:Nat) (Bq Vq:Nat->Int) (Dq:Nat->List Nat) (hm1:m1<=15) (o1:decide (0<=ow)=true) (o2:decide (ow<=2)=true) (o3:decide (0<=wr)=true) (o4:decide (wr<=2)=true) (o5:decide (1<=gn)=true) (o6:decide (gn<=1099511627776)=true) (o7:natsEq (tb 0) []=true) (h1:decide (ofNat m1=0)=false) (h2:decide (15<ofNat m1)=false) (kwr:Con Tryz.prog 26 [.p 0 0,cfA,.i .i64 (80+16*ow)] [some chO,some nsO,some noO,some s.o,some (r3O c false)] (.tup [.sv 1 16 (fun i _=>.s (tb i)),.i .i64 0]) [.keep,.keep,.keep,.keep,.keep]) (kc1:Con Tryz.prog 52 [.sv 1 15 (shiftF 1 (fun i _=>.s (tb i))),.i .i64 1] [] (.tup [.lr 0 3 0 n1 false,.i .i64 (ofNat m1)]) [.set (.rows 47 3 n1 (uF Bq Vq Dq))]) (kz:Con Tryz.prog 52 [.sv 1 (15-(Int.toNat (0+ofNat m1))) (shiftF (Int.toNat (0+ofNat m1)) (shiftF 1 (fun i _=>.s (tb i)))),.i .i64 2] [] (.tup [.l0,.i .i64 0]) []):Con Tryz.prog 8 [.p 0 0,cfA,.i .i64 ow,.i .i64 wr,.i .i64 gn] [some chO,some nsO,some noO,some s.o,some (r3O c false)] (.tup [.p 5 0,.l 6 0 1 1 1 false,.i .i64 0]) [.keep,.keep,.keep,.keep,.keep,.set (lgO ow wr gn 1 1 (0+ofNat m1) []),.set (cellsO 39 [.lr 7 3 0 n1 false]),.set (.rows 47 3 n1 (uF Bq Vq Dq))]:=by
 have q1:=of_decide_eq_true o1
 have q2:=of_decide_eq_true o2
 exact con_d (oq10_vq (c:=c) (s:=s) (ow:=ow) (wr:=wr) (gn:=gn) (tb:=tb) (n1:=n1) (m1:=m1) (Bq:=Bq) (Vq:=Vq) (Dq:=Dq) (o1:=o1) (o2:=o2) (o3:=o3) (o4:=o4) (o5:=o5) (o6:=o6) (o7:=o7) (h1:=h1) (h2:=h2)) (by repeat' first | exact trivial | assumption | exact rfl | exact nT (by assumption) | exact nF (by assumption) | assumption | assumption | assumption | exact nnT (by assumption) | exact nnF (by assumption) | exact nT (by assumption) | exact nF (by assumption) | (unfold rg;simp only [Int.ofNat_eq_natCast];omega) | (simp only [Int.ofNat_eq_natCast];omega) | omega | apply And.intro | decide)
theorem oq20_vq (c:CS) (s:SS) (ow wr gn:Int) (tb:Nat->List Nat) (n1 n2 m1 m2:Nat) (Bq Vq:Nat->Int) (Dq:Nat->List Nat) (Br Vr:Nat->Int) (Dr:Nat->List Nat) (o1:decide (0<=ow)=true) (o2:decide (ow<=2)=true) (o3:decide (0<=wr)=true) (o4:decide (wr<=2)=true) (o5:decide (1<=gn)=true) (o6:decide (gn<=1099511627776)=true) (o7:natsEq (tb 0) []=true) (h1:decide (ofNat m1=0)=false) (h2:decide (15<ofNat m1)=false) (h3:decide (ofNat m2=0)=false):VD Tryz.prog 8 [.p 0 0,cfA,.i .i64 ow,.i .i64 wr,.i .i64 gn] [some chO,some nsO,some noO,some s.o,some (r3O c false)] (.c (.inl (.inl (ot 6 (.inl (.inl (ot 5 (.f (.t (.t (.inl (ot 5 (.f (.f (.inl (.cal [0,1,2,3,4] (.tup [.sv 1 16 fun i x=>CV.s (tb i),.i .i64 0]) [.keep,.keep,.keep,.keep,.keep] (.c (.inl (.t (.c (.inl (.inl (.cal [] (.tup [.lr 0 3 0 n1 false,.i .i64 (ofNat m1)]) [.set (AObj.rows 47 3 n1 (uF Bq Vq Dq))] (.f (.inl (.cal [] (.tup [.lr 0 3 0 n2 false,.i .i64 (ofNat m2)]) [.set (AObj.rows 47 3 n2 (uF Br Vr Dr))] (.f (.inl (.cal [] (.tup [.l0,.i .i64 0]) [] (.c .z)))))))))))))))))))))))))))))) (.tup [.p 5 0,.l 6 0 2 2 1 false,.i .i64 0]) [.keep,.keep,.keep,.keep,.keep,.set (lgO ow wr gn 1 2 (0+ofNat m1+ofNat m2) []),.set (cellsO 39 [.lr 7 3 0 n1 false,.lr 8 3 0 n2 false]),.set (.rows 47 3 n1 (uF Bq Vq Dq)),.set (.rows 47 3 n2 (uF Br Vr Dr))] [12,11,6,9] 13 (fun Lf=>True/\r4 (decide (0<=ow)=true) (True/\r2 ((!!decide (ow<=2))=true) (r4 (decide (0<=wr)=true) ((!!decide (ow<=2))=true/\True/\(!decide (ow<=2))=false/\r2 ((!!decide (wr<=2))=true) (r4 (decide (1<=gn)=true) ((!!decide (wr<=2))=true/\True/\(!decide (wr<=2))=false/\(!decide (gn<=1099511627776))=false/\rg (16*ow)/\rg ((80:Int)+(16:Int)*ow)/\Con Tryz.prog 26 [.p 0 0,cfA,.i .i64 ((80:Int)+(16:Int)*ow)] [some chO,some nsO,some noO,some (SS.o s),some (r3O c false)] (.tup [.sv 1 16 fun i x=>CV.s (tb i),.i .i64 0]) [.keep,.keep,.keep,.keep,.keep]/\((0:Int)<=(0:Int)/\(0:Int)<(16:Int))/\True/\natsEq (tb 0) []=true/\((0:Int)<=(1:Int)/\True/\1<=16/\16<=16)/\((0:Int)<=(0:Int)/\True/\0<=15/\15<=15)/\rg (1)/\Con Tryz.prog 52 [.sv 1 15 (shiftF 1 fun i x=>CV.s (tb i)),.i .i64 1] [] (.tup [.lr 0 3 0 n1 false,.i .i64 (ofNat m1)]) [.set (AObj.rows 47 3 n1 (uF Bq Vq Dq))]/\decide (ofNat m1=0)=false/\rg (0+ofNat m1)/\((0:Int)<=(0:Int)+ofNat m1/\True/\Int.toNat (0+ofNat m1)<=15/\15<=15)/\rg (2)/\Con Tryz.prog 52 [.sv 1 (15-Int.toNat (0+ofNat m1)) (shiftF (Int.toNat (0+ofNat m1)) (shiftF 1 fun i x=>CV.s (tb i))),.i .i64 2] [] (.tup [.lr 0 3 0 n2 false,.i .i64 (ofNat m2)]) [.set (AObj.rows 47 3 n2 (uF Br Vr Dr))]/\decide (ofNat m2=0)=false/\rg (0+ofNat m1+ofNat m2)/\((0:Int)<=(0:Int)+ofNat m1+ofNat m2/\True/\Int.toNat (0+ofNat m1+ofNat m2)<=15/\15<=15)/\rg (3)/\Con Tryz.prog 52 [.sv 1 (15-Int.toNat (0+ofNat m1+ofNat m2)) (shiftF (Int.toNat (0+ofNat m1+ofNat m2)) (shiftF 1 fun i x=>CV.s (tb i))),.i .i64 3] [] (.tup [.l0,.i .i64 0]) []/\Lf)))))):=by unfold VD VQ;kernel_rfl
theorem oq2_con (c:CS) (s:SS) (ow wr gn:Int) (tb:Nat->List Nat) (n1 m1:Nat) (Bq Vq:Nat->Int) (Dq:Nat->List Nat) (hm1:m1<=15) (n2 m2:Nat) (Br Vr:Nat->Int) (Dr:Nat->List Nat) (hm2:m1+m2<=15) (o1:decide (0<=ow)=true) (o2:decide (ow<=2)=true) (o3:decide (0<=wr)=true) (o4:decide (wr<=2)=true) (o5:decide (1<=gn)=true) (o6:decide (gn<=1099511627776)=true) (o7:natsEq (tb 0) []=true) (h1:decide (ofNat m1=0)=false) (h2:decide (15<ofNat m1)=false) (h3:decide (ofNat m2=0)=false) (kwr:Con Tryz.prog 26 [.p 0 0,cfA,.i .i64 (80+16*ow)] [some chO,some nsO,some noO,some s.o,some (r3O c false)] (.tup [.sv 1 16 (fun i _=>.s (tb i)),.i .i64 0]) [.keep,.keep,.keep,.keep,.keep]) (kc1:Con Tryz.prog 52 [.sv 1 15 (shiftF 1 (fun i _=>.s (tb i))),.i .i64 1] [] (.tup [.lr 0 3 0 n1 false,.i .i64 (ofNat m1)]) [.set (.rows 47 3 n1 (uF Bq Vq Dq))]) (kc2:Con Tryz.prog 52 [.sv 1 (15-(Int.toNat (0+ofNat m1))) (shiftF (Int.toNat (0+ofNat m1)) (shiftF 1 (fun i _=>.s (tb i)))),.i .i64 2] [] (.tup [.lr 0 3 0 n2 false,.i .i64 (ofNat m2)]) [.set (.rows 47 3 n2 (uF Br Vr Dr))]) (kz:Con Tryz.prog 52 [.sv 1 (15-(Int.toNat (0+ofNat m1+ofNat m2))) (shiftF (Int.toNat (0+ofNat m1+ofNat m2)) (shiftF 1 (fun i _=>.s (tb i)))),.i .i64 3] [] (.tup [.l0,.i .i64 0]) []):Con Tryz.prog 8 [.p 0 0,cfA,.i .i64 ow,.i .i64 wr,.i .i64 gn] [some chO,some nsO,some noO,some s.o,some (r3O c false)] (.tup [.p 5 0,.l 6 0 2 2 1 false,.i .i64 0]) [.keep,.keep,.keep,.keep,.keep,.set (lgO ow wr gn 1 2 (0+ofNat m1+ofNat m2) []),.set (cellsO 39 [.lr 7 3 0 n1 false,.lr 8 3 0 n2 false]),.set (.rows 47 3 n1 (uF Bq Vq Dq)),.set (.rows 47 3 n2 (uF Br Vr Dr))]:=by
 have q1:=of_decide_eq_true o1
 have q2:=of_decide_eq_true o2
 exact con_d (oq20_vq (c:=c) (s:=s) (ow:=ow) (wr:=wr) (gn:=gn) (tb:=tb) (n1:=n1) (n2:=n2) (m1:=m1) (m2:=m2) (Bq:=Bq) (Vq:=Vq) (Dq:=Dq) (Br:=Br) (Vr:=Vr) (Dr:=Dr) (o1:=o1) (o2:=o2) (o3:=o3) (o4:=o4) (o5:=o5) (o6:=o6) (o7:=o7) (h1:=h1) (h2:=h2) (h3:=h3)) (by repeat' first | exact trivial | assumption | exact rfl | exact nT (by assumption) | exact nF (by assumption) | assumption | assumption | assumption | assumption | exact nnT (by assumption) | exact nnF (by assumption) | exact nT (by assumption) | exact nF (by assumption) | (unfold rg;simp only [Int.ofNat_eq_natCast];omega) | (simp only [Int.ofNat_eq_natCast];omega) | omega | apply And.intro | decide)
abbrev x28:Option AObj:=some (cellsO 28 [.i .i64 1,.sv 1 1 (listF 1 [.i .i64 0] 1),.sv 1 1 (listF 1 [.i .i64 1] 1)])
abbrev xR (st:Nat) (ow u0 r0:Int) (rc:List Nat):Option AObj:=some (lpO Tryz.prog 32 0 st 36 [(0,.p 5 0),(1,cfA),(2,.s rc),(3,.p 6 0),(4,.p 7 0),(6,.p 8 0),(7,.p 9 0),(10,.p 5 0),(11,.p 5 0),(12,.p 5 1),(13,.i .i64 ow),(14,.i .i64 (80+16*ow)),(15,.i .i64 (80+16*ow+1)),(16,.p 5 0),(17,.p 5 0),(18,.p 5 6),(19,.i .i64 u0),(20,.i .i64 (80+16*ow+1+u0)),(21,.p 5 0),(22,.i .i64 (1+r0)),(23,.s rc),(24,.fn (.func 89) [] [.p 11 0,.p 10 0])])
theorem hR_lq (c:CS) (s:SS) (cc:CS) (ss:SS) (ow wr gn:Int) (ft:List Nat) (a0 i0 cnt r0 u0:Int) (rc hh:List Nat) (h0:decide (i0<cnt)=true):LD Tryz.prog (loopAt Tryz.prog 89 0) 34 13 [(0,.yf 12),(1,.p 11 0),(2,.p 10 0),(4,.i .i64 cnt),(9,.i .i64 cnt),(10,.i .i64 i0)] [some chO,some nsO,some noO,some s.o,some (r3O c false),some (lgO ow wr gn 1 r0 u0 hh),some (cellsO 31 [.p 5 0]),x28,some (.cells 23 1 [.i .i64 0] .e),some (cellsD 3 [.i .i64 0] [.i .i64 a0]),some (cellsO 3 [.i .i64 (1+r0)]),some (cellsO 9 [.s rc]),(xR 0 ow u0 r0 rc)] (.t (.cal [13] (.s ft) [.keep] (.inl (.cal [0,1,2,3,4] (.i .i64 0) [.keep,.keep,.keep,.set (SS.o ss),.set (r3O cc false)] (oc 2 .z))))) .nrm [0,1,2,3,4,5,6,7,8,9,10,11,12] [(0,.yf 12),(1,.p 11 0),(2,.p 10 0),(4,.i .i64 cnt),(9,.i .i64 cnt),(10,.i .i64 (i0+1))] [some chO,some nsO,some noO,some ss.o,some (r3O cc false),some (lgO ow wr gn 1 r0 u0 hh),some (cellsO 31 [.p 5 0]),x28,some (.cells 23 1 [.i .i64 0] .e),some (cellsD 3 [.i .i64 0] [.i .i64 (a0+1)]),some (cellsO 3 [.i .i64 (1+r0)]),some (cellsO 9 [.s rc]),(xR 0 ow u0 r0 rc)] 15 (fun Lf=>decide (i0<cnt)=true/\rg (i0*36)/\rg (i0+1)/\rg ((i0+1)*36)/\(0<=i0*36/\(0<=if ofNat (List.length rc)<(i0+1)*36 then ofNat (List.length rc) else (i0+1)*36)/\Int.toNat (i0*36)<=Int.toNat (if ofNat (List.length rc)<(i0+1)*36 then ofNat (List.length rc) else (i0+1)*36)/\Int.toNat (if ofNat (List.length rc)<(i0+1)*36 then ofNat (List.length rc) else (i0+1)*36)<=List.length rc)/\Con Tryz.prog 34 [.l 0 0 3 3 1 true] [some (cellsO 3 [.i .i64 (1+r0),.i .i64 i0,.i .i64 cnt])] (.s ft) [.keep]/\List.length ft+List.length (List.take (Int.toNat (if ofNat (List.length rc)<(i0+1)*36 then ofNat (List.length rc) else (i0+1)*36)-Int.toNat (i0*36)) (List.drop (Int.toNat (i0*36)) rc))<=1073741824/\True/\True/\True/\Con Tryz.prog 59 [.p 0 0,cfA,.i .i64 a0,.s (ft ++ List.take (Int.toNat (if ofNat (List.length rc)<(i0+1)*36 then ofNat (List.length rc) else (i0+1)*36)-Int.toNat (i0*36)) (List.drop (Int.toNat (i0*36)) rc)),.i .i64 wr,.i .i64 gn] [some chO,some nsO,some noO,some (SS.o s),some (r3O c false)] (.i .i64 0) [.keep,.keep,.keep,.set (SS.o ss),.set (r3O cc false)]/\rg (a0+1)/\True/\rg (i0+1)/\Lf):=by unfold LD LQ;kernel_rfl
theorem hE_lq (c:CS) (s:SS) (ow wr gn a0 i0 cnt r0 u0:Int) (rc hh:List Nat) (h0:decide (i0<cnt)=false):LD Tryz.prog (loopAt Tryz.prog 89 0) 34 13 [(0,.yf 12),(1,.p 11 0),(2,.p 10 0),(4,.i .i64 cnt),(9,.i .i64 cnt),(10,.i .i64 i0)] [some chO,some nsO,some noO,some s.o,some (r3O c false),some (lgO ow wr gn 1 r0 u0 hh),some (cellsO 31 [.p 5 0]),x28,some (.cells 23 1 [.i .i64 0] .e),some (cellsD 3 [.i .i64 0] [.i .i64 a0]),some (cellsO 3 [.i .i64 (1+r0)]),some (cellsO 9 [.s rc]),(xR 0 ow u0 r0 rc)] (.f .z) (.exit 0) [0,1,2,3,4,5,6,7,8,9,10,11,12] [] [some chO,some nsO,some noO,some s.o,some (r3O c false),some (lgO ow wr gn 1 r0 u0 hh),some (cellsO 31 [.p 5 0]),x28,some (.cells 23 1 [.i .i64 0] .e),some (cellsD 3 [.i .i64 0] [.i .i64 a0]),some (cellsO 3 [.i .i64 (1+r0)]),some (cellsO 9 [.s rc]),(xR 0 ow u0 r0 rc)] 13 (fun Lf=>decide (i0<cnt)=false/\Lf):=by unfold LD LQ;kernel_rfl
theorem hX_lq (c:CS) (s:SS) (cc:CS) (ss:SS) (ow wr gn:Int) (ft:List Nat) (a0 i0 cnt r0 u0:Int) (rc hh:List Nat) (rr:Bool) (h0:decide (i0<cnt)=true):LD Tryz.prog (loopAt Tryz.prog 89 0) 34 13 [(0,.yf 12),(1,.p 11 0),(2,.p 10 0),(4,.i .i64 cnt),(9,.i .i64 cnt),(10,.i .i64 i0)] [some chO,some nsO,some noO,some s.o,some (r3O c false),some (lgO ow wr gn 1 r0 u0 hh),some (cellsO 31 [.p 5 0]),x28,some (.cells 23 1 [.i .i64 0] .e),some (cellsD 3 [.i .i64 0] [.i .i64 a0]),some (cellsO 3 [.i .i64 (1+r0)]),some (cellsO 9 [.s rc]),(xR 0 ow u0 r0 rc)] (.t (.cal [13] (.s ft) [.keep] (.inl (.cal [0,1,2,3,4] (.i .i64 24) [.keep,.keep,.set (cellsO 81 [.p 3 0,.p0]),.set (SS.o ss),.set (r3O cc rr)] (oc 2 .z))))) .ret [0,1,2,3,4,5,6,7,8,9,10,11,12] [] [some chO,some nsO,some (cellsO 81 [.p 3 0,.p0]),some ss.o,some (r3O cc rr),some (lgO ow wr gn 1 r0 u0 hh),some (cellsO 31 [.p 5 0]),x28,some (cellsD 23 [.i .i64 0] [.i .i64 24]),some (cellsD 3 [.i .i64 0] [.i .i64 a0]),some (cellsO 3 [.i .i64 (1+r0)]),some (cellsO 9 [.s rc]),(xR 1 ow u0 r0 rc)] 15 (fun Lf=>decide (i0<cnt)=true/\rg (i0*36)/\rg (i0+1)/\rg ((i0+1)*36)/\(0<=i0*36/\(0<=if ofNat (List.length rc)<(i0+1)*36 then ofNat (List.length rc) else (i0+1)*36)/\Int.toNat (i0*36)<=Int.toNat (if ofNat (List.length rc)<(i0+1)*36 then ofNat (List.length rc) else (i0+1)*36)/\Int.toNat (if ofNat (List.length rc)<(i0+1)*36 then ofNat (List.length rc) else (i0+1)*36)<=List.length rc)/\Con Tryz.prog 34 [.l 0 0 3 3 1 true] [some (cellsO 3 [.i .i64 (1+r0),.i .i64 i0,.i .i64 cnt])] (.s ft) [.keep]/\List.length ft+List.length (List.take (Int.toNat (if ofNat (List.length rc)<(i0+1)*36 then ofNat (List.length rc) else (i0+1)*36)-Int.toNat (i0*36)) (List.drop (Int.toNat (i0*36)) rc))<=1073741824/\True/\True/\True/\Con Tryz.prog 59 [.p 0 0,cfA,.i .i64 a0,.s (ft ++ List.take (Int.toNat (if ofNat (List.length rc)<(i0+1)*36 then ofNat (List.length rc) else (i0+1)*36)-Int.toNat (i0*36)) (List.drop (Int.toNat (i0*36)) rc)),.i .i64 wr,.i .i64 gn] [some chO,some nsO,some noO,some (SS.o s),some (r3O c false)] (.i .i64 24) [.keep,.keep,.set (cellsO 81 [.p 3 0,.p0]),.set (SS.o ss),.set (r3O cc rr)]/\True/\Lf):=by unfold LD LQ;kernel_rfl
theorem apN0_vq (c:CS) (s:SS) (cc:CS) (ss:SS) (ow wr gn r0 u0:Int) (rc:List Nat) (ec aE:Int) (n:Nat) (B V:Nat->Int) (D:Nat->List Nat) (h:decide (ec=0)=true) (h2:decide (15-u0<(Int.tdiv (ofNat (List.length rc)+36-1) 36))=false) (h3:decide (1099511627776<=1+r0)=false):VD Tryz.prog 10 [.p 5 0,cfA,.sv 3 n (uF B V D)] [some chO,some nsO,some noO,some s.o,some (r3O c false),some (lgO ow wr gn 1 r0 u0 [])] (.c (.cal [] (.tup [.s rc,.i .i64 ec]) [] (.f (.inl (oc 8 (.inl (.c (.f (.inl (.c (.f (.inl (.inl (.inl (.c (.inl (.inl (.inl (.lop [0,1,2,3,4,5,7,8,9,10,11,12,13] [0,1,2,4,9,10] 13 (.exit 0) [] [some chO,some nsO,some noO,some (SS.o ss),some (r3O cc false),some (lgO ow wr gn 1 r0 u0 []),some (cellsO 31 [.p 5 0]),x28,some (AObj.cells 23 1 [.i .i64 0] T.e),some (cellsD 3 [.i .i64 0] [.i .i64 aE]),some (cellsO 3 [.i .i64 (1+r0)]),some (cellsO 9 [.s rc]),(xR 0 ow u0 r0 rc)] (.c .z)))))))))))))))))))) (.i .i64 0) [.keep,.keep,.keep,.set ss.o,.set (r3O cc false),.set (lgO ow wr gn 1 (r0+1) (u0+(Int.tdiv (ofNat (List.length rc)+36-1) 36)) [])] [] 14 (fun Lf=>True/\Con Tryz.prog 30 [.sv 3 n (uF B V D)] [] (.tup [.s rc,.i .i64 ec]) []/\(!decide (ec=0))=false/\rg (ofNat (List.length rc)+36)/\rg (ofNat (List.length rc)+(36:Int)-(1:Int))/\((36:Int)≠(0:Int)/\(-9223372036854775808)<=Int.tdiv (ofNat (List.length rc)+(36:Int)-(1:Int)) 36/\Int.tdiv (ofNat (List.length rc)+(36:Int)-(1:Int)) (36:Int)<=(9223372036854775807:Int))/\True/\True/\True/\rg (15-u0)/\decide (15-u0<Int.tdiv (ofNat (List.length rc)+(36:Int)-(1:Int)) 36)=false/\True/\True/\True/\rg (1+r0)/\decide ((1099511627776:Int)<=(1:Int)+r0)=false/\True/\rg (16*ow)/\rg ((80:Int)+(16:Int)*ow)/\rg ((80:Int)+(16:Int)*ow+1)/\True/\rg ((80:Int)+(16:Int)*ow+1+u0)/\True/\True/\True/\rg (1+r0)/\rg (ofNat (List.length rc)+36)/\rg (ofNat (List.length rc)+(36:Int)-(1:Int))/\((36:Int)≠(0:Int)/\(-9223372036854775808)<=Int.tdiv (ofNat (List.length rc)+(36:Int)-(1:Int)) 36/\Int.tdiv (ofNat (List.length rc)+(36:Int)-(1:Int)) (36:Int)<=(9223372036854775807:Int))/\LDoes Tryz.prog (loopAt Tryz.prog 89 0) 34 13 (mkT [(0,AV.yf 12),(1,.p 11 0),(2,.p 10 0),(4,.i .i64 (Int.tdiv (ofNat (List.length rc)+(36:Int)-(1:Int)) 36)),(9,.i .i64 (Int.tdiv (ofNat (List.length rc)+(36:Int)-(1:Int)) 36)),(10,.i .i64 0)]) [some chO,some nsO,some noO,some (SS.o s),some (r3O c false),some (lgO ow wr gn 1 r0 u0 []),some (cellsO 31 [.p 5 0]),x28,some (AObj.cells 23 1 [.i .i64 0] T.e),some (cellsD 3 [.i .i64 0] [.i .i64 ((80:Int)+(16:Int)*ow+1+u0)]),some (cellsO 3 [.i .i64 (1+r0)]),some (cellsO 9 [.s rc]),(xR 0 ow u0 r0 rc)] (.exit 0) (mkT []) [some chO,some nsO,some noO,some (SS.o ss),some (r3O cc false),some (lgO ow wr gn 1 r0 u0 []),some (cellsO 31 [.p 5 0]),x28,some (AObj.cells 23 1 [.i .i64 0] T.e),some (cellsD 3 [.i .i64 0] [.i .i64 aE]),some (cellsO 3 [.i .i64 (1+r0)]),some (cellsO 9 [.s rc]),(xR 0 ow u0 r0 rc)]/\True/\rg (r0+1)/\True/\True/\rg (u0+Int.tdiv (ofNat (List.length rc)+(36:Int)-(1:Int)) 36)/\True/\True/\Lf):=by unfold VD VQ;kernel_rfl
theorem apN_con (n:Nat) (B V:Nat->Int) (D:Nat->List Nat) (c cc:CS) (s ss:SS) (ow wr gn r0 u0:Int) (rc:List Nat) (ec aE:Int) (kenc:Con Tryz.prog 30 [.sv 3 n (uF B V D)] [] (.tup [.s rc,.i .i64 ec]) []) (kln:LDoes Tryz.prog (loopAt Tryz.prog 89 0) 34 13 (mkT [(0,.yf 12),(1,.p 11 0),(2,.p 10 0),(4,.i .i64 (Int.tdiv (ofNat (List.length rc)+36-1) 36)),(9,.i .i64 (Int.tdiv (ofNat (List.length rc)+36-1) 36)),(10,.i .i64 0)]) [some chO,some nsO,some noO,some s.o,some (r3O c false),some (lgO ow wr gn 1 r0 u0 []),some (cellsO 31 [.p 5 0]),x28,some (.cells 23 1 [.i .i64 0] .e),some (cellsD 3 [.i .i64 0] [.i .i64 (80+16*ow+1+u0)]),some (cellsO 3 [.i .i64 (1+r0)]),some (cellsO 9 [.s rc]),(xR 0 ow u0 r0 rc)] (.exit 0) (mkT []) [some chO,some nsO,some noO,some ss.o,some (r3O cc false),some (lgO ow wr gn 1 r0 u0 []),some (cellsO 31 [.p 5 0]),x28,some (.cells 23 1 [.i .i64 0] .e),some (cellsD 3 [.i .i64 0] [.i .i64 aE]),some (cellsO 3 [.i .i64 (1+r0)]),some (cellsO 9 [.s rc]),(xR 0 ow u0 r0 rc)]) (hrc:rc.length<=1000000) (ho:0<=ow/\ow<=2) (hu:0<=u0/\u0<=15) (hr:0<=r0/\r0<=1000) (h:decide (ec=0)=true) (h2:decide (15-u0<(Int.tdiv (ofNat (List.length rc)+36-1) 36))=false) (h3:decide (1099511627776<=1+r0)=false):Con Tryz.prog 10 [.p 5 0,cfA,.sv 3 n (uF B V D)] [some chO,some nsO,some noO,some s.o,some (r3O c false),some (lgO ow wr gn 1 r0 u0 [])] (.i .i64 0) [.keep,.keep,.keep,.set ss.o,.set (r3O cc false),.set (lgO ow wr gn 1 (r0+1) (u0+(Int.tdiv (ofNat (List.length rc)+36-1) 36)) [])]:=by
 have hz:0<=Int.tdiv (ofNat (List.length rc)+36-1) 36/\Int.tdiv (ofNat (List.length rc)+36-1) 36<=1000036:=td_bd hrc
 exact con_d (apN0_vq (c:=c) (s:=s) (cc:=cc) (ss:=ss) (ow:=ow) (wr:=wr) (gn:=gn) (r0:=r0) (u0:=u0) (rc:=rc) (ec:=ec) (aE:=aE) (n:=n) (B:=B) (V:=V) (D:=D) (h:=h) (h2:=h2) (h3:=h3)) (by repeat' first | exact trivial | assumption | exact rfl | exact nT (by assumption) | exact nF (by assumption) | assumption | assumption | exact nnT (by assumption) | exact nnF (by assumption) | exact nT (by assumption) | exact nF (by assumption) | (unfold rg;simp;omega) | (unfold rg;omega) | (simp;omega) | omega | apply And.intro | decide)
theorem apS0_vq (c:CS) (s:SS) (cc:CS) (ss:SS) (ow wr gn r0 u0:Int) (rc:List Nat) (ec aE:Int) (n:Nat) (B V:Nat->Int) (D:Nat->List Nat) (g1:natsEq rc []=false) (g2:natsEq rc rc=true) (h:decide (ec=0)=true) (h2:decide (15-u0<(Int.tdiv (ofNat (List.length rc)+36-1) 36))=false) (h3:decide (1099511627776<=1+r0)=false):VD Tryz.prog 10 [.p 5 0,cfA,.sv 3 n (uF B V D)] [some chO,some nsO,some noO,some s.o,some (r3O c false),some (lgO ow wr gn 1 r0 u0 rc)] (.c (.cal [] (.tup [.s rc,.i .i64 ec]) [] (.f (.inl (ot 7 (.f (.inl (.c (.f (.inl (.c (.f (.inl (.inl (.inl (.c (.inl (.inl (.inl (.lop [0,1,2,3,4,5,7,8,9,10,11,12,13] [0,1,2,4,9,10] 13 (.exit 0) [] [some chO,some nsO,some noO,some (SS.o ss),some (r3O cc false),some (lgO ow wr gn 1 r0 u0 rc),some (cellsO 31 [.p 5 0]),x28,some (AObj.cells 23 1 [.i .i64 0] T.e),some (cellsD 3 [.i .i64 0] [.i .i64 aE]),some (cellsO 3 [.i .i64 (1+r0)]),some (cellsO 9 [.s rc]),(xR 0 ow u0 r0 rc)] (.c .z))))))))))))))))))))) (.i .i64 0) [.keep,.keep,.keep,.set ss.o,.set (r3O cc false),.set (lgO ow wr gn 1 (r0+1) (u0+(Int.tdiv (ofNat (List.length rc)+36-1) 36)) [])] [] 14 (fun Lf=>True/\Con Tryz.prog 30 [.sv 3 n (uF B V D)] [] (.tup [.s rc,.i .i64 ec]) []/\(!decide (ec=0))=false/\rg (ofNat (List.length rc)+36)/\rg (ofNat (List.length rc)+(36:Int)-(1:Int))/\((36:Int)≠(0:Int)/\(-9223372036854775808)<=Int.tdiv (ofNat (List.length rc)+(36:Int)-(1:Int)) 36/\Int.tdiv (ofNat (List.length rc)+(36:Int)-(1:Int)) (36:Int)<=(9223372036854775807:Int))/\True/\r3 ((!natsEq rc [])=true) (True/\r4 ((!natsEq rc [])=true) ((!natsEq rc rc)=false/\True/\True/\rg (15-u0)/\decide (15-u0<Int.tdiv (ofNat (List.length rc)+(36:Int)-(1:Int)) 36)=false/\True/\True/\True/\rg (1+r0)/\decide ((1099511627776:Int)<=(1:Int)+r0)=false/\True/\rg (16*ow)/\rg ((80:Int)+(16:Int)*ow)/\rg ((80:Int)+(16:Int)*ow+1)/\True/\rg ((80:Int)+(16:Int)*ow+1+u0)/\True/\True/\True/\rg (1+r0)/\rg (ofNat (List.length rc)+36)/\rg (ofNat (List.length rc)+(36:Int)-(1:Int))/\((36:Int)≠(0:Int)/\(-9223372036854775808)<=Int.tdiv (ofNat (List.length rc)+(36:Int)-(1:Int)) 36/\Int.tdiv (ofNat (List.length rc)+(36:Int)-(1:Int)) (36:Int)<=(9223372036854775807:Int))/\LDoes Tryz.prog (loopAt Tryz.prog 89 0) 34 13 (mkT [(0,AV.yf 12),(1,.p 11 0),(2,.p 10 0),(4,.i .i64 (Int.tdiv (ofNat (List.length rc)+(36:Int)-(1:Int)) 36)),(9,.i .i64 (Int.tdiv (ofNat (List.length rc)+(36:Int)-(1:Int)) 36)),(10,.i .i64 0)]) [some chO,some nsO,some noO,some (SS.o s),some (r3O c false),some (lgO ow wr gn 1 r0 u0 rc),some (cellsO 31 [.p 5 0]),x28,some (AObj.cells 23 1 [.i .i64 0] T.e),some (cellsD 3 [.i .i64 0] [.i .i64 ((80:Int)+(16:Int)*ow+1+u0)]),some (cellsO 3 [.i .i64 (1+r0)]),some (cellsO 9 [.s rc]),(xR 0 ow u0 r0 rc)] (.exit 0) (mkT []) [some chO,some nsO,some noO,some (SS.o ss),some (r3O cc false),some (lgO ow wr gn 1 r0 u0 rc),some (cellsO 31 [.p 5 0]),x28,some (AObj.cells 23 1 [.i .i64 0] T.e),some (cellsD 3 [.i .i64 0] [.i .i64 aE]),some (cellsO 3 [.i .i64 (1+r0)]),some (cellsO 9 [.s rc]),(xR 0 ow u0 r0 rc)]/\True/\rg (r0+1)/\True/\True/\rg (u0+Int.tdiv (ofNat (List.length rc)+(36:Int)-(1:Int)) 36)/\True/\True/\Lf))):=by unfold VD VQ;kernel_rfl
theorem apS_con (n:Nat) (B V:Nat->Int) (D:Nat->List Nat) (c cc:CS) (s ss:SS) (ow wr gn r0 u0:Int) (rc:List Nat) (ec aE:Int) (kenc:Con Tryz.prog 30 [.sv 3 n (uF B V D)] [] (.tup [.s rc,.i .i64 ec]) []) (kls:LDoes Tryz.prog (loopAt Tryz.prog 89 0) 34 13 (mkT [(0,.yf 12),(1,.p 11 0),(2,.p 10 0),(4,.i .i64 (Int.tdiv (ofNat (List.length rc)+36-1) 36)),(9,.i .i64 (Int.tdiv (ofNat (List.length rc)+36-1) 36)),(10,.i .i64 0)]) [some chO,some nsO,some noO,some s.o,some (r3O c false),some (lgO ow wr gn 1 r0 u0 rc),some (cellsO 31 [.p 5 0]),x28,some (.cells 23 1 [.i .i64 0] .e),some (cellsD 3 [.i .i64 0] [.i .i64 (80+16*ow+1+u0)]),some (cellsO 3 [.i .i64 (1+r0)]),some (cellsO 9 [.s rc]),(xR 0 ow u0 r0 rc)] (.exit 0) (mkT []) [some chO,some nsO,some noO,some ss.o,some (r3O cc false),some (lgO ow wr gn 1 r0 u0 rc),some (cellsO 31 [.p 5 0]),x28,some (.cells 23 1 [.i .i64 0] .e),some (cellsD 3 [.i .i64 0] [.i .i64 aE]),some (cellsO 3 [.i .i64 (1+r0)]),some (cellsO 9 [.s rc]),(xR 0 ow u0 r0 rc)]) (hrc:rc.length<=1000000) (ho:0<=ow/\ow<=2) (hu:0<=u0/\u0<=15) (hr:0<=r0/\r0<=1000) (g1:natsEq rc []=false) (g2:natsEq rc rc=true) (h:decide (ec=0)=true) (h2:decide (15-u0<(Int.tdiv (ofNat (List.length rc)+36-1) 36))=false) (h3:decide (1099511627776<=1+r0)=false):Con Tryz.prog 10 [.p 5 0,cfA,.sv 3 n (uF B V D)] [some chO,some nsO,some noO,some s.o,some (r3O c false),some (lgO ow wr gn 1 r0 u0 rc)] (.i .i64 0) [.keep,.keep,.keep,.set ss.o,.set (r3O cc false),.set (lgO ow wr gn 1 (r0+1) (u0+(Int.tdiv (ofNat (List.length rc)+36-1) 36)) [])]:=by
 have hz:0<=Int.tdiv (ofNat (List.length rc)+36-1) 36/\Int.tdiv (ofNat (List.length rc)+36-1) 36<=1000036:=td_bd hrc
 exact con_d (apS0_vq (c:=c) (s:=s) (cc:=cc) (ss:=ss) (ow:=ow) (wr:=wr) (gn:=gn) (r0:=r0) (u0:=u0) (rc:=rc) (ec:=ec) (aE:=aE) (n:=n) (B:=B) (V:=V) (D:=D) (g1:=g1) (g2:=g2) (h:=h) (h2:=h2) (h3:=h3)) (by repeat' first | exact trivial | assumption | exact rfl | exact nT (by assumption) | exact nF (by assumption) | assumption | assumption | exact nnT (by assumption) | exact nnF (by assumption) | exact nT (by assumption) | exact nF (by assumption) | (unfold rg;simp;omega) | (unfold rg;omega) | (simp;omega) | omega | apply And.intro | decide)
theorem apF0_vq (c:CS) (s:SS) (cc:CS) (ss:SS) (ow wr gn r0 u0:Int) (rc:List Nat) (ec aE:Int) (rr:Bool) (n:Nat) (B V:Nat->Int) (D:Nat->List Nat) (h:decide (ec=0)=true) (h2:decide (15-u0<(Int.tdiv (ofNat (List.length rc)+36-1) 36))=false) (h3:decide (1099511627776<=1+r0)=false):VD Tryz.prog 10 [.p 5 0,cfA,.sv 3 n (uF B V D)] [some chO,some nsO,some noO,some s.o,some (r3O c false),some (lgO ow wr gn 1 r0 u0 [])] (.c (.cal [] (.tup [.s rc,.i .i64 ec]) [] (.f (.inl (oc 8 (.inl (.c (.f (.inl (.c (.f (.inl (.inl (.inl (.c (.inl (.inl (.inl (.lop [0,1,2,3,4,5,7,8,9,10,11,12,13] [0,1,2,4,9,10] 13 .ret [] [some chO,some nsO,some (cellsO 81 [.p 3 0,.p0]),some (SS.o ss),some (r3O cc rr),some (lgO ow wr gn 1 r0 u0 []),some (cellsO 31 [.p 5 0]),x28,some (cellsD 23 [.i .i64 0] [.i .i64 24]),some (cellsD 3 [.i .i64 0] [.i .i64 aE]),some (cellsO 3 [.i .i64 (1+r0)]),some (cellsO 9 [.s rc]),(xR 1 ow u0 r0 rc)] (.c .z)))))))))))))))))))) (.i .i64 24) [.keep,.keep,.set (cellsO 81 [.p 3 0,.p0]),.set ss.o,.set (r3O cc rr),.set (lgO ow wr gn 1 r0 u0 rc)] [] 14 (fun Lf=>True/\Con Tryz.prog 30 [.sv 3 n (uF B V D)] [] (.tup [.s rc,.i .i64 ec]) []/\(!decide (ec=0))=false/\rg (ofNat (List.length rc)+36)/\rg (ofNat (List.length rc)+(36:Int)-(1:Int))/\((36:Int)≠(0:Int)/\(-9223372036854775808)<=Int.tdiv (ofNat (List.length rc)+(36:Int)-(1:Int)) 36/\Int.tdiv (ofNat (List.length rc)+(36:Int)-(1:Int)) (36:Int)<=(9223372036854775807:Int))/\True/\True/\True/\rg (15-u0)/\decide (15-u0<Int.tdiv (ofNat (List.length rc)+(36:Int)-(1:Int)) 36)=false/\True/\True/\True/\rg (1+r0)/\decide ((1099511627776:Int)<=(1:Int)+r0)=false/\True/\rg (16*ow)/\rg ((80:Int)+(16:Int)*ow)/\rg ((80:Int)+(16:Int)*ow+1)/\True/\rg ((80:Int)+(16:Int)*ow+1+u0)/\True/\True/\True/\rg (1+r0)/\rg (ofNat (List.length rc)+36)/\rg (ofNat (List.length rc)+(36:Int)-(1:Int))/\((36:Int)≠(0:Int)/\(-9223372036854775808)<=Int.tdiv (ofNat (List.length rc)+(36:Int)-(1:Int)) 36/\Int.tdiv (ofNat (List.length rc)+(36:Int)-(1:Int)) (36:Int)<=(9223372036854775807:Int))/\LDoes Tryz.prog (loopAt Tryz.prog 89 0) 34 13 (mkT [(0,AV.yf 12),(1,.p 11 0),(2,.p 10 0),(4,.i .i64 (Int.tdiv (ofNat (List.length rc)+(36:Int)-(1:Int)) 36)),(9,.i .i64 (Int.tdiv (ofNat (List.length rc)+(36:Int)-(1:Int)) 36)),(10,.i .i64 0)]) [some chO,some nsO,some noO,some (SS.o s),some (r3O c false),some (lgO ow wr gn 1 r0 u0 []),some (cellsO 31 [.p 5 0]),x28,some (AObj.cells 23 1 [.i .i64 0] T.e),some (cellsD 3 [.i .i64 0] [.i .i64 ((80:Int)+(16:Int)*ow+1+u0)]),some (cellsO 3 [.i .i64 (1+r0)]),some (cellsO 9 [.s rc]),(xR 0 ow u0 r0 rc)] .ret (mkT []) [some chO,some nsO,some (cellsO 81 [.p 3 0,.p0]),some (SS.o ss),some (r3O cc rr),some (lgO ow wr gn 1 r0 u0 []),some (cellsO 31 [.p 5 0]),x28,some (cellsD 23 [.i .i64 0] [.i .i64 24]),some (cellsD 3 [.i .i64 0] [.i .i64 aE]),some (cellsO 3 [.i .i64 (1+r0)]),some (cellsO 9 [.s rc]),(xR 1 ow u0 r0 rc)]/\True/\Lf):=by unfold VD VQ;kernel_rfl
theorem apF_con (n:Nat) (B V:Nat->Int) (D:Nat->List Nat) (c cc:CS) (s ss:SS) (ow wr gn r0 u0:Int) (rc:List Nat) (ec aE:Int) (rr:Bool) (kenc:Con Tryz.prog 30 [.sv 3 n (uF B V D)] [] (.tup [.s rc,.i .i64 ec]) []) (klq:LDoes Tryz.prog (loopAt Tryz.prog 89 0) 34 13 (mkT [(0,.yf 12),(1,.p 11 0),(2,.p 10 0),(4,.i .i64 (Int.tdiv (ofNat (List.length rc)+36-1) 36)),(9,.i .i64 (Int.tdiv (ofNat (List.length rc)+36-1) 36)),(10,.i .i64 0)]) [some chO,some nsO,some noO,some s.o,some (r3O c false),some (lgO ow wr gn 1 r0 u0 []),some (cellsO 31 [.p 5 0]),x28,some (.cells 23 1 [.i .i64 0] .e),some (cellsD 3 [.i .i64 0] [.i .i64 (80+16*ow+1+u0)]),some (cellsO 3 [.i .i64 (1+r0)]),some (cellsO 9 [.s rc]),(xR 0 ow u0 r0 rc)] .ret (mkT []) [some chO,some nsO,some (cellsO 81 [.p 3 0,.p0]),some ss.o,some (r3O cc rr),some (lgO ow wr gn 1 r0 u0 []),some (cellsO 31 [.p 5 0]),x28,some (cellsD 23 [.i .i64 0] [.i .i64 24]),some (cellsD 3 [.i .i64 0] [.i .i64 aE]),some (cellsO 3 [.i .i64 (1+r0)]),some (cellsO 9 [.s rc]),(xR 1 ow u0 r0 rc)]) (hrc:rc.length<=1000000) (ho:0<=ow/\ow<=2) (hu:0<=u0/\u0<=15) (hr:0<=r0/\r0<=1000) (h:decide (ec=0)=true) (h2:decide (15-u0<(Int.tdiv (ofNat (List.length rc)+36-1) 36))=false) (h3:decide (1099511627776<=1+r0)=false):Con Tryz.prog 10 [.p 5 0,cfA,.sv 3 n (uF B V D)] [some chO,some nsO,some noO,some s.o,some (r3O c false),some (lgO ow wr gn 1 r0 u0 [])] (.i .i64 24) [.keep,.keep,.set (cellsO 81 [.p 3 0,.p0]),.set ss.o,.set (r3O cc rr),.set (lgO ow wr gn 1 r0 u0 rc)]:=by
 have hz:0<=Int.tdiv (ofNat (List.length rc)+36-1) 36/\Int.tdiv (ofNat (List.length rc)+36-1) 36<=1000036:=td_bd hrc
 exact con_d (apF0_vq (c:=c) (s:=s) (cc:=cc) (ss:=ss) (ow:=ow) (wr:=wr) (gn:=gn) (r0:=r0) (u0:=u0) (rc:=rc) (ec:=ec) (aE:=aE) (rr:=rr) (n:=n) (B:=B) (V:=V) (D:=D) (h:=h) (h2:=h2) (h3:=h3)) (by repeat' first | exact trivial | assumption | exact rfl | exact nT (by assumption) | exact nF (by assumption) | assumption | assumption | exact nnT (by assumption) | exact nnF (by assumption) | exact nT (by assumption) | exact nF (by assumption) | (unfold rg;simp;omega) | (unfold rg;omega) | (simp;omega) | omega | apply And.intro | decide)
theorem arc0_vq (c:CS) (s ss:SS) (kk:Int):VD Tryz.prog 19 [.p 0 0,.i .i64 0,.i .i64 kk] [some chO,some nsO,some noO,some s.o,some (r3O c false)] (.inl (.c (.inl (oc 7 (.cal [3] (.tup []) [.set (SS.o ss)] .z))))) (.i .i64 0) [.keep,.keep,.keep,.set ss.o,.keep] [] 5 (fun Lf=>True/\True/\rg (0)/\True/\True/\True/\Con Tryz.prog 38 [.p 0 0,.i .i64 kk] [some (SS.o s)] (.tup []) [.set (SS.o ss)]/\Lf):=by unfold VD VQ;kernel_rfl
theorem arc_con (c:CS) (s ss:SS) (kk:Int) (karm:Con Tryz.prog 38 [.p 0 0,.i .i64 kk] [some s.o] (.tup []) [.set ss.o]):Con Tryz.prog 19 [.p 0 0,.i .i64 0,.i .i64 kk] [some chO,some nsO,some noO,some s.o,some (r3O c false)] (.i .i64 0) [.keep,.keep,.keep,.set ss.o,.keep]:=by
 exact con_d (arc0_vq (c:=c) (s:=s) (ss:=ss) (kk:=kk)) (by repeat' first | exact trivial | assumption | exact rfl | exact nT (by assumption) | exact nF (by assumption) | assumption | exact nnT (by assumption) | exact nnF (by assumption) | omega | apply And.intro | decide)
theorem rvc0_vq (s:SS) (cc:CS) (sf sr:SS):VD Tryz.prog 20 [.p 0 0,.i .i64 0,.i .i64 0,.b false] [some chO,some nsO,some (cellsO 81 [.p 3 0,.p0]),some s.o] (.inl (.c (.inl (oc 7 (.inl (.c (.inl (.cal [3] (.tup []) [.set (SS.o sf)] (.inl (.inl (oc 2 (.inl (.cal [3] (.i .i64 0) [.set (SS.o sr)] (.c (.inl (oc 2 (.inl (.cal [3] (.tup [.p 1 0,.i .i64 0]) [.keep,.set (CS.roa cc false)] (.c (.inl (.c .z))))))))))))))))))))) (.i .i64 0) [.keep,.keep,.set noO,.set sr.o,.set (r3O cc false)] [8] 9 (fun Lf=>True/\True/\rg (0)/\True/\True/\True/\True/\True/\Con Tryz.prog 62 [.p 0 0] [some (SS.o s)] (.tup []) [.set (SS.o sf)]/\True/\Con Tryz.prog 64 [.p 0 0,.i .i64 0,.b false] [some (SS.o sf)] (.i .i64 0) [.set (SS.o sr)]/\rg (1)/\True/\Con Tryz.prog 65 [.p 0 0] [some (SS.o sr)] (.tup [.p 1 0,.i .i64 0]) [.keep,.set (CS.roa cc false)]/\True/\rg (2)/\Lf):=by unfold VD VQ;kernel_rfl
theorem rvc_con (cc:CS) (s sf sr:SS) (kfai:Con Tryz.prog 62 [.p 0 0] [some s.o] (.tup []) [.set sf.o]) (krev:Con Tryz.prog 64 [.p 0 0,.i .i64 0,.b false] [some sf.o] (.i .i64 0) [.set sr.o]) (kopn:Con Tryz.prog 65 [.p 0 0] [some sr.o] (.tup [.p 1 0,.i .i64 0]) [.keep,.set (cc.roa false)]):Con Tryz.prog 20 [.p 0 0,.i .i64 0,.i .i64 0,.b false] [some chO,some nsO,some (cellsO 81 [.p 3 0,.p0]),some s.o] (.i .i64 0) [.keep,.keep,.set noO,.set sr.o,.set (r3O cc false)]:=by
 exact con_d (rvc0_vq (s:=s) (cc:=cc) (sf:=sf) (sr:=sr)) (by repeat' first | exact trivial | assumption | exact rfl | exact nT (by assumption) | exact nF (by assumption) | assumption | assumption | assumption | exact nnT (by assumption) | exact nnF (by assumption) | omega | apply And.intro | decide)
theorem rvb0_vq (c:CS) (s:SS):VD Tryz.prog 20 [.p 0 0,.i .i64 0,.i .i64 0,.b false] [some chO,some nsO,some noO,some s.o,some (r3O c false)] (.inl (.c (.inl (oc 7 (.inl (.c .z)))))) (.i .i64 26) [.keep,.keep,.keep,.keep,.keep] [] 5 (fun Lf=>True/\True/\rg (0)/\True/\True/\True/\True/\Lf):=by unfold VD VQ;kernel_rfl
theorem rvb_con (c:CS) (s:SS):Con Tryz.prog 20 [.p 0 0,.i .i64 0,.i .i64 0,.b false] [some chO,some nsO,some noO,some s.o,some (r3O c false)] (.i .i64 26) [.keep,.keep,.keep,.keep,.keep]:=by
 exact con_d (rvb0_vq (c:=c) (s:=s)) (by repeat' first | exact trivial | assumption | exact rfl | exact nT (by assumption) | exact nF (by assumption) | exact nnT (by assumption) | exact nnF (by assumption) | omega | apply And.intro | decide)
theorem wr0 {s:SS} (ho:s.off=false) (ha:s.armed=true) (hl:s.left=0) (a:Int) (L:Nat) (bs:Nat->Int):s.wrE a L≠0/\((s.wrS a L bs).off=true->(s.wrS a L bs).armed=false):=by
 unfold SS.wrE SS.wrS
 rw [ho]
 cases decide (0<=a/\a<ofNat s.n/\L=64) with
 | false=>exact ⟨show (2:Int)≠0 by decide,fun h=>by rw [show s.off=true from h] at ho;cases ho⟩
 | true=>
   constructor
   · show (s.wrote a.toNat fun _=>0).payE≠0
     unfold SS.payE
     rw [show (s.wrote a.toNat fun _=>0).armed=true from ha,show (s.wrote a.toNat fun _=>0).left=0 from hl]
     decide
   · intro _
     show ((s.wrote a.toNat bs).pay).armed=false
     unfold SS.pay
     rw [show (s.wrote a.toNat bs).armed=true from ha,show (s.wrote a.toNat bs).left=0 from hl]
theorem put0 {c:CS} {s:SS} (ho:s.off=false) (ha:s.armed=true) (hl:s.left=0) (i:Int) (x:List Nat):c.putE s i x≠0/\((c.putS s i x).off=true->(c.putS s i x).armed=false):=by
 unfold CS.putE CS.putS
 cases hn:decide (c.no i x=0) with
 | false=>exact ⟨of_decide_eq_false hn,fun h=>by rw [show s.off=true from h] at ho;cases ho⟩
 | true=>
   have w:=fun bs=>wr0 ho ha hl (c.at_ i) 64 bs
   have f:=decide_eq_false (w (fun _=>0)).1
   have e:cmE s (c.at_ i) (c.nx i) x=s.wrE (c.at_ i) 64:=by unfold cmE;rw [f]
   have e2:cmS s (c.at_ i) (c.nx i) x=Go.Proofs.Cl.wrote s (c.at_ i) (c.nx i) x:=by unfold cmS;rw [f]
   show (match decide (cmE s (c.at_ i) (c.nx i) x=0) with | true=>(0:Int) | false=>13)≠0/\((cmS s (c.at_ i) (c.nx i) x).off=true->(cmS s (c.at_ i) (c.nx i) x).armed=false)
   rw [e,f,e2]
   exact ⟨by decide,(w _).2⟩
theorem rev_armed (s:SS) (kk:Int):(s.revived kk false).armed=s.armed:=by
 unfold SS.revived
 cases s.off with
 | false=>rfl
 | true=>rfl
theorem fail_eq {s:SS} (h1:s.off=true) (h2:s.armed=false):s.fail=s:=by
 obtain ⟨n,dur,torn,P,wr,off,armed,left⟩:=s
 cases h1;cases h2;rfl
theorem LV.down {k:Nat} {c:CS} {s:SS} (h:LV k c s) (hk:k<990) (b:Nat) (hb:b<128) (d:List Nat) (hd:∀y∈d,y<256) (hl:d.length<=44) (hq:blkQ (c.d b)<1099511627776) (v g:Int) (hv:0<=v/\v<=2) (hg:1<=g/\g<=1099511627776) :
 ∃(C:CS) (S S2:SS),Con Tryz.prog 59 [.p 0 0,cfA,.i .i64 (ofNat b),.s d,.i .i64 v,.i .i64 g] (obL c (s.arm 0)) (.i .i64 24) [.keep,.keep,.set (cellsO 81 [.p 3 0,.p0]),.set S.o,.set (r3O C true)]/\
  Con Tryz.prog 20 [.p 0 0,.i .i64 0,.i .i64 0,.b false] [some chO,some nsO,some (cellsO 81 [.p 3 0,.p0]),some S.o] (.i .i64 0) [.keep,.keep,.set noO,.set S2.o,.set (r3O (opened S2 129) false)]/\
  LV (k+2) (opened S2 129) S2/\(∀j,j<128->j≠b->(opened S2 129).d j=c.d j)/\((opened S2 129).d b=c.d b\/(opened S2 129).d b=btx (blkQ (c.d b)+1) d):=by
 have hkk:=h.L.R.hk
 have qb:=bq_at h b hb
 have A:=h.L.R.arm (by omega:k<1001) (i:=0) (by decide)
 have hm:mayA (ofNat b) (ofNat (blkQ (c.d b))+1) d v g=true:=by
  unfold mayA
  simp only [Bool.and_eq_true]
  exact ⟨decide_eq_true (by simp),decide_eq_true (by simp;omega),decide_eq_true (by simp;omega),decide_eq_true (by simp;omega),decide_eq_true (by simp;omega),decide_eq_true hv.1,decide_eq_true hv.2,decide_eq_true hg.1,decide_eq_true hg.2⟩
 have hf:decide (g<fnc c v)=false:=by
  obtain ⟨_,_,e2,e3,e4⟩:=h.mv5
  rw [fnc_at c hv]
  refine decide_eq_false ?_
  have:v.toNat=0\/v.toNat=1\/v.toNat=2:=by omega
  rcases this with e | e | e<;>rw [e]<;>simp only [e2,e3,e4,Nat.add_zero,show 2+1=3 from rfl,show 2+2=4 from rfl]<;>simp<;>omega
 have w:=apW (c:=c) (b:=ofNat b) (x:=ofNat (blkQ (c.d b))+1) (d:=d) hm hf (by rw [qb.1];omega)
 have a:=apply_con A.inv h.L.T (by omega) false (ofNat b) (ofNat (blkQ (c.d b))+1) d v g hd
 rw [w] at a
 have tn:(ofNat (blkQ (c.d b))+1).toNat=blkQ (c.d b)+1:=by simp<;>omega
 rw [tn] at a
 have xb:∀y∈btx (blkQ (c.d b)+1) d,y<256:=btx_lt (by omega) hd
 have xl:(btx (blkQ (c.d b)+1) d).length<=51:=btx_len (by omega) hl
 generalize hx:btx (blkQ (c.d b)+1) d=x at *
 obtain ⟨e1,e2,e3,e4⟩:=act_yes c false (s.arm 0) (ofNat b) x
 have p0:=put0 (c:=c) (s:=s.arm 0) h.L.R.off rfl rfl (ofNat b) x
 rcases A.put (by omega) (ofNat b) x xb with ⟨p1,_,_⟩ | ⟨_,p1,_⟩ | ⟨p1,p2,p3,p4⟩
 · exfalso
   have hk2:c.q (ofNat b).toNat<=k+1:=A.q b (by omega)
   rcases put_or A.inv A.dead A.off A.P (i:=ofNat b) ⟨by simp,by rw [h.L.R.n];simp;omega⟩ xl (by omega) xb with ⟨e1,_⟩ | ⟨e1,_⟩<;>rw [e1] at p1<;>cases p1
 · exact absurd p1 p0.1
 · have ar:=p0.2 p2
   obtain ⟨r1,r2⟩:=p4 0 false
   have fe:=fail_eq p2 ar
   have nA:=A.inv.put (ofNat b) x xb
   unfold Go.Proofs.Cl.Act at a
   rw [e1,e2,e3,e4,p1] at a
   generalize hS:c.putS (s.arm 0) (ofNat b) x=S at *
   have rev:=revive_con S 0 false (by have:=p3.P;omega) (fun q hq=>by have:=p3.at_ q hq;have:=p3.n;omega)
   rw [show S.revE=0 by unfold SS.revE;rw [p2];rfl] at rev
   have op:=ropen_con (S.revived 0 false) (Nat.le_of_eq r1.sn.symm) (by rw [r1.sn];decide) r1.off r1.inv.byt
   have kad:Con Tryz.prog 46 [.p 0 0,.i .i64 1] [some (c.ro false),some (s.arm 0).o] (.i .i64 0) [.keep,.keep]:=by
    have a:=adoptI_con A.inv h.L.T (by omega) false 1
    have w:adoptI c false 1=0:=by
     unfold adoptI adoptW
     rw [show (1:Int).toNat=1 from rfl,h.mv5.1];rfl
    exact (act_same a w (by decide)).post (.refl _) (OVL.refl _)
   have kme:Con Tryz.prog 68 [.p 0 0] [some (c.ro false),some (s.arm 0).o] (.agg [.i .i64 1,.i .i64 1,.i .i64 0,.i .i64 0,.i .i64 0]) [.keep,.keep]:=by
    have q:=meta_con c false (s.arm 0) h.L.T
    obtain ⟨a,b,d,e,f⟩:=h.mv5
    rw [a,b,d,e,f] at q
    exact q
   have kbl:Con Tryz.prog 75 [.p 0 0,.i .i64 (ofNat b)] [some (c.ro false),some (s.arm 0).o] (.agg [.i .i64 (ofNat (blkQ (c.d b))),.s (blkD (c.d b))]) [.keep,.keep]:=by
    have q:=block_con c false (s.arm 0) (ofNat b) h.L.T
    rw [(bq_at h b hb).1,(bq_at h b hb).2] at q
    exact q
   have dd:∀j,j<129->(opened (S.revived 0 false) 129).d j=c.d j\/(j=b/\(opened (S.revived 0 false) 129).d j=x):=fun j hj=>by
    rw [(opened_at _ hj).2.1]
    rcases r2 j hj with e | ⟨e,e'⟩
    · exact .inl e
    · exact .inr ⟨Int.ofNat.inj e,e'⟩
   refine ⟨c.putC (s.arm 0) (ofNat b) x,S,S.revived 0 false,?_,rvc_con (opened (S.revived 0 false) 129) S S (S.revived 0 false) (by have q:=fail2_con S;rw [fe] at q;exact q) rev op,⟨⟨r1.mono (by omega) (by omega),?_,by rw [rev_armed];exact ar⟩,?_⟩,fun j hj hn=>?_,?_⟩
   · exact wrX_con c (s.arm 0) 0 0 0 _ _ (ofNat b) d v g 13 _ _ true kme kad kbl a (decide_eq_true (by simp)) (decide_eq_true (by simp;omega)) (decide_eq_true (by simp;omega)) (decide_eq_true hv.1) (decide_eq_true hv.2) (decide_eq_true hg.1) (decide_eq_true hg.2) (decide_eq_false (by simp;omega)) rfl
   · refine .opened fun j hj=>?_
     have e:=(opened_at (S.revived 0 false) hj).2.1
     rw [<-e]
     rcases dd j hj with q | ⟨_,q⟩<;>rw [q]
     · exact ⟨h.L.T.b j (by rw [h.L.R.n];exact hj),h.L.T.l j (by rw [h.L.R.n];exact hj)⟩
     · exact ⟨xb,xl⟩
   · rcases dd 128 (by decide) with q | ⟨q,_⟩
     · rw [q];exact h.m
     · omega
   · rcases dd j (by omega) with q | ⟨q,_⟩
     · exact q
     · exact absurd q hn
   · rcases dd b (by omega) with q | ⟨_,q⟩
     · exact .inl q
     · exact .inr q
theorem LV.disarm {k:Nat} {c:CS} {s:SS} (h:LV k c s) (hk:k<990):LV (k+2) c ((s.arm 0).arm (-1)):=
 ⟨⟨(h.L.R.arm (by omega) (i:=0) (by decide)).arm (by omega) (i:=-1) (by decide),h.L.T,rfl⟩,h.m⟩
theorem LV.disarm1 {k:Nat} {c:CS} {s:SS} (h:LV k c s) (hk:k<990):LV (k+1) c (s.arm (-1)):=
 ⟨⟨h.L.R.arm (by omega) (i:=-1) (by decide),h.L.T,rfl⟩,h.m⟩
theorem arm_ch (c:CS) (s:SS) (i:Int):Con Tryz.prog 19 [.p 0 0,.i .i64 0,.i .i64 i] (obL c s) (.i .i64 0) [.keep,.keep,.keep,.set (s.arm i).o,.keep]:=arc_con c s (s.arm i) i (arm2_con s i)
set_option maxRecDepth 200000
theorem lay2_lp (t:List Nat) (m:Nat) (hm:m=(t.length+35) / 36) (hm2:m<=100) (cs:Nat->CS) (ss:Nat->SS) (ow wr gn r0 u0:Int) (hh:List Nat) (ho:0<=ow/\ow<=2) (hu:0<=u0/\u0<=15) (hr:0<=r0/\r0<=100)
 (hw:∀i,i<m->Con Tryz.prog 59 [.p 0 0,cfA,.i .i64 (atI (80+16*ow+1+u0) i),.s (frN (1+r0) t m i),.i .i64 wr,.i .i64 gn] (obL (cs i) (ss i)) (.i .i64 0) [.keep,.keep,.keep,.set (ss (i+1)).o,.set (r3O (cs (i+1)) false)]) :
 LDoes Tryz.prog (loopAt Tryz.prog 89 0) 34 13 (mkT [(0,.yf 12),(1,.p 11 0),(2,.p 10 0),(4,.i .i64 (ofNat m)),(9,.i .i64 (ofNat m)),(10,.i .i64 0)]) [some chO,some nsO,some noO,some (ss 0).o,some (r3O (cs 0) false),some (lgO ow wr gn 1 r0 u0 hh),some (cellsO 31 [.p 5 0]),x28,some (.cells 23 1 [.i .i64 0] .e),some (cellsD 3 [.i .i64 0] [.i .i64 (80+16*ow+1+u0)]),some (cellsO 3 [.i .i64 (1+r0)]),some (cellsO 9 [.s t]),(xR 0 ow u0 r0 t)] (.exit 0) (mkT []) [some chO,some nsO,some noO,some (ss m).o,some (r3O (cs m) false),some (lgO ow wr gn 1 r0 u0 hh),some (cellsO 31 [.p 5 0]),x28,some (.cells 23 1 [.i .i64 0] .e),some (cellsD 3 [.i .i64 0] [.i .i64 (atI (80+16*ow+1+u0) m)]),some (cellsO 3 [.i .i64 (1+r0)]),some (cellsO 9 [.s t]),(xR 0 ow u0 r0 t)]:=by
 refine loop_q (fun i:Nat=>([(0,.yf 12),(1,.p 11 0),(2,.p 10 0),(4,.i .i64 (ofNat m)),(9,.i .i64 (ofNat m)),(10,.i .i64 (ofNat i))],[some chO,some nsO,some noO,some (ss i).o,some (r3O (cs i) false),some (lgO ow wr gn 1 r0 u0 hh),some (cellsO 31 [.p 5 0]),x28,some (.cells 23 1 [.i .i64 0] .e),some (cellsD 3 [.i .i64 0] [.i .i64 (atI (80+16*ow+1+u0) i)]),some (cellsO 3 [.i .i64 (1+r0)]),some (cellsO 9 [.s t]),(xR 0 ow u0 r0 t)])) (fun i=>m-i) (fun i=>i<=m) (fun i=>by simp) ?_ 0 (Nat.zero_le _)
 intro i hi
 rcases Nat.lt_or_ge i m with hlt | q
 · have h1:decide (ofNat i<ofNat m)=true:=decide_eq_true (by simp;omega)
   have z:=ii0 i
   have zi:ofNat i<=100:=by simp only [Int.ofNat_eq_natCast];omega
   have hl:i*36<=t.length:=by omega
   have hl2:t.length<=100000:=by omega
   have at0:0<=atI (80+16*ow+1+u0) i/\atI (80+16*ow+1+u0) i<=1000:=by
    rw [atI_eq];omega
   have f3:=forms3_con (1+r0) (ofNat i) (ofNat m) ⟨by omega,by omega⟩ ⟨z,by omega⟩ ⟨ii0 m,by simp only [Int.ofNat_eq_natCast];omega⟩
   have sl:(0<=ofNat i*36/\(0<=(if ofNat (List.length t)<(ofNat i+1)*36 then ofNat (List.length t) else (ofNat i+1)*36))/\Int.toNat (ofNat i*36)<=Int.toNat (if ofNat (List.length t)<(ofNat i+1)*36 then ofNat (List.length t) else (ofNat i+1)*36)/\Int.toNat (if ofNat (List.length t)<(ofNat i+1)*36 then ofNat (List.length t) else (ofNat i+1)*36)<=List.length t):=by
    simp only [Int.ofNat_eq_natCast]
    refine ⟨by omega,?_,?_,?_⟩<;>split<;>omega
   have ln:(fmN (1+r0) m i).length+(pcE t i).length<=1073741824:=by
    rw [fmN_len ⟨by omega,by omega⟩ (by omega) (by omega)]
    have:=pcE_len t i
    omega
   have w:=hw i hlt
   have r1:rg (ofNat i*36):=⟨by omega,by omega⟩
   have r2:rg (ofNat i+1):=⟨by omega,by omega⟩
   have r3:rg ((ofNat i+1)*36):=⟨by omega,by omega⟩
   have r4:rg (atI (80+16*ow+1+u0) i+1):=⟨by omega,by omega⟩
   exact rd_nrm (hR_lq (cs i) (ss i) (cs (i+1)) (ss (i+1)) ow wr gn (fmN (1+r0) m i) (atI (80+16*ow+1+u0) i) (ofNat i) (ofNat m) r0 u0 t hh h1) (by
    repeat' first | exact trivial | exact h1 | exact sl | exact ln | exact f3 | exact w | exact r1 | exact r2 | exact r3 | exact r4 | apply And.intro | omega | exact rfl) (i+1) hlt (by show m-(i+1)<m-i;omega) rfl (.refl _) (.refl _)
 · obtain rfl:i=m:=Nat.le_antisymm hi q
   have h1:decide (ofNat i<ofNat i)=false:=decide_eq_false (by simp)
   exact rd_out (hE_lq (cs i) (ss i) ow wr gn (atI (80+16*ow+1+u0) i) (ofNat i) (ofNat i) r0 u0 t hh h1) ⟨h1,rfl⟩ rfl rfl (.refl _) (.refl _)
theorem layX_lp (t:List Nat) (m:Nat) (hm:m=(t.length+35) / 36) (hm1:1<=m) (hm2:m<=100) (c C:CS) (s S:SS) (rr:Bool) (ow wr gn r0 u0:Int) (hh:List Nat) (ho:0<=ow/\ow<=2) (hu:0<=u0/\u0<=15) (hr:0<=r0/\r0<=100)
 (w:Con Tryz.prog 59 [.p 0 0,cfA,.i .i64 (80+16*ow+1+u0),.s (frN (1+r0) t m 0),.i .i64 wr,.i .i64 gn] (obL c s) (.i .i64 24) [.keep,.keep,.set (cellsO 81 [.p 3 0,.p0]),.set S.o,.set (r3O C rr)]) :
 LDoes Tryz.prog (loopAt Tryz.prog 89 0) 34 13 (mkT [(0,.yf 12),(1,.p 11 0),(2,.p 10 0),(4,.i .i64 (ofNat m)),(9,.i .i64 (ofNat m)),(10,.i .i64 0)]) [some chO,some nsO,some noO,some s.o,some (r3O c false),some (lgO ow wr gn 1 r0 u0 hh),some (cellsO 31 [.p 5 0]),x28,some (.cells 23 1 [.i .i64 0] .e),some (cellsD 3 [.i .i64 0] [.i .i64 (80+16*ow+1+u0)]),some (cellsO 3 [.i .i64 (1+r0)]),some (cellsO 9 [.s t]),(xR 0 ow u0 r0 t)] .ret (mkT []) [some chO,some nsO,some (cellsO 81 [.p 3 0,.p0]),some S.o,some (r3O C rr),some (lgO ow wr gn 1 r0 u0 hh),some (cellsO 31 [.p 5 0]),x28,some (cellsD 23 [.i .i64 0] [.i .i64 24]),some (cellsD 3 [.i .i64 0] [.i .i64 (80+16*ow+1+u0)]),some (cellsO 3 [.i .i64 (1+r0)]),some (cellsO 9 [.s t]),(xR 1 ow u0 r0 t)]:=by
 refine loop_q (fun _:Unit=>([(0,.yf 12),(1,.p 11 0),(2,.p 10 0),(4,.i .i64 (ofNat m)),(9,.i .i64 (ofNat m)),(10,.i .i64 0)],[some chO,some nsO,some noO,some s.o,some (r3O c false),some (lgO ow wr gn 1 r0 u0 hh),some (cellsO 31 [.p 5 0]),x28,some (.cells 23 1 [.i .i64 0] .e),some (cellsD 3 [.i .i64 0] [.i .i64 (80+16*ow+1+u0)]),some (cellsO 3 [.i .i64 (1+r0)]),some (cellsO 9 [.s t]),(xR 0 ow u0 r0 t)])) (fun _=>0) (fun _=>True) (fun _=>by simp) ?_ () trivial
 intro _ _
 have h1:decide ((0:Int)<ofNat m)=true:=decide_eq_true (by simp;omega)
 have f3:=forms3_con (1+r0) 0 (ofNat m) ⟨by omega,by omega⟩ ⟨by decide,by decide⟩ ⟨ii0 m,by simp only [Int.ofNat_eq_natCast];omega⟩
 have hl:t.length<=100000:=by omega
 have sl:(0<=(0:Int)*36/\(0<=(if ofNat (List.length t)<((0:Int)+1)*36 then ofNat (List.length t) else ((0:Int)+1)*36))/\Int.toNat ((0:Int)*36)<=Int.toNat (if ofNat (List.length t)<((0:Int)+1)*36 then ofNat (List.length t) else ((0:Int)+1)*36)/\Int.toNat (if ofNat (List.length t)<((0:Int)+1)*36 then ofNat (List.length t) else ((0:Int)+1)*36)<=List.length t):=by
  simp only [Int.ofNat_eq_natCast]
  refine ⟨by omega,?_,?_,?_⟩<;>split<;>omega
 have ln:(fmN (1+r0) m 0).length+(pcE t 0).length<=1073741824:=by
  rw [fmN_len ⟨by omega,by omega⟩ (by omega) (by omega)]
  have:=pcE_len t 0
  omega
 have r1:rg ((0:Int)*36):=⟨by omega,by omega⟩
 have r2:rg ((0:Int)+1):=⟨by omega,by omega⟩
 have r3:rg (((0:Int)+1)*36):=⟨by omega,by omega⟩
 have r4:rg (80+16*ow+1+u0+1):=⟨by omega,by omega⟩
 exact rd_out (hX_lq c s C S ow wr gn (fmN (1+r0) m 0) (80+16*ow+1+u0) 0 (ofNat m) r0 u0 t hh rr h1) (by
  repeat' first | exact trivial | exact h1 | exact sl | exact ln | exact f3 | exact w | exact r1 | exact r2 | exact r3 | exact r4 | apply And.intro | omega | exact rfl) rfl rfl (.refl _) (.refl _)
set_option maxRecDepth 200000
theorem seq2_ex {k:Nat} {c:CS} {s:SS} (h:LV k c s) (b0:Nat) (w g:Int) (hw:0<=w/\w<=2) (hg:1<=g/\g<=1099511627776) (fr:Nat->List Nat):∀m,b0+m<=128->k+m<=1000->(∀i,i<m->(fr i).length<=44/\Byt (fr i))->(∀j,b0<=j->j<b0+m->blkQ (c.d j)<=1)->
 ∃(cs:Nat->CS) (ss:Nat->SS),cs 0=c/\ss 0=s/\LV (k+m) (cs m) (ss m)/\
  (∀i,i<m->Con Tryz.prog 59 [.p 0 0,cfA,.i .i64 (ofNat (b0+i)),.s (fr i),.i .i64 w,.i .i64 g] (obL (cs i) (ss i)) (.i .i64 0) [.keep,.keep,.keep,.set (ss (i+1)).o,.set (r3O (cs (i+1)) false)])/\
  (∀i,i<m->blkD ((cs m).d (b0+i))=fr i)/\∀j,(j<b0\/b0+m<=j)->(cs m).d j=c.d j:=by
 intro m
 induction m with
 | zero=>exact fun _ _ _ _=>⟨fun _=>c,fun _=>s,rfl,rfl,h,fun i hi=>by omega,fun i hi=>by omega,fun j _=>rfl⟩
 | succ m ih=>
   intro hb hk hf hq
   obtain ⟨cs,ss,e1,e2,l,hwr,hd,ho⟩:=ih (by omega) (by omega) (fun i hi=>hf i (by omega)) (fun j h1 h2=>hq j h1 (by omega))
   have q0:blkQ ((cs m).d (b0+m))<=1:=by rw [ho (b0+m) (.inr (Nat.le_refl _))];exact hq _ (by omega) (by omega)
   obtain ⟨C,S,kw,l2,d1,d2⟩:=Go.Proofs.Cl.LV.write l (by omega) (b0+m) (by omega) (fr m) (hf m (by omega)).2 (hf m (by omega)).1 (by omega) w g hw hg
   refine ⟨fun j=>if j<=m then cs j else C,fun j=>if j<=m then ss j else S,by simp [e1],by simp [e2],?_,fun i hi=>?_,fun i hi=>?_,fun j hj=>?_⟩
   · simp only [show ¬(m+1<=m) by omega,if_false];exact l2
   · rcases Nat.lt_or_ge i m with q | q
     · simp only [show i<=m by omega,show i+1<=m by omega,if_true];exact hwr i q
     · obtain rfl:i=m:=by omega
       simp only [Nat.le_refl,if_true,show ¬(i+1<=i) by omega,if_false];exact kw
   · simp only [show ¬(m+1<=m) by omega,if_false]
     rcases Nat.lt_or_ge i m with q | q
     · rw [d2 _ (by omega)];exact hd i q
     · obtain rfl:i=m:=by omega
       rw [d1]
       exact (blk_back (by omega) (by omega) (hf i (by omega)).1).2
   · simp only [show ¬(m+1<=m) by omega,if_false]
     rw [d2 j (by omega)]
     exact ho j (by omega)
theorem encR {n:Nat} {B V:Nat->Int} {D:Nat->List Nat} (hn:n<=281474976710656) (hb:∀i,i<n->Byt (D i)) (h:encB n B V D=true) :
 Con Tryz.prog 30 [.sv 3 n (uF B V D)] [] (.tup [.s (rcT n B V D),.i .i64 0]) []/\(rcT n B V D).length<=540/\Byt (rcT n B V D)/\1<=nfr (rcT n B V D)/\nfr (rcT n B V D)<=15/\natsEq (rcT n B V D) []=false:=by
 have e:=enc_con n B V D hn hb
 rw [show encE n B V D=0 by unfold encE;rw [h];rfl,show encT n B V D=rcT n B V D by unfold encT;rw [h];rfl] at e
 unfold encB at h
 rw [Bool.and_eq_true,Bool.not_eq_true'] at h
 have ok:=mb_ok h.1 hb
 have hl:(rcT n B V D).length<=540:=by
  have:=of_decide_eq_false h.2
  simp at this;omega
 have l4:4<=(rcT n B V D).length:=by unfold rcT;rw [slL_len];omega
 have by_:=rcT_byt ok
 generalize ht:rcT n B V D=t at *
 refine ⟨e,hl,by_,by unfold nfr;omega,by unfold nfr;omega,?_⟩
 cases t with
 | nil=>exact absurd l4 (by decide)
 | cons a t=>rfl
theorem app_ok {n:Nat} {B V:Nat->Int} {D:Nat->List Nat} (hn:n<=281474976710656) (hb:∀i,i<n->Byt (D i)) (h:encB n B V D=true) {k:Nat} {c:CS} {s:SS} (l:LV k c s) (hk:k<=900) (o:Nat) (ho:o<=2) (wr gn:Int) (hw:0<=wr/\wr<=2) (hg:1<=gn/\gn<=1099511627776) (r u:Nat) (hr:r<=100) (hu:u+nfr (rcT n B V D)<=15) (hh:List Nat) (hhh:hh=[]\/hh=rcT n B V D)
 (hz:∀j,81+16*o+u<=j->j<=80+16*o+15->blkQ (c.d j)<=1) :
 ∃C S,Con Tryz.prog 10 [.p 5 0,cfA,.sv 3 n (uF B V D)] (obL c s ++ [some (lgO (ofNat o) wr gn 1 (ofNat r) (ofNat u) hh)]) (.i .i64 0) [.keep,.keep,.keep,.set S.o,.set (r3O C false),.set (lgO (ofNat o) wr gn 1 (ofNat r+1) (ofNat u+ofNat (nfr (rcT n B V D))) [])]/\
  LV (k+nfr (rcT n B V D)) C S/\(∀i,i<nfr (rcT n B V D)->blkD (C.d (81+16*o+u+i))=frN (1+ofNat r) (rcT n B V D) (nfr (rcT n B V D)) i)/\∀j,(j<81+16*o+u\/81+16*o+u+nfr (rcT n B V D)<=j)->C.d j=c.d j:=by
 obtain ⟨e,hl,by_,m1,m15,ne⟩:=encR hn hb h
 generalize ht:rcT n B V D=t at *
 have zr:0<=ofNat r:=ii0 r
 have zu:0<=ofNat u:=ii0 u
 have zr2:ofNat r<=100:=by simp only [Int.ofNat_eq_natCast];omega
 have zu2:ofNat u<=15:=by simp only [Int.ofNat_eq_natCast];omega
 obtain ⟨cs,ss,e1,e2,lv,hwr,hd,hoth⟩:=seq2_ex l (81+16*o+u) wr gn hw hg (frN (1+ofNat r) t (nfr t)) (nfr t) (by omega) (by omega) (fun i hi=>⟨frN_len ⟨by omega,by omega⟩ (by omega) (by omega),frN_byt ⟨by omega,by omega⟩ by_ (by omega) (by omega)⟩) (fun j h1 h2=>hz j (by omega) (by omega))
 have oo:0<=ofNat o/\ofNat o<=2:=⟨ii0 o,by simp only [Int.ofNat_eq_natCast];omega⟩
 have lp:=lay2_lp t (nfr t) rfl (by omega) cs ss (ofNat o) wr gn (ofNat r) (ofNat u) hh oo ⟨zu,zu2⟩ ⟨zr,zr2⟩ (fun i hi=>by
  have q:=hwr i hi
  have ea:ofNat (81+16*o+u+i)=atI (80+16*ofNat o+1+ofNat u) i:=by
   rw [atI_eq];simp only [Int.ofNat_eq_natCast];omega
  rw [ea] at q
  exact q)
 rw [e1,e2] at lp
 have ct:ofNat (nfr t)=Int.tdiv (ofNat (List.length t)+36-1) 36:=(td_eq t).symm
 rw [show (ofNat (nfr t))=Int.tdiv (ofNat (List.length t)+36-1) 36 from ct] at lp
 have h2:decide (15-ofNat u<Int.tdiv (ofNat (List.length t)+36-1) 36)=false:=by rw [<-ct];exact decide_eq_false (by simp only [Int.ofNat_eq_natCast];omega)
 have h3:decide (1099511627776<=1+ofNat r)=false:=decide_eq_false (by omega)
 refine ⟨cs (nfr t),ss (nfr t),?_,lv,hd,hoth⟩
 rw [ct]
 rcases hhh with rfl | rfl
 · exact apN_con n B V D c (cs (nfr t)) s (ss (nfr t)) (ofNat o) wr gn (ofNat r) (ofNat u) t 0 (atI (80+16*ofNat o+1+ofNat u) (nfr t)) e lp (by omega) oo ⟨zu,zu2⟩ ⟨zr,by omega⟩ rfl h2 h3
 · exact apS_con n B V D c (cs (nfr hh)) s (ss (nfr hh)) (ofNat o) wr gn (ofNat r) (ofNat u) hh 0 (atI (80+16*ofNat o+1+ofNat u) (nfr hh)) e lp (by omega) oo ⟨zu,zu2⟩ ⟨zr,by omega⟩ ne (nats_rfl _) rfl h2 h3
theorem app_down {n:Nat} {B V:Nat->Int} {D:Nat->List Nat} (hn:n<=281474976710656) (hb:∀i,i<n->Byt (D i)) (h:encB n B V D=true) {k:Nat} {c:CS} {s:SS} (l:LV k c s) (hk:k<=900) (o:Nat) (ho:o<=2) (wr gn:Int) (hw:0<=wr/\wr<=2) (hg:1<=gn/\gn<=1099511627776) (r u:Nat) (hr:r<=100) (hu:u+nfr (rcT n B V D)<=15)
 (hz:blkQ (c.d (81+16*o+u))=0) :
 ∃(C:CS) (S S2:SS),Con Tryz.prog 10 [.p 5 0,cfA,.sv 3 n (uF B V D)] (obL c (s.arm 0) ++ [some (lgO (ofNat o) wr gn 1 (ofNat r) (ofNat u) [])]) (.i .i64 24) [.keep,.keep,.set (cellsO 81 [.p 3 0,.p0]),.set S.o,.set (r3O C true),.set (lgO (ofNat o) wr gn 1 (ofNat r) (ofNat u) (rcT n B V D))]/\
  Con Tryz.prog 20 [.p 0 0,.i .i64 0,.i .i64 0,.b false] [some chO,some nsO,some (cellsO 81 [.p 3 0,.p0]),some S.o] (.i .i64 0) [.keep,.keep,.set noO,.set S2.o,.set (r3O (opened S2 129) false)]/\
  LV (k+2) (opened S2 129) S2/\(∀j,j<128->j≠81+16*o+u->(opened S2 129).d j=c.d j)/\blkQ ((opened S2 129).d (81+16*o+u))<=1:=by
 obtain ⟨e,hl,by_,m1,m15,ne⟩:=encR hn hb h
 generalize ht:rcT n B V D=t at *
 have zr:0<=ofNat r:=ii0 r
 have zu:0<=ofNat u:=ii0 u
 have zr2:ofNat r<=100:=by simp only [Int.ofNat_eq_natCast];omega
 have zu2:ofNat u<=15:=by simp only [Int.ofNat_eq_natCast];omega
 have oo:0<=ofNat o/\ofNat o<=2:=⟨ii0 o,by simp only [Int.ofNat_eq_natCast];omega⟩
 have fl:(frN (1+ofNat r) t (nfr t) 0).length<=44:=frN_len ⟨by omega,by omega⟩ (by omega) (by omega)
 obtain ⟨C,S,S2,kw,kr,lv,d1,d2⟩:=LV.down l (by omega) (81+16*o+u) (by omega) (frN (1+ofNat r) t (nfr t) 0) (frN_byt ⟨by omega,by omega⟩ by_ (by omega) (by omega)) fl (by rw [hz];decide) wr gn hw hg
 have ea:ofNat (81+16*o+u)=80+16*ofNat o+1+ofNat u:=by simp only [Int.ofNat_eq_natCast];omega
 rw [ea] at kw
 have lp:=layX_lp t (nfr t) rfl m1 (by omega) c C (s.arm 0) S true (ofNat o) wr gn (ofNat r) (ofNat u) [] oo ⟨zu,zu2⟩ ⟨zr,zr2⟩ kw
 have ct:ofNat (nfr t)=Int.tdiv (ofNat (List.length t)+36-1) 36:=(td_eq t).symm
 rw [show (ofNat (nfr t))=Int.tdiv (ofNat (List.length t)+36-1) 36 from ct] at lp
 have h2:decide (15-ofNat u<Int.tdiv (ofNat (List.length t)+36-1) 36)=false:=by rw [<-ct];exact decide_eq_false (by simp only [Int.ofNat_eq_natCast];omega)
 have h3:decide (1099511627776<=1+ofNat r)=false:=decide_eq_false (by omega)
 refine ⟨C,S,S2,apF_con n B V D c C (s.arm 0) S (ofNat o) wr gn (ofNat r) (ofNat u) t 0 _ true e lp (by omega) oo ⟨zu,zu2⟩ ⟨zr,by omega⟩ rfl h2 h3,kr,lv,d1,?_⟩
 rcases d2 with q | q<;>rw [q]
 · omega
 · rw [hz]
   exact Nat.le_of_eq (blk_back (by decide) (by decide) fl).1
def hB (n:Nat) (B:Nat->Int) (x:Int) (i:Nat):Int:=if i<n then B i else x
def hD (n:Nat) (D:Nat->List Nat) (i:Nat):List Nat:=if i<n then D i else []
theorem hidU_ov (n:Nat) (B V:Nat->Int) (D:Nat->List Nat):OV (some (.rows 47 3 (addN n 1) (appZ n (uF B V D) (listF 3 [.i .i64 (-9),.i .i64 0,.s []] 1)))) (some (.rows 47 3 (addN n 1) (uF (hB n B (-9)) (hB n V 0) (hD n D)))):=by
 rw [addN_eq]
 refine .rowsW fun i j hi hj=>.of ?_
 have e:i-n=0:=by omega
 rcases j with _ | _ | _ | j
 · rw [appZ_i (f:=uF B V D) (g:=listF 3 [.i .i64 (-9),.i .i64 0,.s []] 1) (n:=n) (i:=i) (j:=0) (k:=.i64) (a:=B i) (b:=-9) rfl (by rw [e];rfl)]
   rfl
 · rw [appZ_i (f:=uF B V D) (g:=listF 3 [.i .i64 (-9),.i .i64 0,.s []] 1) (n:=n) (i:=i) (j:=1) (k:=.i64) (a:=V i) (b:=0) rfl (by rw [e];rfl)]
   rfl
 · rw [appZ_s (f:=uF B V D) (g:=listF 3 [.i .i64 (-9),.i .i64 0,.s []] 1) (n:=n) (i:=i) (j:=2) (a:=D i) (b:=[]) rfl (by rw [e];rfl)]
   rfl
 · omega
theorem uF_lo {n:Nat} (B V:Nat->Int) (D:Nat->List Nat) {i j:Nat} (hi:i<n) (hj:j<3):uF (hB n B (-9)) (hB n V 0) (hD n D) i j=uF B V D i j:=by
 rcases j with _ | _ | _ | j
 · show CV.i .i64 (if i<n then B i else -9)=CV.i .i64 (B i)
   rw [if_pos hi]
 · show CV.i .i64 (if i<n then V i else 0)=CV.i .i64 (V i)
   rw [if_pos hi]
 · show CV.s (if i<n then D i else [])=CV.s (D i)
   rw [if_pos hi]
 · omega
theorem wset (i:Nat) (x:Int) (B V:Nat->Int) (D:Nat->List Nat) {k j:Nat} (hj:j<3):setRow (uF (fun k=>bif Nat.blt k i then x else B k) (fun k=>bif Nat.blt k i then 0 else V k) (fun k=>bif Nat.blt k i then [] else D k)) i 0 [.i .i64 x,.i .i64 0,.s []] k j=uF (fun k=>bif Nat.blt k (i+1) then x else B k) (fun k=>bif Nat.blt k (i+1) then 0 else V k) (fun k=>bif Nat.blt k (i+1) then [] else D k) k j:=by
 have e:Nat.blt k (i+1)=(Nat.beq k i || Nat.blt k i):=by
  rw [Bool.eq_iff_iff,Bool.or_eq_true,Nat.blt_eq,Nat.blt_eq,Nat.beq_eq];omega
 rcases j with _ | _ | _ | j
 · show CV.i .i64 (bif Nat.beq k i then x else bif Nat.blt k i then x else B k)=CV.i .i64 (bif Nat.blt k (i+1) then x else B k)
   rw [e];cases Nat.beq k i<;>cases Nat.blt k i<;>rfl
 · show CV.i .i64 (bif Nat.beq k i then 0 else bif Nat.blt k i then 0 else V k)=CV.i .i64 (bif Nat.blt k (i+1) then 0 else V k)
   rw [e];cases Nat.beq k i<;>cases Nat.blt k i<;>rfl
 · show CV.s (bif Nat.beq k i then [] else bif Nat.blt k i then [] else D k)=CV.s (bif Nat.blt k (i+1) then [] else D k)
   rw [e];cases Nat.beq k i<;>cases Nat.blt k i<;>rfl
 · omega
theorem w0R_lq (n1 n2 i:Nat) (B V Bq Vq Br Vr Bw Vw:Nat->Int) (D Dq Dr Dw:Nat->List Nat) (c1:CS) (s1:SS) (m1:Nat) (h0:decide (ofNat i<ofNat (addN n1 1))=true):LD Tryz.prog (loopAt Tryz.prog 5 0) 172 8 [(0,.sv 3 n1 (uF Bq Vq Dq)),(1,.sv 3 n2 (uF Br Vr Dr)),(5,.p 0 0),(7,.p 5 0),(9,.p 6 0),(12,.lr 7 3 0 (addN n1 1) false),(74,.i .i64 (ofNat (addN n1 1))),(75,.i .i64 (ofNat i))] [some chO,some nsO,some noO,some s1.o,some (r3O c1 false),some (cellsD 28 [.i .i64 0,.l0,.l0] [.i .i64 1,.sv 1 1 (listF 1 [.i .i64 0] 1),.sv 1 1 (listF 1 [.i .i64 1] 1)]),some (lgO 0 0 1 1 1 (ofNat m1) []),some (.rows 47 3 (addN n1 1) (uF B V D))] (.t .z) .nrm [0,1,2,3,4,5,6,7] [(0,.sv 3 n1 (uF Bq Vq Dq)),(1,.sv 3 n2 (uF Br Vr Dr)),(5,.p 0 0),(7,.p 5 0),(9,.p 6 0),(12,.lr 7 3 0 (addN n1 1) false),(74,.i .i64 (ofNat (addN n1 1))),(75,.i .i64 (ofNat i+1))] [some chO,some nsO,some noO,some s1.o,some (r3O c1 false),some (cellsD 28 [.i .i64 0,.l0,.l0] [.i .i64 1,.sv 1 1 (listF 1 [.i .i64 0] 1),.sv 1 1 (listF 1 [.i .i64 1] 1)]),some (lgO 0 0 1 1 1 (ofNat m1) []),some (.rows 47 3 (addN n1 1) (setRow (uF B V D) i 0 [.i .i64 77,.i .i64 0,.s []]))] 8 (fun Lf=>decide (ofNat i<ofNat (addN n1 1))=true/\(0<=ofNat i/\ofNat i<↑(addN n1 1))/\i<addN n1 1/\rg (ofNat i+1)/\Lf):=by unfold LD LQ;kernel_rfl
theorem w0E_lq (n1 n2 i:Nat) (B V Bq Vq Br Vr Bw Vw:Nat->Int) (D Dq Dr Dw:Nat->List Nat) (c1:CS) (s1:SS) (m1:Nat) (h0:decide (ofNat i<ofNat (addN n1 1))=false):LD Tryz.prog (loopAt Tryz.prog 5 0) 172 8 [(0,.sv 3 n1 (uF Bq Vq Dq)),(1,.sv 3 n2 (uF Br Vr Dr)),(5,.p 0 0),(7,.p 5 0),(9,.p 6 0),(12,.lr 7 3 0 (addN n1 1) false),(74,.i .i64 (ofNat (addN n1 1))),(75,.i .i64 (ofNat i))] [some chO,some nsO,some noO,some s1.o,some (r3O c1 false),some (cellsD 28 [.i .i64 0,.l0,.l0] [.i .i64 1,.sv 1 1 (listF 1 [.i .i64 0] 1),.sv 1 1 (listF 1 [.i .i64 1] 1)]),some (lgO 0 0 1 1 1 (ofNat m1) []),some (.rows 47 3 (addN n1 1) (uF B V D))] (.f .z) (.exit 0) [0,1,2,3,4,5,6,7] [(0,.sv 3 n1 (uF Bq Vq Dq)),(1,.sv 3 n2 (uF Br Vr Dr)),(5,.p 0 0),(7,.p 5 0),(9,.p 6 0),(12,.lr 7 3 0 (addN n1 1) false)] [some chO,some nsO,some noO,some s1.o,some (r3O c1 false),some (cellsD 28 [.i .i64 0,.l0,.l0] [.i .i64 1,.sv 1 1 (listF 1 [.i .i64 0] 1),.sv 1 1 (listF 1 [.i .i64 1] 1)]),some (lgO 0 0 1 1 1 (ofNat m1) []),some (.rows 47 3 (addN n1 1) (uF B V D))] 8 (fun Lf=>decide (ofNat i<ofNat (addN n1 1))=false/\Lf):=by unfold LD LQ;kernel_rfl
theorem w1R_lq (n1 n2 i:Nat) (B V Bq Vq Br Vr Bw Vw:Nat->Int) (D Dq Dr Dw:Nat->List Nat) (c1:CS) (s1:SS) (m1:Nat) (h0:decide (ofNat i<ofNat n1)=true):LD Tryz.prog (loopAt Tryz.prog 5 2) 172 4 [(0,.sv 3 n1 (uF Bq Vq Dq)),(17,.l 0 0 1 1 1 false),(18,.i .i64 0),(20,.l 2 0 1 1 1 false),(21,.i .i64 0),(22,.i .i64 0),(123,.i .i64 1),(124,.i .i64 0),(131,.i .i64 (ofNat n1)),(132,.i .i64 (ofNat i))] [some (cellsO 39 [.lr 1 3 0 n1 false]),some (.rows 47 3 n1 (uF B V D)),some (cellsO 39 [.lr 3 3 0 n1 false]),some (.rows 47 3 n1 (uF Bq Vq Dq))] (.t (.c .z)) .nrm [0,1,2,3] [(0,.sv 3 n1 (uF Bq Vq Dq)),(17,.l 0 0 1 1 1 false),(18,.i .i64 0),(20,.l 2 0 1 1 1 false),(21,.i .i64 0),(22,.i .i64 0),(123,.i .i64 1),(124,.i .i64 0),(131,.i .i64 (ofNat n1)),(132,.i .i64 (ofNat i+1))] [some (cellsO 39 [.lr 1 3 0 n1 false]),some (.rows 47 3 n1 (setRow (uF B V D) i 0 [.i .i64 (-5),.i .i64 0,.s []])),some (cellsO 39 [.lr 3 3 0 n1 false]),some (.rows 47 3 n1 (uF Bq Vq Dq))] 4 (fun Lf=>decide (ofNat i<ofNat n1)=true/\(0<=ofNat i/\ofNat i<↑n1)/\i<n1/\rg (ofNat i+1)/\Lf):=by unfold LD LQ;kernel_rfl
theorem w1E_lq (n1 n2 i:Nat) (B V Bq Vq Br Vr Bw Vw:Nat->Int) (D Dq Dr Dw:Nat->List Nat) (c1:CS) (s1:SS) (m1:Nat) (h0:decide (ofNat i<ofNat n1)=false):LD Tryz.prog (loopAt Tryz.prog 5 2) 172 4 [(0,.sv 3 n1 (uF Bq Vq Dq)),(17,.l 0 0 1 1 1 false),(18,.i .i64 0),(20,.l 2 0 1 1 1 false),(21,.i .i64 0),(22,.i .i64 0),(123,.i .i64 1),(124,.i .i64 0),(131,.i .i64 (ofNat n1)),(132,.i .i64 (ofNat i))] [some (cellsO 39 [.lr 1 3 0 n1 false]),some (.rows 47 3 n1 (uF B V D)),some (cellsO 39 [.lr 3 3 0 n1 false]),some (.rows 47 3 n1 (uF Bq Vq Dq))] (.f .z) (.exit 4) [0,1,2,3] [(0,.sv 3 n1 (uF Bq Vq Dq)),(17,.l 0 0 1 1 1 false),(18,.i .i64 0),(20,.l 2 0 1 1 1 false),(21,.i .i64 0),(22,.i .i64 0),(123,.i .i64 1),(124,.i .i64 0)] [some (cellsO 39 [.lr 1 3 0 n1 false]),some (.rows 47 3 n1 (uF B V D)),some (cellsO 39 [.lr 3 3 0 n1 false]),some (.rows 47 3 n1 (uF Bq Vq Dq))] 4 (fun Lf=>decide (ofNat i<ofNat n1)=false/\Lf):=by unfold LD LQ;kernel_rfl
theorem w2R_lq (n1 n2 i:Nat) (B V Bq Vq Br Vr Bw Vw:Nat->Int) (D Dq Dr Dw:Nat->List Nat) (c1:CS) (s1:SS) (m1:Nat) (h0:decide (ofNat i<ofNat n1)=true):LD Tryz.prog (loopAt Tryz.prog 5 2) 172 6 [(0,.sv 3 n1 (uF Bq Vq Dq)),(17,.l 0 0 2 2 1 false),(18,.i .i64 0),(20,.l 3 0 2 2 1 false),(21,.i .i64 0),(22,.i .i64 0),(123,.i .i64 2),(124,.i .i64 0),(131,.i .i64 (ofNat n1)),(132,.i .i64 (ofNat i))] [some (cellsO 39 [.lr 1 3 0 n1 false,.lr 2 3 0 n2 false]),some (.rows 47 3 n1 (uF B V D)),some (.rows 47 3 n2 (uF Br Vr Dr)),some (cellsO 39 [.lr 4 3 0 n1 false,.lr 5 3 0 n2 false]),some (.rows 47 3 n1 (uF Bq Vq Dq)),some (.rows 47 3 n2 (uF Br Vr Dr))] (.t (.c .z)) .nrm [0,1,2,3,4,5] [(0,.sv 3 n1 (uF Bq Vq Dq)),(17,.l 0 0 2 2 1 false),(18,.i .i64 0),(20,.l 3 0 2 2 1 false),(21,.i .i64 0),(22,.i .i64 0),(123,.i .i64 2),(124,.i .i64 0),(131,.i .i64 (ofNat n1)),(132,.i .i64 (ofNat i+1))] [some (cellsO 39 [.lr 1 3 0 n1 false,.lr 2 3 0 n2 false]),some (.rows 47 3 n1 (setRow (uF B V D) i 0 [.i .i64 (-5),.i .i64 0,.s []])),some (.rows 47 3 n2 (uF Br Vr Dr)),some (cellsO 39 [.lr 4 3 0 n1 false,.lr 5 3 0 n2 false]),some (.rows 47 3 n1 (uF Bq Vq Dq)),some (.rows 47 3 n2 (uF Br Vr Dr))] 6 (fun Lf=>decide (ofNat i<ofNat n1)=true/\(0<=ofNat i/\ofNat i<↑n1)/\i<n1/\rg (ofNat i+1)/\Lf):=by unfold LD LQ;kernel_rfl
theorem w2E_lq (n1 n2 i:Nat) (B V Bq Vq Br Vr Bw Vw:Nat->Int) (D Dq Dr Dw:Nat->List Nat) (c1:CS) (s1:SS) (m1:Nat) (h0:decide (ofNat i<ofNat n1)=false):LD Tryz.prog (loopAt Tryz.prog 5 2) 172 6 [(0,.sv 3 n1 (uF Bq Vq Dq)),(17,.l 0 0 2 2 1 false),(18,.i .i64 0),(20,.l 3 0 2 2 1 false),(21,.i .i64 0),(22,.i .i64 0),(123,.i .i64 2),(124,.i .i64 0),(131,.i .i64 (ofNat n1)),(132,.i .i64 (ofNat i))] [some (cellsO 39 [.lr 1 3 0 n1 false,.lr 2 3 0 n2 false]),some (.rows 47 3 n1 (uF B V D)),some (.rows 47 3 n2 (uF Br Vr Dr)),some (cellsO 39 [.lr 4 3 0 n1 false,.lr 5 3 0 n2 false]),some (.rows 47 3 n1 (uF Bq Vq Dq)),some (.rows 47 3 n2 (uF Br Vr Dr))] (.f .z) (.exit 4) [0,1,2,3,4,5] [(0,.sv 3 n1 (uF Bq Vq Dq)),(17,.l 0 0 2 2 1 false),(18,.i .i64 0),(20,.l 3 0 2 2 1 false),(21,.i .i64 0),(22,.i .i64 0),(123,.i .i64 2),(124,.i .i64 0)] [some (cellsO 39 [.lr 1 3 0 n1 false,.lr 2 3 0 n2 false]),some (.rows 47 3 n1 (uF B V D)),some (.rows 47 3 n2 (uF Br Vr Dr)),some (cellsO 39 [.lr 4 3 0 n1 false,.lr 5 3 0 n2 false]),some (.rows 47 3 n1 (uF Bq Vq Dq)),some (.rows 47 3 n2 (uF Br Vr Dr))] 6 (fun Lf=>decide (ofNat i<ofNat n1)=false/\Lf):=by unfold LD LQ;kernel_rfl
theorem w3R_lq (n1 n2 i:Nat) (B V Bq Vq Br Vr Bw Vw:Nat->Int) (D Dq Dr Dw:Nat->List Nat) (c1:CS) (s1:SS) (m1:Nat) (h0:decide (ofNat i<ofNat n2)=true):LD Tryz.prog (loopAt Tryz.prog 5 2) 172 6 [(0,.sv 3 n1 (uF Bq Vq Dq)),(17,.l 0 0 2 2 1 false),(18,.i .i64 0),(20,.l 3 0 2 2 1 false),(21,.i .i64 0),(22,.i .i64 1),(123,.i .i64 2),(124,.i .i64 1),(131,.i .i64 (ofNat n2)),(132,.i .i64 (ofNat i))] [some (cellsO 39 [.lr 1 3 0 (addN n1 1) false,.lr 2 3 0 n2 false]),some (.rows 47 3 (addN n1 1) (appZ n1 (uF Bw Vw Dw) (listF 3 [.i .i64 (-6),.i .i64 0,.s []] 1))),some (.rows 47 3 n2 (uF B V D)),some (cellsO 39 [.lr 4 3 0 n1 false,.lr 5 3 0 n2 false]),some (.rows 47 3 n1 (uF Bq Vq Dq)),some (.rows 47 3 n2 (uF Br Vr Dr))] (.t (.c .z)) .nrm [0,1,2,3,4,5] [(0,.sv 3 n1 (uF Bq Vq Dq)),(17,.l 0 0 2 2 1 false),(18,.i .i64 0),(20,.l 3 0 2 2 1 false),(21,.i .i64 0),(22,.i .i64 1),(123,.i .i64 2),(124,.i .i64 1),(131,.i .i64 (ofNat n2)),(132,.i .i64 (ofNat i+1))] [some (cellsO 39 [.lr 1 3 0 (addN n1 1) false,.lr 2 3 0 n2 false]),some (.rows 47 3 (addN n1 1) (appZ n1 (uF Bw Vw Dw) (listF 3 [.i .i64 (-6),.i .i64 0,.s []] 1))),some (.rows 47 3 n2 (setRow (uF B V D) i 0 [.i .i64 (-5),.i .i64 0,.s []])),some (cellsO 39 [.lr 4 3 0 n1 false,.lr 5 3 0 n2 false]),some (.rows 47 3 n1 (uF Bq Vq Dq)),some (.rows 47 3 n2 (uF Br Vr Dr))] 6 (fun Lf=>decide (ofNat i<ofNat n2)=true/\(0<=ofNat i/\ofNat i<↑n2)/\i<n2/\rg (ofNat i+1)/\Lf):=by unfold LD LQ;kernel_rfl
theorem w3E_lq (n1 n2 i:Nat) (B V Bq Vq Br Vr Bw Vw:Nat->Int) (D Dq Dr Dw:Nat->List Nat) (c1:CS) (s1:SS) (m1:Nat) (h0:decide (ofNat i<ofNat n2)=false):LD Tryz.prog (loopAt Tryz.prog 5 2) 172 6 [(0,.sv 3 n1 (uF Bq Vq Dq)),(17,.l 0 0 2 2 1 false),(18,.i .i64 0),(20,.l 3 0 2 2 1 false),(21,.i .i64 0),(22,.i .i64 1),(123,.i .i64 2),(124,.i .i64 1),(131,.i .i64 (ofNat n2)),(132,.i .i64 (ofNat i))] [some (cellsO 39 [.lr 1 3 0 (addN n1 1) false,.lr 2 3 0 n2 false]),some (.rows 47 3 (addN n1 1) (appZ n1 (uF Bw Vw Dw) (listF 3 [.i .i64 (-6),.i .i64 0,.s []] 1))),some (.rows 47 3 n2 (uF B V D)),some (cellsO 39 [.lr 4 3 0 n1 false,.lr 5 3 0 n2 false]),some (.rows 47 3 n1 (uF Bq Vq Dq)),some (.rows 47 3 n2 (uF Br Vr Dr))] (.f .z) (.exit 4) [0,1,2,3,4,5] [(0,.sv 3 n1 (uF Bq Vq Dq)),(17,.l 0 0 2 2 1 false),(18,.i .i64 0),(20,.l 3 0 2 2 1 false),(21,.i .i64 0),(22,.i .i64 1),(123,.i .i64 2),(124,.i .i64 1)] [some (cellsO 39 [.lr 1 3 0 (addN n1 1) false,.lr 2 3 0 n2 false]),some (.rows 47 3 (addN n1 1) (appZ n1 (uF Bw Vw Dw) (listF 3 [.i .i64 (-6),.i .i64 0,.s []] 1))),some (.rows 47 3 n2 (uF B V D)),some (cellsO 39 [.lr 4 3 0 n1 false,.lr 5 3 0 n2 false]),some (.rows 47 3 n1 (uF Bq Vq Dq)),some (.rows 47 3 n2 (uF Br Vr Dr))] 6 (fun Lf=>decide (ofNat i<ofNat n2)=false/\Lf):=by unfold LD LQ;kernel_rfl
theorem smR_lq (n i:Nat) (B V:Nat->Int) (D:Nat->List Nat) (h0:decide (ofNat i<ofNat n)=true) (h1:(decide (B i=B i) && (decide (V i=V i) && (natsEq (D i) (D i) && true)))=true):LD Tryz.prog (loopAt Tryz.prog 18 0) 26 0 [(0,.sv 3 n (uF B V D)),(1,.sv 3 n (uF B V D)),(5,.i .i64 (ofNat i))] [] (.t (.f .z)) .nrm [] [(0,.sv 3 n (uF B V D)),(1,.sv 3 n (uF B V D)),(5,.i .i64 (ofNat i+1))] [] 0 (fun Lf=>decide (ofNat i<ofNat n)=true/\(0<=ofNat i/\ofNat i<↑n)/\True/\(0<=ofNat i/\ofNat i<↑n)/\True/\True/\(!(decide (B i=B i) && (decide (V i=V i) && (natsEq (D i) (D i) && true))))=false/\rg (ofNat i+1)/\Lf):=by unfold LD LQ;kernel_rfl
theorem smE_lq (n i:Nat) (B V:Nat->Int) (D:Nat->List Nat) (h0:decide (ofNat i<ofNat n)=false):LD Tryz.prog (loopAt Tryz.prog 18 0) 26 0 [(0,.sv 3 n (uF B V D)),(1,.sv 3 n (uF B V D)),(5,.i .i64 (ofNat i))] [] (.f .z) (.exit 0) [] [(0,.sv 3 n (uF B V D))] [] 0 (fun Lf=>decide (ofNat i<ofNat n)=false/\Lf):=by unfold LD LQ;kernel_rfl
theorem sm0_vq (n:Nat) (B V:Nat->Int) (D:Nat->List Nat):VD Tryz.prog 18 [.sv 3 n (uF B V D),.sv 3 n (uF B V D)] [] (.f (.lop [] [0,1,5] 0 (.exit 0) [(0,.sv 3 n (uF B V D))] [] .z)) (.b true) [] [] 0 (fun Lf=>(!decide (ofNat n=ofNat n))=false/\LDoes Tryz.prog (loopAt Tryz.prog 18 0) 26 0 (mkT [(0,.sv 3 n (uF B V D)),(1,.sv 3 n (uF B V D)),(5,.i .i64 0)]) [] (.exit 0) (mkT [(0,.sv 3 n (uF B V D))]) []/\Lf):=by unfold VD VQ;kernel_rfl
theorem sm_con (n:Nat) (B V:Nat->Int) (D:Nat->List Nat) (ksl:LDoes Tryz.prog (loopAt Tryz.prog 18 0) 26 0 (mkT [(0,.sv 3 n (uF B V D)),(1,.sv 3 n (uF B V D)),(5,.i .i64 0)]) [] (.exit 0) (mkT [(0,.sv 3 n (uF B V D))]) []):Con Tryz.prog 18 [.sv 3 n (uF B V D),.sv 3 n (uF B V D)] [] (.b true) []:=by
 exact con_d (sm0_vq (n:=n) (B:=B) (V:=V) (D:=D)) (by repeat' first | exact trivial | assumption | exact rfl | exact nT (by assumption) | exact nF (by assumption) | assumption | (simp;done) | apply And.intro | decide)
set_option maxRecDepth 200000
def wI (i:Nat) (x:Int) (B:Nat->Int) (k:Nat):Int:=bif Nat.blt k i then x else B k
def wD (i:Nat) (D:Nat->List Nat) (k:Nat):List Nat:=bif Nat.blt k i then [] else D k
theorem w0_lp (n1 n2:Nat) (B V Bq Vq Br Vr Bw Vw:Nat->Int) (D Dq Dr Dw:Nat->List Nat) (c1:CS) (s1:SS) (m1:Nat) (hn:(addN n1 1)<=5000000000000):LDoes Tryz.prog (loopAt Tryz.prog 5 0) 172 8 (mkT [(0,.sv 3 n1 (uF Bq Vq Dq)),(1,.sv 3 n2 (uF Br Vr Dr)),(5,.p 0 0),(7,.p 5 0),(9,.p 6 0),(12,.lr 7 3 0 (addN n1 1) false),(74,.i .i64 (ofNat (addN n1 1))),(75,.i .i64 0)]) [some chO,some nsO,some noO,some s1.o,some (r3O c1 false),some (cellsD 28 [.i .i64 0,.l0,.l0] [.i .i64 1,.sv 1 1 (listF 1 [.i .i64 0] 1),.sv 1 1 (listF 1 [.i .i64 1] 1)]),some (lgO 0 0 1 1 1 (ofNat m1) []),some (.rows 47 3 (addN n1 1) (uF B V D))] (.exit 0) (mkT [(0,.sv 3 n1 (uF Bq Vq Dq)),(1,.sv 3 n2 (uF Br Vr Dr)),(5,.p 0 0),(7,.p 5 0),(9,.p 6 0),(12,.lr 7 3 0 (addN n1 1) false)]) [some chO,some nsO,some noO,some s1.o,some (r3O c1 false),some (cellsD 28 [.i .i64 0,.l0,.l0] [.i .i64 1,.sv 1 1 (listF 1 [.i .i64 0] 1),.sv 1 1 (listF 1 [.i .i64 1] 1)]),some (lgO 0 0 1 1 1 (ofNat m1) []),some (.rows 47 3 (addN n1 1) (uF (wI (addN n1 1) 77 B) (wI (addN n1 1) 0 V) (wD (addN n1 1) D)))]:=by
 refine loop_q (fun i:Nat=>([(0,.sv 3 n1 (uF Bq Vq Dq)),(1,.sv 3 n2 (uF Br Vr Dr)),(5,.p 0 0),(7,.p 5 0),(9,.p 6 0),(12,.lr 7 3 0 (addN n1 1) false),(74,.i .i64 (ofNat (addN n1 1))),(75,.i .i64 (ofNat i))],[some chO,some nsO,some noO,some s1.o,some (r3O c1 false),some (cellsD 28 [.i .i64 0,.l0,.l0] [.i .i64 1,.sv 1 1 (listF 1 [.i .i64 0] 1),.sv 1 1 (listF 1 [.i .i64 1] 1)]),some (lgO 0 0 1 1 1 (ofNat m1) []),some (.rows 47 3 (addN n1 1) (uF (wI i 77 B) (wI i 0 V) (wD i D)))])) (fun i=>(addN n1 1)-i) (fun i=>i<=(addN n1 1)) (fun i=>by simp) ?_ 0 (Nat.zero_le _)
 intro i hi
 rcases Nat.lt_or_ge i (addN n1 1) with hlt | q
 · have h1:decide (ofNat i<ofNat (addN n1 1))=true:=decide_eq_true (Int.ofNat_lt.2 hlt)
   have b:(0:Int)<=ofNat i/\ofNat i<(↑(addN n1 1):Int):=⟨ii0 i,Int.ofNat_lt.2 hlt⟩
   have r:rg (ofNat i+1):=⟨by have:=ii0 i;omega,by have:=b.2;omega⟩
   exact rd_nrm (w0R_lq n1 n2 i (wI i 77 B) (wI i 0 V) Bq Vq Br Vr Bw Vw (wD i D) Dq Dr Dw c1 s1 m1 h1) (by
    repeat' first | exact trivial | exact h1 | exact b | exact hlt | exact r | apply And.intro | omega | exact rfl) (i+1) hlt (by show (addN n1 1)-(i+1)<(addN n1 1)-i;omega) rfl (.refl _) ⟨.refl _,.refl _,.refl _,.refl _,.refl _,.refl _,.refl _,.rowsW fun k j hk hj=>.of (wset i 77 B V D hj),trivial⟩
 · have e:i=(addN n1 1):=Nat.le_antisymm hi q
   rw [e]
   have h1:decide (ofNat (addN n1 1)<ofNat (addN n1 1))=false:=decide_eq_false (Int.lt_irrefl _)
   exact rd_out (w0E_lq n1 n2 (addN n1 1) (wI (addN n1 1) 77 B) (wI (addN n1 1) 0 V) Bq Vq Br Vr Bw Vw (wD (addN n1 1) D) Dq Dr Dw c1 s1 m1 h1) ⟨h1,rfl⟩ rfl rfl (.refl _) (.refl _)
theorem w1_lp (n1 n2:Nat) (B V Bq Vq Br Vr Bw Vw:Nat->Int) (D Dq Dr Dw:Nat->List Nat) (c1:CS) (s1:SS) (m1:Nat) (hn:n1<=5000000000000):LDoes Tryz.prog (loopAt Tryz.prog 5 2) 172 4 (mkT [(0,.sv 3 n1 (uF Bq Vq Dq)),(17,.l 0 0 1 1 1 false),(18,.i .i64 0),(20,.l 2 0 1 1 1 false),(21,.i .i64 0),(22,.i .i64 0),(123,.i .i64 1),(124,.i .i64 0),(131,.i .i64 (ofNat n1)),(132,.i .i64 0)]) [some (cellsO 39 [.lr 1 3 0 n1 false]),some (.rows 47 3 n1 (uF B V D)),some (cellsO 39 [.lr 3 3 0 n1 false]),some (.rows 47 3 n1 (uF Bq Vq Dq))] (.exit 4) (mkT [(0,.sv 3 n1 (uF Bq Vq Dq)),(17,.l 0 0 1 1 1 false),(18,.i .i64 0),(20,.l 2 0 1 1 1 false),(21,.i .i64 0),(22,.i .i64 0),(123,.i .i64 1),(124,.i .i64 0)]) [some (cellsO 39 [.lr 1 3 0 n1 false]),some (.rows 47 3 n1 (uF (wI n1 (-5) B) (wI n1 0 V) (wD n1 D))),some (cellsO 39 [.lr 3 3 0 n1 false]),some (.rows 47 3 n1 (uF Bq Vq Dq))]:=by
 refine loop_q (fun i:Nat=>([(0,.sv 3 n1 (uF Bq Vq Dq)),(17,.l 0 0 1 1 1 false),(18,.i .i64 0),(20,.l 2 0 1 1 1 false),(21,.i .i64 0),(22,.i .i64 0),(123,.i .i64 1),(124,.i .i64 0),(131,.i .i64 (ofNat n1)),(132,.i .i64 (ofNat i))],[some (cellsO 39 [.lr 1 3 0 n1 false]),some (.rows 47 3 n1 (uF (wI i (-5) B) (wI i 0 V) (wD i D))),some (cellsO 39 [.lr 3 3 0 n1 false]),some (.rows 47 3 n1 (uF Bq Vq Dq))])) (fun i=>n1-i) (fun i=>i<=n1) (fun i=>by simp) ?_ 0 (Nat.zero_le _)
 intro i hi
 rcases Nat.lt_or_ge i n1 with hlt | q
 · have h1:decide (ofNat i<ofNat n1)=true:=decide_eq_true (Int.ofNat_lt.2 hlt)
   have b:(0:Int)<=ofNat i/\ofNat i<(↑n1:Int):=⟨ii0 i,Int.ofNat_lt.2 hlt⟩
   have r:rg (ofNat i+1):=⟨by have:=ii0 i;omega,by have:=b.2;omega⟩
   exact rd_nrm (w1R_lq n1 n2 i (wI i (-5) B) (wI i 0 V) Bq Vq Br Vr Bw Vw (wD i D) Dq Dr Dw c1 s1 m1 h1) (by
    repeat' first | exact trivial | exact h1 | exact b | exact hlt | exact r | apply And.intro | omega | exact rfl) (i+1) hlt (by show n1-(i+1)<n1-i;omega) rfl (.refl _) ⟨.refl _,.rowsW fun k j hk hj=>.of (wset i (-5) B V D hj),.refl _,.refl _,trivial⟩
 · have e:i=n1:=Nat.le_antisymm hi q
   rw [e]
   have h1:decide (ofNat n1<ofNat n1)=false:=decide_eq_false (Int.lt_irrefl _)
   exact rd_out (w1E_lq n1 n2 n1 (wI n1 (-5) B) (wI n1 0 V) Bq Vq Br Vr Bw Vw (wD n1 D) Dq Dr Dw c1 s1 m1 h1) ⟨h1,rfl⟩ rfl rfl (.refl _) (.refl _)
theorem w2_lp (n1 n2:Nat) (B V Bq Vq Br Vr Bw Vw:Nat->Int) (D Dq Dr Dw:Nat->List Nat) (c1:CS) (s1:SS) (m1:Nat) (hn:n1<=5000000000000):LDoes Tryz.prog (loopAt Tryz.prog 5 2) 172 6 (mkT [(0,.sv 3 n1 (uF Bq Vq Dq)),(17,.l 0 0 2 2 1 false),(18,.i .i64 0),(20,.l 3 0 2 2 1 false),(21,.i .i64 0),(22,.i .i64 0),(123,.i .i64 2),(124,.i .i64 0),(131,.i .i64 (ofNat n1)),(132,.i .i64 0)]) [some (cellsO 39 [.lr 1 3 0 n1 false,.lr 2 3 0 n2 false]),some (.rows 47 3 n1 (uF B V D)),some (.rows 47 3 n2 (uF Br Vr Dr)),some (cellsO 39 [.lr 4 3 0 n1 false,.lr 5 3 0 n2 false]),some (.rows 47 3 n1 (uF Bq Vq Dq)),some (.rows 47 3 n2 (uF Br Vr Dr))] (.exit 4) (mkT [(0,.sv 3 n1 (uF Bq Vq Dq)),(17,.l 0 0 2 2 1 false),(18,.i .i64 0),(20,.l 3 0 2 2 1 false),(21,.i .i64 0),(22,.i .i64 0),(123,.i .i64 2),(124,.i .i64 0)]) [some (cellsO 39 [.lr 1 3 0 n1 false,.lr 2 3 0 n2 false]),some (.rows 47 3 n1 (uF (wI n1 (-5) B) (wI n1 0 V) (wD n1 D))),some (.rows 47 3 n2 (uF Br Vr Dr)),some (cellsO 39 [.lr 4 3 0 n1 false,.lr 5 3 0 n2 false]),some (.rows 47 3 n1 (uF Bq Vq Dq)),some (.rows 47 3 n2 (uF Br Vr Dr))]:=by
 refine loop_q (fun i:Nat=>([(0,.sv 3 n1 (uF Bq Vq Dq)),(17,.l 0 0 2 2 1 false),(18,.i .i64 0),(20,.l 3 0 2 2 1 false),(21,.i .i64 0),(22,.i .i64 0),(123,.i .i64 2),(124,.i .i64 0),(131,.i .i64 (ofNat n1)),(132,.i .i64 (ofNat i))],[some (cellsO 39 [.lr 1 3 0 n1 false,.lr 2 3 0 n2 false]),some (.rows 47 3 n1 (uF (wI i (-5) B) (wI i 0 V) (wD i D))),some (.rows 47 3 n2 (uF Br Vr Dr)),some (cellsO 39 [.lr 4 3 0 n1 false,.lr 5 3 0 n2 false]),some (.rows 47 3 n1 (uF Bq Vq Dq)),some (.rows 47 3 n2 (uF Br Vr Dr))])) (fun i=>n1-i) (fun i=>i<=n1) (fun i=>by simp) ?_ 0 (Nat.zero_le _)
 intro i hi
 rcases Nat.lt_or_ge i n1 with hlt | q
 · have h1:decide (ofNat i<ofNat n1)=true:=decide_eq_true (Int.ofNat_lt.2 hlt)
   have b:(0:Int)<=ofNat i/\ofNat i<(↑n1:Int):=⟨ii0 i,Int.ofNat_lt.2 hlt⟩
   have r:rg (ofNat i+1):=⟨by have:=ii0 i;omega,by have:=b.2;omega⟩
   exact rd_nrm (w2R_lq n1 n2 i (wI i (-5) B) (wI i 0 V) Bq Vq Br Vr Bw Vw (wD i D) Dq Dr Dw c1 s1 m1 h1) (by
    repeat' first | exact trivial | exact h1 | exact b | exact hlt | exact r | apply And.intro | omega | exact rfl) (i+1) hlt (by show n1-(i+1)<n1-i;omega) rfl (.refl _) ⟨.refl _,.rowsW fun k j hk hj=>.of (wset i (-5) B V D hj),.refl _,.refl _,.refl _,.refl _,trivial⟩
 · have e:i=n1:=Nat.le_antisymm hi q
   rw [e]
   have h1:decide (ofNat n1<ofNat n1)=false:=decide_eq_false (Int.lt_irrefl _)
   exact rd_out (w2E_lq n1 n2 n1 (wI n1 (-5) B) (wI n1 0 V) Bq Vq Br Vr Bw Vw (wD n1 D) Dq Dr Dw c1 s1 m1 h1) ⟨h1,rfl⟩ rfl rfl (.refl _) (.refl _)
theorem w3_lp (n1 n2:Nat) (B V Bq Vq Br Vr Bw Vw:Nat->Int) (D Dq Dr Dw:Nat->List Nat) (c1:CS) (s1:SS) (m1:Nat) (hn:n2<=5000000000000):LDoes Tryz.prog (loopAt Tryz.prog 5 2) 172 6 (mkT [(0,.sv 3 n1 (uF Bq Vq Dq)),(17,.l 0 0 2 2 1 false),(18,.i .i64 0),(20,.l 3 0 2 2 1 false),(21,.i .i64 0),(22,.i .i64 1),(123,.i .i64 2),(124,.i .i64 1),(131,.i .i64 (ofNat n2)),(132,.i .i64 0)]) [some (cellsO 39 [.lr 1 3 0 (addN n1 1) false,.lr 2 3 0 n2 false]),some (.rows 47 3 (addN n1 1) (appZ n1 (uF Bw Vw Dw) (listF 3 [.i .i64 (-6),.i .i64 0,.s []] 1))),some (.rows 47 3 n2 (uF B V D)),some (cellsO 39 [.lr 4 3 0 n1 false,.lr 5 3 0 n2 false]),some (.rows 47 3 n1 (uF Bq Vq Dq)),some (.rows 47 3 n2 (uF Br Vr Dr))] (.exit 4) (mkT [(0,.sv 3 n1 (uF Bq Vq Dq)),(17,.l 0 0 2 2 1 false),(18,.i .i64 0),(20,.l 3 0 2 2 1 false),(21,.i .i64 0),(22,.i .i64 1),(123,.i .i64 2),(124,.i .i64 1)]) [some (cellsO 39 [.lr 1 3 0 (addN n1 1) false,.lr 2 3 0 n2 false]),some (.rows 47 3 (addN n1 1) (appZ n1 (uF Bw Vw Dw) (listF 3 [.i .i64 (-6),.i .i64 0,.s []] 1))),some (.rows 47 3 n2 (uF (wI n2 (-5) B) (wI n2 0 V) (wD n2 D))),some (cellsO 39 [.lr 4 3 0 n1 false,.lr 5 3 0 n2 false]),some (.rows 47 3 n1 (uF Bq Vq Dq)),some (.rows 47 3 n2 (uF Br Vr Dr))]:=by
 refine loop_q (fun i:Nat=>([(0,.sv 3 n1 (uF Bq Vq Dq)),(17,.l 0 0 2 2 1 false),(18,.i .i64 0),(20,.l 3 0 2 2 1 false),(21,.i .i64 0),(22,.i .i64 1),(123,.i .i64 2),(124,.i .i64 1),(131,.i .i64 (ofNat n2)),(132,.i .i64 (ofNat i))],[some (cellsO 39 [.lr 1 3 0 (addN n1 1) false,.lr 2 3 0 n2 false]),some (.rows 47 3 (addN n1 1) (appZ n1 (uF Bw Vw Dw) (listF 3 [.i .i64 (-6),.i .i64 0,.s []] 1))),some (.rows 47 3 n2 (uF (wI i (-5) B) (wI i 0 V) (wD i D))),some (cellsO 39 [.lr 4 3 0 n1 false,.lr 5 3 0 n2 false]),some (.rows 47 3 n1 (uF Bq Vq Dq)),some (.rows 47 3 n2 (uF Br Vr Dr))])) (fun i=>n2-i) (fun i=>i<=n2) (fun i=>by simp) ?_ 0 (Nat.zero_le _)
 intro i hi
 rcases Nat.lt_or_ge i n2 with hlt | q
 · have h1:decide (ofNat i<ofNat n2)=true:=decide_eq_true (Int.ofNat_lt.2 hlt)
   have b:(0:Int)<=ofNat i/\ofNat i<(↑n2:Int):=⟨ii0 i,Int.ofNat_lt.2 hlt⟩
   have r:rg (ofNat i+1):=⟨by have:=ii0 i;omega,by have:=b.2;omega⟩
   exact rd_nrm (w3R_lq n1 n2 i (wI i (-5) B) (wI i 0 V) Bq Vq Br Vr Bw Vw (wD i D) Dq Dr Dw c1 s1 m1 h1) (by
    repeat' first | exact trivial | exact h1 | exact b | exact hlt | exact r | apply And.intro | omega | exact rfl) (i+1) hlt (by show n2-(i+1)<n2-i;omega) rfl (.refl _) ⟨.refl _,.refl _,.rowsW fun k j hk hj=>.of (wset i (-5) B V D hj),.refl _,.refl _,.refl _,trivial⟩
 · have e:i=n2:=Nat.le_antisymm hi q
   rw [e]
   have h1:decide (ofNat n2<ofNat n2)=false:=decide_eq_false (Int.lt_irrefl _)
   exact rd_out (w3E_lq n1 n2 n2 (wI n2 (-5) B) (wI n2 0 V) Bq Vq Br Vr Bw Vw (wD n2 D) Dq Dr Dw c1 s1 m1 h1) ⟨h1,rfl⟩ rfl rfl (.refl _) (.refl _)
theorem same_lp (n:Nat) (B V:Nat->Int) (D:Nat->List Nat) (hn:n<=5000000000000):LDoes Tryz.prog (loopAt Tryz.prog 18 0) 26 0 (mkT [(0,.sv 3 n (uF B V D)),(1,.sv 3 n (uF B V D)),(5,.i .i64 0)]) [] (.exit 0) (mkT [(0,.sv 3 n (uF B V D))]) []:=by
 refine loop_q (fun i:Nat=>([(0,.sv 3 n (uF B V D)),(1,.sv 3 n (uF B V D)),(5,.i .i64 (ofNat i))],[])) (fun i=>n-i) (fun i=>i<=n) (fun i=>by simp) ?_ 0 (Nat.zero_le _)
 intro i hi
 rcases Nat.lt_or_ge i n with hlt | q
 · have h1:decide (ofNat i<ofNat n)=true:=decide_eq_true (Int.ofNat_lt.2 hlt)
   have b:(0:Int)<=ofNat i/\ofNat i<(↑n:Int):=⟨ii0 i,Int.ofNat_lt.2 hlt⟩
   have r:rg (ofNat i+1):=⟨by have:=ii0 i;omega,by have:=b.2;omega⟩
   have e:(decide (B i=B i) && (decide (V i=V i) && (natsEq (D i) (D i) && true)))=true:=by simp [nats_rfl]
   exact rd_nrm (smR_lq n i B V D h1 e) (by
    repeat' first | exact trivial | exact h1 | exact b | exact hlt | exact r | exact nT e | exact nF e | exact e | apply And.intro | omega | exact rfl) (i+1) hlt (by show n-(i+1)<n-i;omega) rfl (.refl _) (.refl _)
 · obtain rfl:i=n:=Nat.le_antisymm hi q
   have h1:decide (ofNat i<ofNat i)=false:=decide_eq_false (Int.lt_irrefl _)
   exact rd_out (smE_lq i i B V D h1) ⟨h1,rfl⟩ rfl rfl (.refl _) (.refl _)
theorem VR_b {b:Bool} (ρ ρ':Rho) (x:Value) (h:VR ρ (.b b) x):VR ρ' (.b b) x:=by
 cases h
 constructor
theorem same_con (n:Nat) (B V:Nat->Int) (D:Nat->List Nat) (hn:n<=5000000000000):Con Tryz.prog 18 [.sv 3 n (uF B V D),.sv 3 n (uF B V D)] [] (.b true) []:=sm_con n B V D (same_lp n B V D hn)
theorem sameH_con (n:Nat) (B V:Nat->Int) (D:Nat->List Nat) (hn:n<=5000000000000):Con Tryz.prog 18 [.lr 0 3 0 n false,.sv 3 n (uF B V D)] [some (.rows 47 3 (addN n 1) (uF (hB n B (-9)) (hB n V 0) (hD n D)))] (.b true) [.keep]:=
 ((same_con n B V D hn).pre (pargs':=[.sv 3 n (uF (hB n B (-9)) (hB n V 0) (hD n D)),.sv 3 n (uF B V D)]) ⟨.sv fun i j hi hj=>uF_lo B V D hi hj,.refl _,trivial⟩).borrow (pargs0:=[.lr 0 3 0 n false,.sv 3 n (uF B V D)]) (objs:=[some (.rows 47 3 (addN n 1) (uF (hB n B (-9)) (hB n V 0) (hD n D)))]) [0] (frzP 0 (.rows 3 (addN n 1) (uF (hB n B (-9)) (hB n V 0) (hD n D))) (.tup [.lr 0 3 0 n false,.sv 3 n (uF B V D)])/\True) (by kernel_rfl) (by kernel_rfl) (by kernel_rfl) ⟨by simp [frzP,frzsP,addN_eq],trivial⟩ (by kernel_rfl) (by kernel_rfl) VR_b
theorem sameR_con (n:Nat) (B V:Nat->Int) (D:Nat->List Nat) (hn:n<=5000000000000):Con Tryz.prog 18 [.lr 0 3 0 n false,.sv 3 n (uF B V D)] [some (.rows 47 3 n (uF B V D))] (.b true) [.keep]:=
 (same_con n B V D hn).borrow (pargs0:=[.lr 0 3 0 n false,.sv 3 n (uF B V D)]) (objs:=[some (.rows 47 3 n (uF B V D))]) [0] (frzP 0 (.rows 3 n (uF B V D)) (.tup [.lr 0 3 0 n false,.sv 3 n (uF B V D)])/\True) (by kernel_rfl) (by kernel_rfl) (by kernel_rfl) ⟨by simp [frzP,frzsP],trivial⟩ (by kernel_rfl) (by kernel_rfl) VR_b
theorem encH_con (n:Nat) (B V:Nat->Int) (D:Nat->List Nat) (hn:n<=281474976710656) (hb:∀i,i<n->Byt (D i)):Con Tryz.prog 30 [.lr 0 3 0 n false] [some (.rows 47 3 (addN n 1) (uF (hB n B (-9)) (hB n V 0) (hD n D)))] (.tup [.s (encT n B V D),.i .i64 (encE n B V D)]) [.keep]:=
 ((enc_con n B V D hn hb).pre (pargs':=[.sv 3 n (uF (hB n B (-9)) (hB n V 0) (hD n D))]) ⟨.sv fun i j hi hj=>uF_lo B V D hi hj,trivial⟩).borrow (pargs0:=[.lr 0 3 0 n false]) (objs:=[some (.rows 47 3 (addN n 1) (uF (hB n B (-9)) (hB n V 0) (hD n D)))]) [0] (frzP 0 (.rows 3 (addN n 1) (uF (hB n B (-9)) (hB n V 0) (hD n D))) (.tup [.lr 0 3 0 n false])/\True) (by kernel_rfl) (by kernel_rfl) (by kernel_rfl) ⟨by simp [frzP,frzsP,addN_eq],trivial⟩ (by kernel_rfl) (by kernel_rfl) VR_si
end Go.Proofs.Ly
