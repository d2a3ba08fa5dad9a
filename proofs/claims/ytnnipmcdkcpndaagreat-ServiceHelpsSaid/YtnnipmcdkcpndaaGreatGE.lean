/- Runs over unknown values, told by the kernel: part GE. -/
import Derived.Test.YtnnipmcdkcpndaaGreatGD
import Derived.Test.YtnnipmcdkcpndaaGreatRows
noncomputable section
open Int (ofNat)
set_option linter.unusedSimpArgs false
set_option linter.unusedVariables false
set_option maxRecDepth 20000
namespace Go.Proofs.Lk
open Go Go.Sim Go.Proofs
end Go.Proofs.Lk
namespace Go.Proofs.Nm
open Go Go.Sim Go.Proofs
def nV (b:Nat->Nat):Nat->Nat
 | 0=>0
 | i+1=>nV b i+b i % 128*2 ^ (7*i)
def nm (b:Nat->Nat) (L:Nat):Nat->Nat->Option (Nat×Nat×Nat)
 | 0,_=>none
 | k+1,i=>match Nat.beq i L with
   | true=>some (0,0,10)
   | false=>match Nat.ble 128 (b i) with
     | true=>nm b L k (i+1)
     | false=>match Nat.beq (b i) 0 && Nat.blt 0 i with
       | true=>some (0,0,11)
       | false=>some (nV b (i+1),i+1,0)
end Go.Proofs.Nm
namespace Go.Proofs.Sv
open Go Go.Sim Go.Proofs Go.Proofs.Lk
def wi (n a b:Int):Bool:=decide (a<=n) && decide (n<=b)
structure Cm where
 k:Int
 sv:Int
 bt:Int
 sq:Int
 gn:Int
 lk:Int
 md:Int
 ot:Int
 mn:Nat
 mf:Nat->Int
 d:Int
def cmL (c:Cm):List AV:=[.i .i64 c.k,.i .i64 c.sv,.i .i64 c.bt,.i .i64 c.sq,.i .i64 c.gn,.i .i64 c.lk,.i .i64 c.md,.i .i64 c.ot,isv c.mn c.mf,.i .i64 c.d]
def cmV (c:Cm):AV:=.agg (cmL c)
def anyN (p:Int->Bool) (f:Nat->Int):Nat->Nat->Bool
 | 0,_=>false
 | m+1,i=>p (f i) || anyN p f m (i+1)
def isHelpB (n:Int):Bool:=wi n (-1) 2
def isMdB (n:Int):Bool:=wi n 0 2
def amH (l m w:Int):Bool:=!wi l 0 18 || (!isMdB m || !isMdB w)
def amD (s f h:Int):Bool:=!wi s 0 2 || (!wi f 0 1099511627777 || !isHelpB h)
def mmB (b:Mb):Bool:=wi (b.x 0) 0 2 && (wi (b.x 1) 0 1099511627776 && (wi (b.x 4) 0 1099511627776 && (wi (b.x 5) 0 1099511627776 && (wi (b.x 2) 0 4503599627370556 && isHelpB (b.x 3)))))
def cfO (e:Int) (n m:Nat) (f g:Nat->Int):AObj:=.cells 24 3 [] (setAll .e 0 [.i .i64 e,isv n f,isv m g])
def ixP (p:Nat->Bool):Nat->Nat->Int
 | 0,_=>-1
 | m+1,i=>bif p i then ofNat i else ixP p m (i+1)
def anyP (p:Nat->Bool):Nat->Nat->Bool
 | 0,_=>false
 | m+1,i=>p i || anyP p m (i+1)
def noCf (e:Int) (n m:Nat):Bool:=decide (e=0) && (decide (n=0) && decide (m=0))
def cfN (e:Int) (f g:Nat->Int) (s:Int):Nat->Nat->Bool
 | 0,_=>true
 | m+1,i=>(wi (f i) 0 (s-1) && (!anyP (fun j=>decide (f i=f j)) i 0 && wi (g i) 1 e)) && cfN e f g s m (i+1)
def cfB (e:Int) (n m:Nat) (f g:Nat->Int) (s:Int):Bool:=wi e 1 1099511627776 && (wi (ofNat n) 1 s && (decide (m=n) && cfN e f g s n 0))
def anB (b:Mb) (s:Int):Bool:=wi (b.x 6) 0 99 && (wi (b.x 7) 0 1099511627776 && ((noCf (b.x 8) b.mn b.sn || cfB (b.x 8) b.mn b.sn b.mf b.sf s) &&
 (decide (ofNat b.hn<=19) && (!anyP (fun i=>amH (b.hA i) (b.hM i) (b.hW i)) b.hn 0 && (decide (ofNat b.dn<=3) && !anyP (fun i=>amD (b.dA i) (b.dM i) (b.dW i)) b.dn 0)))))
def svB (r:Rs):Bool:=(mmB (r.s 0) && anB (r.s 0) (r.x 0)) && ((mmB (r.s 1) && anB (r.s 1) (r.x 0)) && (mmB (r.s 2) && anB (r.s 2) (r.x 0)))
def vaB (s:LS):Bool:=wi (s.r.x 0) 1 3 && (wi (s.r.x 1) 0 4503599627370496 && (cfB (s.r.x 2) s.r.mn s.r.sn s.r.mf s.r.sf (s.r.x 0) && (svB s.r && vaS s)))
def shT (k:Int):List Int:=
 if k=1 then [0,2,1,1099511627776,1,1099511627776,0,0,0,0,0,0,0,0,0,0,0,1048576]
 else if k=2 then [0,2,1,1099511627776,1,1099511627776,0,1099511627776,0,0,0,0,0,0,0,0,0,1048576]
 else if k=3 then [0,2,1,1099511627776,1,1099511627776,0,1099511627776,0,18,1,2,0,0,0,0,0,1048576]
 else if k=4 then [0,2,1,1099511627776,1,1099511627776,0,1099511627776,0,18,0,0,0,0,0,0,0,1048576]
 else if k=5 then [0,2,1,1099511627776,1,1099511627776,0,1099511627776,0,0,0,0,0,2,0,0,0,1048576]
 else if k=6 then [0,2,1,1099511627776,1,1099511627776,0,1099511627776,0,0,0,0,0,2,0,0,0,1048576]
 else if k=7 then [0,2,1,1099511627776,1,1099511627776,0,1099511627776,0,0,0,0,0,0,1,3,0,1048576]
 else if k=8 then [0,0,0,0,0,0,0,0,0,0,0,0,0,0,0,0,1,1048576]
 else [0,0,0,0,0,0,0,0,0,0,0,0,0,0,0,0,0,0]
def shA (k:Int) (i:Nat):Int:=(shT k).getD i 0
def kdB (k:Int):Bool:=wi k 1 8
def shL (a:Nat->Int):AV:=.agg [.i .i64 (a 0),.i .i64 (a 1),.i .i64 (a 2),.i .i64 (a 3),.i .i64 (a 4),.i .i64 (a 5),.i .i64 (a 6),.i .i64 (a 7),.i .i64 (a 8),.i .i64 (a 9),.i .i64 (a 10),.i .i64 (a 11),.i .i64 (a 12),.i .i64 (a 13),.i .i64 (a 14),.i .i64 (a 15),.i .i64 (a 16),.i .i64 (a 17)]
def fitB (a:Nat->Int) (c:Cm):Bool:=wi c.sv (a 0) (a 1) && (wi c.bt (a 2) (a 3) && (wi c.sq (a 4) (a 5) && (wi c.gn (a 6) (a 7) && (wi c.lk (a 8) (a 9) && (wi c.md (a 10) (a 11) && (wi c.ot (a 12) (a 13) &&
 (wi c.d (a 16) (a 17) && (wi (ofNat c.mn) (a 14) (a 15) && !anyP (fun i=>!wi (c.mf i) 0 2) c.mn 0))))))))
def vcB (c:Cm):Bool:=kdB c.k && fitB (shA c.k) c
def ddR (b:Mb) (i:Nat):List HQ:=bif decide (b.x 0=2) then [⟨ofNat i,b.x 1+1,b.x 3⟩] else []
def ddL (r:Rs):List HQ:=ddR (r.s 0) 0 ++ (ddR (r.s 1) 1 ++ ddR (r.s 2) 2)
def deadM (b:Mb):Mb:={ b with x:=fun k=>bif Nat.beq k 0 then 2 else bif Nat.beq k 3 then -1 else b.x k}
def diesB (b:Mb) (T:Int):Bool:=decide (b.x 0=1) && decide (b.x 2<T)
def pasM (T:Int) (b:Mb):Mb:=bif diesB b T then deadM b else b
def wR (t:TS) (r:Rs):TS:=⟨r,t.h,t.n,t.A,t.M,t.W⟩
def setS (r:Rs) (i:Nat) (b:Mb):Rs:={ r with s:=fun j=>bif Nat.beq j i then b else r.s j}
def setX (r:Rs) (i:Nat) (v:Int):Rs:={ r with x:=fun j=>bif Nat.beq j i then v else r.x j}
def psR (r:Rs) (i:Nat):Rs:={ r with s:=fun j=>bif Nat.blt j i then pasM (r.x 1) (r.s j) else r.s j}
def tkT (t:TS) (d:Int):TS:=wR t (setX t.r 1 (t.r.x 1+d))
def cmI (c:Cm) (k i j:Int):AV:=.agg [.i .i64 k,.i .i64 i,.i .i64 c.bt,.i .i64 c.sq,.i .i64 c.gn,.i .i64 c.lk,.i .i64 c.md,.i .i64 j,isv c.mn c.mf,.i .i64 c.d]
def alB (b:Mb) (g:Int):Bool:=decide (b.x 0=1) && decide (b.x 1=g)
def staB (b:Mb) (bt sq:Int):Bool:=bif decide (bt=b.x 4) then !decide (sq=b.x 5) && !decide (sq=b.x 5+1) else decide (bt<b.x 4) || !decide (sq=1)
def mntM (b:Mb) (T:Int):Mb:={ b with x:=fun k=>bif Nat.beq k 0 then 1 else bif Nat.beq k 1 then b.x 1+1 else bif Nat.beq k 2 then T+60 else bif Nat.beq k 3 then -1 else b.x k}
def xM (b:Mb) (n:Nat) (v:Int):Mb:={ b with x:=fun k=>bif Nat.beq k n then v else b.x k}
def absM (b:Mb):Mb:={ b with x:=fun k=>bif Nat.beq k 0 then 0 else bif Nat.beq k 3 then -1 else b.x k}
def bsM (b:Mb) (bt sq:Int):Mb:={ b with x:=fun k=>bif Nat.beq k 4 then bt else bif Nat.beq k 5 then sq else b.x k}
def vwM (r:Rs) (i:Nat) (e:Int) (hl dd:List HQ):Mb:=⟨fun k=>bif Nat.beq k 6 then e else bif Nat.beq k 7 then (r.s i).x 1 else r.x 2,r.mn,r.mf,r.sn,r.sf,hl.length,qA hl,qM hl,qW hl,dd.length,qA dd,qM dd,qW dd⟩
def ansM (b v:Mb):Mb:={ v with x:=fun k=>bif Nat.blt k 6 then b.x k else v.x k}
def cmC (c:Cm):List CV:=[.i .i64 c.k,.i .i64 c.sv,.i .i64 c.bt,.i .i64 c.sq,.i .i64 c.gn,.i .i64 c.lk,.i .i64 c.md,.i .i64 c.ot,isC c.mn c.mf,.i .i64 c.d]
def cmF (C:Nat->Cm) (i j:Nat):CV:=(cmC (C i)).getD j .p0
def mbZ (b:Mb):AObj:=.cells 32 13 zM (setAll .e 0 (mbL b))
end Go.Proofs.Sv
namespace Go.Proofs.Sv
open Go Go.Sim Go.Proofs Go.Proofs.Lk Go.Proofs.YtnnipmcdkcpndaaGreat
theorem w50_vc (n a b:Int) (V:AV):runK PG 1000000 (.call 50 [.i .i64 n,.i .i64 a,.i .i64 b] (mkH [])) (.s (ot 3 .z) (of_ 3 .z)) (fun r _=>rvIs V r)=((decide (a<=n)=true->decide (a<=n)=true/\decide (a<=n)=true/\decide (a<=n)=true/\(AV.b (decide (n<=b)))=V)/\(decide (a<=n)=false->decide (a<=n)=false/\decide (a<=n)=false/\decide (a<=n)=false/\(AV.b false)=V)):=by kernel_rfl
theorem w149_vc (n a b:Int) (V:AV):runK PG 1000000 (.call 149 [.i .i64 n,.i .i64 a,.i .i64 b] (mkH [])) (.s (ot 3 .z) (of_ 3 .z)) (fun r _=>rvIs V r)=((decide (a<=n)=true->decide (a<=n)=true/\decide (a<=n)=true/\decide (a<=n)=true/\(AV.b (decide (n<=b)))=V)/\(decide (a<=n)=false->decide (a<=n)=false/\decide (a<=n)=false/\decide (a<=n)=false/\(AV.b false)=V)):=by kernel_rfl
theorem w151_vc (n a b:Int) (V:AV):runK PG 1000000 (.call 151 [.i .i64 n,.i .i64 a,.i .i64 b] (mkH [])) (.s (ot 3 .z) (of_ 3 .z)) (fun r _=>rvIs V r)=((decide (a<=n)=true->decide (a<=n)=true/\decide (a<=n)=true/\decide (a<=n)=true/\(AV.b (decide (n<=b)))=V)/\(decide (a<=n)=false->decide (a<=n)=false/\decide (a<=n)=false/\decide (a<=n)=false/\(AV.b false)=V)):=by kernel_rfl
theorem w196_vc (n a b:Int) (V:AV):runK PG 1000000 (.call 196 [.i .i64 n,.i .i64 a,.i .i64 b] (mkH [])) (.s (ot 3 .z) (of_ 3 .z)) (fun r _=>rvIs V r)=((decide (a<=n)=true->decide (a<=n)=true/\decide (a<=n)=true/\decide (a<=n)=true/\(AV.b (decide (n<=b)))=V)/\(decide (a<=n)=false->decide (a<=n)=false/\decide (a<=n)=false/\decide (a<=n)=false/\(AV.b false)=V)):=by kernel_rfl
theorem w128_vc (n a b:Int) (V:AV):runK PG 1000000 (.call 128 [.i .i64 n,.i .i64 a,.i .i64 b] (mkH [])) (.s (ot 3 .z) (of_ 3 .z)) (fun r _=>rvIs V r)=((decide (a<=n)=true->decide (a<=n)=true/\decide (a<=n)=true/\decide (a<=n)=true/\(AV.b (decide (n<=b)))=V)/\(decide (a<=n)=false->decide (a<=n)=false/\decide (a<=n)=false/\decide (a<=n)=false/\(AV.b false)=V)):=by kernel_rfl
theorem has_vc (w:Int->Int->Int->Bool) (n a b:Int) (V:AV):runK PG 1000000 (.call 104 [.agg [.i .i64 a,.i .i64 b],.i .i64 n] (mkH [])) (.cal [] (AV.b (w n a b)) [] .z) (fun r _=>rvIs V r)=(True/\True/\Con PG 50 [AV.i .i64 n,AV.i .i64 a,AV.i .i64 b] [] (AV.b (w n a b)) []/\(AV.b (w n a b))=V):=by kernel_rfl
theorem nn_vc (w:Int->Int->Int->Bool) (n:Int) (V:AV):runK PG 1000000 (.call 106 [.i .i64 n] (mkH [])) (.cal [] (AV.b (w n 0 2)) [] .z) (fun r _=>rvIs V r)=(Con PG 50 [AV.i .i64 n,AV.i .i64 0,AV.i .i64 2] [] (AV.b (w n 0 2)) []/\True/\(AV.b !w n 0 2)=V):=by kernel_rfl
theorem hlp_vc (w:Int->Int->Int->Bool) (n:Int) (V:AV):runK PG 1000000 (.call 150 [.i .i64 n] (mkH [])) (.cal [] (AV.b (w n (-1) 2)) [] .z) (fun r _=>rvIs V r)=(Con PG 50 [AV.i .i64 n,AV.i .i64 (-1),AV.i .i64 2] [] (AV.b (w n (-1) 2)) []/\(AV.b (w n (-1) 2))=V):=by kernel_rfl
theorem md_vc (w:Int->Int->Int->Bool) (n:Int) (V:AV):runK PG 1000000 (.call 186 [.i .i64 n] (mkH [])) (.cal [] (AV.b (w n 0 2)) [] .z) (fun r _=>rvIs V r)=(Con PG 196 [AV.i .i64 n,AV.i .i64 0,AV.i .i64 2] [] (AV.b (w n 0 2)) []/\(AV.b (w n 0 2))=V):=by kernel_rfl
theorem amh_vc (w:Int->Int->Int->Bool) (m:Int->Bool) (l m1 w1:Int) (V:AV):runK PG 1000000 (.call 154 [.agg [.i .i64 l,.i .i64 m1,.i .i64 w1]] (mkH [])) (.cal [] (AV.b (w l 0 18)) [] (.s (.t (.t (.cal [] (AV.b (m m1)) [] (.t (.f (.s (.t (.t (.cal [] (AV.b (m w1)) [] (.t (.f .z))))) (of_ 3 (.t .z)))))))) (of_ 3 (.t (.c (.c (.c (.c (.c .z))))))))) (fun r _=>rvIs V r)=(True/\Con PG 50 [AV.i .i64 l,AV.i .i64 0,AV.i .i64 18] [] (AV.b (w l 0 18)) []/\True/\((!!w l 0 18)=true->True/\(!!w l 0 18)=true/\(!!w l 0 18)=true/\Con PG 186 [AV.i .i64 m1] [] (AV.b (m m1)) []/\(!!w l 0 18)=true/\True/\(!w l 0 18)=false/\((!!m m1)=true->True/\(!!m m1)=true/\(!!m m1)=true/\Con PG 186 [AV.i .i64 w1] [] (AV.b (m w1)) []/\(!!m m1)=true/\True/\(!m m1)=false/\(AV.b !m w1)=V)/\((!!m m1)=false->(!!m m1)=false/\(!!m m1)=false/\(!!m m1)=false/\(!m m1)=true/\(AV.b true)=V))/\((!!w l 0 18)=false->(!!w l 0 18)=false/\(!!w l 0 18)=false/\(!!w l 0 18)=false/\(!w l 0 18)=true/\(AV.b true)=V)):=by kernel_rfl
theorem amd_vc (w:Int->Int->Int->Bool) (h:Int->Bool) (s1 f1 h1:Int) (V:AV):runK PG 1000000 (.call 156 [.agg [.i .i64 s1,.i .i64 f1,.i .i64 h1]] (mkH [])) (.cal [] (AV.b (w s1 0 2)) [] (.s (.t (.t (.cal [] (AV.b (w f1 0 1099511627777)) [] (.t (.f (.s (.t (.t (.cal [] (AV.b (h h1)) [] (.t (.f .z))))) (of_ 3 (.t .z)))))))) (of_ 3 (.t (.c (.c (.c (.c (.c .z))))))))) (fun r _=>rvIs V r)=(True/\Con PG 50 [AV.i .i64 s1,AV.i .i64 0,AV.i .i64 2] [] (AV.b (w s1 0 2)) []/\True/\((!!w s1 0 2)=true->True/\(!!w s1 0 2)=true/\(!!w s1 0 2)=true/\Con PG 50 [AV.i .i64 f1,AV.i .i64 0,AV.i .i64 1099511627777] [] (AV.b (w f1 0 1099511627777)) []/\(!!w s1 0 2)=true/\True/\(!w s1 0 2)=false/\((!!w f1 0 1099511627777)=true->True/\(!!w f1 0 1099511627777)=true/\(!!w f1 0 1099511627777)=true/\Con PG 150 [AV.i .i64 h1] [] (AV.b (h h1)) []/\(!!w f1 0 1099511627777)=true/\True/\(!w f1 0 1099511627777)=false/\(AV.b !h h1)=V)/\((!!w f1 0 1099511627777)=false->(!!w f1 0 1099511627777)=false/\(!!w f1 0 1099511627777)=false/\(!!w f1 0 1099511627777)=false/\(!w f1 0 1099511627777)=true/\(AV.b true)=V))/\((!!w s1 0 2)=false->(!!w s1 0 2)=false/\(!!w s1 0 2)=false/\(!!w s1 0 2)=false/\(!w s1 0 2)=true/\(AV.b true)=V)):=by kernel_rfl
theorem mm_vc (w:Int->Int->Int->Bool) (h:Int->Bool) (b:Mb) (V:AV):runK PG 1000000 (.call 99 [.agg (mbL b)] (mkH [])) (.cal [] (AV.b (w (Mb.x b 0) 0 2)) [] (.s (.t (.t (.cal [] (AV.b (w (Mb.x b 1) 0 1099511627776)) [] (.t (.s (.t (.t (.cal [] (AV.b (w (Mb.x b 4) 0 1099511627776)) [] (.t (.s (.t (.t (.cal [] (AV.b (w (Mb.x b 5) 0 1099511627776)) [] (.t (.s (.t (.t (.cal [] (AV.b (w (Mb.x b 2) 0 4503599627370556)) [] (.t (.s (.t (.t (.cal [] (AV.b (h (Mb.x b 3))) [] (.t .z)))) (of_ 3 .z)))))) (of_ 3 (.c (.c (.c (.c .z)))))))))) (of_ 3 (.c (.c (.c (.c (.c (.c (.c (.c .z)))))))))))))) (of_ 3 (.c (.c (.c (.c (.c (.c (.c (.c (.c (.c (.c (.c .z)))))))))))))))))) (of_ 3 (.c (.c (.c (.c (.c (.c (.c (.c (.c (.c (.c (.c (.c (.c (.c (.c .z))))))))))))))))))) (fun r _=>rvIs V r)=(True/\Con PG 149 [AV.i .i64 (Mb.x b 0),AV.i .i64 0,AV.i .i64 2] [] (AV.b (w (Mb.x b 0) 0 2)) []/\(w (Mb.x b 0) 0 2=true->True/\w (Mb.x b 0) 0 2=true/\w (Mb.x b 0) 0 2=true/\Con PG 50 [AV.i .i64 (Mb.x b 1),AV.i .i64 0,AV.i .i64 1099511627776] [] (AV.b (w (Mb.x b 1) 0 1099511627776)) []/\w (Mb.x b 0) 0 2=true/\(w (Mb.x b 1) 0 1099511627776=true->True/\w (Mb.x b 1) 0 1099511627776=true/\w (Mb.x b 1) 0 1099511627776=true/\Con PG 50 [AV.i .i64 (Mb.x b 4),AV.i .i64 0,AV.i .i64 1099511627776] [] (AV.b (w (Mb.x b 4) 0 1099511627776)) []/\w (Mb.x b 1) 0 1099511627776=true/\(w (Mb.x b 4) 0 1099511627776=true->True/\w (Mb.x b 4) 0 1099511627776=true/\w (Mb.x b 4) 0
 1099511627776=true/\Con PG 50 [AV.i .i64 (Mb.x b 5),AV.i .i64 0,AV.i .i64 1099511627776] [] (AV.b (w (Mb.x b 5) 0 1099511627776)) []/\w (Mb.x b 4) 0 1099511627776=true/\(w (Mb.x b 5) 0 1099511627776=true->True/\w (Mb.x b 5) 0 1099511627776=true/\w (Mb.x b 5) 0 1099511627776=true/\Con PG 50 [AV.i .i64 (Mb.x b 2),AV.i .i64 0,AV.i .i64 4503599627370556] [] (AV.b (w (Mb.x b 2) 0 4503599627370556)) []/\w (Mb.x b 5) 0 1099511627776=true/\(w (Mb.x b 2) 0 4503599627370556=true->True/\w (Mb.x b 2) 0 4503599627370556=true/\w (Mb.x b 2) 0 4503599627370556=true/\Con PG 150 [AV.i .i64 (Mb.x b 3)] [] (AV.b (h (Mb.x b 3))) []/\w (Mb.x b 2) 0 4503599627370556=true/\(AV.b (h (Mb.x b 3)))=V)/\(w (Mb.x b 2) 0 4503599627370556=false->w (Mb.x b 2) 0 4503599627370556=false/\w (Mb.x b 2) 0 4503599627370556=false/\w (Mb.x b 2) 0 4503599627370556=false/\(AV.b false)=V))/\(w (Mb.x b 5) 0 1099511627776=false->w (Mb.x b 5) 0 1099511627776=false/\w (Mb.x b 5) 0 1099511627776=false/\w (Mb.x b 5) 0 1099511627776=false/\(AV.b false)=V))/\(w (Mb.x b 4) 0 1099511627776=false->w (Mb.x b 4) 0 1099511627776=false/\w (Mb.x b 4) 0 1099511627776=false/\w (Mb.x b 4) 0 1099511627776=false/\(AV.b false)=V))/\(w (Mb.x b 1) 0 1099511627776=false->w (Mb.x b 1) 0 1099511627776=false/\w (Mb.x b 1) 0 1099511627776=false/\w (Mb.x b 1) 0 1099511627776=false/\(AV.b false)=V))/\(w (Mb.x b 0) 0 2=false->w (Mb.x b 0) 0 2 =
 false/\w (Mb.x b 0) 0 2=false/\w (Mb.x b 0) 0 2=false/\(AV.b false)=V)):=by kernel_rfl
theorem noc_vc (e:Int) (n m1:Nat) (f1 g1:Nat->Int) (V:AV):runK PG 1000000 (.call 152 [.agg [.i .i64 e,isv n f1,isv m1 g1]] (mkH [])) (Orc.s (Orc.t (Orc.t (Orc.t
 (Orc.t (Orc.s (Orc.t (Orc.t (Orc.t (Orc.t Orc.z)))) (Orc.f (Orc.f (Orc.f (Orc.f Orc.z))))))))) (Orc.f (Orc.f (Orc.f (Orc.f (Orc.c (Orc.c (Orc.c (Orc.c (Orc.c Orc.z)))))))))) (fun
 r _=>rvIs V r)=(True/\(decide (e=(0:Int))=true->True/\decide (e=(0:Int))=true/\decide (e=(0:Int))=true/\decide (e=(0:Int))=true/\decide (e=(0 :
 Int))=true/\(decide (ofNat n=(0:Int))=true->True/\decide (ofNat n=(0:Int))=true/\decide (ofNat n=(0:Int))=true/\decide (ofNat n=(0 :
 Int))=true/\decide (ofNat n=(0:Int))=true/\(AV.b (decide (ofNat m1=(0:Int))))=V)/\(decide (ofNat n=(0:Int))=false->decide (ofNat n=(0 :
 Int))=false/\decide (ofNat n=(0:Int))=false/\decide (ofNat n=(0:Int))=false/\decide (ofNat n=(0:Int))=false/\(AV.b false)=V))/\(decide (e =
 (0:Int))=false->decide (e=(0:Int))=false/\decide (e=(0:Int))=false/\decide (e=(0:Int))=false/\decide (e=(0:Int))=false/\(AV.b false)=V)):=by
 kernel_rfl
theorem wi_t {n a b:Int} (h:decide (a<=n)=true):(AV.b (decide (n<=b)))=.b (wi n a b):=by unfold wi;rw [h];rfl
theorem wi_f {n a b:Int} (h:decide (a<=n)=false):(AV.b false)=.b (wi n a b):=by unfold wi;rw [h];rfl
theorem w50_con (n a b:Int):Con PG 50 [.i .i64 n,.i .i64 a,.i .i64 b] [] (.b (wi n a b)) []:=con_pureX (w50_vc n a b _) rfl ⟨fun h=>⟨h,h,h,wi_t h⟩,fun h=>⟨h,h,h,wi_f h⟩⟩
theorem w149_con (n a b:Int):Con PG 149 [.i .i64 n,.i .i64 a,.i .i64 b] [] (.b (wi n a b)) []:=con_pureX (w149_vc n a b _) rfl ⟨fun h=>⟨h,h,h,wi_t h⟩,fun h=>⟨h,h,h,wi_f h⟩⟩
theorem w151_con (n a b:Int):Con PG 151 [.i .i64 n,.i .i64 a,.i .i64 b] [] (.b (wi n a b)) []:=con_pureX (w151_vc n a b _) rfl ⟨fun h=>⟨h,h,h,wi_t h⟩,fun h=>⟨h,h,h,wi_f h⟩⟩
theorem w196_con (n a b:Int):Con PG 196 [.i .i64 n,.i .i64 a,.i .i64 b] [] (.b (wi n a b)) []:=con_pureX (w196_vc n a b _) rfl ⟨fun h=>⟨h,h,h,wi_t h⟩,fun h=>⟨h,h,h,wi_f h⟩⟩
theorem w128_con (n a b:Int):Con PG 128 [.i .i64 n,.i .i64 a,.i .i64 b] [] (.b (wi n a b)) []:=con_pureX (w128_vc n a b _) rfl ⟨fun h=>⟨h,h,h,wi_t h⟩,fun h=>⟨h,h,h,wi_f h⟩⟩
theorem has_con (n a b:Int):Con PG 104 [.agg [.i .i64 a,.i .i64 b],.i .i64 n] [] (.b (wi n a b)) []:=con_pureX (has_vc wi n a b _) rfl ⟨trivial,trivial,w50_con _ _ _,rfl⟩
theorem nn_con (n:Int):Con PG 106 [.i .i64 n] [] (.b (!wi n 0 2)) []:=con_pureX (nn_vc wi n _) rfl ⟨w50_con _ _ _,trivial,rfl⟩
theorem hlp_con (n:Int):Con PG 150 [.i .i64 n] [] (.b (isHelpB n)) []:=con_pureX (hlp_vc wi n _) rfl ⟨w50_con _ _ _,rfl⟩
theorem md_con (n:Int):Con PG 186 [.i .i64 n] [] (.b (isMdB n)) []:=con_pureX (md_vc wi n _) rfl ⟨w196_con _ _ _,rfl⟩
theorem amh_con (l m w:Int):Con PG 154 [.agg [.i .i64 l,.i .i64 m,.i .i64 w]] [] (.b (amH l m w)) []:=by
 refine con_pureX (amh_vc wi isMdB l m w _) rfl ?_
 repeat' first | exact trivial | assumption | exact w50_con _ _ _ | exact md_con _ | apply And.intro | intro _
 all_goals simp_all [amH]
theorem amd_con (s f h:Int):Con PG 156 [.agg [.i .i64 s,.i .i64 f,.i .i64 h]] [] (.b (amD s f h)) []:=by
 refine con_pureX (amd_vc wi isHelpB s f h _) rfl ?_
 repeat' first | exact trivial | assumption | exact w50_con _ _ _ | exact hlp_con _ | apply And.intro | intro _
 all_goals simp_all [amD]
theorem mm_con (b:Mb):Con PG 99 [.agg (mbL b)] [] (.b (mmB b)) []:=by
 refine con_pureX (mm_vc wi isHelpB b _) rfl ?_
 repeat' first | exact trivial | assumption | exact w50_con _ _ _ | exact w149_con _ _ _ | exact hlp_con _ | apply And.intro | intro _
 all_goals simp_all [mmB]
theorem noc_con (e:Int) (n m:Nat) (f g:Nat->Int):Con PG 152 [.agg [.i .i64 e,isv n f,isv m g]] [] (.b (noCf e n m)) []:=by
 refine con_pureX (noc_vc e n m f g _) rfl ?_
 repeat' first | exact trivial | assumption | apply And.intro | intro _
 all_goals (simp_all [noCf];try omega)
theorem ixP_any (p:Nat->Bool):∀m i,decide (0<=ixP p m i)=anyP p m i
 | 0,i=>rfl
 | m+1,i=>by
   unfold ixP anyP
   cases p i with
   | true=>simp
   | false=>simpa using ixP_any p m (i+1)
theorem ixE_lq (n:Nat) (f:Nat->Int) (v:Int) (h1:decide (ofNat n<ofNat n)=false):LD PG (loopAt PG 148 0) 19 0 [(0,isv n f),(1,.i .i64 v),(6,isv n f),(7,.i .i64 (ofNat n)),(8,.i .i64 (ofNat n))] [] (.f .z) (.exit 0) [] [] [] 0 (fun Lf=>decide (ofNat n<ofNat n)=false/\Lf):=by unfold LD LQ;kernel_rfl
theorem ixT_lq (n i:Nat) (f:Nat->Int) (v:Int) (h1:decide (ofNat i<ofNat n)=true) (h2:decide (v=f i)=true):LD PG (loopAt PG 148 0) 19 0 [(0,isv n f),(1,.i .i64 v),(6,isv n f),(7,.i .i64 (ofNat n)),(8,.i .i64 (ofNat i))] [] (.t (.t .z)) .ret [] [(4,.i .i64 (ofNat i))] [] 0 (fun Lf=>decide (ofNat i<ofNat n)=true/\(0<=ofNat i/\ofNat i<↑n)/\True/\decide (v=f i)=true/\Lf):=by unfold LD LQ;kernel_rfl
theorem ixN_lq (n i:Nat) (f:Nat->Int) (v:Int) (h1:decide (ofNat i<ofNat n)=true) (h2:decide (v=f i)=false):LD PG (loopAt PG 148 0) 19 0 [(0,isv n f),(1,.i .i64 v),(6,isv n f),(7,.i .i64 (ofNat n)),(8,.i .i64 (ofNat i))] [] (.t (.f .z)) .nrm [] [(0,isv n f),(1,.i .i64 v),(6,isv n f),(7,.i .i64 (ofNat n)),(8,.i .i64 (ofNat i+1))] [] 0 (fun Lf=>decide (ofNat i<ofNat n)=true/\(0<=ofNat i/\ofNat i<↑n)/\True/\decide (v=f i)=false/\rg (ofNat i+1)/\Lf):=by unfold LD LQ;kernel_rfl
theorem ixf_vq (n:Nat) (f:Nat->Int) (v r:Int):VD PG 148 [isv n f,.i .i64 v] [] (.lop [] [0,1,6,7,8] 0 .ret [(4,.i .i64 r)] [] .z) (.i .i64 r) [] [] 0 (fun Lf=>LDoes PG (loopAt PG 148 0) 19 0 (mkT [(0,isv n f),(1,.i .i64 v),(6,isv n f),(7,.i .i64 (ofNat n)),(8,.i .i64 0)]) [] .ret (mkT [(4,.i .i64 r)]) []/\Lf):=by unfold VD VQ;kernel_rfl
theorem ixg_vq (n:Nat) (f:Nat->Int) (v:Int):VD PG 148 [isv n f,.i .i64 v] [] (.lop [] [0,1,6,7,8] 0 (.exit 0) [] [] .z) (.i .i64 (-1)) [] [] 0 (fun Lf=>LDoes PG (loopAt PG 148 0) 19 0 (mkT [(0,isv n f),(1,.i .i64 v),(6,isv n f),(7,.i .i64 (ofNat n)),(8,.i .i64 0)]) [] (.exit 0) (mkT []) []/\Lf):=by unfold VD VQ;kernel_rfl
abbrev ixL (n:Nat) (f:Nat->Int) (v:Int) (i:Nat):List (Nat×AV):=[(0,isv n f),(1,.i .i64 v),(6,isv n f),(7,.i .i64 (ofNat n)),(8,.i .i64 (ofNat i))]
theorem ix_lpF (n:Nat) (hn:n<=1152921504606846976) (f:Nat->Int) (v:Int) (r:Int) (h:ixP (fun i=>decide (v=f i)) n 0=r) (hr:r≠-1):LDoes PG (loopAt PG 148 0) 19 0 (mkT (ixL n f v 0)) [] .ret (mkT [(4,.i .i64 r)]) []:=by
 refine loop_q (fun i=>(ixL n f v i,[])) (fun i=>n-i) (fun i=>i<=n/\ixP (fun i=>decide (v=f i)) (n-i) i=r) (fun _=>Nat.zero_le _) ?_ 0 ⟨Nat.zero_le _,h⟩
 rintro i ⟨hi,hp⟩
 have hlt:i<n:=by
  rcases Nat.lt_or_ge i n with q | q
  · exact q
  · rw [show n-i=0 by omega] at hp
    exact absurd hp.symm hr
 have h1:decide (ofNat i<ofNat n)=true:=decide_eq_true (by simp;omega)
 have bi:(0:Int)<=ofNat i/\ofNat i<(↑n:Int):=⟨by simp,by simp;omega⟩
 have ri:(-9223372036854775808:Int)<=ofNat i+1/\ofNat i+1<=(9223372036854775807:Int):=⟨by simp<;>omega,by simp<;>omega⟩
 rw [show n-i=(n-(i+1))+1 by omega] at hp
 unfold ixP at hp
 cases h2:decide (v=f i) with
 | true=>
   rw [h2,cond_true] at hp
   subst hp
   exact rd_out (ixT_lq n i f v h1 h2) (by repeat' first | exact trivial | assumption | exact bi | exact ri | exact trivial | exact rfl | apply And.intro) rfl rfl (.refl _) (.refl _)
 | false=>
   rw [h2,cond_false] at hp
   exact rd_nrm (ixN_lq n i f v h1 h2) (by repeat' first | exact trivial | assumption | exact bi | exact ri | exact trivial | exact rfl | apply And.intro) (i+1) ⟨hlt,hp⟩ (by show n-(i+1)<n-i;omega) rfl (.refl _) (.refl _)
theorem ix_lpG (n:Nat) (hn:n<=1152921504606846976) (f:Nat->Int) (v:Int) (h:ixP (fun i=>decide (v=f i)) n 0=-1):LDoes PG (loopAt PG 148 0) 19 0 (mkT (ixL n f v 0)) [] (.exit 0) (mkT []) []:=by
 refine loop_q (fun i=>(ixL n f v i,[])) (fun i=>n-i) (fun i=>i<=n/\ixP (fun i=>decide (v=f i)) (n-i) i=-1) (fun _=>Nat.zero_le _) ?_ 0 ⟨Nat.zero_le _,h⟩
 rintro i ⟨hi,hp⟩
 rcases Nat.lt_or_ge i n with hlt | q
 · have h1:decide (ofNat i<ofNat n)=true:=decide_eq_true (by simp;omega)
   have bi:(0:Int)<=ofNat i/\ofNat i<(↑n:Int):=⟨by simp,by simp;omega⟩
   have ri:(-9223372036854775808:Int)<=ofNat i+1/\ofNat i+1<=(9223372036854775807:Int):=⟨by simp<;>omega,by simp<;>omega⟩
   rw [show n-i=(n-(i+1))+1 by omega] at hp
   unfold ixP at hp
   cases h2:decide (v=f i) with
   | true=>
     rw [h2,cond_true] at hp
     simp at hp<;>omega
   | false=>
     rw [h2,cond_false] at hp
     exact rd_nrm (ixN_lq n i f v h1 h2) (by repeat' first | exact trivial | assumption | exact bi | exact ri | exact trivial | exact rfl | apply And.intro) (i+1) ⟨hlt,hp⟩ (by show n-(i+1)<n-i;omega) rfl (.refl _) (.refl _)
 · obtain rfl:i=n:=by omega
   have h1:decide (ofNat i<ofNat i)=false:=decide_eq_false (by simp)
   exact rd_out (ixE_lq i f v h1) (by repeat' first | exact trivial | assumption | exact rfl | apply And.intro) rfl rfl (.refl _) (.refl _)
theorem ix_con (n:Nat) (hn:n<=1152921504606846976) (f:Nat->Int) (v:Int):Con PG 148 [isv n f,.i .i64 v] [] (.i .i64 (ixP (fun i=>decide (v=f i)) n 0)) []:=by
 by_cases h:ixP (fun i=>decide (v=f i)) n 0=-1
 · rw [h];exact con_d (ixg_vq ..) (by repeat' first | exact trivial | exact (ix_lpG n hn f v h).pre (.refl _) (.refl _) | exact ix_lpG n hn f v h | exact rfl | apply And.intro)
 · exact con_d (ixf_vq ..) (by repeat' first | exact trivial | exact ix_lpF n hn f v _ rfl h | exact rfl | apply And.intro)
theorem ifE_lq (n:Nat) (f:Nat->Int) (h1:decide (ofNat n<ofNat n)=false):LD PG (loopAt PG 158 0) 19 0 [(0,isv n f),(1,.fn (.func 106) [] []),(6,isv n f),(7,.i .i64 (ofNat n)),(8,.i .i64 (ofNat n))] [] (.f .z) (.exit 0) [] [] [] 0 (fun Lf=>decide (ofNat n<ofNat n)=false/\Lf):=by unfold LD LQ;kernel_rfl
theorem ifT_lq (p:Int->Bool) (n i:Nat) (f:Nat->Int) (h1:decide (ofNat i<ofNat n)=true) (h2:p (f i)=true):LD PG (loopAt PG 158 0) 19 0 [(0,isv n f),(1,.fn (.func 106) [] []),(6,isv n f),(7,.i .i64 (ofNat n)),(8,.i .i64 (ofNat i))] [] (.t (.cal [] (.b (p (f i))) [] (.t .z))) .ret [] [(4,.i .i64 (ofNat i))] [] 0 (fun Lf=>decide (ofNat i<ofNat n)=true/\(0<=ofNat i/\ofNat i<↑n)/\True/\Con PG 106 [.i .i64 (f i)] [] (.b (p (f i))) []/\p (f i)=true/\Lf):=by unfold LD LQ;kernel_rfl
theorem ifN_lq (p:Int->Bool) (n i:Nat) (f:Nat->Int) (h1:decide (ofNat i<ofNat n)=true) (h2:p (f i)=false):LD PG (loopAt PG 158 0) 19 0 [(0,isv n f),(1,.fn (.func 106) [] []),(6,isv n f),(7,.i .i64 (ofNat n)),(8,.i .i64 (ofNat i))] [] (.t (.cal [] (.b (p (f i))) [] (.f .z))) .nrm [] [(0,isv n f),(1,.fn (.func 106) [] []),(6,isv n f),(7,.i .i64 (ofNat n)),(8,.i .i64 (ofNat i+1))] [] 0 (fun Lf=>decide (ofNat i<ofNat n)=true/\(0<=ofNat i/\ofNat i<↑n)/\True/\Con PG 106 [.i .i64 (f i)] [] (.b (p (f i))) []/\p (f i)=false/\rg (ofNat i+1)/\Lf):=by unfold LD LQ;kernel_rfl
theorem iff_vq (n:Nat) (f:Nat->Int) (r:Int):VD PG 158 [isv n f,.fn (.func 106) [] []] [] (.lop [] [0,1,6,7,8] 0 .ret [(4,.i .i64 r)] [] .z) (.i .i64 r) [] [] 0 (fun Lf=>LDoes PG (loopAt PG 158 0) 19 0 (mkT [(0,isv n f),(1,AV.fn (Fn.func 106) [] []),(6,isv n f),(7,.i .i64 (ofNat n)),(8,.i .i64 0)]) [] .ret (mkT [(4,.i .i64 r)]) []/\Lf):=by unfold VD VQ;kernel_rfl
theorem ifg_vq (n:Nat) (f:Nat->Int):VD PG 158 [isv n f,.fn (.func 106) [] []] [] (.lop [] [0,1,6,7,8] 0 (.exit 0) [] [] .z) (.i .i64 (-1)) [] [] 0 (fun Lf=>LDoes PG (loopAt PG 158 0) 19 0 (mkT [(0,isv n f),(1,AV.fn (Fn.func 106) [] []),(6,isv n f),(7,.i .i64 (ofNat n)),(8,.i .i64 0)]) [] (.exit 0) (mkT []) []/\Lf):=by unfold VD VQ;kernel_rfl
abbrev ifL (n:Nat) (f:Nat->Int) (i:Nat):List (Nat×AV):=[(0,isv n f),(1,.fn (.func 106) [] []),(6,isv n f),(7,.i .i64 (ofNat n)),(8,.i .i64 (ofNat i))]
theorem if_lpF (n:Nat) (hn:n<=1152921504606846976) (f:Nat->Int) (r:Int) (h:ixP (fun i=>!wi (f i) 0 2) n 0=r) (hr:r≠-1):LDoes PG (loopAt PG 158 0) 19 0 (mkT (ifL n f 0)) [] .ret (mkT [(4,.i .i64 r)]) []:=by
 refine loop_q (fun i=>(ifL n f i,[])) (fun i=>n-i) (fun i=>i<=n/\ixP (fun i=>!wi (f i) 0 2) (n-i) i=r) (fun _=>Nat.zero_le _) ?_ 0 ⟨Nat.zero_le _,h⟩
 rintro i ⟨hi,hp⟩
 have hlt:i<n:=by
  rcases Nat.lt_or_ge i n with q | q
  · exact q
  · rw [show n-i=0 by omega] at hp
    exact absurd hp.symm hr
 have h1:decide (ofNat i<ofNat n)=true:=decide_eq_true (by simp;omega)
 have bi:(0:Int)<=ofNat i/\ofNat i<(↑n:Int):=⟨by simp,by simp;omega⟩
 have ri:(-9223372036854775808:Int)<=ofNat i+1/\ofNat i+1<=(9223372036854775807:Int):=⟨by simp<;>omega,by simp<;>omega⟩
 rw [show n-i=(n-(i+1))+1 by omega] at hp
 unfold ixP at hp
 cases h2:!wi (f i) 0 2 with
 | true=>
   rw [h2,cond_true] at hp
   subst hp
   exact rd_out (ifT_lq (fun x=>!wi x 0 2) n i f h1 h2) (by repeat' first | exact trivial | assumption | exact bi | exact ri | exact nn_con _ | exact rfl | apply And.intro) rfl rfl (.refl _) (.refl _)
 | false=>
   rw [h2,cond_false] at hp
   exact rd_nrm (ifN_lq (fun x=>!wi x 0 2) n i f h1 h2) (by repeat' first | exact trivial | assumption | exact bi | exact ri | exact nn_con _ | exact rfl | apply And.intro) (i+1) ⟨hlt,hp⟩ (by show n-(i+1)<n-i;omega) rfl (.refl _) (.refl _)
theorem if_lpG (n:Nat) (hn:n<=1152921504606846976) (f:Nat->Int) (h:ixP (fun i=>!wi (f i) 0 2) n 0=-1):LDoes PG (loopAt PG 158 0) 19 0 (mkT (ifL n f 0)) [] (.exit 0) (mkT []) []:=by
 refine loop_q (fun i=>(ifL n f i,[])) (fun i=>n-i) (fun i=>i<=n/\ixP (fun i=>!wi (f i) 0 2) (n-i) i=-1) (fun _=>Nat.zero_le _) ?_ 0 ⟨Nat.zero_le _,h⟩
 rintro i ⟨hi,hp⟩
 rcases Nat.lt_or_ge i n with hlt | q
 · have h1:decide (ofNat i<ofNat n)=true:=decide_eq_true (by simp;omega)
   have bi:(0:Int)<=ofNat i/\ofNat i<(↑n:Int):=⟨by simp,by simp;omega⟩
   have ri:(-9223372036854775808:Int)<=ofNat i+1/\ofNat i+1<=(9223372036854775807:Int):=⟨by simp<;>omega,by simp<;>omega⟩
   rw [show n-i=(n-(i+1))+1 by omega] at hp
   unfold ixP at hp
   cases h2:!wi (f i) 0 2 with
   | true=>
     rw [h2,cond_true] at hp
     simp at hp<;>omega
   | false=>
     rw [h2,cond_false] at hp
     exact rd_nrm (ifN_lq (fun x=>!wi x 0 2) n i f h1 h2) (by repeat' first | exact trivial | assumption | exact bi | exact ri | exact nn_con _ | exact rfl | apply And.intro) (i+1) ⟨hlt,hp⟩ (by show n-(i+1)<n-i;omega) rfl (.refl _) (.refl _)
 · obtain rfl:i=n:=by omega
   have h1:decide (ofNat i<ofNat i)=false:=decide_eq_false (by simp)
   exact rd_out (ifE_lq i f h1) (by repeat' first | exact trivial | assumption | exact rfl | apply And.intro) rfl rfl (.refl _) (.refl _)
theorem if_con (n:Nat) (hn:n<=1152921504606846976) (f:Nat->Int):Con PG 158 [isv n f,.fn (.func 106) [] []] [] (.i .i64 (ixP (fun i=>!wi (f i) 0 2) n 0)) []:=by
 by_cases h:ixP (fun i=>!wi (f i) 0 2) n 0=-1
 · rw [h];exact con_d (ifg_vq ..) (by repeat' first | exact trivial | exact (if_lpG n hn f h).pre (.refl _) (.refl _) | exact if_lpG n hn f h | exact rfl | apply And.intro)
 · exact con_d (iff_vq ..) (by repeat' first | exact trivial | exact if_lpF n hn f _ rfl h | exact rfl | apply And.intro)
theorem ihE_lq (n:Nat) (A M W:Nat->Int) (h1:decide (ofNat n<ofNat n)=false):LD PG (loopAt PG 185 0) 19 0 [(0,svN n A M W),(1,.fn (.func 154) [] []),(6,svN n A M W),(7,.i .i64 (ofNat n)),(8,.i .i64 (ofNat n))] [] (.f .z) (.exit 0) [] [] [] 0 (fun Lf=>decide (ofNat n<ofNat n)=false/\Lf):=by unfold LD LQ;kernel_rfl
theorem ihT_lq (ph:Int->Int->Int->Bool) (n i:Nat) (A M W:Nat->Int) (h1:decide (ofNat i<ofNat n)=true) (h2:ph (A i) (M i) (W i)=true):LD PG (loopAt PG 185 0) 19 0 [(0,svN n A M W),(1,.fn (.func 154) [] []),(6,svN n A M W),(7,.i .i64 (ofNat n)),(8,.i .i64 (ofNat i))] [] (.t (.cal [] (.b (ph (A i) (M i) (W i))) [] (.t .z))) .ret [] [(4,.i .i64 (ofNat i))] [] 0 (fun Lf=>decide (ofNat i<ofNat n)=true/\(0<=ofNat i/\ofNat i<↑n)/\True/\Con PG 154 [.agg [.i .i64 (A i),.i .i64 (M i),.i .i64 (W i)]] [] (.b (ph (A i) (M i) (W i))) []/\ph (A i) (M i) (W i)=true/\Lf):=by unfold LD LQ;kernel_rfl
theorem ihN_lq (ph:Int->Int->Int->Bool) (n i:Nat) (A M W:Nat->Int) (h1:decide (ofNat i<ofNat n)=true) (h2:ph (A i) (M i) (W i)=false):LD PG (loopAt PG 185 0) 19 0 [(0,svN n A M W),(1,.fn (.func 154) [] []),(6,svN n A M W),(7,.i .i64 (ofNat n)),(8,.i .i64 (ofNat i))] [] (.t (.cal [] (.b (ph (A i) (M i) (W i))) [] (.f .z))) .nrm [] [(0,svN n A M W),(1,.fn (.func 154) [] []),(6,svN n A M W),(7,.i .i64 (ofNat n)),(8,.i .i64 (ofNat i+1))] [] 0 (fun Lf=>decide (ofNat i<ofNat n)=true/\(0<=ofNat i/\ofNat i<↑n)/\True/\Con PG 154 [.agg [.i .i64 (A i),.i .i64 (M i),.i .i64 (W i)]] [] (.b (ph (A i) (M i) (W i))) []/\ph (A i) (M i) (W i)=false/\rg (ofNat i+1)/\Lf):=by unfold LD LQ;kernel_rfl
theorem ihf_vq (n:Nat) (r:Int) (A M W:Nat->Int):VD PG 185 [svN n A M W,.fn (.func 154) [] []] [] (.lop [] [0,1,6,7,8] 0 .ret [(4,.i .i64 r)] [] .z) (.i .i64 r) [] [] 0 (fun Lf=>LDoes PG (loopAt PG 185 0) 19 0 (mkT [(0,svN n A M W),(1,AV.fn (Fn.func 154) [] []),(6,svN n A M W),(7,.i .i64 (ofNat n)),(8,.i .i64 0)]) [] .ret (mkT [(4,.i .i64 r)]) []/\Lf):=by unfold VD VQ;kernel_rfl
theorem ihg_vq (n:Nat) (A M W:Nat->Int):VD PG 185 [svN n A M W,.fn (.func 154) [] []] [] (.lop [] [0,1,6,7,8] 0 (.exit 0) [] [] .z) (.i .i64 (-1)) [] [] 0 (fun Lf=>LDoes PG (loopAt PG 185 0) 19 0 (mkT [(0,svN n A M W),(1,AV.fn (Fn.func 154) [] []),(6,svN n A M W),(7,.i .i64 (ofNat n)),(8,.i .i64 0)]) [] (.exit 0) (mkT []) []/\Lf):=by unfold VD VQ;kernel_rfl
abbrev ihL (n:Nat) (A M W:Nat->Int) (i:Nat):List (Nat×AV):=[(0,svN n A M W),(1,.fn (.func 154) [] []),(6,svN n A M W),(7,.i .i64 (ofNat n)),(8,.i .i64 (ofNat i))]
theorem ih_lpF (n:Nat) (hn:n<=1152921504606846976) (A M W:Nat->Int) (r:Int) (h:ixP (fun i=>amH (A i) (M i) (W i)) n 0=r) (hr:r≠-1):LDoes PG (loopAt PG 185 0) 19 0 (mkT (ihL n A M W 0)) [] .ret (mkT [(4,.i .i64 r)]) []:=by
 refine loop_q (fun i=>(ihL n A M W i,[])) (fun i=>n-i) (fun i=>i<=n/\ixP (fun i=>amH (A i) (M i) (W i)) (n-i) i=r) (fun _=>Nat.zero_le _) ?_ 0 ⟨Nat.zero_le _,h⟩
 rintro i ⟨hi,hp⟩
 have hlt:i<n:=by
  rcases Nat.lt_or_ge i n with q | q
  · exact q
  · rw [show n-i=0 by omega] at hp
    exact absurd hp.symm hr
 have h1:decide (ofNat i<ofNat n)=true:=decide_eq_true (by simp;omega)
 have bi:(0:Int)<=ofNat i/\ofNat i<(↑n:Int):=⟨by simp,by simp;omega⟩
 have ri:(-9223372036854775808:Int)<=ofNat i+1/\ofNat i+1<=(9223372036854775807:Int):=⟨by simp<;>omega,by simp<;>omega⟩
 rw [show n-i=(n-(i+1))+1 by omega] at hp
 unfold ixP at hp
 cases h2:amH (A i) (M i) (W i) with
 | true=>
   rw [h2,cond_true] at hp
   subst hp
   exact rd_out (ihT_lq amH n i A M W h1 h2) (by repeat' first | exact trivial | assumption | exact bi | exact ri | exact amh_con _ _ _ | exact rfl | apply And.intro) rfl rfl (.refl _) (.refl _)
 | false=>
   rw [h2,cond_false] at hp
   exact rd_nrm (ihN_lq amH n i A M W h1 h2) (by repeat' first | exact trivial | assumption | exact bi | exact ri | exact amh_con _ _ _ | exact rfl | apply And.intro) (i+1) ⟨hlt,hp⟩ (by show n-(i+1)<n-i;omega) rfl (.refl _) (.refl _)
theorem ih_lpG (n:Nat) (hn:n<=1152921504606846976) (A M W:Nat->Int) (h:ixP (fun i=>amH (A i) (M i) (W i)) n 0=-1):LDoes PG (loopAt PG 185 0) 19 0 (mkT (ihL n A M W 0)) [] (.exit 0) (mkT []) []:=by
 refine loop_q (fun i=>(ihL n A M W i,[])) (fun i=>n-i) (fun i=>i<=n/\ixP (fun i=>amH (A i) (M i) (W i)) (n-i) i=-1) (fun _=>Nat.zero_le _) ?_ 0 ⟨Nat.zero_le _,h⟩
 rintro i ⟨hi,hp⟩
 rcases Nat.lt_or_ge i n with hlt | q
 · have h1:decide (ofNat i<ofNat n)=true:=decide_eq_true (by simp;omega)
   have bi:(0:Int)<=ofNat i/\ofNat i<(↑n:Int):=⟨by simp,by simp;omega⟩
   have ri:(-9223372036854775808:Int)<=ofNat i+1/\ofNat i+1<=(9223372036854775807:Int):=⟨by simp<;>omega,by simp<;>omega⟩
   rw [show n-i=(n-(i+1))+1 by omega] at hp
   unfold ixP at hp
   cases h2:amH (A i) (M i) (W i) with
   | true=>
     rw [h2,cond_true] at hp
     simp at hp<;>omega
   | false=>
     rw [h2,cond_false] at hp
     exact rd_nrm (ihN_lq amH n i A M W h1 h2) (by repeat' first | exact trivial | assumption | exact bi | exact ri | exact amh_con _ _ _ | exact rfl | apply And.intro) (i+1) ⟨hlt,hp⟩ (by show n-(i+1)<n-i;omega) rfl (.refl _) (.refl _)
 · obtain rfl:i=n:=by omega
   have h1:decide (ofNat i<ofNat i)=false:=decide_eq_false (by simp)
   exact rd_out (ihE_lq i A M W h1) (by repeat' first | exact trivial | assumption | exact rfl | apply And.intro) rfl rfl (.refl _) (.refl _)
theorem ih_con (n:Nat) (hn:n<=1152921504606846976) (A M W:Nat->Int):Con PG 185 [svN n A M W,.fn (.func 154) [] []] [] (.i .i64 (ixP (fun i=>amH (A i) (M i) (W i)) n 0)) []:=by
 by_cases h:ixP (fun i=>amH (A i) (M i) (W i)) n 0=-1
 · rw [h];exact con_d (ihg_vq ..) (by repeat' first | exact trivial | exact (ih_lpG n hn A M W h).pre (.refl _) (.refl _) | exact ih_lpG n hn A M W h | exact rfl | apply And.intro)
 · exact con_d (ihf_vq ..) (by repeat' first | exact trivial | exact ih_lpF n hn A M W _ rfl h | exact rfl | apply And.intro)
theorem idE_lq (n:Nat) (A M W:Nat->Int) (h1:decide (ofNat n<ofNat n)=false):LD PG (loopAt PG 187 0) 19 0 [(0,svN n A M W),(1,.fn (.func 156) [] []),(6,svN n A M W),(7,.i .i64 (ofNat n)),(8,.i .i64 (ofNat n))] [] (.f .z) (.exit 0) [] [] [] 0 (fun Lf=>decide (ofNat n<ofNat n)=false/\Lf):=by unfold LD LQ;kernel_rfl
theorem idT_lq (ph:Int->Int->Int->Bool) (n i:Nat) (A M W:Nat->Int) (h1:decide (ofNat i<ofNat n)=true) (h2:ph (A i) (M i) (W i)=true):LD PG (loopAt PG 187 0) 19 0 [(0,svN n A M W),(1,.fn (.func 156) [] []),(6,svN n A M W),(7,.i .i64 (ofNat n)),(8,.i .i64 (ofNat i))] [] (.t (.cal [] (.b (ph (A i) (M i) (W i))) [] (.t .z))) .ret [] [(4,.i .i64 (ofNat i))] [] 0 (fun Lf=>decide (ofNat i<ofNat n)=true/\(0<=ofNat i/\ofNat i<↑n)/\True/\Con PG 156 [.agg [.i .i64 (A i),.i .i64 (M i),.i .i64 (W i)]] [] (.b (ph (A i) (M i) (W i))) []/\ph (A i) (M i) (W i)=true/\Lf):=by unfold LD LQ;kernel_rfl
theorem idN_lq (ph:Int->Int->Int->Bool) (n i:Nat) (A M W:Nat->Int) (h1:decide (ofNat i<ofNat n)=true) (h2:ph (A i) (M i) (W i)=false):LD PG (loopAt PG 187 0) 19 0 [(0,svN n A M W),(1,.fn (.func 156) [] []),(6,svN n A M W),(7,.i .i64 (ofNat n)),(8,.i .i64 (ofNat i))] [] (.t (.cal [] (.b (ph (A i) (M i) (W i))) [] (.f .z))) .nrm [] [(0,svN n A M W),(1,.fn (.func 156) [] []),(6,svN n A M W),(7,.i .i64 (ofNat n)),(8,.i .i64 (ofNat i+1))] [] 0 (fun Lf=>decide (ofNat i<ofNat n)=true/\(0<=ofNat i/\ofNat i<↑n)/\True/\Con PG 156 [.agg [.i .i64 (A i),.i .i64 (M i),.i .i64 (W i)]] [] (.b (ph (A i) (M i) (W i))) []/\ph (A i) (M i) (W i)=false/\rg (ofNat i+1)/\Lf):=by unfold LD LQ;kernel_rfl
theorem idf_vq (n:Nat) (r:Int) (A M W:Nat->Int):VD PG 187 [svN n A M W,.fn (.func 156) [] []] [] (.lop [] [0,1,6,7,8] 0 .ret [(4,.i .i64 r)] [] .z) (.i .i64 r) [] [] 0 (fun Lf=>LDoes PG (loopAt PG 187 0) 19 0 (mkT [(0,svN n A M W),(1,AV.fn (Fn.func 156) [] []),(6,svN n A M W),(7,.i .i64 (ofNat n)),(8,.i .i64 0)]) [] .ret (mkT [(4,.i .i64 r)]) []/\Lf):=by unfold VD VQ;kernel_rfl
theorem idg_vq (n:Nat) (A M W:Nat->Int):VD PG 187 [svN n A M W,.fn (.func 156) [] []] [] (.lop [] [0,1,6,7,8] 0 (.exit 0) [] [] .z) (.i .i64 (-1)) [] [] 0 (fun Lf=>LDoes PG (loopAt PG 187 0) 19 0 (mkT [(0,svN n A M W),(1,AV.fn (Fn.func 156) [] []),(6,svN n A M W),(7,.i .i64 (ofNat n)),(8,.i .i64 0)]) [] (.exit 0) (mkT []) []/\Lf):=by unfold VD VQ;kernel_rfl
abbrev idL (n:Nat) (A M W:Nat->Int) (i:Nat):List (Nat×AV):=[(0,svN n A M W),(1,.fn (.func 156) [] []),(6,svN n A M W),(7,.i .i64 (ofNat n)),(8,.i .i64 (ofNat i))]
theorem id_lpF (n:Nat) (hn:n<=1152921504606846976) (A M W:Nat->Int) (r:Int) (h:ixP (fun i=>amD (A i) (M i) (W i)) n 0=r) (hr:r≠-1):LDoes PG (loopAt PG 187 0) 19 0 (mkT (idL n A M W 0)) [] .ret (mkT [(4,.i .i64 r)]) []:=by
 refine loop_q (fun i=>(idL n A M W i,[])) (fun i=>n-i) (fun i=>i<=n/\ixP (fun i=>amD (A i) (M i) (W i)) (n-i) i=r) (fun _=>Nat.zero_le _) ?_ 0 ⟨Nat.zero_le _,h⟩
 rintro i ⟨hi,hp⟩
 have hlt:i<n:=by
  rcases Nat.lt_or_ge i n with q | q
  · exact q
  · rw [show n-i=0 by omega] at hp
    exact absurd hp.symm hr
 have h1:decide (ofNat i<ofNat n)=true:=decide_eq_true (by simp;omega)
 have bi:(0:Int)<=ofNat i/\ofNat i<(↑n:Int):=⟨by simp,by simp;omega⟩
 have ri:(-9223372036854775808:Int)<=ofNat i+1/\ofNat i+1<=(9223372036854775807:Int):=⟨by simp<;>omega,by simp<;>omega⟩
 rw [show n-i=(n-(i+1))+1 by omega] at hp
 unfold ixP at hp
 cases h2:amD (A i) (M i) (W i) with
 | true=>
   rw [h2,cond_true] at hp
   subst hp
   exact rd_out (idT_lq amD n i A M W h1 h2) (by repeat' first | exact trivial | assumption | exact bi | exact ri | exact amd_con _ _ _ | exact rfl | apply And.intro) rfl rfl (.refl _) (.refl _)
 | false=>
   rw [h2,cond_false] at hp
   exact rd_nrm (idN_lq amD n i A M W h1 h2) (by repeat' first | exact trivial | assumption | exact bi | exact ri | exact amd_con _ _ _ | exact rfl | apply And.intro) (i+1) ⟨hlt,hp⟩ (by show n-(i+1)<n-i;omega) rfl (.refl _) (.refl _)
theorem id_lpG (n:Nat) (hn:n<=1152921504606846976) (A M W:Nat->Int) (h:ixP (fun i=>amD (A i) (M i) (W i)) n 0=-1):LDoes PG (loopAt PG 187 0) 19 0 (mkT (idL n A M W 0)) [] (.exit 0) (mkT []) []:=by
 refine loop_q (fun i=>(idL n A M W i,[])) (fun i=>n-i) (fun i=>i<=n/\ixP (fun i=>amD (A i) (M i) (W i)) (n-i) i=-1) (fun _=>Nat.zero_le _) ?_ 0 ⟨Nat.zero_le _,h⟩
 rintro i ⟨hi,hp⟩
 rcases Nat.lt_or_ge i n with hlt | q
 · have h1:decide (ofNat i<ofNat n)=true:=decide_eq_true (by simp;omega)
   have bi:(0:Int)<=ofNat i/\ofNat i<(↑n:Int):=⟨by simp,by simp;omega⟩
   have ri:(-9223372036854775808:Int)<=ofNat i+1/\ofNat i+1<=(9223372036854775807:Int):=⟨by simp<;>omega,by simp<;>omega⟩
   rw [show n-i=(n-(i+1))+1 by omega] at hp
   unfold ixP at hp
   cases h2:amD (A i) (M i) (W i) with
   | true=>
     rw [h2,cond_true] at hp
     simp at hp<;>omega
   | false=>
     rw [h2,cond_false] at hp
     exact rd_nrm (idN_lq amD n i A M W h1 h2) (by repeat' first | exact trivial | assumption | exact bi | exact ri | exact amd_con _ _ _ | exact rfl | apply And.intro) (i+1) ⟨hlt,hp⟩ (by show n-(i+1)<n-i;omega) rfl (.refl _) (.refl _)
 · obtain rfl:i=n:=by omega
   have h1:decide (ofNat i<ofNat i)=false:=decide_eq_false (by simp)
   exact rd_out (idE_lq i A M W h1) (by repeat' first | exact trivial | assumption | exact rfl | apply And.intro) rfl rfl (.refl _) (.refl _)
theorem id_con (n:Nat) (hn:n<=1152921504606846976) (A M W:Nat->Int):Con PG 187 [svN n A M W,.fn (.func 156) [] []] [] (.i .i64 (ixP (fun i=>amD (A i) (M i) (W i)) n 0)) []:=by
 by_cases h:ixP (fun i=>amD (A i) (M i) (W i)) n 0=-1
 · rw [h];exact con_d (idg_vq ..) (by repeat' first | exact trivial | exact (id_lpG n hn A M W h).pre (.refl _) (.refl _) | exact id_lpG n hn A M W h | exact rfl | apply And.intro)
 · exact con_d (idf_vq ..) (by repeat' first | exact trivial | exact id_lpF n hn A M W _ rfl h | exact rfl | apply And.intro)
theorem ixc_vq (n:Nat) (f:Nat->Int) (v r:Int):VD PG 98 [isv n f,.i .i64 v] [] (.cal [] (.i .i64 r) [] .z) (.b (decide (0<=r))) [] [] 0 (fun Lf=>Con PG 148 [isv n f,.i .i64 v] [] (.i .i64 r) []/\Lf):=by unfold VD VQ;kernel_rfl
theorem ixc_con (n:Nat) (hn:n<=1152921504606846976) (f:Nat->Int) (v:Int):Con PG 98 [isv n f,.i .i64 v] [] (.b (anyP (fun i=>decide (v=f i)) n 0)) []:=by
 rw [<-ixP_any]
 exact con_d (ixc_vq ..) (by repeat' first | exact trivial | exact ix_con n hn f v | exact rfl | apply And.intro)
theorem ifc_vq (n:Nat) (f:Nat->Int) (r:Int):VD PG 105 [isv n f,.fn (.func 106) [] []] [] (.cal [] (.i .i64 r) [] .z) (.b (decide (0<=r))) [] [] 0 (fun Lf=>Con PG 158 [isv n f,AV.fn (Fn.func 106) [] []] [] (.i .i64 r) []/\Lf):=by unfold VD VQ;kernel_rfl
theorem ifc_con (n:Nat) (hn:n<=1152921504606846976) (f:Nat->Int):Con PG 105 [isv n f,.fn (.func 106) [] []] [] (.b (anyP (fun i=>!wi (f i) 0 2) n 0)) []:=by
 rw [<-ixP_any]
 exact con_d (ifc_vq ..) (by repeat' first | exact trivial | exact if_con n hn f | exact rfl | apply And.intro)
theorem ihc_vq (n:Nat) (r:Int) (A M W:Nat->Int):VD PG 153 [svN n A M W,.fn (.func 154) [] []] [] (.cal [] (.i .i64 r) [] .z) (.b (decide (0<=r))) [] [] 0 (fun Lf=>Con PG 185 [svN n A M W,AV.fn (Fn.func 154) [] []] [] (.i .i64 r) []/\Lf):=by unfold VD VQ;kernel_rfl
theorem ihc_con (n:Nat) (hn:n<=1152921504606846976) (A M W:Nat->Int):Con PG 153 [svN n A M W,.fn (.func 154) [] []] [] (.b (anyP (fun i=>amH (A i) (M i) (W i)) n 0)) []:=by
 rw [<-ixP_any]
 exact con_d (ihc_vq ..) (by repeat' first | exact trivial | exact ih_con n hn A M W | exact rfl | apply And.intro)
theorem idc_vq (n:Nat) (r:Int) (A M W:Nat->Int):VD PG 155 [svN n A M W,.fn (.func 156) [] []] [] (.cal [] (.i .i64 r) [] .z) (.b (decide (0<=r))) [] [] 0 (fun Lf=>Con PG 187 [svN n A M W,AV.fn (Fn.func 156) [] []] [] (.i .i64 r) []/\Lf):=by unfold VD VQ;kernel_rfl
theorem idc_con (n:Nat) (hn:n<=1152921504606846976) (A M W:Nat->Int):Con PG 155 [svN n A M W,.fn (.func 156) [] []] [] (.b (anyP (fun i=>amD (A i) (M i) (W i)) n 0)) []:=by
 rw [<-ixP_any]
 exact con_d (idc_vq ..) (by repeat' first | exact trivial | exact id_con n hn A M W | exact rfl | apply And.intro)
end Go.Proofs.Sv
