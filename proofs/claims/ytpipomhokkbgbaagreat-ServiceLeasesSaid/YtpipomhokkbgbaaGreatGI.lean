/- Runs over unknown values, told by the kernel: part GI. -/
import Derived.Test.YtpipomhokkbgbaaGreatGH
noncomputable section
open Int (ofNat)
set_option linter.unusedSimpArgs false
set_option linter.unusedVariables false
set_option maxRecDepth 20000
namespace Go.Proofs.Sv
open Go Go.Sim Go.Proofs Go.Proofs.Lk Go.Proofs.YtpipomhokkbgbaaGreat
theorem ag_f {b:Mb} {c:Cm} (h:agB b c=false) (h2:decide (c.bt=b.x 4)=true):decide (c.sq=b.x 5)=false:=by
 unfold agB at h;rw [h2,Bool.true_and] at h;exact h
theorem apk1 (s:LS) (c:Cm) (u w:LS) (e pe:Int) (v:Mb) (st:Bool) (h1:st=false) (h4:decide (pe=0)=true) (hps:Con PG 88 [.p 0 0,.i .i64 c.d] [some (tsO s.ts)] (.i .i64 pe) [.set (tsO u.ts)]) (i:Nat) (hi:i<3)
 (hs:Con PG 89 [.agg (mbL (s.r.s i)),cmI c 1 (ofNat i) c.ot] [] (.b st) []) (hd:Con PG 132 [.p 0 0,cmI c 1 (ofNat i) c.ot] [some (tsO (sL u i (bsM (u.r.s i) c.bt c.sq)).ts)] (.i .i64 e) [.set (tsO w.ts)])
 (hv:Con PG 91 [.p 0 0,.i .i64 (ofNat i),.i .i64 e] [some (tsO w.ts)] (.agg (vwL v)) [.keep]) (hv2:Con PG 91 [.p 0 0,.i .i64 (ofNat i),.i .i64 e] [some (tsO (sL w i (ansM (w.r.s i) v)).ts)] (.agg (vwL v)) [.keep]) (hag:agB (s.r.s i) c=false) :
 Con PG 41 [.p 0 0,cmI c 1 (ofNat i) c.ot] [some (tsO s.ts)] (.agg (vwL v)) [.set (tsO (sL w i (ansM (w.r.s i) v)).ts)]:=by
 cases h2:decide (c.bt=(s.r.s i).x 4) with
 | false=>
   match i,hi,hs,hd,hv,hv2,h2 with
   | 0,_,hs,hd,hv,hv2,h2=>exact con_d (ap01a_vq s.ts c u.ts w.ts pe e c.ot v st h1 h2 h4) ⟨trivial,trivial,trivial,hs,h1,trivial,trivial,h2,h2,h2,h2,h2,h2,h2,h2,trivial,hps,nT h4,trivial,trivial,trivial,trivial,trivial,hd,trivial,hv,trivial,trivial,hv2,rfl⟩
   | 1,_,hs,hd,hv,hv2,h2=>exact con_d (ap11a_vq s.ts c u.ts w.ts pe e c.ot v st h1 h2 h4) ⟨trivial,trivial,trivial,hs,h1,trivial,trivial,h2,h2,h2,h2,h2,h2,h2,h2,trivial,hps,nT h4,trivial,trivial,trivial,trivial,trivial,hd,trivial,hv,trivial,trivial,hv2,rfl⟩
   | 2,_,hs,hd,hv,hv2,h2=>exact con_d (ap21a_vq s.ts c u.ts w.ts pe e c.ot v st h1 h2 h4) ⟨trivial,trivial,trivial,hs,h1,trivial,trivial,h2,h2,h2,h2,h2,h2,h2,h2,trivial,hps,nT h4,trivial,trivial,trivial,trivial,trivial,hd,trivial,hv,trivial,trivial,hv2,rfl⟩
 | true=>
   have h3:=ag_f hag h2
   match i,hi,hs,hd,hv,hv2,h2,h3 with
   | 0,_,hs,hd,hv,hv2,h2,h3=>exact con_d (ap01b_vq s.ts c u.ts w.ts pe e c.ot v st h1 h2 h3 h4) ⟨trivial,trivial,trivial,hs,h1,trivial,trivial,h2,trivial,h2,h2,h2,h2,trivial,h2,h2,h2,h3,trivial,hps,nT h4,trivial,trivial,trivial,trivial,trivial,hd,trivial,hv,trivial,trivial,hv2,rfl⟩
   | 1,_,hs,hd,hv,hv2,h2,h3=>exact con_d (ap11b_vq s.ts c u.ts w.ts pe e c.ot v st h1 h2 h3 h4) ⟨trivial,trivial,trivial,hs,h1,trivial,trivial,h2,trivial,h2,h2,h2,h2,trivial,h2,h2,h2,h3,trivial,hps,nT h4,trivial,trivial,trivial,trivial,trivial,hd,trivial,hv,trivial,trivial,hv2,rfl⟩
   | 2,_,hs,hd,hv,hv2,h2,h3=>exact con_d (ap21b_vq s.ts c u.ts w.ts pe e c.ot v st h1 h2 h3 h4) ⟨trivial,trivial,trivial,hs,h1,trivial,trivial,h2,trivial,h2,h2,h2,h2,trivial,h2,h2,h2,h3,trivial,hps,nT h4,trivial,trivial,trivial,trivial,trivial,hd,trivial,hv,trivial,trivial,hv2,rfl⟩
theorem apk2 (s:LS) (c:Cm) (u w:LS) (e pe:Int) (v:Mb) (st:Bool) (h1:st=false) (h4:decide (pe=0)=true) (hps:Con PG 88 [.p 0 0,.i .i64 c.d] [some (tsO s.ts)] (.i .i64 pe) [.set (tsO u.ts)]) (i:Nat) (hi:i<3)
 (hs:Con PG 89 [.agg (mbL (s.r.s i)),cmI c 2 (ofNat i) c.ot] [] (.b st) []) (hd:Con PG 173 [.p 0 0,cmI c 2 (ofNat i) c.ot,.p 1 0] [some (tsO (sL u i (bsM (u.r.s i) c.bt c.sq)).ts),some (fnO 134)] (.i .i64 e) [.set (tsO w.ts),.keep])
 (hv:Con PG 91 [.p 0 0,.i .i64 (ofNat i),.i .i64 e] [some (tsO w.ts)] (.agg (vwL v)) [.keep]) (hv2:Con PG 91 [.p 0 0,.i .i64 (ofNat i),.i .i64 e] [some (tsO (sL w i (ansM (w.r.s i) v)).ts)] (.agg (vwL v)) [.keep]) (hag:agB (s.r.s i) c=false) :
 Con PG 41 [.p 0 0,cmI c 2 (ofNat i) c.ot] [some (tsO s.ts)] (.agg (vwL v)) [.set (tsO (sL w i (ansM (w.r.s i) v)).ts)]:=by
 cases h2:decide (c.bt=(s.r.s i).x 4) with
 | false=>
   match i,hi,hs,hd,hv,hv2,h2 with
   | 0,_,hs,hd,hv,hv2,h2=>exact con_d (ap02a_vq s.ts c u.ts w.ts pe e c.ot v st h1 h2 h4) ⟨trivial,trivial,trivial,hs,h1,trivial,trivial,h2,h2,h2,h2,h2,h2,h2,h2,trivial,hps,nT h4,trivial,trivial,trivial,trivial,trivial,hd,trivial,hv,trivial,trivial,hv2,rfl⟩
   | 1,_,hs,hd,hv,hv2,h2=>exact con_d (ap12a_vq s.ts c u.ts w.ts pe e c.ot v st h1 h2 h4) ⟨trivial,trivial,trivial,hs,h1,trivial,trivial,h2,h2,h2,h2,h2,h2,h2,h2,trivial,hps,nT h4,trivial,trivial,trivial,trivial,trivial,hd,trivial,hv,trivial,trivial,hv2,rfl⟩
   | 2,_,hs,hd,hv,hv2,h2=>exact con_d (ap22a_vq s.ts c u.ts w.ts pe e c.ot v st h1 h2 h4) ⟨trivial,trivial,trivial,hs,h1,trivial,trivial,h2,h2,h2,h2,h2,h2,h2,h2,trivial,hps,nT h4,trivial,trivial,trivial,trivial,trivial,hd,trivial,hv,trivial,trivial,hv2,rfl⟩
 | true=>
   have h3:=ag_f hag h2
   match i,hi,hs,hd,hv,hv2,h2,h3 with
   | 0,_,hs,hd,hv,hv2,h2,h3=>exact con_d (ap02b_vq s.ts c u.ts w.ts pe e c.ot v st h1 h2 h3 h4) ⟨trivial,trivial,trivial,hs,h1,trivial,trivial,h2,trivial,h2,h2,h2,h2,trivial,h2,h2,h2,h3,trivial,hps,nT h4,trivial,trivial,trivial,trivial,trivial,hd,trivial,hv,trivial,trivial,hv2,rfl⟩
   | 1,_,hs,hd,hv,hv2,h2,h3=>exact con_d (ap12b_vq s.ts c u.ts w.ts pe e c.ot v st h1 h2 h3 h4) ⟨trivial,trivial,trivial,hs,h1,trivial,trivial,h2,trivial,h2,h2,h2,h2,trivial,h2,h2,h2,h3,trivial,hps,nT h4,trivial,trivial,trivial,trivial,trivial,hd,trivial,hv,trivial,trivial,hv2,rfl⟩
   | 2,_,hs,hd,hv,hv2,h2,h3=>exact con_d (ap22b_vq s.ts c u.ts w.ts pe e c.ot v st h1 h2 h3 h4) ⟨trivial,trivial,trivial,hs,h1,trivial,trivial,h2,trivial,h2,h2,h2,h2,trivial,h2,h2,h2,h3,trivial,hps,nT h4,trivial,trivial,trivial,trivial,trivial,hd,trivial,hv,trivial,trivial,hv2,rfl⟩
theorem apk3 (s:LS) (c:Cm) (u w:LS) (e pe:Int) (v:Mb) (st:Bool) (h1:st=false) (h4:decide (pe=0)=true) (hps:Con PG 88 [.p 0 0,.i .i64 c.d] [some (tsO s.ts)] (.i .i64 pe) [.set (tsO u.ts)]) (i:Nat) (hi:i<3)
 (hs:Con PG 89 [.agg (mbL (s.r.s i)),cmI c 3 (ofNat i) c.ot] [] (.b st) []) (hd:Con PG 173 [.p 0 0,cmI c 3 (ofNat i) c.ot,.p 1 0] [some (tsO (sL u i (bsM (u.r.s i) c.bt c.sq)).ts),some (fnO 135)] (.i .i64 e) [.set (tsO w.ts),.keep])
 (hv:Con PG 91 [.p 0 0,.i .i64 (ofNat i),.i .i64 e] [some (tsO w.ts)] (.agg (vwL v)) [.keep]) (hv2:Con PG 91 [.p 0 0,.i .i64 (ofNat i),.i .i64 e] [some (tsO (sL w i (ansM (w.r.s i) v)).ts)] (.agg (vwL v)) [.keep]) (hag:agB (s.r.s i) c=false) :
 Con PG 41 [.p 0 0,cmI c 3 (ofNat i) c.ot] [some (tsO s.ts)] (.agg (vwL v)) [.set (tsO (sL w i (ansM (w.r.s i) v)).ts)]:=by
 cases h2:decide (c.bt=(s.r.s i).x 4) with
 | false=>
   match i,hi,hs,hd,hv,hv2,h2 with
   | 0,_,hs,hd,hv,hv2,h2=>exact con_d (ap03a_vq s.ts c u.ts w.ts pe e c.ot v st h1 h2 h4) ⟨trivial,trivial,trivial,hs,h1,trivial,trivial,h2,h2,h2,h2,h2,h2,h2,h2,trivial,hps,nT h4,trivial,trivial,trivial,trivial,trivial,hd,trivial,hv,trivial,trivial,hv2,rfl⟩
   | 1,_,hs,hd,hv,hv2,h2=>exact con_d (ap13a_vq s.ts c u.ts w.ts pe e c.ot v st h1 h2 h4) ⟨trivial,trivial,trivial,hs,h1,trivial,trivial,h2,h2,h2,h2,h2,h2,h2,h2,trivial,hps,nT h4,trivial,trivial,trivial,trivial,trivial,hd,trivial,hv,trivial,trivial,hv2,rfl⟩
   | 2,_,hs,hd,hv,hv2,h2=>exact con_d (ap23a_vq s.ts c u.ts w.ts pe e c.ot v st h1 h2 h4) ⟨trivial,trivial,trivial,hs,h1,trivial,trivial,h2,h2,h2,h2,h2,h2,h2,h2,trivial,hps,nT h4,trivial,trivial,trivial,trivial,trivial,hd,trivial,hv,trivial,trivial,hv2,rfl⟩
 | true=>
   have h3:=ag_f hag h2
   match i,hi,hs,hd,hv,hv2,h2,h3 with
   | 0,_,hs,hd,hv,hv2,h2,h3=>exact con_d (ap03b_vq s.ts c u.ts w.ts pe e c.ot v st h1 h2 h3 h4) ⟨trivial,trivial,trivial,hs,h1,trivial,trivial,h2,trivial,h2,h2,h2,h2,trivial,h2,h2,h2,h3,trivial,hps,nT h4,trivial,trivial,trivial,trivial,trivial,hd,trivial,hv,trivial,trivial,hv2,rfl⟩
   | 1,_,hs,hd,hv,hv2,h2,h3=>exact con_d (ap13b_vq s.ts c u.ts w.ts pe e c.ot v st h1 h2 h3 h4) ⟨trivial,trivial,trivial,hs,h1,trivial,trivial,h2,trivial,h2,h2,h2,h2,trivial,h2,h2,h2,h3,trivial,hps,nT h4,trivial,trivial,trivial,trivial,trivial,hd,trivial,hv,trivial,trivial,hv2,rfl⟩
   | 2,_,hs,hd,hv,hv2,h2,h3=>exact con_d (ap23b_vq s.ts c u.ts w.ts pe e c.ot v st h1 h2 h3 h4) ⟨trivial,trivial,trivial,hs,h1,trivial,trivial,h2,trivial,h2,h2,h2,h2,trivial,h2,h2,h2,h3,trivial,hps,nT h4,trivial,trivial,trivial,trivial,trivial,hd,trivial,hv,trivial,trivial,hv2,rfl⟩
theorem apk4 (s:LS) (c:Cm) (u w:LS) (e pe:Int) (v:Mb) (st:Bool) (h1:st=false) (h4:decide (pe=0)=true) (hps:Con PG 88 [.p 0 0,.i .i64 c.d] [some (tsO s.ts)] (.i .i64 pe) [.set (tsO u.ts)]) (i:Nat) (hi:i<3)
 (hs:Con PG 89 [.agg (mbL (s.r.s i)),cmI c 4 (ofNat i) c.ot] [] (.b st) []) (hd:Con PG 173 [.p 0 0,cmI c 4 (ofNat i) c.ot,.p 1 0] [some (tsO (sL u i (bsM (u.r.s i) c.bt c.sq)).ts),some (fnO 136)] (.i .i64 e) [.set (tsO w.ts),.keep])
 (hv:Con PG 91 [.p 0 0,.i .i64 (ofNat i),.i .i64 e] [some (tsO w.ts)] (.agg (vwL v)) [.keep]) (hv2:Con PG 91 [.p 0 0,.i .i64 (ofNat i),.i .i64 e] [some (tsO (sL w i (ansM (w.r.s i) v)).ts)] (.agg (vwL v)) [.keep]) (hag:agB (s.r.s i) c=false) :
 Con PG 41 [.p 0 0,cmI c 4 (ofNat i) c.ot] [some (tsO s.ts)] (.agg (vwL v)) [.set (tsO (sL w i (ansM (w.r.s i) v)).ts)]:=by
 cases h2:decide (c.bt=(s.r.s i).x 4) with
 | false=>
   match i,hi,hs,hd,hv,hv2,h2 with
   | 0,_,hs,hd,hv,hv2,h2=>exact con_d (ap04a_vq s.ts c u.ts w.ts pe e c.ot v st h1 h2 h4) ⟨trivial,trivial,trivial,hs,h1,trivial,trivial,h2,h2,h2,h2,h2,h2,h2,h2,trivial,hps,nT h4,trivial,trivial,trivial,trivial,trivial,hd,trivial,hv,trivial,trivial,hv2,rfl⟩
   | 1,_,hs,hd,hv,hv2,h2=>exact con_d (ap14a_vq s.ts c u.ts w.ts pe e c.ot v st h1 h2 h4) ⟨trivial,trivial,trivial,hs,h1,trivial,trivial,h2,h2,h2,h2,h2,h2,h2,h2,trivial,hps,nT h4,trivial,trivial,trivial,trivial,trivial,hd,trivial,hv,trivial,trivial,hv2,rfl⟩
   | 2,_,hs,hd,hv,hv2,h2=>exact con_d (ap24a_vq s.ts c u.ts w.ts pe e c.ot v st h1 h2 h4) ⟨trivial,trivial,trivial,hs,h1,trivial,trivial,h2,h2,h2,h2,h2,h2,h2,h2,trivial,hps,nT h4,trivial,trivial,trivial,trivial,trivial,hd,trivial,hv,trivial,trivial,hv2,rfl⟩
 | true=>
   have h3:=ag_f hag h2
   match i,hi,hs,hd,hv,hv2,h2,h3 with
   | 0,_,hs,hd,hv,hv2,h2,h3=>exact con_d (ap04b_vq s.ts c u.ts w.ts pe e c.ot v st h1 h2 h3 h4) ⟨trivial,trivial,trivial,hs,h1,trivial,trivial,h2,trivial,h2,h2,h2,h2,trivial,h2,h2,h2,h3,trivial,hps,nT h4,trivial,trivial,trivial,trivial,trivial,hd,trivial,hv,trivial,trivial,hv2,rfl⟩
   | 1,_,hs,hd,hv,hv2,h2,h3=>exact con_d (ap14b_vq s.ts c u.ts w.ts pe e c.ot v st h1 h2 h3 h4) ⟨trivial,trivial,trivial,hs,h1,trivial,trivial,h2,trivial,h2,h2,h2,h2,trivial,h2,h2,h2,h3,trivial,hps,nT h4,trivial,trivial,trivial,trivial,trivial,hd,trivial,hv,trivial,trivial,hv2,rfl⟩
   | 2,_,hs,hd,hv,hv2,h2,h3=>exact con_d (ap24b_vq s.ts c u.ts w.ts pe e c.ot v st h1 h2 h3 h4) ⟨trivial,trivial,trivial,hs,h1,trivial,trivial,h2,trivial,h2,h2,h2,h2,trivial,h2,h2,h2,h3,trivial,hps,nT h4,trivial,trivial,trivial,trivial,trivial,hd,trivial,hv,trivial,trivial,hv2,rfl⟩
theorem apk5 (s:LS) (c:Cm) (u w:LS) (e pe:Int) (v:Mb) (st:Bool) (h1:st=false) (h4:decide (pe=0)=true) (hps:Con PG 88 [.p 0 0,.i .i64 c.d] [some (tsO s.ts)] (.i .i64 pe) [.set (tsO u.ts)]) (i:Nat) (hi:i<3)
 (hs:Con PG 89 [.agg (mbL (s.r.s i)),cmI c 5 (ofNat i) c.ot] [] (.b st) []) (hd:Con PG 180 [.p 0 0,cmI c 5 (ofNat i) c.ot,.p 1 0] [some (tsO (sL u i (bsM (u.r.s i) c.bt c.sq)).ts),some (fnO 139)] (.i .i64 e) [.set (tsO w.ts),.keep])
 (hv:Con PG 91 [.p 0 0,.i .i64 (ofNat i),.i .i64 e] [some (tsO w.ts)] (.agg (vwL v)) [.keep]) (hv2:Con PG 91 [.p 0 0,.i .i64 (ofNat i),.i .i64 e] [some (tsO (sL w i (ansM (w.r.s i) v)).ts)] (.agg (vwL v)) [.keep]) (hag:agB (s.r.s i) c=false) :
 Con PG 41 [.p 0 0,cmI c 5 (ofNat i) c.ot] [some (tsO s.ts)] (.agg (vwL v)) [.set (tsO (sL w i (ansM (w.r.s i) v)).ts)]:=by
 cases h2:decide (c.bt=(s.r.s i).x 4) with
 | false=>
   match i,hi,hs,hd,hv,hv2,h2 with
   | 0,_,hs,hd,hv,hv2,h2=>exact con_d (ap05a_vq s.ts c u.ts w.ts pe e c.ot v st h1 h2 h4) ⟨trivial,trivial,trivial,hs,h1,trivial,trivial,h2,h2,h2,h2,h2,h2,h2,h2,trivial,hps,nT h4,trivial,trivial,trivial,trivial,trivial,hd,trivial,hv,trivial,trivial,hv2,rfl⟩
   | 1,_,hs,hd,hv,hv2,h2=>exact con_d (ap15a_vq s.ts c u.ts w.ts pe e c.ot v st h1 h2 h4) ⟨trivial,trivial,trivial,hs,h1,trivial,trivial,h2,h2,h2,h2,h2,h2,h2,h2,trivial,hps,nT h4,trivial,trivial,trivial,trivial,trivial,hd,trivial,hv,trivial,trivial,hv2,rfl⟩
   | 2,_,hs,hd,hv,hv2,h2=>exact con_d (ap25a_vq s.ts c u.ts w.ts pe e c.ot v st h1 h2 h4) ⟨trivial,trivial,trivial,hs,h1,trivial,trivial,h2,h2,h2,h2,h2,h2,h2,h2,trivial,hps,nT h4,trivial,trivial,trivial,trivial,trivial,hd,trivial,hv,trivial,trivial,hv2,rfl⟩
 | true=>
   have h3:=ag_f hag h2
   match i,hi,hs,hd,hv,hv2,h2,h3 with
   | 0,_,hs,hd,hv,hv2,h2,h3=>exact con_d (ap05b_vq s.ts c u.ts w.ts pe e c.ot v st h1 h2 h3 h4) ⟨trivial,trivial,trivial,hs,h1,trivial,trivial,h2,trivial,h2,h2,h2,h2,trivial,h2,h2,h2,h3,trivial,hps,nT h4,trivial,trivial,trivial,trivial,trivial,hd,trivial,hv,trivial,trivial,hv2,rfl⟩
   | 1,_,hs,hd,hv,hv2,h2,h3=>exact con_d (ap15b_vq s.ts c u.ts w.ts pe e c.ot v st h1 h2 h3 h4) ⟨trivial,trivial,trivial,hs,h1,trivial,trivial,h2,trivial,h2,h2,h2,h2,trivial,h2,h2,h2,h3,trivial,hps,nT h4,trivial,trivial,trivial,trivial,trivial,hd,trivial,hv,trivial,trivial,hv2,rfl⟩
   | 2,_,hs,hd,hv,hv2,h2,h3=>exact con_d (ap25b_vq s.ts c u.ts w.ts pe e c.ot v st h1 h2 h3 h4) ⟨trivial,trivial,trivial,hs,h1,trivial,trivial,h2,trivial,h2,h2,h2,h2,trivial,h2,h2,h2,h3,trivial,hps,nT h4,trivial,trivial,trivial,trivial,trivial,hd,trivial,hv,trivial,trivial,hv2,rfl⟩
theorem apk6 (s:LS) (c:Cm) (u w:LS) (e pe:Int) (v:Mb) (st:Bool) (h1:st=false) (h4:decide (pe=0)=true) (hps:Con PG 88 [.p 0 0,.i .i64 c.d] [some (tsO s.ts)] (.i .i64 pe) [.set (tsO u.ts)]) (i:Nat) (hi:i<3)
 (hs:Con PG 89 [.agg (mbL (s.r.s i)),cmI c 6 (ofNat i) c.ot] [] (.b st) []) (hd:Con PG 180 [.p 0 0,cmI c 6 (ofNat i) c.ot,.p 1 0] [some (tsO (sL u i (bsM (u.r.s i) c.bt c.sq)).ts),some (fnO 140)] (.i .i64 e) [.set (tsO w.ts),.keep])
 (hv:Con PG 91 [.p 0 0,.i .i64 (ofNat i),.i .i64 e] [some (tsO w.ts)] (.agg (vwL v)) [.keep]) (hv2:Con PG 91 [.p 0 0,.i .i64 (ofNat i),.i .i64 e] [some (tsO (sL w i (ansM (w.r.s i) v)).ts)] (.agg (vwL v)) [.keep]) (hag:agB (s.r.s i) c=false) :
 Con PG 41 [.p 0 0,cmI c 6 (ofNat i) c.ot] [some (tsO s.ts)] (.agg (vwL v)) [.set (tsO (sL w i (ansM (w.r.s i) v)).ts)]:=by
 cases h2:decide (c.bt=(s.r.s i).x 4) with
 | false=>
   match i,hi,hs,hd,hv,hv2,h2 with
   | 0,_,hs,hd,hv,hv2,h2=>exact con_d (ap06a_vq s.ts c u.ts w.ts pe e c.ot v st h1 h2 h4) ⟨trivial,trivial,trivial,hs,h1,trivial,trivial,h2,h2,h2,h2,h2,h2,h2,h2,trivial,hps,nT h4,trivial,trivial,trivial,trivial,trivial,hd,trivial,hv,trivial,trivial,hv2,rfl⟩
   | 1,_,hs,hd,hv,hv2,h2=>exact con_d (ap16a_vq s.ts c u.ts w.ts pe e c.ot v st h1 h2 h4) ⟨trivial,trivial,trivial,hs,h1,trivial,trivial,h2,h2,h2,h2,h2,h2,h2,h2,trivial,hps,nT h4,trivial,trivial,trivial,trivial,trivial,hd,trivial,hv,trivial,trivial,hv2,rfl⟩
   | 2,_,hs,hd,hv,hv2,h2=>exact con_d (ap26a_vq s.ts c u.ts w.ts pe e c.ot v st h1 h2 h4) ⟨trivial,trivial,trivial,hs,h1,trivial,trivial,h2,h2,h2,h2,h2,h2,h2,h2,trivial,hps,nT h4,trivial,trivial,trivial,trivial,trivial,hd,trivial,hv,trivial,trivial,hv2,rfl⟩
 | true=>
   have h3:=ag_f hag h2
   match i,hi,hs,hd,hv,hv2,h2,h3 with
   | 0,_,hs,hd,hv,hv2,h2,h3=>exact con_d (ap06b_vq s.ts c u.ts w.ts pe e c.ot v st h1 h2 h3 h4) ⟨trivial,trivial,trivial,hs,h1,trivial,trivial,h2,trivial,h2,h2,h2,h2,trivial,h2,h2,h2,h3,trivial,hps,nT h4,trivial,trivial,trivial,trivial,trivial,hd,trivial,hv,trivial,trivial,hv2,rfl⟩
   | 1,_,hs,hd,hv,hv2,h2,h3=>exact con_d (ap16b_vq s.ts c u.ts w.ts pe e c.ot v st h1 h2 h3 h4) ⟨trivial,trivial,trivial,hs,h1,trivial,trivial,h2,trivial,h2,h2,h2,h2,trivial,h2,h2,h2,h3,trivial,hps,nT h4,trivial,trivial,trivial,trivial,trivial,hd,trivial,hv,trivial,trivial,hv2,rfl⟩
   | 2,_,hs,hd,hv,hv2,h2,h3=>exact con_d (ap26b_vq s.ts c u.ts w.ts pe e c.ot v st h1 h2 h3 h4) ⟨trivial,trivial,trivial,hs,h1,trivial,trivial,h2,trivial,h2,h2,h2,h2,trivial,h2,h2,h2,h3,trivial,hps,nT h4,trivial,trivial,trivial,trivial,trivial,hd,trivial,hv,trivial,trivial,hv2,rfl⟩
theorem apk7 (s:LS) (c:Cm) (u w:LS) (e pe:Int) (v:Mb) (st:Bool) (h1:st=false) (h4:decide (pe=0)=true) (hps:Con PG 88 [.p 0 0,.i .i64 c.d] [some (tsO s.ts)] (.i .i64 pe) [.set (tsO u.ts)]) (i:Nat) (hi:i<3)
 (hs:Con PG 89 [.agg (mbL (s.r.s i)),cmI c 7 (ofNat i) c.ot] [] (.b st) []) (hd:Con PG 173 [.p 0 0,cmI c 7 (ofNat i) c.ot,.p 1 0] [some (tsO (sL u i (bsM (u.r.s i) c.bt c.sq)).ts),some (fnO 137)] (.i .i64 e) [.set (tsO w.ts),.keep])
 (hv:Con PG 91 [.p 0 0,.i .i64 (ofNat i),.i .i64 e] [some (tsO w.ts)] (.agg (vwL v)) [.keep]) (hv2:Con PG 91 [.p 0 0,.i .i64 (ofNat i),.i .i64 e] [some (tsO (sL w i (ansM (w.r.s i) v)).ts)] (.agg (vwL v)) [.keep]) (hag:agB (s.r.s i) c=false) :
 Con PG 41 [.p 0 0,cmI c 7 (ofNat i) c.ot] [some (tsO s.ts)] (.agg (vwL v)) [.set (tsO (sL w i (ansM (w.r.s i) v)).ts)]:=by
 cases h2:decide (c.bt=(s.r.s i).x 4) with
 | false=>
   match i,hi,hs,hd,hv,hv2,h2 with
   | 0,_,hs,hd,hv,hv2,h2=>exact con_d (ap07a_vq s.ts c u.ts w.ts pe e c.ot v st h1 h2 h4) ⟨trivial,trivial,trivial,hs,h1,trivial,trivial,h2,h2,h2,h2,h2,h2,h2,h2,trivial,hps,nT h4,trivial,trivial,trivial,trivial,trivial,hd,trivial,hv,trivial,trivial,hv2,rfl⟩
   | 1,_,hs,hd,hv,hv2,h2=>exact con_d (ap17a_vq s.ts c u.ts w.ts pe e c.ot v st h1 h2 h4) ⟨trivial,trivial,trivial,hs,h1,trivial,trivial,h2,h2,h2,h2,h2,h2,h2,h2,trivial,hps,nT h4,trivial,trivial,trivial,trivial,trivial,hd,trivial,hv,trivial,trivial,hv2,rfl⟩
   | 2,_,hs,hd,hv,hv2,h2=>exact con_d (ap27a_vq s.ts c u.ts w.ts pe e c.ot v st h1 h2 h4) ⟨trivial,trivial,trivial,hs,h1,trivial,trivial,h2,h2,h2,h2,h2,h2,h2,h2,trivial,hps,nT h4,trivial,trivial,trivial,trivial,trivial,hd,trivial,hv,trivial,trivial,hv2,rfl⟩
 | true=>
   have h3:=ag_f hag h2
   match i,hi,hs,hd,hv,hv2,h2,h3 with
   | 0,_,hs,hd,hv,hv2,h2,h3=>exact con_d (ap07b_vq s.ts c u.ts w.ts pe e c.ot v st h1 h2 h3 h4) ⟨trivial,trivial,trivial,hs,h1,trivial,trivial,h2,trivial,h2,h2,h2,h2,trivial,h2,h2,h2,h3,trivial,hps,nT h4,trivial,trivial,trivial,trivial,trivial,hd,trivial,hv,trivial,trivial,hv2,rfl⟩
   | 1,_,hs,hd,hv,hv2,h2,h3=>exact con_d (ap17b_vq s.ts c u.ts w.ts pe e c.ot v st h1 h2 h3 h4) ⟨trivial,trivial,trivial,hs,h1,trivial,trivial,h2,trivial,h2,h2,h2,h2,trivial,h2,h2,h2,h3,trivial,hps,nT h4,trivial,trivial,trivial,trivial,trivial,hd,trivial,hv,trivial,trivial,hv2,rfl⟩
   | 2,_,hs,hd,hv,hv2,h2,h3=>exact con_d (ap27b_vq s.ts c u.ts w.ts pe e c.ot v st h1 h2 h3 h4) ⟨trivial,trivial,trivial,hs,h1,trivial,trivial,h2,trivial,h2,h2,h2,h2,trivial,h2,h2,h2,h3,trivial,hps,nT h4,trivial,trivial,trivial,trivial,trivial,hd,trivial,hv,trivial,trivial,hv2,rfl⟩
theorem cd_vw (e:Int):VW (.agg [.i .i64 e,.i .i64 0,.i .i64 0,.l0,.l0,.l0,.l0]) (.agg (vwL (cdM e))):=
 .agg ⟨.refl _,.refl _,.refl _,.nil _ _,.nil _ _,.nil _ _,.nil _ _,trivial⟩
theorem apS_con (s:LS) (c:Cm) (k:Int) (h0:decide (k=8)=false) (i:Nat) (hi:i<3) (hs:Con PG 89 [.agg (mbL (s.r.s i)),cmI c k (ofNat i) c.ot] [] (.b true) []):Con PG 41 [.p 0 0,cmI c k (ofNat i) c.ot] [some (tsO s.ts)] (.agg (vwL (cdM 25))) [.set (tsO s.ts)]:=by
 refine Con.post (us:=[.keep]) ?_ (cd_vw 25) (.refl _)
 match i,hi,hs with
 | 0,_,hs=>exact con_d (as0_vq s.ts c c.ot true k h0 rfl) ⟨trivial,h0,trivial,trivial,hs,rfl,rfl⟩
 | 1,_,hs=>exact con_d (as1_vq s.ts c c.ot true k h0 rfl) ⟨trivial,h0,trivial,trivial,hs,rfl,rfl⟩
 | 2,_,hs=>exact con_d (as2_vq s.ts c c.ot true k h0 rfl) ⟨trivial,h0,trivial,trivial,hs,rfl,rfl⟩
theorem apA_con (s:LS) (c:Cm) (k:Int) (h0:decide (k=8)=false) (i:Nat) (hi:i<3) (hs:Con PG 89 [.agg (mbL (s.r.s i)),cmI c k (ofNat i) c.ot] [] (.b false) []) (hcv:Con PG 86 [.agg (vwL (s.r.s i))] [] (.agg (vwL (s.r.s i))) []) (h2:decide (c.bt=(s.r.s i).x 4)=true) (h3:decide (c.sq=(s.r.s i).x 5)=true):Con PG 41 [.p 0 0,cmI c k (ofNat i) c.ot] [some (tsO s.ts)] (.agg (vwL (s.r.s i))) [.set (tsO s.ts)]:=by
 refine Con.post (us:=[.keep]) ?_ (.refl _) (.refl _)
 match i,hi,hs,hcv,h2,h3 with
 | 0,_,hs,hcv,h2,h3=>exact con_d (ag0_vq s.ts c c.ot false k h0 rfl h2 h3) ⟨trivial,h0,trivial,trivial,hs,rfl,trivial,trivial,h2,trivial,h2,h2,h2,h2,trivial,h2,h2,h2,h3,trivial,hcv,rfl⟩
 | 1,_,hs,hcv,h2,h3=>exact con_d (ag1_vq s.ts c c.ot false k h0 rfl h2 h3) ⟨trivial,h0,trivial,trivial,hs,rfl,trivial,trivial,h2,trivial,h2,h2,h2,h2,trivial,h2,h2,h2,h3,trivial,hcv,rfl⟩
 | 2,_,hs,hcv,h2,h3=>exact con_d (ag2_vq s.ts c c.ot false k h0 rfl h2 h3) ⟨trivial,h0,trivial,trivial,hs,rfl,trivial,trivial,h2,trivial,h2,h2,h2,h2,trivial,h2,h2,h2,h3,trivial,hcv,rfl⟩
theorem apE_con (s u:LS) (c:Cm) (k pe:Int) (h0:decide (k=8)=false) (h4:decide (pe=0)=false) (hps:Con PG 88 [.p 0 0,.i .i64 c.d] [some (tsO s.ts)] (.i .i64 pe) [.set (tsO u.ts)]) (i:Nat) (hi:i<3) (hs:Con PG 89 [.agg (mbL (s.r.s i)),cmI c k (ofNat i) c.ot] [] (.b false) []) (hag:agB (s.r.s i) c=false):Con PG 41 [.p 0 0,cmI c k (ofNat i) c.ot] [some (tsO s.ts)] (.agg (vwL (cdM pe))) [.set (tsO u.ts)]:=by
 refine Con.post (us:=[.set (tsO u.ts)]) ?_ (cd_vw pe) (.refl _)
 cases h2:decide (c.bt=(s.r.s i).x 4) with
 | false=>
   match i,hi,hs,h2 with
   | 0,_,hs,h2=>exact con_d (ae0a_vq s.ts c u.ts pe c.ot false k h0 rfl h2 h4) ⟨trivial,h0,trivial,trivial,hs,rfl,trivial,trivial,h2,h2,h2,h2,h2,h2,h2,h2,trivial,hps,nF h4,rfl⟩
   | 1,_,hs,h2=>exact con_d (ae1a_vq s.ts c u.ts pe c.ot false k h0 rfl h2 h4) ⟨trivial,h0,trivial,trivial,hs,rfl,trivial,trivial,h2,h2,h2,h2,h2,h2,h2,h2,trivial,hps,nF h4,rfl⟩
   | 2,_,hs,h2=>exact con_d (ae2a_vq s.ts c u.ts pe c.ot false k h0 rfl h2 h4) ⟨trivial,h0,trivial,trivial,hs,rfl,trivial,trivial,h2,h2,h2,h2,h2,h2,h2,h2,trivial,hps,nF h4,rfl⟩
 | true=>
   have h3:=ag_f hag h2
   match i,hi,hs,h2,h3 with
   | 0,_,hs,h2,h3=>exact con_d (ae0b_vq s.ts c u.ts pe c.ot false k h0 rfl h2 h3 h4) ⟨trivial,h0,trivial,trivial,hs,rfl,trivial,trivial,h2,trivial,h2,h2,h2,h2,trivial,h2,h2,h2,h3,trivial,hps,nF h4,rfl⟩
   | 1,_,hs,h2,h3=>exact con_d (ae1b_vq s.ts c u.ts pe c.ot false k h0 rfl h2 h3 h4) ⟨trivial,h0,trivial,trivial,hs,rfl,trivial,trivial,h2,trivial,h2,h2,h2,h2,trivial,h2,h2,h2,h3,trivial,hps,nF h4,rfl⟩
   | 2,_,hs,h2,h3=>exact con_d (ae2b_vq s.ts c u.ts pe c.ot false k h0 rfl h2 h3 h4) ⟨trivial,h0,trivial,trivial,hs,rfl,trivial,trivial,h2,trivial,h2,h2,h2,h2,trivial,h2,h2,h2,h3,trivial,hps,nF h4,rfl⟩
theorem ap8_con (s u:LS) (c:Cm) (sv pe:Int) (hps:Con PG 88 [.p 0 0,.i .i64 c.d] [some (tsO s.ts)] (.i .i64 pe) [.set (tsO u.ts)]):Con PG 41 [.p 0 0,cmI c 8 sv c.ot] [some (tsO s.ts)] (.agg (vwL (cdM pe))) [.set (tsO u.ts)]:=by
 refine Con.post (us:=[.set (tsO u.ts)]) ?_ (cd_vw pe) (.refl _)
 exact con_d (a8_vq s.ts c u.ts pe c.ot sv) ⟨trivial,trivial,hps,rfl⟩
theorem cells_dflt {e n:Nat} (d d' L:List AV) (hl:L.length=n):OV (some (.cells e n d (setAll .e 0 L))) (some (.cells e n d' (setAll .e 0 L))):=by
 refine .x fun x' hx=>?_
 obtain rfl:=Option.some.inj hx
 refine ⟨_,rfl,fun h=>h.elim,?_⟩
 rintro ρ p w ⟨c,fr,h1,h2,h3,h4,h5⟩
 refine ⟨c,fr,h1,h2,h3,h4,fun i v hv=>h5 i v ?_⟩
 rw [←hv]
 unfold cellAt
 cases hb:Nat.blt i n with
 | false=>rfl
 | true=>
   have hi:i<n:=by simpa [Nat.blt_eq] using hb
   rw [setAll_get,if_pos ⟨Nat.zero_le _,by omega⟩,Nat.sub_zero,List.getElem?_eq_getElem (by omega)]
theorem tsD_ov (d d':List AV) (t:TS):OV (some (tsD d t)) (some (tsD d' t)):=cells_dflt d d' (tsL t) (tsL_len t)
structure Gd (s:LS):Prop where
 ok:s.ok
 tm:0≤s.r.x 1∧s.r.x 1≤4503599627370496
 gn:∀i,i<3→0≤(s.r.s i).x 1∧(s.r.s i).x 1≤1099511627776
 hp:∀i,i<3→-1≤(s.r.s i).x 3∧(s.r.s i).x 3≤2
 sq:∀i,i<3→0≤(s.r.s i).x 5∧(s.r.s i).x 5≤1099511627776
theorem wi_iff {n a b:Int}:wi n a b=true↔a≤n∧n≤b:=by simp [wi]
theorem mm_gd {b:Mb} (h:mmB b=true):(0≤b.x 1∧b.x 1≤1099511627776)∧(-1≤b.x 3∧b.x 3≤2)∧(0≤b.x 5∧b.x 5≤1099511627776):=by
 simp only [mmB,isHelpB,Bool.and_eq_true,wi_iff] at h
 obtain ⟨_,h1,_,h5,_,h3⟩:=h
 exact ⟨h1,h3,h5⟩
theorem gd_of {s:LS} (ok:s.ok) (h:vaB s=true):Gd s:=by
 simp only [vaB,Bool.and_eq_true,wi_iff] at h
 obtain ⟨_,ht,_,hs,_⟩:=h
 simp only [svB,Bool.and_eq_true] at hs
 obtain ⟨⟨m0,_⟩,⟨m1,_⟩,m2,_⟩:=hs
 have a0:=mm_gd m0
 have a1:=mm_gd m1
 have a2:=mm_gd m2
 refine ⟨ok,ht,fun i hi=>?_,fun i hi=>?_,fun i hi=>?_⟩<;>(match i,hi with | 0,_=>?_ | 1,_=>?_ | 2,_=>?_)
 · exact a0.1
 · exact a1.1
 · exact a2.1
 · exact a0.2.1
 · exact a1.2.1
 · exact a2.2.1
 · exact a0.2.2
 · exact a1.2.2
 · exact a2.2.2
theorem ok_sL {s:LS} (ok:s.ok) (i:Nat) {b:Mb} (h:b.mn≤17592186044416∧b.sn≤17592186044416∧b.hn≤5864062014805∧b.dn≤5864062014805):(sL s i b).ok:=by
 refine ⟨ok.m,fun j=>?_,ok.q⟩
 show ((bif Nat.beq j i then b else s.r.s j).mn≤_∧(bif Nat.beq j i then b else s.r.s j).sn≤_∧(bif Nat.beq j i then b else s.r.s j).hn≤_∧(bif Nat.beq j i then b else s.r.s j).dn≤_)
 cases Nat.beq j i with
 | true=>exact h
 | false=>exact ok.s j
theorem sL_at {s:LS} {i:Nat} {b:Mb} {Q:Mb→Prop} (h:∀j,j<3→Q (s.r.s j)) (hb:Q b):∀j,j<3→Q ((sL s i b).r.s j):=by
 intro j hj
 show Q (bif Nat.beq j i then b else s.r.s j)
 cases Nat.beq j i with
 | true=>exact hb
 | false=>exact h j hj
theorem pasM_q (T:Int) (b:Mb):(pasM T b=b)∨(pasM T b=deadM b):=by
 unfold pasM;cases diesB b T with | true=>exact .inr rfl | false=>exact .inl rfl
theorem gd_pas {s:LS} (g:Gd s) (d:Int) (hd:0≤d):Gd (pasL s d):=by
 unfold pasL
 cases h:decide (4503599627370496<s.r.x 1+d) with
 | true=>exact g
 | false=>
   have h:=of_decide_eq_false h
   have ht:=g.tm
   have at_:∀{Q:Mb→Prop},(∀j,j<3→Q (s.r.s j))→(∀j,j<3→Q (deadM (s.r.s j)))→∀j,j<3→Q ((psR (setX s.r 1 (s.r.x 1+d)) 3).s j):=by
    intro Q h1 h2 j hj
    show Q (bif Nat.blt j 3 then pasM (s.r.x 1+d) (s.r.s j) else s.r.s j)
    cases Nat.blt j 3 with
    | false=>exact h1 j hj
    | true=>
      rcases pasM_q (s.r.x 1+d) (s.r.s j) with e | e
      · rw [cond_true,e];exact h1 j hj
      · rw [cond_true,e];exact h2 j hj
   refine ⟨⟨g.ok.m,fun j=>?_,g.ok.q⟩,⟨by show 0≤s.r.x 1+d;omega,by show s.r.x 1+d≤_;omega⟩,at_ (Q:=fun b=>0≤b.x 1∧b.x 1≤1099511627776) g.gn g.gn,at_ (Q:=fun b=>-1≤b.x 3∧b.x 3≤2) g.hp (fun j hj=>by show (-1:Int)≤-1∧(-1:Int)≤2;decide),at_ (Q:=fun b=>0≤b.x 5∧b.x 5≤1099511627776) g.sq g.sq⟩
   have:∀b:Mb,pasM (s.r.x 1+d) b=b∨pasM (s.r.x 1+d) b=deadM b:=pasM_q _
   show ((bif Nat.blt j 3 then pasM (s.r.x 1+d) (s.r.s j) else s.r.s j).mn≤_∧(bif Nat.blt j 3 then pasM (s.r.x 1+d) (s.r.s j) else s.r.s j).sn≤_∧(bif Nat.blt j 3 then pasM (s.r.x 1+d) (s.r.s j) else s.r.s j).hn≤_∧(bif Nat.blt j 3 then pasM (s.r.x 1+d) (s.r.s j) else s.r.s j).dn≤_)
   cases Nat.blt j 3 with
   | false=>exact g.ok.s j
   | true=>
     rw [cond_true]
     rcases this (s.r.s j) with e | e<;>rw [e]<;>exact g.ok.s j
structure Gv (s:LS):Prop where
 ok:s.ok
 gn:∀i,i<3→-1≤(s.r.s i).x 1∧(s.r.s i).x 1≤1099511627776
theorem Gd.gv {s:LS} (g:Gd s):Gv s:=⟨g.ok,fun i hi=>⟨by have:=g.gn i hi;omega,(g.gn i hi).2⟩⟩
theorem Gv.sL {s:LS} (g:Gv s) (i:Nat) {b:Mb} (h:b.mn≤17592186044416∧b.sn≤17592186044416∧b.hn≤5864062014805∧b.dn≤5864062014805) (h1:-1≤b.x 1∧b.x 1≤1099511627776):Gv (sL s i b):=
 ⟨ok_sL g.ok i h,sL_at (Q:=fun b=>-1≤b.x 1∧b.x 1≤1099511627776) g.gn h1⟩
theorem gv_row {s u:LS} (g:Gv s) (ok:u.ok) (hr:u.r=s.r):Gv u:=⟨ok,fun i hi=>by rw [hr];exact g.gn i hi⟩
theorem askS_r (s:LS) (l k m:Int) (h:askE s l k m=0):(askS s l k m).r=s.r:=by
 unfold askE at h;unfold askS
 cases e:okA s l k m with
 | true=>rfl
 | false=>rw [e] at h;exact absurd h (by decide)
theorem freeS_r (s:LS) (l k:Int) (h:freeE s l k=0):(freeS s l k).r=s.r:=by
 unfold freeE at h;unfold freeS
 cases e:okF s l k with
 | true=>rfl
 | false=>rw [e] at h;exact absurd h (by decide)
theorem dropS_r (s:LS) (k:Int):(dropS s k).r=s.r:=by
 unfold dropS
 cases isServerB k && vaS s with
 | true=>rfl
 | false=>rfl
theorem gv_lk {s:LS} (g:Gv s) (c:Cm):Gv (lkS s c):=by
 unfold lkS
 cases h:decide (askE s c.lk c.sv c.md=0) with
 | true=>exact gv_row g (askS_ok g.ok _ _ _) (askS_r s _ _ _ (of_decide_eq_true h))
 | false=>exact g
theorem gv_ul {s:LS} (g:Gv s) (c:Cm):Gv (ulS s c):=by
 unfold ulS
 cases h:decide (freeE s c.lk c.sv=0) with
 | true=>exact gv_row g (freeS_ok g.ok _ _) (freeS_r s _ _ (of_decide_eq_true h))
 | false=>exact g
theorem gv_hp {s:LS} (g:Gv s) (j:Nat) (hj:j<3) (sv:Int):Gv (hpS s j sv):=by
 have a:Gv (sL s j (xM (s.r.s j) 3 sv)):=g.sL j (g.ok.s j) (g.gn j hj)
 unfold hpS
 cases decide ((s.r.s j).x 3=sv) with
 | true=>exact a
 | false=>cases hasHB s.r j with | true=>exact g | false=>exact a
theorem gv_dn {s:LS} (g:Gv s) (j:Nat) (hj:j<3) (sv:Int):Gv (dnS s j sv):=by
 have a:Gv (dropS s (ofNat j)):=gv_row g (dropS_ok g.ok _) (dropS_r s _)
 unfold dnS
 cases decide ((s.r.s j).x 3=sv) with
 | true=>exact a.sL j (a.ok.s j) (a.gn j hj)
 | false=>exact g
theorem gv_mnt {s:LS} (g:Gd s) (i:Nat) (hi:i<3):Gv (sL s i (mntB (s.r.s i) (s.r.x 1))):=by
 have h1:=g.gn i hi
 unfold mntB
 cases h:decide ((s.r.s i).x 0=1) with
 | true=>exact g.gv.sL i (g.ok.s i) (g.gv.gn i hi)
 | false=>cases h2:decide ((s.r.s i).x 0=2) with
   | true=>exact g.gv.sL i (g.ok.s i) (g.gv.gn i hi)
   | false=>cases h3:decide ((s.r.s i).x 1=1099511627776) with
     | true=>exact g.gv.sL i (g.ok.s i) (g.gv.gn i hi)
     | false=>
       have h3:=of_decide_eq_false h3
       exact g.gv.sL i (g.ok.s i) (by show -1≤(s.r.s i).x 1+1∧(s.r.s i).x 1+1≤_;omega)
theorem gd_s2 {s:LS} (g:Gd s) (c:Cm) (i:Nat) (hi:i<3) (hd:0≤c.d) (hq:0≤c.sq∧c.sq≤1099511627776):Gd (s2L s c i):=by
 have p:=gd_pas g c.d hd
 unfold s2L
 exact ⟨ok_sL p.ok i (p.ok.s i),p.tm,sL_at (Q:=fun b=>0≤b.x 1∧b.x 1≤1099511627776) p.gn (p.gn i hi),sL_at (Q:=fun b=>-1≤b.x 3∧b.x 3≤2) p.hp (p.hp i hi),sL_at (Q:=fun b=>0≤b.x 5∧b.x 5≤1099511627776) p.sq hq⟩
theorem AN0_vq (t:TS) (c:Cm) (va:Bool) (h1:va=false):VD PG 15 [tsV t,cmV c] [] (.c (.cal [] (tsV t) [] (.cal [] (.b va) [] (.f (.f (.f (.t (.c .z)))))))) (.tup [tsV t,.agg [.i .i64 2,.i .i64 0,.i .i64 0,.l0,.l0,.l0,.l0]]) [] [] 5 (fun Lf=>Con PG 40 [tsV t] [] (tsV t) []∧Con PG 21 [tsV t] [] (.b va) []∧True∧(!!va)=false∧(!!va)=false∧(!!va)=false∧(!va)=true∧Lf):=by unfold VD VQ;kernel_rfl
theorem AN1_vq (t:TS) (c:Cm) (va vc:Bool) (h1:va=true) (h2:vc=false):VD PG 15 [tsV t,cmV c] [] (.c (.cal [] (tsV t) [] (.cal [] (.b va) [] (.t (.t (.cal [] (.b vc) [] (.t (.f (.t .z))))))))) (.tup [tsV t,.agg [.i .i64 2,.i .i64 0,.i .i64 0,.l0,.l0,.l0,.l0]]) [] [] 5 (fun Lf=>Con PG 40 [tsV t] [] (tsV t) []∧Con PG 21 [tsV t] [] (.b va) []∧True∧(!!va)=true∧(!!va)=true∧Con PG 23 [cmV c] [] (.b vc) []∧(!!va)=true∧True∧(!va)=false∧(!vc)=true∧Lf):=by unfold VD VQ;kernel_rfl
theorem AO_vq (t t1:TS) (c:Cm) (v:Mb) (va vc:Bool) (h1:va=true) (h2:vc=true):VD PG 15 [tsV t,cmV c] [] (.c (.cal [] (tsV t) [] (.cal [] (.b va) [] (.t (.t (.cal [] (.b vc) [] (.t (.f (.f (.cal [4] (.agg (vwL v)) [.set (tsO t1)] .z)))))))))) (.tup [tsV t1,.agg (vwL v)]) [] [] 6 (fun Lf=>Con PG 40 [tsV t] [] (tsV t) []∧Con PG 21 [tsV t] [] (.b va) []∧True∧(!!va)=true∧(!!va)=true∧Con PG 23 [cmV c] [] (.b vc) []∧(!!va)=true∧True∧(!va)=false∧(!vc)=false∧Con PG 41 [.p 0 0,cmV c] [some (tsZ t)] (.agg (vwL v)) [.set (tsO t1)]∧Lf):=by unfold VD VQ;kernel_rfl
theorem dtt {p:Prop} [Decidable p] (h:p):decide p=true:=decide_eq_true h
theorem cmV_I {c:Cm} {k i:Int} (hk:c.k=k) (hc:c.sv=i):cmV c=cmI c k i c.ot:=by subst hk;subst hc;rfl
theorem staI (s:LS) (c:Cm) (i:Nat) (hr:rg ((s.r.s i).x 5+1)) (hc:c.sv=ofNat i):Con PG 89 [.agg (mbL (s.r.s i)),cmI c c.k (ofNat i) c.ot] [] (.b (staB (s.r.s i) c.bt c.sq)) []:=by
 rw [←cmV_I rfl hc];exact sta_con (s.r.s i) c hr
theorem vwS_ans (s:LS) (e:Int):∀(i:Nat) (_:i<3),vwS (sL s i (ansM (s.r.s i) (vwS s i e))) i e=vwS s i e
 | 0,_=>rfl
 | 1,_=>rfl
 | 2,_=>rfl
theorem vw_ok {s:LS} (g:Gv s) (i:Nat) (hi:i<3) (e:Int):(vwS s i e).mn≤17592186044416∧(vwS s i e).sn≤17592186044416∧(vwS s i e).hn≤5864062014805∧(vwS s i e).dn≤5864062014805:=by
 refine ⟨g.ok.m.1,g.ok.m.2,?_,?_⟩
 · show (bif decide ((s.r.s i).x 0=1) then hldS s (ofNat i) else []).length≤_
   cases decide ((s.r.s i).x 0=1) with
   | false=>exact Nat.zero_le _
   | true=>
     rw [cond_true]
     unfold hldS
     cases isServerB (ofNat i) && vaS s with
     | false=>exact Nat.zero_le _
     | true=>rw [cond_true];have:=hldN_len s (ofNat i) 19;omega
 · show (ddL s.r).length≤_
   have one:∀b j,(ddR b j).length≤1:=fun b j=>by
    unfold ddR;cases decide (b.x 0=2)<;>simp
   have a:=one (s.r.s 0) 0
   have b:=one (s.r.s 1) 1
   have c:=one (s.r.s 2) 2
   unfold ddL
   simp only [List.length_append]
   omega
theorem vw2_con {s:LS} (g:Gv s) (e:Int) (i:Nat) (hi:i<3):Con PG 91 [.p 0 0,.i .i64 (ofNat i),.i .i64 e] [some (tsO (sL s i (ansM (s.r.s i) (vwS s i e))).ts)] (.agg (vwL (vwS s i e))) [.keep]:=by
 have g2:Gv (sL s i (ansM (s.r.s i) (vwS s i e))):=g.sL i (vw_ok g i hi e) (g.gn i hi)
 have:=vw_con _ g2.ok g2.gn e i hi
 rw [vwS_ans s e i hi] at this
 exact this
theorem gv_de {s:LS} (g:Gd s) (c:Cm) (i:Nat) (hi:i<3) (ho:0≤c.ot∧c.ot≤2) (h7:c.k≠7∨Gv (lnS s c)) (hk:1≤c.k∧c.k≤7):Gv (deS s c i):=by
 unfold deS
 have hj:c.ot.toNat<3:=by omega
 cases h1:decide (c.k=1) with
 | true=>exact gv_mnt g i hi
 | false=>
   cases h56:decide (c.k=5) || decide (c.k=6) with
   | true=>
     simp only [cond_false,cond_true]
     cases !decide (c.ot=c.sv) && !alB (s.r.s i) c.gn with
     | true=>exact g.gv
     | false=>
       cases decide ((s.r.s c.ot.toNat).x 0=2) with
       | false=>exact g.gv
       | true=>cases decide (c.k=5) with
         | true=>exact gv_hp g.gv _ hj _
         | false=>exact gv_dn g.gv _ hj _
   | false=>
     simp only [cond_false]
     cases alB (s.r.s i) c.gn with
     | false=>exact g.gv
     | true=>
       simp only [cond_true]
       cases h2:decide (c.k=2) with
       | true=>exact g.gv.sL i (g.ok.s i) (g.gv.gn i hi)
       | false=>cases h3:decide (c.k=3) with
         | true=>exact gv_lk g.gv c
         | false=>cases h4:decide (c.k=4) with
           | true=>exact gv_ul g.gv c
           | false=>
             simp only [cond_false]
             rcases h7 with h7 | h7
             · simp at h1 h56 h2 h3 h4;omega
             · exact h7
def DeC (g:Nat) (ext:Bool) (cap:Nat) (s:LS) (c:Cm) (k:Int) (i:Nat) (e:Int) (w:LS):Prop:=
 bif ext then Con PG g [.p 0 0,cmI c k (ofNat i) c.ot,.p 1 0] [some (tsO s.ts),some (fnO cap)] (.i .i64 e) [.set (tsO w.ts),.keep]
 else Con PG g [.p 0 0,cmI c k (ofNat i) c.ot] [some (tsO s.ts)] (.i .i64 e) [.set (tsO w.ts)]
theorem de1 {s:LS} (g:Gd s) (c:Cm) (i:Nat) (hi:i<3) (hc:c.sv=ofNat i) (hk:c.k=1):DeC 132 false 0 s c 1 i (deE s c i) (deS s c i):=by
 unfold DeC deE deS
 rw [dtt hk]
 have h1:=g.gn i hi
 have ht:=g.tm
 exact mnt_con s.ts c 1 c.ot i hi ⟨by show _≤(s.r.s i).x 1+1;omega,by show (s.r.s i).x 1+1≤_;omega⟩ ⟨by show _≤s.r.x 1+60;omega,by show s.r.x 1+60≤_;omega⟩
theorem alive_cases {s:LS} (c:Cm) (i:Nat) (hi:i<3) (hc:c.sv=ofNat i) (g:Nat) (e:Int) (w:LS) (k:Int) (hk:c.k=k)
 (hT:alB (s.r.s i) c.gn=true→Con PG 173 [.p 0 0,cmV c,.p 1 0] [some (tsO s.ts),some (fnO g)] (.i .i64 e) [.set (tsO w.ts),.keep]) :
 DeC 173 true g s c k i (bif alB (s.r.s i) c.gn then e else 27) (bif alB (s.r.s i) c.gn then w else s):=by
 unfold DeC
 rw [cond_true,←cmV_I hk hc]
 cases h:alB (s.r.s i) c.gn with
 | true=>exact hT h
 | false=>exact oaF_con s c g _ h (alvI s c i hi hc)
theorem de2 {s:LS} (g:Gd s) (c:Cm) (i:Nat) (hi:i<3) (hc:c.sv=ofNat i) (hk:c.k=2):DeC 173 true 134 s c 2 i (deE s c i) (deS s c i):=by
 have e1:deE s c i=bif alB (s.r.s i) c.gn then 0 else 27:=by unfold deE;rw [hk];rfl
 have e2:deS s c i=bif alB (s.r.s i) c.gn then sL s i (xM (s.r.s i) 2 (s.r.x 1+60)) else s:=by unfold deS;rw [hk];rfl
 have ht:=g.tm
 rw [e1,e2]
 refine alive_cases c i hi hc 134 0 _ 2 hk fun h=>oa134 s _ c 0 _ h (alvI s c i hi hc) ?_
 rw [cmV_I hk hc]
 exact rnw_con s.ts c 2 c.ot ⟨by show _≤s.r.x 1+60;omega,by show s.r.x 1+60≤_;omega⟩ i hi
theorem de3 {s:LS} (g:Gd s) (c:Cm) (i:Nat) (hi:i<3) (hc:c.sv=ofNat i) (hk:c.k=3):DeC 173 true 135 s c 3 i (deE s c i) (deS s c i):=by
 have e1:deE s c i=bif alB (s.r.s i) c.gn then askE s c.lk c.sv c.md else 27:=by unfold deE;rw [hk];rfl
 have e2:deS s c i=bif alB (s.r.s i) c.gn then lkS s c else s:=by unfold deS;rw [hk];rfl
 rw [e1,e2]
 exact alive_cases c i hi hc 135 _ _ 3 hk fun h=>oa135 s _ c _ _ h (alvI s c i hi hc) (lock_con s g.ok c)
theorem de4 {s:LS} (g:Gd s) (c:Cm) (i:Nat) (hi:i<3) (hc:c.sv=ofNat i) (hk:c.k=4):DeC 173 true 136 s c 4 i (deE s c i) (deS s c i):=by
 have e1:deE s c i=bif alB (s.r.s i) c.gn then freeE s c.lk c.sv else 27:=by unfold deE;rw [hk];rfl
 have e2:deS s c i=bif alB (s.r.s i) c.gn then ulS s c else s:=by unfold deS;rw [hk];rfl
 rw [e1,e2]
 exact alive_cases c i hi hc 136 _ _ 4 hk fun h=>oa136 s _ c _ _ h (alvI s c i hi hc) (unlock_con s g.ok c)
theorem de56 {s:LS} (g:Gd s) (c:Cm) (i:Nat) (hi:i<3) (hc:c.sv=ofNat i) (ho:0≤c.ot∧c.ot≤2) (k:Int) (hk:c.k=k) (cap:Nat) (hcap:(k=5∧cap=139)∨(k=6∧cap=140)):DeC 180 true cap s c k i (deE s c i) (deS s c i):=by
 obtain ⟨j,hj,ej⟩:∃j:Nat,j<3∧c.ot=ofNat j:=⟨c.ot.toNat,by omega,by simp;omega⟩
 have n1:decide (c.k=1)=false:=decide_eq_false (by omega)
 have n56:(decide (c.k=5) || decide (c.k=6))=true:=by simp;omega
 have hpj:=g.hp j hj
 have al:=alv_con s.ts c k (ofNat j) i hi
 have ejn:c.ot.toNat=j:=by rw [ej];rfl
 unfold DeC deE deS
 rw [n1,n56,ejn,hc,ej]
 simp only [cond_true,cond_false]
 cases h0:decide (ofNat j=ofNat i) with
 | false=>
   cases h1:alB (s.r.s i) c.gn with
   | false=>exact ohA s c k (ofNat i) _ cap j hj h0 h1 al
   | true=>
     cases h2:decide ((s.r.s j).x 0=2) with
     | false=>exact ohB s c k (ofNat i) _ cap j hj h0 h1 h2 al
     | true=>
       rcases hcap with ⟨rfl,rfl⟩ | ⟨rfl,rfl⟩
       · rw [dtt hk];exact ohC139 s _ c 5 (ofNat i) _ _ j hj h0 h1 h2 al (hp_con s c 5 _ j hj hpj)
       · rw [show decide (c.k=5)=false from decide_eq_false (by omega)];exact ohC140 s _ c 6 (ofNat i) _ _ j hj h0 h1 h2 al (dn_con s g.ok c 6 _ j hj)
 | true=>
   cases h2:decide ((s.r.s j).x 0=2) with
   | false=>exact ohD s c k (ofNat i) cap j hj h0 h2
   | true=>
     rcases hcap with ⟨rfl,rfl⟩ | ⟨rfl,rfl⟩
     · rw [dtt hk];exact ohE139 s _ c 5 (ofNat i) _ j hj h0 h2 (hp_con s c 5 _ j hj hpj)
     · rw [show decide (c.k=5)=false from decide_eq_false (by omega)];exact ohE140 s _ c 6 (ofNat i) _ j hj h0 h2 (dn_con s g.ok c 6 _ j hj)
def LnC (s:LS) (c:Cm):Prop:=Con PG 137 [.p 0 0,cmV c] [some (tsO s.ts)] (.i .i64 (lnE s c)) [.set (tsO (lnS s c).ts)]∧Gv (lnS s c)
theorem de7 {s:LS} (c:Cm) (i:Nat) (hi:i<3) (hc:c.sv=ofNat i) (hk:c.k=7) (h:LnC s c):DeC 173 true 137 s c 7 i (deE s c i) (deS s c i):=by
 have e1:deE s c i=bif alB (s.r.s i) c.gn then lnE s c else 27:=by unfold deE;rw [hk];rfl
 have e2:deS s c i=bif alB (s.r.s i) c.gn then lnS s c else s:=by unfold deS;rw [hk];rfl
 rw [e1,e2]
 exact alive_cases c i hi hc 137 _ _ 7 hk fun h'=>oa137 s _ c _ _ h' (alvI s c i hi hc) h.1
theorem apply_con {s:LS} (g:Gd s) (c:Cm) (i:Nat) (hi:i<3) (hc:c.sv=ofNat i) (ho:0≤c.ot∧c.ot≤2) (hd:0≤c.d∧c.d≤1048576) (hq:1≤c.sq∧c.sq≤1099511627776) (hk:1≤c.k∧c.k≤7)
 (h7:c.k=7→LnC (s2L s c i) c):Con PG 41 [.p 0 0,cmV c] [some (tsO s.ts)] (.agg (vwL (apV s c i))) [.set (tsO (apS s c i).ts)]:=by
 have h5:=g.sq i hi
 have ht:=g.tm
 have hs:=staI s c i ⟨by show _≤(s.r.s i).x 5+1;omega,by show (s.r.s i).x 5+1≤_;omega⟩ hc
 have k8:decide (c.k=8)=false:=decide_eq_false (by omega)
 have hps:Con PG 88 [.p 0 0,.i .i64 c.d] [some (tsO s.ts)] (.i .i64 (pasE s.ts c.d)) [.set (tsO (pasL s c.d).ts)]:=by
  rw [←pasL_ts]
  exact pass_con s.ts c.d ⟨by show _≤s.r.x 1+c.d;omega,by show s.r.x 1+c.d≤_;omega⟩
 rw [cmV_I rfl hc]
 unfold apV apS
 cases h1:staB (s.r.s i) c.bt c.sq with
 | true=>exact apS_con s c c.k k8 i hi (h1▸hs)
 | false=>
   rw [h1] at hs
   cases h2:agB (s.r.s i) c with
   | true=>
     have h2':=h2
     unfold agB at h2'
     rw [Bool.and_eq_true] at h2'
     exact apA_con s c c.k k8 i hi hs (cv_con _ (g.ok.s i)) h2'.1 h2'.2
   | false=>
     cases h4:decide (pasE s.ts c.d=0) with
     | false=>exact apE_con s _ c c.k _ k8 h4 hps i hi hs h2
     | true=>
       have g2:=gd_s2 g c i hi hd.1 (by omega)
       have gw:Gv (deS (s2L s c i) c i):=gv_de g2 c i hi ho (by rcases Classical.em (c.k=7) with h | h;exact .inr (h7 h).2;exact .inl h) hk
       have hv:=vw_con _ gw.ok gw.gn (deE (s2L s c i) c i) i hi
       have hv2:=vw2_con gw (deE (s2L s c i) c i) i hi
       have c1:c.k=1∨c.k=2∨c.k=3∨c.k=4∨c.k=5∨c.k=6∨c.k=7:=by omega
       rcases c1 with q | q | q | q | q | q | q
       · have hdc:=de1 g2 c i hi hc q
         rw [q] at hs⊢
         exact apk1 s c (pasL s c.d) _ _ _ _ false rfl h4 hps i hi hs hdc hv hv2 h2
       · have hdc:=de2 g2 c i hi hc q
         rw [q] at hs⊢
         exact apk2 s c (pasL s c.d) _ _ _ _ false rfl h4 hps i hi hs hdc hv hv2 h2
       · have hdc:=de3 g2 c i hi hc q
         rw [q] at hs⊢
         exact apk3 s c (pasL s c.d) _ _ _ _ false rfl h4 hps i hi hs hdc hv hv2 h2
       · have hdc:=de4 g2 c i hi hc q
         rw [q] at hs⊢
         exact apk4 s c (pasL s c.d) _ _ _ _ false rfl h4 hps i hi hs hdc hv hv2 h2
       · have hdc:=de56 g2 c i hi hc ho 5 q 139 (.inl ⟨rfl,rfl⟩)
         rw [q] at hs⊢
         exact apk5 s c (pasL s c.d) _ _ _ _ false rfl h4 hps i hi hs hdc hv hv2 h2
       · have hdc:=de56 g2 c i hi hc ho 6 q 140 (.inr ⟨rfl,rfl⟩)
         rw [q] at hs⊢
         exact apk6 s c (pasL s c.d) _ _ _ _ false rfl h4 hps i hi hs hdc hv hv2 h2
       · have hdc:=de7 c i hi hc q (h7 q)
         rw [q] at hs⊢
         exact apk7 s c (pasL s c.d) _ _ _ _ false rfl h4 hps i hi hs hdc hv hv2 h2
theorem vc_gd {c:Cm} (h:vcB c=true):(1≤c.k∧c.k≤8)∧(0≤c.d∧c.d≤1048576)∧(c.k≤7→(0≤c.sv∧c.sv≤2)∧(1≤c.sq∧c.sq≤1099511627776)∧(0≤c.ot∧c.ot≤2)):=by
 unfold vcB at h
 rw [Bool.and_eq_true] at h
 obtain ⟨hk,hf⟩:=h
 have hk:=wi_iff.1 hk
 have e:∀i,shA c.k i=shA c.k i:=fun _=>rfl
 unfold fitB at hf
 simp only [Bool.and_eq_true,wi_iff] at hf
 obtain ⟨h1,h2,h3,h4,h5,h6,h7,h8,_⟩:=hf
 have c1:c.k=1∨c.k=2∨c.k=3∨c.k=4∨c.k=5∨c.k=6∨c.k=7∨c.k=8:=by omega
 rcases c1 with q | q | q | q | q | q | q | q<;>(rw [q] at h1 h3 h7 h8;simp only [shA,shT] at h1 h3 h7 h8;simp at h1 h3 h7 h8;refine ⟨hk,?_,fun h=>⟨?_,?_,?_⟩⟩<;>omega)
def ApS (s:LS) (c:Cm):LS:=bif vaB s && vcB c then (bif decide (c.k=8) then pasL s c.d else apS s c c.sv.toNat) else s
def ApV (s:LS) (c:Cm):Mb:=bif vaB s && vcB c then (bif decide (c.k=8) then cdM (pasE s.ts c.d) else apV s c c.sv.toNat) else cdM 2
theorem tup_vw (s:LS) {v:AV} {b:Mb} (h:VW v (.agg (vwL b))):VW (.tup [lsV s,v]) (.tup [lsV s,.agg (vwL b)]):=.tup ⟨.refl _,h,trivial⟩
theorem Apply_con (s:LS) (ok:s.ok) (c:Cm) (hm:c.mn≤1152921504606846976) (h7:vaB s=true→vcB c=true→c.k=7→LnC (s2L s c c.sv.toNat) c):Con PG 15 [lsV s,cmV c] [] (.tup [lsV (ApS s c),.agg (vwL (ApV s c))]) []:=by
 have hcp:=cp_con s.ts ok
 have hva:=val_con s ok
 have hvc:=vcm_con c hm
 unfold ApS ApV
 cases h1:vaB s with
 | false=>
   rw [h1] at hva
   refine Con.post (us:=[]) ?_ (tup_vw s (cd_vw 2)) (.refl _)
   exact con_d (AN0_vq s.ts c false rfl) (by repeat' first | exact trivial | exact hcp | exact hva | exact hvc | exact rfl | exact nF rfl | exact nT rfl | apply And.intro)
 | true=>
   rw [h1] at hva
   cases h2:vcB c with
   | false=>
     rw [h2] at hvc
     refine Con.post (us:=[]) ?_ (tup_vw s (cd_vw 2)) (.refl _)
     exact con_d (AN1_vq s.ts c true false rfl rfl) (by repeat' first | exact trivial | exact hcp | exact hva | exact hvc | exact rfl | exact nF rfl | exact nT rfl | apply And.intro)
   | true=>
     rw [h2] at hvc
     have g:=gd_of ok h1
     obtain ⟨hk,hd,hr⟩:=vc_gd h2
     have ap:∃u b,(bif decide (c.k=8) then pasL s c.d else apS s c c.sv.toNat)=u∧(bif decide (c.k=8) then cdM (pasE s.ts c.d) else apV s c c.sv.toNat)=b∧Con PG 41 [.p 0 0,cmV c] [some (tsO s.ts)] (.agg (vwL b)) [.set (tsO u.ts)]:=by
      refine ⟨_,_,rfl,rfl,?_⟩
      cases h8:decide (c.k=8) with
      | true=>
        have q:=of_decide_eq_true h8
        have ht:=g.tm
        rw [cmV_I q rfl]
        refine ap8_con s (pasL s c.d) c c.sv _ ?_
        rw [←pasL_ts]
        exact pass_con s.ts c.d ⟨by show _≤s.r.x 1+c.d;omega,by show s.r.x 1+c.d≤_;omega⟩
      | false=>
        have q:=of_decide_eq_false h8
        obtain ⟨r1,r2,r3⟩:=hr (by omega)
        exact apply_con g c c.sv.toNat (by omega) (by simp;omega) r3 hd r2 ⟨hk.1,by omega⟩ (h7 h1 h2)
     obtain ⟨u,b,e1,e2,hap⟩:=ap
     show Con PG 15 [lsV s,cmV c] [] (.tup [lsV (bif decide (c.k=8) then pasL s c.d else apS s c c.sv.toNat),.agg (vwL (bif decide (c.k=8) then cdM (pasE s.ts c.d) else apV s c c.sv.toNat))]) []
     rw [e1,e2]
     have hap2:Con PG 41 [.p 0 0,cmV c] [some (tsZ s.ts)] (.agg (vwL b)) [.set (tsO u.ts)]:=hap.ovl ⟨tsD_ov _ _ _,trivial⟩ rfl
     exact con_d (AO_vq s.ts u.ts c b true true rfl rfl) (by repeat' first | exact trivial | exact hcp | exact hva | exact hvc | exact hap2 | exact rfl | exact nF rfl | exact nT rfl | apply And.intro)
def tt1 (x:Int):Prop:=(!!decide (x=x))=true
def tt0 (x:Int):Prop:=(!decide (x=x))=false
theorem tt1_ (x:Int):tt1 x:=by unfold tt1;simp
theorem tt0_ (x:Int):tt0 x:=by unfold tt0;simp
theorem siE_lq (n:Nat) (f:Nat→Int) (h1:decide (ofNat n<ofNat n)=false):LD PG (loopAt PG 78 0) 26 0 [(0,isv n f),(1,isv n f),(5,.i .i64 (ofNat n))] [] (.f .z) (.exit 0) [] [] [] 0 (fun Lf=>decide (ofNat n<ofNat n)=false∧Lf):=by unfold LD LQ;kernel_rfl
theorem siR_lq (n:Nat) (f:Nat→Int) (i:Nat) (h1:decide (ofNat i<ofNat n)=true):LD PG (loopAt PG 78 0) 26 0 [(0,isv n f),(1,isv n f),(5,.i .i64 (ofNat i))] [] (.t (.f .z)) .nrm [] [(0,isv n f),(1,isv n f),(5,.i .i64 (ofNat i+1))] [] 0 (fun Lf=>decide (ofNat i<ofNat n)=true∧(0≤ofNat i∧ofNat i<↑n)∧True∧(0≤ofNat i∧ofNat i<↑n)∧True∧tt0 (f i)∧rg (ofNat i+1)∧Lf):=by unfold LD LQ;kernel_rfl
theorem si_vq (n:Nat) (f:Nat→Int):VD PG 78 [isv n f,isv n f] [] (.f (.lop [] [0,1,5] 0 (.exit 0) [] [] .z)) (.b true) [] [] 0 (fun Lf=>tt0 (ofNat n)∧LDoes PG (loopAt PG 78 0) 26 0 (mkT [(0,isv n f),(1,isv n f),(5,.i .i64 0)]) [] (.exit 0) (mkT []) []∧Lf):=by unfold VD VQ;kernel_rfl
theorem sc_vq (e:Int) (n m:Nat) (f g:Nat→Int):VD PG 47 [.agg [.i .i64 e,isv n f,isv m g],.agg [.i .i64 e,isv n f,isv m g]] [] (.t (.t (.t (.t (.t (.cal [] (.b true) [] (.t (oc 5 (.cal [] (.b true) [] (.c .z)))))))))) (.b true) [] [] 2 (fun Lf=>True∧True∧decide (e=e)=true∧True∧decide (e=e)=true∧decide (e=e)=true∧True∧decide (e=e)=true∧decide (e=e)=true∧Con PG 78 [isv n f,isv n f] [] (.b true) []∧decide (e=e)=true∧True∧True∧Con PG 78 [isv m g,isv m g] [] (.b true) []∧Lf):=by unfold VD VQ;kernel_rfl
theorem svE_lq (b:Mb) (h1:decide (ofNat b.dn<ofNat b.dn)=false):LD PG (loopAt PG 20 0) 61 2 [(2,.p 0 0),(3,.p 1 0),(5,.i .i64 (ofNat b.dn))] [some (vwO b),some (vwO b)] (.f .z) (.exit 0) [0,1] [] [some (vwO b),some (vwO b)] 2 (fun Lf=>True∧decide (ofNat (Mb.dn b)<ofNat (Mb.dn b))=false∧Lf):=by unfold LD LQ;kernel_rfl
theorem svR_lq (b:Mb) (i:Nat) (h1:decide (ofNat i<ofNat b.dn)=true) (h2:(!(decide (b.dA i=b.dA i) && (decide (b.dM i=b.dM i) && (decide (b.dW i=b.dW i) && true))))=false):LD PG (loopAt PG 20 0) 61 2 [(2,.p 0 0),(3,.p 1 0),(5,.i .i64 (ofNat i))] [some (vwO b),some (vwO b)] (.t (.f .z)) .nrm [0,1] [(2,.p 0 0),(3,.p 1 0),(5,.i .i64 (ofNat i+1))] [some (vwO b),some (vwO b)] 2 (fun Lf=>True∧decide (ofNat i<ofNat (Mb.dn b))=true∧True∧(0≤ofNat i∧ofNat i<↑(Mb.dn b))∧True∧True∧(0≤ofNat i∧ofNat i<↑(Mb.dn b))∧True∧True∧(!(decide (Mb.dA b i=Mb.dA b i) && (decide (Mb.dM b i=Mb.dM b i) && (decide (Mb.dW b i=Mb.dW b i) && true))))=false∧rg (ofNat i+1)∧Lf):=by unfold LD LQ;kernel_rfl
theorem sv_vq (b:Mb):VD PG 20 [.agg (vwL b),.agg (vwL b)] [] (.t (.t (.t (.t (.t (.f (.t (.t (.t (.t (.t (.cal [] (.b true) [] (.t (.f (oc 5 (.cal [] (.b true) [] (oc 10 (.f (.lop [0,1] [2,3,5] 2 (.exit 0) [] [some (vwO b),some (vwO b)] .z))))))))))))))))))) (.b true) [] [] 2 (fun Lf=>True∧True∧tt1 (Mb.x b 6)∧True∧tt1 (Mb.x b 6)∧tt1 (Mb.x b 6)∧True∧tt1 (Mb.x b 6)∧tt1 (Mb.x b 6)∧tt0 (Mb.x b 6)∧tt1 (Mb.x b 7)∧True∧tt1 (Mb.x b 7)∧tt1 (Mb.x b 7)∧True∧tt1 (Mb.x b 7)∧tt1 (Mb.x b 7)∧Con PG 47 [.agg [.i .i64 (Mb.x b 8),isv (Mb.mn b) (Mb.mf b),isv (Mb.sn b) (Mb.sf b)],.agg [.i .i64 (Mb.x b 8),isv (Mb.mn b) (Mb.mf b),isv (Mb.sn b) (Mb.sf b)]] [] (.b true) []∧tt1 (Mb.x b 7)∧True∧tt0 (Mb.x b 7)∧True∧True∧Con PG 49 [svN (Mb.hn b) (Mb.hA b) (Mb.hM b) (Mb.hW b),svN (Mb.hn b) (Mb.hA b) (Mb.hM b) (Mb.hW b)] [] (.b true) []∧True∧True∧True∧tt0 (ofNat (Mb.dn b))∧LDoes PG (loopAt PG 20 0) 61 2 (mkT [(2,.p 0 0),(3,.p 1 0),(5,.i .i64 0)]) [some (vwO b),some (vwO b)] (.exit 0) (mkT []) [some (vwO b),some (vwO b)]∧Lf):=by unfold VD VQ;kernel_rfl
theorem sam_vq (t:TS):VD PG 19 [tsV t,tsV t] [] (oc 2 (.t (.t (.t (.t (.t (.f (.t (.t (.t (.t (.t (.cal [] (.b true) [] (.t (.f (oc 3 (.cal [] (.b true) [] (oc 3 (.inl (oc 3 (.t (.t (.t (.t (.t (.f (.t (.t (.t (.t (.t (.f (.t (.t (.t (.t (.t (.f (.t (.t (.t (.t (.t (.f (.t (.t (.t (.t (.t (.f (.t (.t (.t (.t (.t (.cal [] (.b true) [] (.t (.f (.c (.inl (oc 3 (.t (.t (.t (.t (.t (.f (.t (.t (.t (.t (.t (.f (.t (.t (.t (.t (.t (.f (.t (.t (.t (.t (.t (.f (.t (.t (.t (.t (.t (.f (.t (.t (.t (.t (.t (.cal [] (.b true) [] (.t (.f (.c (.inl (oc 3 (.t (.t (.t (.t (.t (.f (.t (.t (.t (.t (.t (.f (.t (.t (.t (.t (.t (.f (.t (.t (.t (.t (.t (.f (.t (.t (.t (.t (.t (.f (.t (.t (.t (.t (.t (.cal [] (.b true) [] (.t (.f (.c (.inl (.c .z))))))))))))))))))))))))))))))))))))))))))))))))))))))))))))))))))))))))))))))))))))))))))))))))))))))))))))))))))))))))))))))))))))))))))))))) (.b true) [] [] 8 (fun Lf=>True∧True∧tt1 (Rs.x (TS.r t) 0)∧True∧tt1 (Rs.x (TS.r t) 0)∧tt1 (Rs.x (TS.r t) 0)∧True∧tt1 (Rs.x (TS.r t) 0)∧tt1 (Rs.x (TS.r t) 0)∧tt0 (Rs.x (TS.r t) 0)∧tt1 (Rs.x (TS.r t) 1)∧True∧tt1 (Rs.x (TS.r t) 1)∧tt1 (Rs.x (TS.r t) 1)∧True∧tt1 (Rs.x (TS.r t) 1)∧tt1 (Rs.x (TS.r t) 1)∧Con PG 47 [.agg [.i .i64 (Rs.x (TS.r t) 2),isv (Rs.mn (TS.r t)) (Rs.mf (TS.r t)),isv (Rs.sn (TS.r t)) (Rs.sf (TS.r t))],.agg [.i .i64 (Rs.x (TS.r t) 2),isv (Rs.mn (TS.r t)) (Rs.mf (TS.r t)),isv (Rs.sn (TS.r t)) (Rs.sf (TS.r t))]] [] (.b true) []∧tt1 (Rs.x (TS.r t) 1)∧True∧tt0 (Rs.x (TS.r t) 1)∧Con PG 48 [tsV t,tsV t] [] (.b true) []∧True∧True∧True∧True∧True∧tt1 (Mb.x (Rs.s (TS.r t) 0) 0)∧True∧tt1 (Mb.x (Rs.s (TS.r t) 0) 0)∧tt1 (Mb.x (Rs.s (TS.r t) 0) 0)∧True∧tt1 (Mb.x (Rs.s (TS.r t) 0) 0)∧tt1 (Mb.x (Rs.s (TS.r t) 0) 0)∧tt0 (Mb.x (Rs.s (TS.r t) 0) 0)∧tt1 (Mb.x (Rs.s (TS.r t) 0) 1)∧True∧tt1 (Mb.x (Rs.s (TS.r t) 0) 1)∧tt1 (Mb.x (Rs.s (TS.r t) 0) 1)∧True∧tt1 (Mb.x (Rs.s (TS.r t) 0) 1)∧tt1 (Mb.x (Rs.s (TS.r t) 0) 1)∧tt0 (Mb.x (Rs.s (TS.r t) 0) 1)∧tt1 (Mb.x (Rs.s (TS.r t) 0) 2)∧True∧tt1 (Mb.x (Rs.s (TS.r t) 0) 2)∧tt1 (Mb.x (Rs.s (TS.r t) 0) 2)∧True∧tt1 (Mb.x (Rs.s (TS.r t) 0) 2)∧tt1 (Mb.x (Rs.s (TS.r t) 0) 2)∧tt0 (Mb.x (Rs.s (TS.r t) 0) 2)∧tt1 (Mb.x (Rs.s (TS.r t) 0) 3)∧True∧tt1 (Mb.x (Rs.s (TS.r t) 0) 3)∧tt1 (Mb.x (Rs.s (TS.r t) 0) 3)∧True∧tt1 (Mb.x (Rs.s (TS.r t) 0) 3)∧tt1 (Mb.x (Rs.s (TS.r t) 0) 3)∧tt0 (Mb.x (Rs.s (TS.r t) 0) 3)∧tt1 (Mb.x (Rs.s (TS.r t) 0) 4)∧True∧tt1 (Mb.x (Rs.s (TS.r t) 0) 4)∧tt1 (Mb.x (Rs.s (TS.r t) 0) 4)∧True∧tt1 (Mb.x (Rs.s (TS.r t) 0) 4)∧tt1 (Mb.x (Rs.s (TS.r t) 0) 4)∧tt0 (Mb.x (Rs.s (TS.r t) 0) 4)∧tt1 (Mb.x (Rs.s (TS.r t) 0) 5)∧True∧tt1 (Mb.x (Rs.s (TS.r t) 0) 5)∧tt1 (Mb.x (Rs.s (TS.r t) 0) 5)∧True∧tt1 (Mb.x (Rs.s (TS.r t) 0) 5)∧tt1 (Mb.x (Rs.s (TS.r t) 0) 5)∧Con PG 20 [.agg (vwL (Rs.s (TS.r t) 0)),.agg (vwL (Rs.s (TS.r t) 0))] [] (.b true) []∧tt1 (Mb.x (Rs.s (TS.r t) 0) 5)∧True∧tt0 (Mb.x (Rs.s (TS.r t) 0) 5)∧rg (1)∧True∧True∧True∧True∧tt1 (Mb.x (Rs.s (TS.r t) 1) 0)∧True∧tt1 (Mb.x (Rs.s (TS.r t) 1) 0)∧tt1 (Mb.x (Rs.s (TS.r t) 1) 0)∧True∧tt1 (Mb.x (Rs.s (TS.r t) 1) 0)∧tt1 (Mb.x (Rs.s (TS.r t) 1) 0)∧tt0 (Mb.x (Rs.s (TS.r t) 1) 0)∧tt1 (Mb.x (Rs.s (TS.r t) 1) 1)∧True∧tt1 (Mb.x (Rs.s (TS.r t) 1) 1)∧tt1 (Mb.x (Rs.s (TS.r t) 1) 1)∧True∧tt1 (Mb.x (Rs.s (TS.r t) 1) 1)∧tt1 (Mb.x (Rs.s (TS.r t) 1) 1)∧tt0 (Mb.x (Rs.s (TS.r t) 1) 1)∧tt1 (Mb.x (Rs.s (TS.r t) 1) 2)∧True∧tt1 (Mb.x (Rs.s (TS.r t) 1) 2)∧tt1 (Mb.x (Rs.s (TS.r t) 1) 2)∧True∧tt1 (Mb.x (Rs.s (TS.r t) 1) 2)∧tt1 (Mb.x (Rs.s (TS.r t) 1) 2)∧tt0 (Mb.x (Rs.s (TS.r t) 1) 2)∧tt1 (Mb.x (Rs.s (TS.r t) 1) 3)∧True∧tt1 (Mb.x (Rs.s (TS.r t) 1) 3)∧tt1 (Mb.x (Rs.s (TS.r t) 1) 3)∧True∧tt1 (Mb.x (Rs.s (TS.r t) 1) 3)∧tt1 (Mb.x (Rs.s (TS.r t) 1) 3)∧tt0 (Mb.x (Rs.s (TS.r t) 1) 3)∧tt1 (Mb.x (Rs.s (TS.r t) 1) 4)∧True∧tt1 (Mb.x (Rs.s (TS.r t) 1) 4)∧tt1 (Mb.x (Rs.s (TS.r t) 1) 4)∧True∧tt1 (Mb.x (Rs.s (TS.r t) 1) 4)∧tt1 (Mb.x (Rs.s (TS.r t) 1) 4)∧tt0 (Mb.x (Rs.s (TS.r t) 1) 4)∧tt1 (Mb.x (Rs.s (TS.r t) 1) 5)∧True∧tt1 (Mb.x (Rs.s (TS.r t) 1) 5)∧tt1 (Mb.x (Rs.s (TS.r t) 1) 5)∧True∧tt1 (Mb.x (Rs.s (TS.r t) 1) 5)∧tt1 (Mb.x (Rs.s (TS.r t) 1) 5)∧Con PG 20 [.agg (vwL (Rs.s (TS.r t) 1)),.agg (vwL (Rs.s (TS.r t) 1))] [] (.b true) []∧tt1 (Mb.x (Rs.s (TS.r t) 1) 5)∧True∧tt0 (Mb.x (Rs.s (TS.r t) 1) 5)∧rg (2)∧True∧True∧True∧True∧tt1 (Mb.x (Rs.s (TS.r t) 2) 0)∧True∧tt1 (Mb.x (Rs.s (TS.r t) 2) 0)∧tt1 (Mb.x (Rs.s (TS.r t) 2) 0)∧True∧tt1 (Mb.x (Rs.s (TS.r t) 2) 0)∧tt1 (Mb.x (Rs.s (TS.r t) 2) 0)∧tt0 (Mb.x (Rs.s (TS.r t) 2) 0)∧tt1 (Mb.x (Rs.s (TS.r t) 2) 1)∧True∧tt1 (Mb.x (Rs.s (TS.r t) 2) 1)∧tt1 (Mb.x (Rs.s (TS.r t) 2) 1)∧True∧tt1 (Mb.x (Rs.s (TS.r t) 2) 1)∧tt1 (Mb.x (Rs.s (TS.r t) 2) 1)∧tt0 (Mb.x (Rs.s (TS.r t) 2) 1)∧tt1 (Mb.x (Rs.s (TS.r t) 2) 2)∧True∧tt1 (Mb.x (Rs.s (TS.r t) 2) 2)∧tt1 (Mb.x (Rs.s (TS.r t) 2) 2)∧True∧tt1 (Mb.x (Rs.s (TS.r t) 2) 2)∧tt1 (Mb.x (Rs.s (TS.r t) 2) 2)∧tt0 (Mb.x (Rs.s (TS.r t) 2) 2)∧tt1 (Mb.x (Rs.s (TS.r t) 2) 3)∧True∧tt1 (Mb.x (Rs.s (TS.r t) 2) 3)∧tt1 (Mb.x (Rs.s (TS.r t) 2) 3)∧True∧tt1 (Mb.x (Rs.s (TS.r t) 2) 3)∧tt1 (Mb.x (Rs.s (TS.r t) 2) 3)∧tt0 (Mb.x (Rs.s (TS.r t) 2) 3)∧tt1 (Mb.x (Rs.s (TS.r t) 2) 4)∧True∧tt1 (Mb.x (Rs.s (TS.r t) 2) 4)∧tt1 (Mb.x (Rs.s (TS.r t) 2) 4)∧True∧tt1 (Mb.x (Rs.s (TS.r t) 2) 4)∧tt1 (Mb.x (Rs.s (TS.r t) 2) 4)∧tt0 (Mb.x (Rs.s (TS.r t) 2) 4)∧tt1 (Mb.x (Rs.s (TS.r t) 2) 5)∧True∧tt1 (Mb.x (Rs.s (TS.r t) 2) 5)∧tt1 (Mb.x (Rs.s (TS.r t) 2) 5)∧True∧tt1 (Mb.x (Rs.s (TS.r t) 2) 5)∧tt1 (Mb.x (Rs.s (TS.r t) 2) 5)∧Con PG 20 [.agg (vwL (Rs.s (TS.r t) 2)),.agg (vwL (Rs.s (TS.r t) 2))] [] (.b true) []∧tt1 (Mb.x (Rs.s (TS.r t) 2) 5)∧True∧tt0 (Mb.x (Rs.s (TS.r t) 2) 5)∧rg (3)∧Lf):=by unfold VD VQ;kernel_rfl
theorem si_lp (n:Nat) (hn:n≤1152921504606846976) (f:Nat→Int):LDoes PG (loopAt PG 78 0) 26 0 (mkT [(0,isv n f),(1,isv n f),(5,.i .i64 0)]) [] (.exit 0) (mkT []) []:=by
 refine loop_q (fun i:Nat=>([(0,isv n f),(1,isv n f),(5,.i .i64 (ofNat i))],[])) (fun i=>n-i) (fun i=>i≤n) (fun _=>Nat.zero_le _) ?_ 0 (Nat.zero_le _)
 intro i hi
 rcases Nat.lt_or_ge i n with hlt | q
 · have h1:decide (ofNat i<ofNat n)=true:=decide_eq_true (by simp;omega)
   have bi:(0:Int)≤ofNat i∧ofNat i<(↑n:Int):=⟨by simp,by simp;omega⟩
   have ri:rg (ofNat i+1):=⟨by simp<;>omega,by simp<;>omega⟩
   exact rd_nrm (siR_lq n f i h1) (by repeat' first | exact trivial | exact tt1_ _ | exact tt0_ _ | assumption | exact bi | exact ri | exact rfl | (simp;done) | apply And.intro) (i+1) hlt (by show n-(i+1)<n-i;omega) rfl (.refl _) (.refl _)
 · obtain rfl:i=n:=Nat.le_antisymm hi q
   exact rd_out (siE_lq i f (decide_eq_false (by simp))) (by repeat' first | exact trivial | exact tt1_ _ | exact tt0_ _ | (simp;done) | exact rfl | apply And.intro) rfl rfl (.refl _) (.refl _)
theorem si_con (n:Nat) (hn:n≤1152921504606846976) (f:Nat→Int):Con PG 78 [isv n f,isv n f] [] (.b true) []:=
 con_d (si_vq ..) (by repeat' first | exact trivial | exact tt1_ _ | exact tt0_ _ | exact si_lp n hn f | (simp;done) | exact rfl | apply And.intro)
theorem sc_con (e:Int) (n m:Nat) (f g:Nat→Int) (hn:n≤1152921504606846976) (hm:m≤1152921504606846976):Con PG 47 [.agg [.i .i64 e,isv n f,isv m g],.agg [.i .i64 e,isv n f,isv m g]] [] (.b true) []:=
 con_d (sc_vq ..) (by repeat' first | exact trivial | exact tt1_ _ | exact tt0_ _ | exact si_con _ hn _ | exact si_con _ hm _ | (simp;done) | exact rfl | apply And.intro)
theorem sv_lp (b:Mb) (hn:b.dn≤1152921504606846976):LDoes PG (loopAt PG 20 0) 61 2 (mkT [(2,.p 0 0),(3,.p 1 0),(5,.i .i64 0)]) [some (vwO b),some (vwO b)] (.exit 0) (mkT []) [some (vwO b),some (vwO b)]:=by
 refine loop_q (fun i:Nat=>([(2,.p 0 0),(3,.p 1 0),(5,.i .i64 (ofNat i))],[some (vwO b),some (vwO b)])) (fun i=>b.dn-i) (fun i=>i≤b.dn) (fun _=>Nat.le_refl _) ?_ 0 (Nat.zero_le _)
 intro i hi
 rcases Nat.lt_or_ge i b.dn with hlt | q
 · have h1:decide (ofNat i<ofNat b.dn)=true:=decide_eq_true (by simp;omega)
   have bi:(0:Int)≤ofNat i∧ofNat i<(↑b.dn:Int):=⟨by simp,by simp;omega⟩
   have ri:rg (ofNat i+1):=⟨by simp<;>omega,by simp<;>omega⟩
   have h2:(!(decide (b.dA i=b.dA i) && (decide (b.dM i=b.dM i) && (decide (b.dW i=b.dW i) && true))))=false:=by simp
   exact rd_nrm (svR_lq b i h1 h2) (by repeat' first | exact trivial | exact tt1_ _ | exact tt0_ _ | assumption | exact bi | exact ri | exact rfl | (simp;done) | apply And.intro) (i+1) hlt (by show b.dn-(i+1)<b.dn-i;omega) rfl (.refl _) (.refl _)
 · have e:i=b.dn:=Nat.le_antisymm hi q
   subst e
   exact rd_out (svE_lq b (decide_eq_false (by simp))) (by repeat' first | exact trivial | exact tt1_ _ | exact tt0_ _ | (simp;done) | exact rfl | apply And.intro) rfl rfl (.refl _) (.refl _)
theorem shN_con (n:Nat) (A M W:Nat→Int) (hn:n≤1152921504606846976):Con PG 49 [svN n A M W,svN n A M W] [] (.b true) []:=con_pureX (sh_vc _ _ _ _ _) rfl ⟨by simp,sh_lp _ _ _ _ hn,rfl⟩
theorem sv_con (b:Mb) (h:b.mn≤17592186044416∧b.sn≤17592186044416∧b.hn≤5864062014805∧b.dn≤5864062014805):Con PG 20 [.agg (vwL b),.agg (vwL b)] [] (.b true) []:=
 con_d (sv_vq ..) (by repeat' first | exact trivial | exact tt1_ _ | exact tt0_ _ | exact sc_con _ _ _ _ _ (by omega) (by omega) | exact shN_con _ _ _ _ (by omega) | exact sv_lp b (by omega) | (simp;done) | exact rfl | apply And.intro)
theorem sam_con (s:LS) (ok:s.ok):Con PG 19 [lsV s,lsV s] [] (.b true) []:=by
 have h0:=same_con s ok
 have hc:=sc_con (s.r.x 2) s.r.mn s.r.sn s.r.mf s.r.sf (by have:=ok.m;have e:s.ts.r.mn=s.r.mn:=rfl;omega) (by have:=ok.m;have e:s.ts.r.sn=s.r.sn:=rfl;omega)
 have v0:=sv_con (s.r.s 0) (ok.s 0)
 have v1:=sv_con (s.r.s 1) (ok.s 1)
 have v2:=sv_con (s.r.s 2) (ok.s 2)
 exact con_d (sam_vq s.ts) ⟨trivial,trivial,tt1_ _,trivial,tt1_ _,tt1_ _,trivial,tt1_ _,tt1_ _,tt0_ _,tt1_ _,trivial,tt1_ _,tt1_ _,trivial,tt1_ _,tt1_ _,hc,tt1_ _,trivial,tt0_ _,h0,trivial,trivial,trivial,trivial,trivial,tt1_ _,trivial,tt1_ _,tt1_ _,trivial,tt1_ _,tt1_ _,tt0_ _,tt1_ _,trivial,tt1_ _,tt1_ _,trivial,tt1_ _,tt1_ _,tt0_ _,tt1_ _,trivial,tt1_ _,tt1_ _,trivial,tt1_ _,tt1_ _,tt0_ _,tt1_ _,trivial,tt1_ _,tt1_ _,trivial,tt1_ _,tt1_ _,tt0_ _,tt1_ _,trivial,tt1_ _,tt1_ _,trivial,tt1_ _,tt1_ _,tt0_ _,tt1_ _,trivial,tt1_ _,tt1_ _,trivial,tt1_ _,tt1_ _,v0,tt1_ _,trivial,tt0_ _,(by decide),trivial,trivial,trivial,trivial,tt1_ _,trivial,tt1_ _,tt1_ _,trivial,tt1_ _,tt1_ _,tt0_ _,tt1_ _,trivial,tt1_ _,tt1_ _,trivial,tt1_ _,tt1_ _,tt0_ _,tt1_ _,trivial,tt1_ _,tt1_ _,trivial,tt1_ _,tt1_ _,tt0_ _,tt1_ _,trivial,tt1_ _,tt1_ _,trivial,tt1_ _,tt1_ _,tt0_ _,tt1_ _,trivial,tt1_ _,tt1_ _,trivial,tt1_ _,tt1_ _,tt0_ _,tt1_ _,trivial,tt1_ _,tt1_ _,trivial,tt1_ _,tt1_ _,v1,tt1_ _,trivial,tt0_ _,(by decide),trivial,trivial,trivial,trivial,tt1_ _,trivial,tt1_ _,tt1_ _,trivial,tt1_ _,tt1_ _,tt0_ _,tt1_ _,trivial,tt1_ _,tt1_ _,trivial,tt1_ _,tt1_ _,tt0_ _,tt1_ _,trivial,tt1_ _,tt1_ _,trivial,tt1_ _,tt1_ _,tt0_ _,tt1_ _,trivial,tt1_ _,tt1_ _,trivial,tt1_ _,tt1_ _,tt0_ _,tt1_ _,trivial,tt1_ _,tt1_ _,trivial,tt1_ _,tt1_ _,tt0_ _,tt1_ _,trivial,tt1_ _,tt1_ _,trivial,tt1_ _,tt1_ _,v2,tt1_ _,trivial,tt0_ _,(by decide),rfl⟩
end Go.Proofs.Sv
namespace Go.Proofs.Sv
open Go Go.Sim Go.Proofs Go.Proofs.Lk
def mbK (xs mf sf:List Int) (hs ds:List HQ):Mb:=⟨fun k=>xs.getD k 0,mf.length,fun i=>mf.getD i 0,sf.length,fun i=>sf.getD i 0,hs.length,qA hs,qM hs,qW hs,ds.length,qA ds,qM ds,qW ds⟩
def rwK (h:List Int) (q:List HQ):Rw:=⟨fun k=>h.getD k 0,q⟩
def lsK (xs mf sf:List Int) (a b c:Mb) (w:Rw):LS:=⟨⟨fun k=>xs.getD k 0,mf.length,fun i=>mf.getD i 0,sf.length,fun i=>sf.getD i 0,fun j=>bif Nat.beq j 0 then a else bif Nat.beq j 1 then b else c⟩,fun l=>bif Nat.beq l 4 then w else ⟨fun _=>0,[]⟩⟩
def cmK (k sv bt sq gn lk md ot d:Int):Cm:=⟨k,sv,bt,sq,gn,lk,md,ot,0,fun _=>0,d⟩
end Go.Proofs.Sv
namespace Go.Proofs.Sv
open Go Go.Sim Go.Proofs Go.Proofs.Lk Go.Proofs.YtpipomhokkbgbaaGreat
def zK:Mb:=mbK [0,0,0,-1,0,0,0,0,0] [] [] [] []
def S0:LS:=lsK [3,0,1] [0,1,2] [1,1,1] zK zK zK (rwK [0,0,0] [])
def S1:LS:=lsK [3,0,1] [0,1,2] [1,1,1] (mbK [1,1,60,-1,1,1,0,1,1] [0,1,2] [1,1,1] [] []) zK zK (rwK [0,0,0] [])
def S2:LS:=lsK [3,0,1] [0,1,2] [1,1,1] (mbK [1,1,60,-1,1,2,0,1,1] [0,1,2] [1,1,1] [⟨4,2,0⟩] []) zK zK (rwK [2,0,0] [])
def S3:LS:=lsK [3,0,1] [0,1,2] [1,1,1] (mbK [1,1,60,-1,1,2,0,1,1] [0,1,2] [1,1,1] [⟨4,2,0⟩] []) zK zK (rwK [2,0,0] [])
def S4:LS:=lsK [3,61,1] [0,1,2] [1,1,1] (mbK [2,1,60,-1,1,2,0,1,1] [0,1,2] [1,1,1] [⟨4,2,0⟩] []) zK zK (rwK [2,0,0] [])
def S5:LS:=lsK [3,61,1] [0,1,2] [1,1,1] (mbK [2,1,60,-1,1,3,27,1,1] [0,1,2] [1,1,1] [] [⟨0,2,-1⟩]) zK zK (rwK [2,0,0] [])
def S6:LS:=lsK [3,61,1] [0,1,2] [1,1,1] (mbK [2,1,60,-1,1,3,27,1,1] [0,1,2] [1,1,1] [] [⟨0,2,-1⟩]) (mbK [1,1,121,-1,1,1,0,1,1] [0,1,2] [1,1,1] [] [⟨0,2,-1⟩]) zK (rwK [2,0,0] [])
def S7:LS:=lsK [3,61,1] [0,1,2] [1,1,1] (mbK [2,1,60,1,1,3,27,1,1] [0,1,2] [1,1,1] [] [⟨0,2,-1⟩]) (mbK [1,1,121,-1,1,2,0,1,1] [0,1,2] [1,1,1] [] [⟨0,2,1⟩]) zK (rwK [2,0,0] [])
def S8:LS:=lsK [3,61,1] [0,1,2] [1,1,1] (mbK [0,1,60,-1,1,3,27,1,1] [0,1,2] [1,1,1] [] [⟨0,2,-1⟩]) (mbK [1,1,121,-1,1,3,0,1,1] [0,1,2] [1,1,1] [] []) zK (rwK [0,0,0] [])
def S9:LS:=lsK [3,61,1] [0,1,2] [1,1,1] (mbK [1,2,121,-1,2,1,0,2,1] [0,1,2] [1,1,1] [] []) (mbK [1,1,121,-1,1,3,0,1,1] [0,1,2] [1,1,1] [] []) zK (rwK [0,0,0] [])
def V0:Mb:=(mbK [1,1,1,1,1,1,0,1,1] [0,1,2] [1,1,1] [] [])
def V1:Mb:=(mbK [1,1,1,1,1,1,0,1,1] [0,1,2] [1,1,1] [⟨4,2,0⟩] [])
def V2:Mb:=(mbK [1,1,60,-1,1,2,0,1,1] [0,1,2] [1,1,1] [⟨4,2,0⟩] [])
def V3:Mb:=(mbK [0,0,0,0,0,0,0,0,0] [] [] [] [])
def V4:Mb:=(mbK [1,1,1,1,1,1,27,1,1] [0,1,2] [1,1,1] [] [⟨0,2,-1⟩])
def V5:Mb:=(mbK [1,1,1,1,1,1,0,1,1] [0,1,2] [1,1,1] [] [⟨0,2,-1⟩])
def V6:Mb:=(mbK [1,1,1,1,1,1,0,1,1] [0,1,2] [1,1,1] [] [⟨0,2,1⟩])
def V7:Mb:=(mbK [1,1,1,1,1,1,0,1,1] [0,1,2] [1,1,1] [] [])
def V8:Mb:=(mbK [1,1,1,1,1,1,0,2,1] [0,1,2] [1,1,1] [] [])
def K0:Cm:=cmK 1 0 1 1 0 0 0 0 0
def K1:Cm:=cmK 3 0 1 2 1 4 2 0 0
def K2:Cm:=cmK 3 0 1 2 1 4 2 0 0
def K3:Cm:=cmK 8 0 0 0 0 0 0 0 61
def K4:Cm:=cmK 2 0 1 3 1 0 0 0 0
def K5:Cm:=cmK 1 1 1 1 0 0 0 0 0
def K6:Cm:=cmK 5 1 1 2 1 0 0 0 0
def K7:Cm:=cmK 6 1 1 3 1 0 0 0 0
def K8:Cm:=cmK 1 0 2 1 0 0 0 0 0
theorem lsK_ok {xs mf sf:List Int} {a b c:Mb} {w:Rw} (h1:mf.length≤1000∧sf.length≤1000) (ha:a.mn≤1000∧a.sn≤1000∧a.hn≤1000∧a.dn≤1000) (hb:b.mn≤1000∧b.sn≤1000∧b.hn≤1000∧b.dn≤1000)
 (hc:c.mn≤1000∧c.sn≤1000∧c.hn≤1000∧c.dn≤1000) (hw:w.q.length≤1000):(lsK xs mf sf a b c w).ok:=by
 refine ⟨⟨by show mf.length≤_;omega,by show sf.length≤_;omega⟩,fun j=>?_,fun l=>?_⟩
 · have q:∀m:Mb,(m.mn≤1000∧m.sn≤1000∧m.hn≤1000∧m.dn≤1000)→m.mn≤17592186044416∧m.sn≤17592186044416∧m.hn≤5864062014805∧m.dn≤5864062014805:=fun m h=>⟨by omega,by omega,by omega,by omega⟩
   show ((bif Nat.beq j 0 then a else bif Nat.beq j 1 then b else c).mn≤_∧(bif Nat.beq j 0 then a else bif Nat.beq j 1 then b else c).sn≤_∧(bif Nat.beq j 0 then a else bif Nat.beq j 1 then b else c).hn≤_∧(bif Nat.beq j 0 then a else bif Nat.beq j 1 then b else c).dn≤_)
   cases Nat.beq j 0 with
   | true=>exact q a ha
   | false=>cases Nat.beq j 1 with
     | true=>exact q b hb
     | false=>exact q c hc
 · show (bif Nat.beq l 4 then w else ⟨fun _=>0,[]⟩:Rw).q.length≤_
   cases Nat.beq l 4 with
   | true=>rw [cond_true];omega
   | false=>exact Nat.zero_le _
theorem S0_ok:S0.ok:=lsK_ok (by decide) (by decide) (by decide) (by decide) (by decide)
theorem S1_ok:S1.ok:=lsK_ok (by decide) (by decide) (by decide) (by decide) (by decide)
theorem S2_ok:S2.ok:=lsK_ok (by decide) (by decide) (by decide) (by decide) (by decide)
theorem S3_ok:S3.ok:=lsK_ok (by decide) (by decide) (by decide) (by decide) (by decide)
theorem S4_ok:S4.ok:=lsK_ok (by decide) (by decide) (by decide) (by decide) (by decide)
theorem S5_ok:S5.ok:=lsK_ok (by decide) (by decide) (by decide) (by decide) (by decide)
theorem S6_ok:S6.ok:=lsK_ok (by decide) (by decide) (by decide) (by decide) (by decide)
theorem S7_ok:S7.ok:=lsK_ok (by decide) (by decide) (by decide) (by decide) (by decide)
theorem S8_ok:S8.ok:=lsK_ok (by decide) (by decide) (by decide) (by decide) (by decide)
theorem S9_ok:S9.ok:=lsK_ok (by decide) (by decide) (by decide) (by decide) (by decide)
theorem A0_s:lsV (ApS S0 K0)=lsV S1:=by kernel_rfl
theorem A0_v:AV.agg (vwL (ApV S0 K0))=AV.agg (vwL V0):=by kernel_rfl
theorem A0_con:Con PG 15 [lsV S0,cmV K0] [] (.tup [lsV S1,.agg (vwL V0)]) []:=by
 rw [←A0_s,←A0_v]
 exact Apply_con S0 S0_ok K0 (by decide) (fun _ _ h=>absurd h (by decide))
theorem A1_s:lsV (ApS S1 K1)=lsV S2:=by kernel_rfl
theorem A1_v:AV.agg (vwL (ApV S1 K1))=AV.agg (vwL V1):=by kernel_rfl
theorem A1_con:Con PG 15 [lsV S1,cmV K1] [] (.tup [lsV S2,.agg (vwL V1)]) []:=by
 rw [←A1_s,←A1_v]
 exact Apply_con S1 S1_ok K1 (by decide) (fun _ _ h=>absurd h (by decide))
theorem A2_s:lsV (ApS S2 K2)=lsV S3:=by kernel_rfl
theorem A2_v:AV.agg (vwL (ApV S2 K2))=AV.agg (vwL V2):=by kernel_rfl
theorem A2_con:Con PG 15 [lsV S2,cmV K2] [] (.tup [lsV S3,.agg (vwL V2)]) []:=by
 rw [←A2_s,←A2_v]
 exact Apply_con S2 S2_ok K2 (by decide) (fun _ _ h=>absurd h (by decide))
theorem A3_s:lsV (ApS S3 K3)=lsV S4:=by kernel_rfl
theorem A3_v:AV.agg (vwL (ApV S3 K3))=AV.agg (vwL V3):=by kernel_rfl
theorem A3_con:Con PG 15 [lsV S3,cmV K3] [] (.tup [lsV S4,.agg (vwL V3)]) []:=by
 rw [←A3_s,←A3_v]
 exact Apply_con S3 S3_ok K3 (by decide) (fun _ _ h=>absurd h (by decide))
theorem A4_s:lsV (ApS S4 K4)=lsV S5:=by kernel_rfl
theorem A4_v:AV.agg (vwL (ApV S4 K4))=AV.agg (vwL V4):=by kernel_rfl
theorem A4_con:Con PG 15 [lsV S4,cmV K4] [] (.tup [lsV S5,.agg (vwL V4)]) []:=by
 rw [←A4_s,←A4_v]
 exact Apply_con S4 S4_ok K4 (by decide) (fun _ _ h=>absurd h (by decide))
theorem A5_s:lsV (ApS S5 K5)=lsV S6:=by kernel_rfl
theorem A5_v:AV.agg (vwL (ApV S5 K5))=AV.agg (vwL V5):=by kernel_rfl
theorem A5_con:Con PG 15 [lsV S5,cmV K5] [] (.tup [lsV S6,.agg (vwL V5)]) []:=by
 rw [←A5_s,←A5_v]
 exact Apply_con S5 S5_ok K5 (by decide) (fun _ _ h=>absurd h (by decide))
theorem A6_s:lsV (ApS S6 K6)=lsV S7:=by kernel_rfl
theorem A6_v:AV.agg (vwL (ApV S6 K6))=AV.agg (vwL V6):=by kernel_rfl
theorem A6_con:Con PG 15 [lsV S6,cmV K6] [] (.tup [lsV S7,.agg (vwL V6)]) []:=by
 rw [←A6_s,←A6_v]
 exact Apply_con S6 S6_ok K6 (by decide) (fun _ _ h=>absurd h (by decide))
theorem A7_s:lsV (ApS S7 K7)=lsV S8:=by kernel_rfl
theorem A7_v:AV.agg (vwL (ApV S7 K7))=AV.agg (vwL V7):=by kernel_rfl
theorem A7_con:Con PG 15 [lsV S7,cmV K7] [] (.tup [lsV S8,.agg (vwL V7)]) []:=by
 rw [←A7_s,←A7_v]
 exact Apply_con S7 S7_ok K7 (by decide) (fun _ _ h=>absurd h (by decide))
theorem A8_s:lsV (ApS S8 K8)=lsV S9:=by kernel_rfl
theorem A8_v:AV.agg (vwL (ApV S8 K8))=AV.agg (vwL V8):=by kernel_rfl
theorem A8_con:Con PG 15 [lsV S8,cmV K8] [] (.tup [lsV S9,.agg (vwL V8)]) []:=by
 rw [←A8_s,←A8_v]
 exact Apply_con S8 S8_ok K8 (by decide) (fun _ _ h=>absurd h (by decide))
def b9:List Nat:=[3,61,1,3,0,1,2,3,1,1,1,1,2,121,0,2,1,0,2,1,3,0,1,2,3,1,1,1,0,0,1,1,121,0,1,3,0,1,1,3,0,1,2,3,1,1,1,0,0,0,0,0,0,0,0,0,0,0,0,0,0,0,0,0,0,0,0,0,0,0,0,0,0,0,0,0,0,0,0,0,0,0,0,0,0,0,0,0,0,0,0,0,0,0,0,0,0,0,0,0,0,0,0,0,0,0,0,0,0,0,0,0,0,0,0,0,0,0,0,0,0,0,0,0,0,0,0,0,0,0,0,0,0,0,0,0,0,0]
def lA:AV:=.sv 1 3 (listF 1 [.i .i64 0,.i .i64 1,.i .i64 2] 3)
def lB:AV:=.sv 1 3 (listF 1 [.i .i64 1,.i .i64 1,.i .i64 1] 3)
def iA:AV:=isv 3 (fun i=>([0,1,2]:List Int).getD i 0)
def iB:AV:=isv 3 (fun i=>([1,1,1]:List Int).getD i 0)
def i0:AV:=isv 0 (fun i=>([]:List Int).getD i 0)
def q0:AV:=svN 0 (qA []) (qM []) (qW [])
theorem three {P:Nat→Nat→Prop} (a:P 0 0) (b:P 1 0) (c:P 2 0) (i j:Nat) (hi:i<3) (hj:j<1):P i j:=by
 obtain rfl:j=0:=by omega
 match i,hi with
 | 0,_=>exact a
 | 1,_=>exact b
 | 2,_=>exact c
theorem lA_vw:VW lA iA:=VW.sv (three (by kernel_rfl) (by kernel_rfl) (by kernel_rfl))
theorem lB_vw:VW lB iB:=VW.sv (three (by kernel_rfl) (by kernel_rfl) (by kernel_rfl))
def L9:List AV:=[.i .i64 3,.i .i64 61,.i .i64 1,lA,lB,.i .i64 1,.i .i64 2,.i .i64 121,.i .i64 (-1),.i .i64 2,.i .i64 1,.i .i64 0,.i .i64 2,.i .i64 1,lA,lB,.l0,.l0,.i .i64 1,.i .i64 1,.i .i64 121,.i .i64 (-1),.i .i64 1,.i .i64 3,.i .i64 0,.i .i64 1,.i .i64 1,lA,lB,.l0,.l0,.i .i64 0,.i .i64 0,.i .i64 0,.i .i64 (-1),.i .i64 0,.i .i64 0,.i .i64 0,.i .i64 0,.i .i64 0,.l0,.l0,.l0,.l0,.i .i64 0,.i .i64 0,.i .i64 0,.i .i64 0,.i .i64 0,.i .i64 0,.i .i64 0,.i .i64 0,.i .i64 0,.i .i64 0,.i .i64 0,.i .i64 0,.i .i64 0,.i .i64 0,.i .i64 0,.i .i64 0,.i .i64 0,.i .i64 0,.i .i64 0,.i .i64 0,.i .i64 0,.i .i64 0,.i .i64 0,.i .i64 0,.i .i64 0,.i .i64 0,.i .i64 0,.i .i64 0,.i .i64 0,.i .i64 0,.i .i64 0,.i .i64 0,.i .i64 0,.i .i64 0,.i .i64 0,.i .i64 0,.i .i64 0,.i .i64 0,.i .i64 0,.i .i64 0,.i .i64 0,.i .i64 0,.i .i64 0,.i .i64 0,.i .i64 0,.i .i64 0,.i .i64 0,.i .i64 0,.i .i64 0,.i .i64 0,.i .i64 0,.i .i64 0,.i .i64 0,.i .i64 0,.i .i64 0,.i .i64 0,.i .i64 0,.l0,.l0,.l0,.l0,.l0,.l0,.l0,.l0,.l0,.l0,.l0,.l0,.l0,.l0,.l0,.l0,.l0,.l0,.l0]
def M9:List AV:=[.i .i64 3,.i .i64 61,.i .i64 1,iA,iB,.i .i64 1,.i .i64 2,.i .i64 121,.i .i64 (-1),.i .i64 2,.i .i64 1,.i .i64 0,.i .i64 2,.i .i64 1,iA,iB,q0,q0,.i .i64 1,.i .i64 1,.i .i64 121,.i .i64 (-1),.i .i64 1,.i .i64 3,.i .i64 0,.i .i64 1,.i .i64 1,iA,iB,q0,q0,.i .i64 0,.i .i64 0,.i .i64 0,.i .i64 (-1),.i .i64 0,.i .i64 0,.i .i64 0,.i .i64 0,.i .i64 0,i0,i0,q0,q0,.i .i64 0,.i .i64 0,.i .i64 0,.i .i64 0,.i .i64 0,.i .i64 0,.i .i64 0,.i .i64 0,.i .i64 0,.i .i64 0,.i .i64 0,.i .i64 0,.i .i64 0,.i .i64 0,.i .i64 0,.i .i64 0,.i .i64 0,.i .i64 0,.i .i64 0,.i .i64 0,.i .i64 0,.i .i64 0,.i .i64 0,.i .i64 0,.i .i64 0,.i .i64 0,.i .i64 0,.i .i64 0,.i .i64 0,.i .i64 0,.i .i64 0,.i .i64 0,.i .i64 0,.i .i64 0,.i .i64 0,.i .i64 0,.i .i64 0,.i .i64 0,.i .i64 0,.i .i64 0,.i .i64 0,.i .i64 0,.i .i64 0,.i .i64 0,.i .i64 0,.i .i64 0,.i .i64 0,.i .i64 0,.i .i64 0,.i .i64 0,.i .i64 0,.i .i64 0,.i .i64 0,.i .i64 0,.i .i64 0,.i .i64 0,.i .i64 0,q0,q0,q0,q0,q0,q0,q0,q0,q0,q0,q0,q0,q0,q0,q0,q0,q0,q0,q0]
theorem L9_vw:VWL L9 M9:=⟨.refl _,.refl _,.refl _,lA_vw,lB_vw,.refl _,.refl _,.refl _,.refl _,.refl _,.refl _,.refl _,.refl _,.refl _,lA_vw,lB_vw,.nil _ _,.nil _ _,.refl _,.refl _,.refl _,.refl _,.refl _,.refl _,.refl _,.refl _,.refl _,lA_vw,lB_vw,.nil _ _,.nil _ _,.refl _,.refl _,.refl _,.refl _,.refl _,.refl _,.refl _,.refl _,.refl _,.nil _ _,.nil _ _,.nil _ _,.nil _ _,.refl _,.refl _,.refl _,.refl _,.refl _,.refl _,.refl _,.refl _,.refl _,.refl _,.refl _,.refl _,.refl _,.refl _,.refl _,.refl _,.refl _,.refl _,.refl _,.refl _,.refl _,.refl _,.refl _,.refl _,.refl _,.refl _,.refl _,.refl _,.refl _,.refl _,.refl _,.refl _,.refl _,.refl _,.refl _,.refl _,.refl _,.refl _,.refl _,.refl _,.refl _,.refl _,.refl _,.refl _,.refl _,.refl _,.refl _,.refl _,.refl _,.refl _,.refl _,.refl _,.refl _,.refl _,.refl _,.refl _,.refl _,.nil _ _,.nil _ _,.nil _ _,.nil _ _,.nil _ _,.nil _ _,.nil _ _,.nil _ _,.nil _ _,.nil _ _,.nil _ _,.nil _ _,.nil _ _,.nil _ _,.nil _ _,.nil _ _,.nil _ _,.nil _ _,.nil _ _,trivial⟩
theorem M9_eq:AV.agg M9=lsV S9:=by kernel_rfl
set_option maxRecDepth 1000000 in
theorem enc9_con:Con PG 26 [lsV S9] [] (.tup [.s b9,.i .i64 0]) []:=con_xx (fuel:=100000000) (fz:=[]) (nx:=100) (by kernel_rfl)
set_option maxRecDepth 1000000 in
theorem dec9_con0:Con PG 30 [.s b9] [] (.tup [.agg L9,.i .i64 0]) []:=con_xx (fuel:=100000000) (fz:=[15,24,33,42,51,60]) (nx:=100) (by kernel_rfl)
theorem dec9_con:Con PG 30 [.s b9] [] (.tup [lsV S9,.i .i64 0]) []:=by
 rw [←M9_eq]
 exact dec9_con0.post (.tup ⟨.agg L9_vw,.refl _,trivial⟩) (.refl _)
theorem one1 {P:Nat→Nat→Prop} (a:P 0 0) (i j:Nat) (hi:i<1) (hj:j<1):P i j:=by
 obtain rfl:j=0:=by omega
 obtain rfl:i=0:=by omega
 exact a
def T1:LS:=lsK [1,0,1] [0] [1] zK zK zK (rwK [0,0,0] [])
theorem T1_ok:T1.ok:=lsK_ok (by decide) (by decide) (by decide) (by decide) (by decide)
def lA1:AV:=.sv 1 1 (listF 1 [.i .i64 0] 1)
def lB1:AV:=.sv 1 1 (listF 1 [.i .i64 1] 1)
def iA1:AV:=isv 1 (fun i=>([0]:List Int).getD i 0)
def iB1:AV:=isv 1 (fun i=>([1]:List Int).getD i 0)
theorem lA1_vw:VW lA1 iA1:=VW.sv (one1 (by kernel_rfl))
theorem lB1_vw:VW lB1 iB1:=VW.sv (one1 (by kernel_rfl))
def P1:List AV:=[.i .i64 1,.i .i64 0,.i .i64 1,lA1,lB1,.i .i64 0,.i .i64 0,.i .i64 0,.i .i64 (-1),.i .i64 0,.i .i64 0,.i .i64 0,.i .i64 0,.i .i64 0,.l0,.l0,.l0,.l0,.i .i64 0,.i .i64 0,.i .i64 0,.i .i64 (-1),.i .i64 0,.i .i64 0,.i .i64 0,.i .i64 0,.i .i64 0,.l0,.l0,.l0,.l0,.i .i64 0,.i .i64 0,.i .i64 0,.i .i64 (-1),.i .i64 0,.i .i64 0,.i .i64 0,.i .i64 0,.i .i64 0,.l0,.l0,.l0,.l0,.i .i64 0,.i .i64 0,.i .i64 0,.i .i64 0,.i .i64 0,.i .i64 0,.i .i64 0,.i .i64 0,.i .i64 0,.i .i64 0,.i .i64 0,.i .i64 0,.i .i64 0,.i .i64 0,.i .i64 0,.i .i64 0,.i .i64 0,.i .i64 0,.i .i64 0,.i .i64 0,.i .i64 0,.i .i64 0,.i .i64 0,.i .i64 0,.i .i64 0,.i .i64 0,.i .i64 0,.i .i64 0,.i .i64 0,.i .i64 0,.i .i64 0,.i .i64 0,.i .i64 0,.i .i64 0,.i .i64 0,.i .i64 0,.i .i64 0,.i .i64 0,.i .i64 0,.i .i64 0,.i .i64 0,.i .i64 0,.i .i64 0,.i .i64 0,.i .i64 0,.i .i64 0,.i .i64 0,.i .i64 0,.i .i64 0,.i .i64 0,.i .i64 0,.i .i64 0,.i .i64 0,.i .i64 0,.i .i64 0,.i .i64 0,.i .i64 0,.l0,.l0,.l0,.l0,.l0,.l0,.l0,.l0,.l0,.l0,.l0,.l0,.l0,.l0,.l0,.l0,.l0,.l0,.l0]
def Q1:List AV:=[.i .i64 1,.i .i64 0,.i .i64 1,iA1,iB1,.i .i64 0,.i .i64 0,.i .i64 0,.i .i64 (-1),.i .i64 0,.i .i64 0,.i .i64 0,.i .i64 0,.i .i64 0,i0,i0,q0,q0,.i .i64 0,.i .i64 0,.i .i64 0,.i .i64 (-1),.i .i64 0,.i .i64 0,.i .i64 0,.i .i64 0,.i .i64 0,i0,i0,q0,q0,.i .i64 0,.i .i64 0,.i .i64 0,.i .i64 (-1),.i .i64 0,.i .i64 0,.i .i64 0,.i .i64 0,.i .i64 0,i0,i0,q0,q0,.i .i64 0,.i .i64 0,.i .i64 0,.i .i64 0,.i .i64 0,.i .i64 0,.i .i64 0,.i .i64 0,.i .i64 0,.i .i64 0,.i .i64 0,.i .i64 0,.i .i64 0,.i .i64 0,.i .i64 0,.i .i64 0,.i .i64 0,.i .i64 0,.i .i64 0,.i .i64 0,.i .i64 0,.i .i64 0,.i .i64 0,.i .i64 0,.i .i64 0,.i .i64 0,.i .i64 0,.i .i64 0,.i .i64 0,.i .i64 0,.i .i64 0,.i .i64 0,.i .i64 0,.i .i64 0,.i .i64 0,.i .i64 0,.i .i64 0,.i .i64 0,.i .i64 0,.i .i64 0,.i .i64 0,.i .i64 0,.i .i64 0,.i .i64 0,.i .i64 0,.i .i64 0,.i .i64 0,.i .i64 0,.i .i64 0,.i .i64 0,.i .i64 0,.i .i64 0,.i .i64 0,.i .i64 0,.i .i64 0,.i .i64 0,.i .i64 0,q0,q0,q0,q0,q0,q0,q0,q0,q0,q0,q0,q0,q0,q0,q0,q0,q0,q0,q0]
theorem P1_vw:VWL P1 Q1:=⟨.refl _,.refl _,.refl _,lA1_vw,lB1_vw,.refl _,.refl _,.refl _,.refl _,.refl _,.refl _,.refl _,.refl _,.refl _,.nil _ _,.nil _ _,.nil _ _,.nil _ _,.refl _,.refl _,.refl _,.refl _,.refl _,.refl _,.refl _,.refl _,.refl _,.nil _ _,.nil _ _,.nil _ _,.nil _ _,.refl _,.refl _,.refl _,.refl _,.refl _,.refl _,.refl _,.refl _,.refl _,.nil _ _,.nil _ _,.nil _ _,.nil _ _,.refl _,.refl _,.refl _,.refl _,.refl _,.refl _,.refl _,.refl _,.refl _,.refl _,.refl _,.refl _,.refl _,.refl _,.refl _,.refl _,.refl _,.refl _,.refl _,.refl _,.refl _,.refl _,.refl _,.refl _,.refl _,.refl _,.refl _,.refl _,.refl _,.refl _,.refl _,.refl _,.refl _,.refl _,.refl _,.refl _,.refl _,.refl _,.refl _,.refl _,.refl _,.refl _,.refl _,.refl _,.refl _,.refl _,.refl _,.refl _,.refl _,.refl _,.refl _,.refl _,.refl _,.refl _,.refl _,.refl _,.refl _,.nil _ _,.nil _ _,.nil _ _,.nil _ _,.nil _ _,.nil _ _,.nil _ _,.nil _ _,.nil _ _,.nil _ _,.nil _ _,.nil _ _,.nil _ _,.nil _ _,.nil _ _,.nil _ _,.nil _ _,.nil _ _,.nil _ _,trivial⟩
theorem Q1_eq:AV.agg Q1=lsV T1:=by kernel_rfl
set_option maxRecDepth 1000000 in
theorem start1_con0:Con PG 13 [.i .i64 1] [] (.tup [.agg P1,.i .i64 0]) []:=con_xx (fuel:=100000000) (fz:=[4,6]) (nx:=100) (by kernel_rfl)
theorem start1_con:Con PG 13 [.i .i64 1] [] (.tup [lsV T1,.i .i64 0]) []:=by
 rw [←Q1_eq]
 exact start1_con0.post (.tup ⟨.agg P1_vw,.refl _,trivial⟩) (.refl _)
def P3:List AV:=[.i .i64 3,.i .i64 0,.i .i64 1,lA,lB,.i .i64 0,.i .i64 0,.i .i64 0,.i .i64 (-1),.i .i64 0,.i .i64 0,.i .i64 0,.i .i64 0,.i .i64 0,.l0,.l0,.l0,.l0,.i .i64 0,.i .i64 0,.i .i64 0,.i .i64 (-1),.i .i64 0,.i .i64 0,.i .i64 0,.i .i64 0,.i .i64 0,.l0,.l0,.l0,.l0,.i .i64 0,.i .i64 0,.i .i64 0,.i .i64 (-1),.i .i64 0,.i .i64 0,.i .i64 0,.i .i64 0,.i .i64 0,.l0,.l0,.l0,.l0,.i .i64 0,.i .i64 0,.i .i64 0,.i .i64 0,.i .i64 0,.i .i64 0,.i .i64 0,.i .i64 0,.i .i64 0,.i .i64 0,.i .i64 0,.i .i64 0,.i .i64 0,.i .i64 0,.i .i64 0,.i .i64 0,.i .i64 0,.i .i64 0,.i .i64 0,.i .i64 0,.i .i64 0,.i .i64 0,.i .i64 0,.i .i64 0,.i .i64 0,.i .i64 0,.i .i64 0,.i .i64 0,.i .i64 0,.i .i64 0,.i .i64 0,.i .i64 0,.i .i64 0,.i .i64 0,.i .i64 0,.i .i64 0,.i .i64 0,.i .i64 0,.i .i64 0,.i .i64 0,.i .i64 0,.i .i64 0,.i .i64 0,.i .i64 0,.i .i64 0,.i .i64 0,.i .i64 0,.i .i64 0,.i .i64 0,.i .i64 0,.i .i64 0,.i .i64 0,.i .i64 0,.i .i64 0,.i .i64 0,.i .i64 0,.i .i64 0,.l0,.l0,.l0,.l0,.l0,.l0,.l0,.l0,.l0,.l0,.l0,.l0,.l0,.l0,.l0,.l0,.l0,.l0,.l0]
def Q3:List AV:=[.i .i64 3,.i .i64 0,.i .i64 1,iA,iB,.i .i64 0,.i .i64 0,.i .i64 0,.i .i64 (-1),.i .i64 0,.i .i64 0,.i .i64 0,.i .i64 0,.i .i64 0,i0,i0,q0,q0,.i .i64 0,.i .i64 0,.i .i64 0,.i .i64 (-1),.i .i64 0,.i .i64 0,.i .i64 0,.i .i64 0,.i .i64 0,i0,i0,q0,q0,.i .i64 0,.i .i64 0,.i .i64 0,.i .i64 (-1),.i .i64 0,.i .i64 0,.i .i64 0,.i .i64 0,.i .i64 0,i0,i0,q0,q0,.i .i64 0,.i .i64 0,.i .i64 0,.i .i64 0,.i .i64 0,.i .i64 0,.i .i64 0,.i .i64 0,.i .i64 0,.i .i64 0,.i .i64 0,.i .i64 0,.i .i64 0,.i .i64 0,.i .i64 0,.i .i64 0,.i .i64 0,.i .i64 0,.i .i64 0,.i .i64 0,.i .i64 0,.i .i64 0,.i .i64 0,.i .i64 0,.i .i64 0,.i .i64 0,.i .i64 0,.i .i64 0,.i .i64 0,.i .i64 0,.i .i64 0,.i .i64 0,.i .i64 0,.i .i64 0,.i .i64 0,.i .i64 0,.i .i64 0,.i .i64 0,.i .i64 0,.i .i64 0,.i .i64 0,.i .i64 0,.i .i64 0,.i .i64 0,.i .i64 0,.i .i64 0,.i .i64 0,.i .i64 0,.i .i64 0,.i .i64 0,.i .i64 0,.i .i64 0,.i .i64 0,.i .i64 0,.i .i64 0,.i .i64 0,.i .i64 0,q0,q0,q0,q0,q0,q0,q0,q0,q0,q0,q0,q0,q0,q0,q0,q0,q0,q0,q0]
theorem P3_vw:VWL P3 Q3:=⟨.refl _,.refl _,.refl _,lA_vw,lB_vw,.refl _,.refl _,.refl _,.refl _,.refl _,.refl _,.refl _,.refl _,.refl _,.nil _ _,.nil _ _,.nil _ _,.nil _ _,.refl _,.refl _,.refl _,.refl _,.refl _,.refl _,.refl _,.refl _,.refl _,.nil _ _,.nil _ _,.nil _ _,.nil _ _,.refl _,.refl _,.refl _,.refl _,.refl _,.refl _,.refl _,.refl _,.refl _,.nil _ _,.nil _ _,.nil _ _,.nil _ _,.refl _,.refl _,.refl _,.refl _,.refl _,.refl _,.refl _,.refl _,.refl _,.refl _,.refl _,.refl _,.refl _,.refl _,.refl _,.refl _,.refl _,.refl _,.refl _,.refl _,.refl _,.refl _,.refl _,.refl _,.refl _,.refl _,.refl _,.refl _,.refl _,.refl _,.refl _,.refl _,.refl _,.refl _,.refl _,.refl _,.refl _,.refl _,.refl _,.refl _,.refl _,.refl _,.refl _,.refl _,.refl _,.refl _,.refl _,.refl _,.refl _,.refl _,.refl _,.refl _,.refl _,.refl _,.refl _,.refl _,.refl _,.nil _ _,.nil _ _,.nil _ _,.nil _ _,.nil _ _,.nil _ _,.nil _ _,.nil _ _,.nil _ _,.nil _ _,.nil _ _,.nil _ _,.nil _ _,.nil _ _,.nil _ _,.nil _ _,.nil _ _,.nil _ _,.nil _ _,trivial⟩
theorem Q3_eq:AV.agg Q3=lsV S0:=by kernel_rfl
set_option maxRecDepth 1000000 in
theorem start3_con0:Con PG 13 [.i .i64 3] [] (.tup [.agg P3,.i .i64 0]) []:=con_xx (fuel:=100000000) (fz:=[12,14]) (nx:=100) (by kernel_rfl)
theorem start3_con:Con PG 13 [.i .i64 3] [] (.tup [lsV S0,.i .i64 0]) []:=by
 rw [←Q3_eq]
 exact start3_con0.post (.tup ⟨.agg P3_vw,.refl _,trivial⟩) (.refl _)
theorem B0_con:Con PG 15 [lsV S0,.agg [.i .i64 1,.i .i64 0,.i .i64 1,.i .i64 1,.i .i64 0,.i .i64 0,.i .i64 0,.i .i64 0,.l0,.i .i64 0]] [] (.tup [lsV S1,.agg (vwL V0)]) []:=A0_con.pre ⟨.refl _,.agg ⟨.refl _,.refl _,.refl _,.refl _,.refl _,.refl _,.refl _,.refl _,.nil _ _,.refl _,trivial⟩,trivial⟩
theorem B1_con:Con PG 15 [lsV S1,.agg [.i .i64 3,.i .i64 0,.i .i64 1,.i .i64 2,.i .i64 1,.i .i64 4,.i .i64 2,.i .i64 0,.l0,.i .i64 0]] [] (.tup [lsV S2,.agg (vwL V1)]) []:=A1_con.pre ⟨.refl _,.agg ⟨.refl _,.refl _,.refl _,.refl _,.refl _,.refl _,.refl _,.refl _,.nil _ _,.refl _,trivial⟩,trivial⟩
theorem B2_con:Con PG 15 [lsV S2,.agg [.i .i64 3,.i .i64 0,.i .i64 1,.i .i64 2,.i .i64 1,.i .i64 4,.i .i64 2,.i .i64 0,.l0,.i .i64 0]] [] (.tup [lsV S3,.agg (vwL V2)]) []:=A2_con.pre ⟨.refl _,.agg ⟨.refl _,.refl _,.refl _,.refl _,.refl _,.refl _,.refl _,.refl _,.nil _ _,.refl _,trivial⟩,trivial⟩
theorem B3_con:Con PG 15 [lsV S3,.agg [.i .i64 8,.i .i64 0,.i .i64 0,.i .i64 0,.i .i64 0,.i .i64 0,.i .i64 0,.i .i64 0,.l0,.i .i64 61]] [] (.tup [lsV S4,.agg (vwL V3)]) []:=A3_con.pre ⟨.refl _,.agg ⟨.refl _,.refl _,.refl _,.refl _,.refl _,.refl _,.refl _,.refl _,.nil _ _,.refl _,trivial⟩,trivial⟩
theorem B4_con:Con PG 15 [lsV S4,.agg [.i .i64 2,.i .i64 0,.i .i64 1,.i .i64 3,.i .i64 1,.i .i64 0,.i .i64 0,.i .i64 0,.l0,.i .i64 0]] [] (.tup [lsV S5,.agg (vwL V4)]) []:=A4_con.pre ⟨.refl _,.agg ⟨.refl _,.refl _,.refl _,.refl _,.refl _,.refl _,.refl _,.refl _,.nil _ _,.refl _,trivial⟩,trivial⟩
theorem B5_con:Con PG 15 [lsV S5,.agg [.i .i64 1,.i .i64 1,.i .i64 1,.i .i64 1,.i .i64 0,.i .i64 0,.i .i64 0,.i .i64 0,.l0,.i .i64 0]] [] (.tup [lsV S6,.agg (vwL V5)]) []:=A5_con.pre ⟨.refl _,.agg ⟨.refl _,.refl _,.refl _,.refl _,.refl _,.refl _,.refl _,.refl _,.nil _ _,.refl _,trivial⟩,trivial⟩
theorem B6_con:Con PG 15 [lsV S6,.agg [.i .i64 5,.i .i64 1,.i .i64 1,.i .i64 2,.i .i64 1,.i .i64 0,.i .i64 0,.i .i64 0,.l0,.i .i64 0]] [] (.tup [lsV S7,.agg (vwL V6)]) []:=A6_con.pre ⟨.refl _,.agg ⟨.refl _,.refl _,.refl _,.refl _,.refl _,.refl _,.refl _,.refl _,.nil _ _,.refl _,trivial⟩,trivial⟩
theorem B7_con:Con PG 15 [lsV S7,.agg [.i .i64 6,.i .i64 1,.i .i64 1,.i .i64 3,.i .i64 1,.i .i64 0,.i .i64 0,.i .i64 0,.l0,.i .i64 0]] [] (.tup [lsV S8,.agg (vwL V7)]) []:=A7_con.pre ⟨.refl _,.agg ⟨.refl _,.refl _,.refl _,.refl _,.refl _,.refl _,.refl _,.refl _,.nil _ _,.refl _,trivial⟩,trivial⟩
theorem B8_con:Con PG 15 [lsV S8,.agg [.i .i64 1,.i .i64 0,.i .i64 2,.i .i64 1,.i .i64 0,.i .i64 0,.i .i64 0,.i .i64 0,.l0,.i .i64 0]] [] (.tup [lsV S9,.agg (vwL V8)]) []:=A8_con.pre ⟨.refl _,.agg ⟨.refl _,.refl _,.refl _,.refl _,.refl _,.refl _,.refl _,.refl _,.nil _ _,.refl _,trivial⟩,trivial⟩
theorem awk_vc (t0 t1 t2 t3 t4 t5 t6 t7 t8 t9:TS) (v0 v1 v2 v3 v4 v5 v6 v7 v8:Mb) (bs:List Nat) (h0:decide (v0.x 6=0)=true) (h1:decide (v0.x 7=1)=true) (h2:decide (v0.x 8=1)=true) (h3:decide (v3.x 6=0)=true) (h4:decide (v4.x 6=27)=true) (h5:decide (v5.x 6=0)=true) (h6:decide (v6.x 6=0)=true) (h7:decide (v7.x 6=0)=true) (h8:decide (v8.x 7=2)=true) (g0:decide (ofNat v1.hn=1)=true) (g1:(decide (v1.hA 0=4) && (decide (v1.hM 0=2) && (decide (v1.hW 0=0) && true)))=true) (g4:decide (ofNat v4.dn=1)=true) (g5:(decide (v4.dA 0=0) && (decide (v4.dM 0=2) && (decide (v4.dW 0=-1) && true)))=true) (g8:decide (ofNat v6.dn=1)=true) (g9:decide (v6.dW 0=1)=true) (ga:decide (ofNat v7.dn=0)=true) (gb:decide (t9.h 4 0=0)=true) (V:AV):runK PG 1000000 (.call 14 [] (mkH [])) (.cal [] (.tup [tsV t0,.i .i64 0]) [] (.inl (.cal [] (.tup [tsV t1,.agg (vwL v0)]) [] (.inl (.cal [] (.tup [tsV t2,.agg (vwL v1)]) [] (.cal [] (.tup [tsV t3,.agg (vwL v2)]) [] (oc 4 (ot 3 (.f (ot 4 (.f (ot 4 (.f (ot 6 (.f (ot 3 (.cal [] (.b true) [] (.t (.f (.c (.cal [] (.tup [tsV t4,.agg (vwL v3)]) [] (.inl (.cal [] (.tup [tsV t5,.agg (vwL v4)]) [] (.inl (.cal [] (.tup [tsV t6,.agg (vwL v5)]) [] (ot 3 (.f (ot 4 (.f (ot 6 (.f (ot 3 (.f (.f (.inl (.cal [] (.tup [tsV t7,.agg (vwL v6)]) [] (.inl (.cal [] (.tup [tsV t8,.agg (vwL v7)]) [] (.inl (.cal [] (.tup [tsV t9,.agg (vwL v8)]) [] (.cal
 [] (.tup [.s bs,.i .i64 0]) [] (.cal [] (.tup [tsV t9,.i .i64 0]) [] (ot 28 (oc 6 (.cal [] (.b true) [] (oc 9 .z)))))))))))))))))))))))))))))))))))))))))))))) (fun r _=>rvIs V r)=((fun (q5:Bool)=>((fun (q4:List AV)=>((fun (q3:Bool)=>((fun (q2:Bool)=>((fun (q1:Bool)=>((fun (q0:Bool)=>(Con PG 13 [.i .i64 3] [] (.tup [tsV t0,.i .i64 0]) []∧Con PG 15 [tsV t0,.agg [.i .i64 1,.i .i64 0,.i .i64 1,.i .i64 1,.i .i64 0,.i .i64 0,.i .i64 0,.i .i64 0,.l0,.i .i64 0]] [] (.tup [tsV t1,.agg (vwL v0)]) []∧True∧True∧Con PG 15 [tsV t1,.agg q4] [] (.tup [tsV t2,.agg (vwL v1)]) []∧Con PG 15 [tsV t2,.agg q4] [] (.tup [tsV t3,.agg (vwL v2)]) []∧True∧(!!decide (Mb.x v0 6=0))=true∧True∧r2 ((!!decide (Mb.x v0 6=0))=true) ((!decide (Mb.x v0 6=0))=false∧q5=true∧True∧q5=true∧True∧r2 (q5=true) ((!decide (Mb.x v0 7=1))=false∧(!!decide (Mb.x v0 8=1))=true∧True∧r3 ((!!decide (Mb.x v0 8=1))=true) ((!decide (Mb.x v0 8=1))=false∧q2=true∧True∧r2 (q2=true) (((0:Int)≤(0:Int)∧(0:Int)<↑(Mb.hn v1))∧q2=true∧True∧r2 (q2=true) (True∧(!decide (ofNat (Mb.hn v1)=1))=false∧r3 ((!!q1)=true) (Con PG 20 [.agg (vwL v1),.agg (vwL v2)] [] (.b true) []∧(!!q1)=true∧True∧(!q1)=false∧Con PG 15 [tsV t3,.agg [.i .i64 8,.i .i64 0,.i .i64 0,.i .i64 0,.i .i64 0,.i .i64 0,.i .i64 0,.i .i64 0,.l0,.i .i64 61]] [] (.tup [tsV t4,.agg (vwL v3)]) []∧Con PG 15
 [tsV t4,.agg [.i .i64 2,.i .i64 0,.i .i64 1,.i .i64 3,.i .i64 1,.i .i64 0,.i .i64 0,.i .i64 0,.l0,.i .i64 0]] [] (.tup [tsV t5,.agg (vwL v4)]) []∧Con PG 15 [tsV t5,.agg [.i .i64 1,.i .i64 1,.i .i64 1,.i .i64 1,.i .i64 0,.i .i64 0,.i .i64 0,.i .i64 0,.l0,.i .i64 0]] [] (.tup [tsV t6,.agg (vwL v5)]) []∧True∧(!!decide (Mb.x v3 6=0))=true∧True∧r2 ((!!decide (Mb.x v3 6=0))=true) ((!decide (Mb.x v3 6=0))=false∧(!!decide (Mb.x v4 6=27))=true∧True∧r3 ((!!decide (Mb.x v4 6=27))=true) ((!decide (Mb.x v4 6=27))=false∧q3=true∧True∧r2 (q3=true) (((0:Int)≤(0:Int)∧(0:Int)<↑(Mb.dn v4))∧q3=true∧True∧r2 (q3=true) (True∧(!decide (ofNat (Mb.dn v4)=1))=false∧(!!q0)=true∧True∧r2 ((!!q0)=true) ((!q0)=false∧(!decide (Mb.x v5 6=0))=false∧Con PG 15 [tsV t6,.agg [.i .i64 5,.i .i64 1,.i .i64 1,.i .i64 2,.i .i64 1,.i .i64 0,.i .i64 0,.i .i64 0,.l0,.i .i64 0]] [] (.tup [tsV t7,.agg (vwL v6)]) []∧Con PG 15 [tsV t7,.agg [.i .i64 6,.i .i64 1,.i .i64 1,.i .i64 3,.i .i64 1,.i .i64 0,.i .i64 0,.i .i64 0,.l0,.i .i64 0]] [] (.tup [tsV t8,.agg (vwL v7)]) []∧Con PG 15 [tsV t8,.agg [.i .i64 1,.i .i64 0,.i .i64 2,.i .i64 1,.i .i64 0,.i .i64 0,.i .i64 0,.i .i64 0,.l0,.i .i64 0]] [] (.tup [tsV t9,.agg (vwL v8)]) []∧Con PG 26 [tsV t9] [] (.tup [.s bs,.i .i64 0]) []∧Con PG 30 [.s bs] [] (.tup [tsV t9,.i .i64 0]) []∧True∧decide (Mb.x v6 6=0)=true∧
 True∧r4 (decide (Mb.x v6 6=0)=true) (decide (ofNat (Mb.dn v6)=1)=true∧True∧r2 (decide (ofNat (Mb.dn v6)=1)=true) (((0:Int)≤(0:Int)∧(0:Int)<↑(Mb.dn v6))∧decide (ofNat (Mb.dn v6)=1)=true∧True∧decide (ofNat (Mb.dn v6)=1)=true∧True∧r2 (decide (ofNat (Mb.dn v6)=1)=true) (decide (Mb.dW v6 0=1)=true∧True∧r3 (decide (Mb.dW v6 0=1)=true) (decide (Mb.x v7 6=0)=true∧True∧r4 (decide (Mb.x v7 6=0)=true) (decide (ofNat (Mb.dn v7)=0)=true∧True∧r3 (decide (ofNat (Mb.dn v7)=0)=true) (r3 (decide (Mb.x v8 7=2)=true) (Con PG 19 [tsV t9,tsV t9] [] (.b true) []∧True∧(.b (decide (TS.h t9 4 0=0)))=V)))))))))))))))))))) (decide (Mb.dA v4 0=0) && (decide (Mb.dM v4 0=2) && (decide (Mb.dW v4 0=(-1)) && true))))) (decide (Mb.hA v1 0=4) && (decide (Mb.hM v1 0=2) && (decide (Mb.hW v1 0=0) && true))))) (!!decide (ofNat (Mb.hn v1)=1)))) (!!decide (ofNat (Mb.dn v4)=1)))) [.i .i64 3,.i .i64 0,.i .i64 1,.i .i64 2,.i .i64 1,.i .i64 4,.i .i64 2,.i .i64 0,.l0,.i .i64 0])) (!!decide (Mb.x v0 7=1))):=by kernel_rfl
theorem awake_con:Con PG 14 [] [] (.b true) []:=con_pureX (awk_vc S0.ts S1.ts S2.ts S3.ts S4.ts S5.ts S6.ts S7.ts S8.ts S9.ts V0 V1 V2 V3 V4 V5 V6 V7 V8 b9 (by kernel_rfl) (by kernel_rfl) (by kernel_rfl) (by kernel_rfl) (by kernel_rfl) (by kernel_rfl) (by kernel_rfl) (by kernel_rfl) (by kernel_rfl) (by kernel_rfl) (by kernel_rfl) (by kernel_rfl) (by kernel_rfl) (by kernel_rfl) (by kernel_rfl) (by kernel_rfl) (by kernel_rfl) _) rfl ⟨start3_con,B0_con,trivial,trivial,B1_con,B2_con,trivial,(by kernel_rfl),trivial,(by kernel_rfl),(by kernel_rfl),(by kernel_rfl),(by kernel_rfl),trivial,(by kernel_rfl),trivial,(by kernel_rfl),(by kernel_rfl),(by kernel_rfl),(by kernel_rfl),trivial,(by kernel_rfl),(by kernel_rfl),(by kernel_rfl),(by kernel_rfl),(by kernel_rfl),trivial,(by kernel_rfl),(by kernel_rfl),(by decide),(by kernel_rfl),trivial,(by kernel_rfl),(by kernel_rfl),trivial,(by kernel_rfl),(by kernel_rfl),(by kernel_rfl),(by kernel_rfl),sv_con V1 (by decide),(by kernel_rfl),trivial,(by kernel_rfl),B3_con,B4_con,B5_con,trivial,(by kernel_rfl),trivial,(by kernel_rfl),(by kernel_rfl),(by kernel_rfl),(by kernel_rfl),trivial,(by kernel_rfl),(by kernel_rfl),(by kernel_rfl),(by kernel_rfl),(by kernel_rfl),trivial,(by kernel_rfl),(by kernel_rfl),(by decide),(by kernel_rfl),trivial,(by kernel_rfl),(by kernel_rfl),trivial,(by kernel_rfl),(by kernel_rfl),trivial,(by kernel_rfl),(by kernel_rfl),(by kernel_rfl),(by kernel_rfl),B6_con,B7_con,B8_con,enc9_con,dec9_con,trivial,(by kernel_rfl),trivial,(by kernel_rfl),(by kernel_rfl),(by kernel_rfl),(by kernel_rfl),(by kernel_rfl),trivial,(by kernel_rfl),(by kernel_rfl),(by decide),(by kernel_rfl),trivial,(by kernel_rfl),trivial,(by kernel_rfl),(by kernel_rfl),(by kernel_rfl),trivial,(by kernel_rfl),(by kernel_rfl),(by kernel_rfl),(by kernel_rfl),trivial,(by kernel_rfl),(by kernel_rfl),(by kernel_rfl),(by kernel_rfl),(by kernel_rfl),trivial,(by kernel_rfl),(by kernel_rfl),(by kernel_rfl),(by kernel_rfl),(by kernel_rfl),(by kernel_rfl),sam_con S9 S9_ok,trivial,(by kernel_rfl)⟩
end Go.Proofs.Sv
namespace Go.Proofs.Sv
open Go Go.Sim Go.Proofs Go.Proofs.Lk
def sbB (b:Mb) (st:Int):Bool:=mmB b && anB b st
structure Va (s:LS):Prop where
 st:1≤s.r.x 0∧s.r.x 0≤3
 tm:0≤s.r.x 1∧s.r.x 1≤4503599627370496
 cf:cfB (s.r.x 2) s.r.mn s.r.sn s.r.mf s.r.sf (s.r.x 0)=true
 sb:∀i,i<3→sbB (s.r.s i) (s.r.x 0)=true
 lk:vaS s=true
theorem va_iff (s:LS):vaB s=true↔Va s:=by
 constructor
 · intro h
   simp only [vaB,svB,Bool.and_eq_true,wi_iff] at h
   obtain ⟨h1,h2,h3,⟨h4,h5,h6⟩,h7⟩:=h
   refine ⟨h1,h2,h3,fun i hi=>?_,h7⟩
   match i,hi with
   | 0,_=>exact (Bool.and_eq_true _ _).symm▸h4
   | 1,_=>exact (Bool.and_eq_true _ _).symm▸h5
   | 2,_=>exact (Bool.and_eq_true _ _).symm▸h6
 · intro h
   have a0:=h.sb 0 (by decide)
   have a1:=h.sb 1 (by decide)
   have a2:=h.sb 2 (by decide)
   simp only [sbB,Bool.and_eq_true] at a0 a1 a2
   simp only [vaB,svB,Bool.and_eq_true,wi_iff]
   exact ⟨h.st,h.tm,h.cf,⟨a0,a1,a2⟩,h.lk⟩
theorem Va.sL {s:LS} (v:Va s) (i:Nat) {b:Mb} (h:sbB b (s.r.x 0)=true):Va (sL s i b):=
 ⟨v.st,v.tm,v.cf,sL_at (Q:=fun b=>sbB b (s.r.x 0)=true) v.sb h,v.lk⟩
structure Mm (b:Mb):Prop where
 a:0≤b.x 0∧b.x 0≤2
 g:0≤b.x 1∧b.x 1≤1099511627776
 bt:0≤b.x 4∧b.x 4≤1099511627776
 sq:0≤b.x 5∧b.x 5≤1099511627776
 e:0≤b.x 2∧b.x 2≤4503599627370556
 h:-1≤b.x 3∧b.x 3≤2
theorem mm_iff (b:Mb):mmB b=true↔Mm b:=by
 simp only [mmB,isHelpB,Bool.and_eq_true,wi_iff]
 exact ⟨fun ⟨h1,h2,h3,h4,h5,h6⟩=>⟨h1,h2,h3,h4,h5,h6⟩,fun h=>⟨h.a,h.g,h.bt,h.sq,h.e,h.h⟩⟩
theorem sb_mm {b:Mb} {st:Int} (h:sbB b st=true):Mm b:=by
 unfold sbB at h;rw [Bool.and_eq_true] at h;exact (mm_iff b).1 h.1
theorem sb_of {b b':Mb} {st:Int} (h:sbB b st=true) (m:Mm b') (e:anB b' st=anB b st):sbB b' st=true:=by
 unfold sbB at h⊢;rw [Bool.and_eq_true] at h⊢;exact ⟨(mm_iff b').2 m,e▸h.2⟩
theorem sb_dead {b:Mb} {st:Int} (h:sbB b st=true):sbB (deadM b) st=true:=by
 have m:=sb_mm h
 exact sb_of h ⟨by show (0:Int)≤2∧(2:Int)≤2;decide,m.g,m.bt,m.sq,m.e,by show (-1:Int)≤-1∧(-1:Int)≤2;decide⟩ rfl
theorem sb_pas {b:Mb} {st:Int} (T:Int) (h:sbB b st=true):sbB (pasM T b) st=true:=by
 rcases pasM_q T b with e | e<;>rw [e]
 · exact h
 · exact sb_dead h
theorem va_pas {s:LS} (v:Va s) (d:Int) (hd:0≤d):Va (pasL s d):=by
 unfold pasL
 cases h:decide (4503599627370496<s.r.x 1+d) with
 | true=>exact v
 | false=>
   have h:=of_decide_eq_false h
   have ht:=v.tm
   refine ⟨v.st,⟨by show 0≤s.r.x 1+d;omega,by show s.r.x 1+d≤_;omega⟩,v.cf,fun j hj=>?_,v.lk⟩
   show sbB (bif Nat.blt j 3 then pasM (s.r.x 1+d) (s.r.s j) else s.r.s j) (s.r.x 0)=true
   cases Nat.blt j 3 with
   | false=>exact v.sb j hj
   | true=>exact sb_pas _ (v.sb j hj)
theorem sb_bs {b:Mb} {st bt sq:Int} (h:sbB b st=true) (h1:0≤bt∧bt≤1099511627776) (h2:0≤sq∧sq≤1099511627776):sbB (bsM b bt sq) st=true:=by
 have m:=sb_mm h
 exact sb_of h ⟨m.a,m.g,h1,h2,m.e,m.h⟩ rfl
theorem va_s2 {s:LS} (v:Va s) (c:Cm) (i:Nat) (hi:i<3) (hd:0≤c.d) (h1:0≤c.bt∧c.bt≤1099511627776) (h2:0≤c.sq∧c.sq≤1099511627776):Va (s2L s c i):=by
 have p:=va_pas v c.d hd
 exact p.sL i (sb_bs (p.sb i hi) h1 h2)
theorem sb_mnt {b:Mb} {st T:Int} (h:sbB b st=true) (ht:0≤T∧T≤4503599627370496):sbB (mntB b T) st=true:=by
 have m:=sb_mm h
 unfold mntB
 cases h1:decide (b.x 0=1) with
 | true=>exact sb_dead h
 | false=>cases h2:decide (b.x 0=2) with
   | true=>exact h
   | false=>cases h3:decide (b.x 1=1099511627776) with
     | true=>exact h
     | false=>
       have h3:=of_decide_eq_false h3
       have hg:=m.g
       exact sb_of h ⟨by show (0:Int)≤1∧(1:Int)≤2;decide,by show 0≤b.x 1+1∧b.x 1+1≤_;omega,m.bt,m.sq,by show 0≤T+60∧T+60≤_;omega,by show (-1:Int)≤-1∧(-1:Int)≤2;decide⟩ rfl
theorem sb_rnw {b:Mb} {st T:Int} (h:sbB b st=true) (ht:0≤T∧T≤4503599627370496):sbB (xM b 2 (T+60)) st=true:=by
 have m:=sb_mm h
 exact sb_of h ⟨m.a,m.g,m.bt,m.sq,by show 0≤T+60∧T+60≤_;omega,m.h⟩ rfl
theorem sb_hlp {b:Mb} {st sv:Int} (h:sbB b st=true) (ht:0≤sv∧sv≤2):sbB (xM b 3 sv) st=true:=by
 have m:=sb_mm h
 exact sb_of h ⟨m.a,m.g,m.bt,m.sq,m.e,by show -1≤sv∧sv≤2;omega⟩ rfl
theorem sb_abs {b:Mb} {st:Int} (h:sbB b st=true):sbB (absM b) st=true:=by
 have m:=sb_mm h
 exact sb_of h ⟨by show (0:Int)≤0∧(0:Int)≤2;decide,m.g,m.bt,m.sq,m.e,by show (-1:Int)≤-1∧(-1:Int)≤2;decide⟩ rfl
theorem sb_ans {b v:Mb} {st:Int} (h:sbB b st=true) (hv:anB v st=true):sbB (ansM b v) st=true:=by
 have m:=sb_mm h
 unfold sbB;rw [Bool.and_eq_true]
 exact ⟨(mm_iff _).2 ⟨m.a,m.g,m.bt,m.sq,m.e,m.h⟩,hv⟩
theorem anyP_of (p:Nat→Bool):∀(m i:Nat),(∀j,i≤j→j<i+m→p j=false)→anyP p m i=false
 | 0,_,_=>rfl
 | m+1,i,h=>by
   unfold anyP
   rw [h i (Nat.le_refl _) (by omega),Bool.false_or]
   exact anyP_of p m (i+1) fun j a b=>h j (by omega) (by omega)
theorem amH_of {l m w:Int} (h1:0≤l∧l≤18) (h2:0≤m∧m≤2) (h3:0≤w∧w≤2):amH l m w=false:=by
 unfold amH isMdB;rw [wi_iff.2 h1,wi_iff.2 h2,wi_iff.2 h3];rfl
theorem amD_of {s f h:Int} (h1:0≤s∧s≤2) (h2:0≤f∧f≤1099511627777) (h3:-1≤h∧h≤2):amD s f h=false:=by
 unfold amD isHelpB;rw [wi_iff.2 h1,wi_iff.2 h2,wi_iff.2 h3];rfl
theorem ddR_mem {b:Mb} {i:Nat} {x:HQ} (h:x∈ddR b i):x.a=ofNat i∧x.m=b.x 1+1∧x.w=b.x 3:=by
 unfold ddR at h
 cases hd:decide (b.x 0=2) with
 | true=>rw [hd,cond_true] at h;simp at h;subst h;exact ⟨rfl,rfl,rfl⟩
 | false=>rw [hd,cond_false] at h;simp at h
theorem dd_an {s:LS} (v:Va s):∀j,j<(ddL s.r).length→amD (qA (ddL s.r) j) (qM (ddL s.r) j) (qW (ddL s.r) j)=false:=by
 intro j hj
 have hm:(ddL s.r).getD j hz∈ddL s.r:=by
  rw [List.getD_eq_getElem?_getD,List.getElem?_eq_getElem hj];exact List.getElem_mem hj
 generalize hx:(ddL s.r).getD j hz=x at hm
 have key:∃i,i<3∧x.a=ofNat i∧x.m=(s.r.s i).x 1+1∧x.w=(s.r.s i).x 3:=by
  unfold ddL at hm
  rcases List.mem_append.1 hm with h | h
  · exact ⟨0,by decide,ddR_mem h⟩
  · rcases List.mem_append.1 h with h | h
    · exact ⟨1,by decide,ddR_mem h⟩
    · exact ⟨2,by decide,ddR_mem h⟩
 obtain ⟨i,hi,e1,e2,e3⟩:=key
 have m:=sb_mm (v.sb i hi)
 have hg:=m.g
 have hh:=m.h
 unfold qA qM qW
 rw [hx]
 exact amD_of (by rw [e1];simp;omega) (by omega) (by omega)
theorem dd_len (r:Rs):(ddL r).length≤3:=by
 have one:∀b j,(ddR b j).length≤1:=fun b j=>by
  unfold ddR;cases decide (b.x 0=2)<;>simp
 have a:=one (r.s 0) 0
 have b:=one (r.s 1) 1
 have c:=one (r.s 2) 2
 unfold ddL
 simp only [List.length_append]
 omega
theorem an_vw {s:LS} (v:Va s) (i:Nat) (hi:i<3) (e:Int) (he:0≤e∧e≤99) (hl:List HQ) (hn:hl.length≤19) (hh:∀j,j<hl.length→amH (qA hl j) (qM hl j) (qW hl j)=false):anB (vwM s.r i e hl (ddL s.r)) (s.r.x 0)=true:=by
 have m:=sb_mm (v.sb i hi)
 have d:=dd_len s.r
 have h1:wi ((vwM s.r i e hl (ddL s.r)).x 6) 0 99=true:=wi_iff.2 he
 have h2:wi ((vwM s.r i e hl (ddL s.r)).x 7) 0 1099511627776=true:=wi_iff.2 m.g
 have h3:cfB ((vwM s.r i e hl (ddL s.r)).x 8) (vwM s.r i e hl (ddL s.r)).mn (vwM s.r i e hl (ddL s.r)).sn (vwM s.r i e hl (ddL s.r)).mf (vwM s.r i e hl (ddL s.r)).sf (s.r.x 0)=true:=v.cf
 have h4:decide (ofNat (vwM s.r i e hl (ddL s.r)).hn≤19)=true:=decide_eq_true (by show ofNat hl.length≤19;simp;omega)
 have h5:anyP (fun k=>amH ((vwM s.r i e hl (ddL s.r)).hA k) ((vwM s.r i e hl (ddL s.r)).hM k) ((vwM s.r i e hl (ddL s.r)).hW k)) (vwM s.r i e hl (ddL s.r)).hn 0=false:=anyP_of _ _ _ fun j _ hj=>hh j (by rw [Nat.zero_add] at hj;exact hj)
 have h6:decide (ofNat (vwM s.r i e hl (ddL s.r)).dn≤3)=true:=decide_eq_true (by show ofNat (ddL s.r).length≤3;simp;omega)
 have h7:anyP (fun k=>amD ((vwM s.r i e hl (ddL s.r)).dA k) ((vwM s.r i e hl (ddL s.r)).dM k) ((vwM s.r i e hl (ddL s.r)).dW k)) (vwM s.r i e hl (ddL s.r)).dn 0=false:=anyP_of _ _ _ fun j _ hj=>dd_an v j (by rw [Nat.zero_add] at hj;exact hj)
 unfold anB
 rw [h1,h2,h3,h4,h5,h6,h7]
 simp
theorem may_h {r:Rw} (h:mayB r=true):∀i,i<3→0≤r.h i∧r.h i≤2:=by
 unfold mayB mayBeB hmB at h
 simp only [Bool.and_eq_true] at h
 obtain ⟨⟨⟨h0,h1,_⟩,h2,_⟩,_⟩:=h
 have m:∀k:Int,isModeB k=true→0≤k∧k≤2:=fun k hk=>by
  simp [isModeB,isWishB] at hk;omega
 intro i hi
 match i,hi with
 | 0,_=>exact m _ h0
 | 1,_=>exact m _ h1
 | 2,_=>exact m _ h2
theorem may_hx {r:Rw} (h:mayB r=true) (k:Int) (hk:0≤k∧k<3):0≤hx r.h k∧hx r.h k≤2:=by
 have a:=may_h h
 have c:k=0∨k=1∨k=2:=by omega
 rcases c with rfl | rfl | rfl
 · exact a 0 (by decide)
 · exact a 1 (by decide)
 · exact a 2 (by decide)
theorem may_want {r:Rw} (h:mayB r=true) (k:Int):0≤wantR r k∧wantR r k≤2:=by
 unfold wantR wantB
 by_cases hn:r.q.length=0
 · rw [if_pos hn];decide
 · rw [if_neg hn]
   by_cases h1:qA r.q 0=k
   · rw [if_pos h1];decide
   · rw [if_neg h1]
     cases h2:goesB (qM r.q 0) (hx r.h k) with
     | true=>simp
     | false=>
       unfold mayB mayBeB at h
       simp only [Bool.and_eq_true] at h
       obtain ⟨_,hq,_⟩:=h
       obtain ⟨m,hm⟩:∃m,r.q.length=m+1:=⟨r.q.length-1,by omega⟩
       have hq:qmB r.h r.q.length (qA r.q) (qM r.q) (qW r.q) (m+1) 0=true:=hm▸hq
       unfold qmB mayWaitB isWishB at hq
       simp only [Bool.and_eq_true,Bool.or_eq_true,decide_eq_true_eq] at hq
       simp only [Bool.false_eq_true,if_false]
       obtain ⟨⟨_,hw,_⟩,_⟩:=hq
       omega
theorem hld_mem (s:LS) (h:vaS s=true) (k:Int) (hk:0≤k∧k<3):∀l,l≤19→∀x∈hldN s k l,(0≤x.a∧x.a≤18)∧(0≤x.m∧x.m≤2)∧(0≤x.w∧x.w≤2)
 | 0,_,x,hx=>by simp [hldN] at hx
 | l+1,hl,x,hx0=>by
   rw [hldN_s] at hx0
   rcases List.mem_append.1 hx0 with q | q
   · exact hld_mem s h k hk l (by omega) x q
   · have hm:=va_row h (l:=l) (by omega)
     split at q
     · simp at q
     · simp at q
       subst q
       exact ⟨⟨by simp,by simp;omega⟩,may_hx hm k hk,may_want hm k⟩
theorem an_vwS {s:LS} (v:Va s) (i:Nat) (hi:i<3) (e:Int) (he:0≤e∧e≤99):anB (vwS s i e) (s.r.x 0)=true:=by
 unfold vwS
 cases decide ((s.r.s i).x 0=1) with
 | false=>exact an_vw v i hi e he [] (by simp) (fun j hj=>by simp at hj)
 | true=>
   rw [cond_true]
   unfold hldS
   cases isServerB (ofNat i) && vaS s with
   | false=>exact an_vw v i hi e he [] (by simp) (fun j hj=>by simp at hj)
   | true=>
     rw [cond_true]
     refine an_vw v i hi e he _ (hldN_len s _ 19) fun j hj=>?_
     have hm:(hldN s (ofNat i) 19).getD j hz∈hldN s (ofNat i) 19:=by
      rw [List.getD_eq_getElem?_getD,List.getElem?_eq_getElem hj];exact List.getElem_mem hj
     obtain ⟨a,b,c⟩:=hld_mem s v.lk (ofNat i) ⟨by simp,by simp;omega⟩ 19 (Nat.le_refl _) _ hm
     exact amH_of a b c
theorem Va.row {s u:LS} (v:Va s) (hr:u.r=s.r) (h:vaS u=true):Va u:=⟨hr▸v.st,hr▸v.tm,by rw [hr];exact v.cf,by rw [hr];exact v.sb,h⟩
theorem va_lk {s:LS} (v:Va s) (c:Cm):Va (lkS s c):=by
 unfold lkS
 cases h:decide (askE s c.lk c.sv c.md=0) with
 | true=>exact v.row (askS_r s _ _ _ (of_decide_eq_true h)) (askS_va v.lk _ _ _)
 | false=>exact v
theorem va_ul {s:LS} (v:Va s) (c:Cm):Va (ulS s c):=by
 unfold ulS
 cases h:decide (freeE s c.lk c.sv=0) with
 | true=>exact v.row (freeS_r s _ _ (of_decide_eq_true h)) (freeS_va v.lk _ _)
 | false=>exact v
theorem va_hp {s:LS} (v:Va s) (j:Nat) (hj:j<3) (sv:Int) (hs:0≤sv∧sv≤2):Va (hpS s j sv):=by
 have a:Va (sL s j (xM (s.r.s j) 3 sv)):=v.sL j (sb_hlp (v.sb j hj) hs)
 unfold hpS
 cases decide ((s.r.s j).x 3=sv) with
 | true=>exact a
 | false=>cases hasHB s.r j with | true=>exact v | false=>exact a
theorem va_dn {s:LS} (v:Va s) (j:Nat) (hj:j<3) (sv:Int):Va (dnS s j sv):=by
 have a:Va (dropS s (ofNat j)):=v.row (dropS_r s _) (dropS_va v.lk _)
 unfold dnS
 cases decide ((s.r.s j).x 3=sv) with
 | true=>exact a.sL j (sb_abs (a.sb j hj))
 | false=>exact v
theorem va_de {s:LS} (v:Va s) (c:Cm) (i:Nat) (hi:i<3) (hc:c.sv=ofNat i) (ho:0≤c.ot∧c.ot≤2) (hk:1≤c.k∧c.k≤7) (h7:c.k=7→Va (lnS s c)):Va (deS s c i):=by
 unfold deS
 have hj:c.ot.toNat<3:=by omega
 have hs:0≤c.sv∧c.sv≤2:=by rw [hc];simp;omega
 cases h1:decide (c.k=1) with
 | true=>exact v.sL i (sb_mnt (v.sb i hi) v.tm)
 | false=>
   cases h56:decide (c.k=5) || decide (c.k=6) with
   | true=>
     simp only [cond_false,cond_true]
     cases !decide (c.ot=c.sv) && !alB (s.r.s i) c.gn with
     | true=>exact v
     | false=>
       cases decide ((s.r.s c.ot.toNat).x 0=2) with
       | false=>exact v
       | true=>cases decide (c.k=5) with
         | true=>exact va_hp v _ hj _ hs
         | false=>exact va_dn v _ hj _
   | false=>
     simp only [cond_false]
     cases alB (s.r.s i) c.gn with
     | false=>exact v
     | true=>
       simp only [cond_true]
       cases h2:decide (c.k=2) with
       | true=>exact v.sL i (sb_rnw (v.sb i hi) v.tm)
       | false=>cases h3:decide (c.k=3) with
         | true=>exact va_lk v c
         | false=>cases h4:decide (c.k=4) with
           | true=>exact va_ul v c
           | false=>
             simp only [cond_false]
             exact h7 (by simp at h1 h56 h2 h3 h4;omega)
theorem bif_r {b:Bool} {x y:Int} (h1:0≤x∧x≤99) (h2:0≤y∧y≤99):0≤(bif b then x else y)∧(bif b then x else y)≤99:=by cases b<;>assumption
theorem lnE_r (s:LS) (c:Cm):0≤lnE s c∧lnE s c≤99:=by
 have n:0≤nxE s.r c.mn c.mf∧nxE s.r c.mn c.mf≤99:=by
  unfold nxE;exact bif_r (bif_r (by decide) (by decide)) (by decide)
 unfold lnE
 exact bif_r (bif_r (by decide) (by decide)) n
theorem deE_r (s:LS) (c:Cm) (i:Nat):0≤deE s c i∧deE s c i≤99:=by
 unfold deE mntE hpE dnE askE freeE
 refine bif_r (bif_r (by decide) (bif_r (by decide) (bif_r (by decide) (by decide)))) (bif_r (bif_r (by decide) (bif_r (bif_r (bif_r (by decide) (bif_r (by decide) (by decide))) (bif_r (by decide) (by decide))) (by decide))) (bif_r (bif_r (by decide) (bif_r (bif_r (by decide) (by decide)) (bif_r (bif_r (by decide) (by decide)) (lnE_r s c)))) (by decide)))
theorem va_apS {s:LS} (v:Va s) (c:Cm) (i:Nat) (hi:i<3) (hc:c.sv=ofNat i) (ho:0≤c.ot∧c.ot≤2) (hk:1≤c.k∧c.k≤7) (hd:0≤c.d) (h1:0≤c.bt∧c.bt≤1099511627776) (h2:0≤c.sq∧c.sq≤1099511627776) (h7:c.k=7→Va (lnS (s2L s c i) c)):Va (apS s c i):=by
 unfold apS
 cases staB (s.r.s i) c.bt c.sq with
 | true=>exact v
 | false=>
   cases agB (s.r.s i) c with
   | true=>exact v
   | false=>
     cases decide (pasE s.ts c.d=0) with
     | false=>exact va_pas v c.d hd
     | true=>
       have w:=va_de (va_s2 v c i hi hd h1 h2) c i hi hc ho hk h7
       exact w.sL i (sb_ans (w.sb i hi) (an_vwS w i hi _ (deE_r _ _ _)))
theorem vc_bt {c:Cm} (h:vcB c=true):c.k≤7→1≤c.bt∧c.bt≤1099511627776:=by
 unfold vcB at h
 rw [Bool.and_eq_true] at h
 obtain ⟨hk,hf⟩:=h
 have hk:=wi_iff.1 hk
 unfold fitB at hf
 simp only [Bool.and_eq_true,wi_iff] at hf
 obtain ⟨_,h2,_⟩:=hf
 intro h7
 have c1:c.k=1∨c.k=2∨c.k=3∨c.k=4∨c.k=5∨c.k=6∨c.k=7:=by omega
 rcases c1 with q | q | q | q | q | q | q<;>(rw [q] at h2;simp only [shA,shT] at h2;simp at h2;omega)
theorem va_ApS {s:LS} (v:Va s) (c:Cm) (h7:vcB c=true→c.k=7→Va (lnS (s2L s c c.sv.toNat) c)):Va (ApS s c):=by
 unfold ApS
 cases hs:vaB s && vcB c with
 | false=>exact v
 | true=>
   rw [Bool.and_eq_true] at hs
   obtain ⟨hk,hd,hr⟩:=vc_gd hs.2
   rw [cond_true]
   cases h8:decide (c.k=8) with
   | true=>exact va_pas v c.d hd.1
   | false=>
     have q:=of_decide_eq_false h8
     obtain ⟨r1,r2,r3⟩:=hr (by omega)
     have rb:=vc_bt hs.2 (by omega)
     exact va_apS v c c.sv.toNat (by omega) (by simp;omega) r3 ⟨hk.1,by omega⟩ hd.1 (by omega) (by omega) (h7 hs.2)
end Go.Proofs.Sv
