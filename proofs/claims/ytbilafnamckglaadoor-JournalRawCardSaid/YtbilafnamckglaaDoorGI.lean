/- Runs over unknown values, told by the kernel: part GI. -/
import Derived.Test.YtbilafnamckglaaDoorGH
noncomputable section
open Int (ofNat)
set_option linter.unusedSimpArgs false
set_option linter.unusedVariables false
set_option maxRecDepth 20000
namespace Go.Proofs.Jn
open Go Go.Sim Go.Proofs Go.Proofs.Cd Go.Proofs.St Go.Proofs.Cl Go.Proofs.YtbilafnamckglaaDoor
def rjI (g:Nat) (A:Int) (r u:Nat) (d:Bool):AObj:=.cells 53 6 [] (setAll .e 0 [.p 0 0,.i .i64 (ofNat g),.i .i64 A,.i .i64 (ofNat r),.i .i64 (ofNat u),.b d])
def m61 (q M:Nat):Int:=if (61:Int)<ofNat q+ofNat M then (61:Int) else ofNat q+ofNat M
theorem rr0R_lq (s:SS) (M g a r u n i q:Nat) (d:Bool) (m:Nat→Nat) (b:Nat→Nat→Nat) (h:decide (ofNat i<ofNat n)=true) (h2:decide (1128<ofNat (m i))=false):LD PG (loopAt PG 16 0) 127 4 [(0,.p 2 0),(1,.sv 1 n (recF m b)),(5,.i .i64 (ofNat q)),(6,.i .i64 (ofNat i))] [some (rsA 3 s),some (rsR s),some (rjO g a r u d),some (rsP s)] (.t (.f (.cal [] (.i .i64 (ofNat M)) [] .z))) .nrm [0,1,2,3] [(0,.p 2 0),(1,.sv 1 n (recF m b)),(5,.i .i64 (m61 q M)),(6,.i .i64 (ofNat i+1))] [some (rsA 3 s),some (rsR s),some (rjO g a r u d),some (rsP s)] 4 (fun Lf=>decide (ofNat i<ofNat n)=true∧(0≤ofNat i∧ofNat i<↑n)∧True∧decide (1128<ofNat (m i))=false∧(0≤ofNat i∧ofNat i<↑n)∧True∧Con PG 58 [.i .i64 (ofNat (m i))] [] (.i .i64 (ofNat M)) []∧rg (ofNat q+ofNat M)∧rg (ofNat i+1)∧Lf):=by unfold LD LQ;kernel_rfl
theorem rr0B_lq (s:SS) (g a r u n i q:Nat) (d:Bool) (m:Nat→Nat) (b:Nat→Nat→Nat) (h:decide (ofNat i<ofNat n)=true) (h2:decide (1128<ofNat (m i))=true):LD PG (loopAt PG 16 0) 127 4 [(0,.p 2 0),(1,.sv 1 n (recF m b)),(5,.i .i64 (ofNat q)),(6,.i .i64 (ofNat i))] [some (rsA 3 s),some (rsR s),some (rjO g a r u d),some (rsP s)] (.t (.t .z)) .ret [0,1,2,3] [(4,.i .i64 2)] [some (rsA 3 s),some (rsR s),some (rjO g a r u d),some (rsP s)] 4 (fun Lf=>decide (ofNat i<ofNat n)=true∧(0≤ofNat i∧ofNat i<↑n)∧True∧decide (1128<ofNat (m i))=true∧Lf):=by unfold LD LQ;kernel_rfl
theorem rr0E_lq (s:SS) (g a r u n i q:Nat) (d:Bool) (m:Nat→Nat) (b:Nat→Nat→Nat) (h:decide (ofNat i<ofNat n)=false):LD PG (loopAt PG 16 0) 127 4 [(0,.p 2 0),(1,.sv 1 n (recF m b)),(5,.i .i64 (ofNat q)),(6,.i .i64 (ofNat i))] [some (rsA 3 s),some (rsR s),some (rjO g a r u d),some (rsP s)] (.f .z) (.exit 0) [0,1,2,3] [(0,.p 2 0),(1,.sv 1 n (recF m b)),(5,.i .i64 (ofNat q))] [some (rsA 3 s),some (rsR s),some (rjO g a r u d),some (rsP s)] 4 (fun Lf=>decide (ofNat i<ofNat n)=false∧Lf):=by unfold LD LQ;kernel_rfl
theorem rr1R_lq (s w:SS) (NP:Nat) (F:Nat→Nat→CV) (g a r u n i q G at0:Nat) (A:Int) (m:Nat→Nat) (b:Nat→Nat→Nat) (h:decide (ofNat i<ofNat n)=true):LD PG (loopAt PG 16 1) 127 3 [(0,.p 2 0),(1,.sv 1 n (recF m b)),(5,.i .i64 (ofNat q)),(7,.i .i64 (ofNat G)),(8,.i .i64 A),(9,.i .i64 (ofNat at0)),(10,.i .i64 (ofNat i))] [some (rsA 3 s),some (rsR s),some (rjO g a r u false),some (rsP s)] (.t (.cal [] (.sv 5 NP F) [] (.cal [0,1,2,3] (.i .i64 0) [.set (rsA 4 w),.set (rsR w),.keep,.gone,.set (rsP w)] (.c (.cal [] (.i .i64 (ofNat NP)) [] .z))))) .nrm [0,1,2,4] [(0,.p 2 0),(1,.sv 1 n (recF m b)),(5,.i .i64 (ofNat q)),(7,.i .i64 (ofNat G)),(8,.i .i64 A),(9,.i .i64 (ofNat at0+ofNat NP)),(10,.i .i64 (ofNat i+1))] [some (rsA 3 w),some (rsR w),some (rjO g a r u false),some (rsP w)] 5 (fun Lf=>decide (ofNat i<ofNat n)=true∧(0≤ofNat i∧ofNat i<↑n)∧True∧Con PG 61 [.i .i64 (ofNat G),.i .i64 (ofNat i),.sv 1 (m i) (byF (b (Int.toNat (ofNat i))))] [] (.sv 5 NP F) []∧Con PG 60 [.p 2 0,.i .i64 (ofNat at0),.sv 5 NP F] [some (rsA 3 s),some (rsR s),some (rjO g a r u false),some (rsP s)] (.i .i64 0) [.set (rsA 4 w),.set (rsR w),.keep,.gone,.set (rsP w)]∧(0≤ofNat i∧ofNat i<↑n)∧True∧Con PG 58 [.i .i64 (ofNat (m i))] [] (.i .i64 (ofNat NP)) []∧rg (ofNat at0+ofNat NP)∧rg (ofNat i+1)∧Lf):=by unfold LD LQ;kernel_rfl
theorem rr1F_lq (s w:SS) (NP:Nat) (F:Nat→Nat→CV) (g a r u n i q G at0:Nat) (A:Int) (m:Nat→Nat) (b:Nat→Nat→Nat) (h:decide (ofNat i<ofNat n)=true):LD PG (loopAt PG 16 1) 127 3 [(0,.p 2 0),(1,.sv 1 n (recF m b)),(5,.i .i64 (ofNat q)),(7,.i .i64 (ofNat G)),(8,.i .i64 A),(9,.i .i64 (ofNat at0)),(10,.i .i64 (ofNat i))] [some (rsA 3 s),some (rsR s),some (rjO g a r u false),some (rsP s)] (.t (.cal [] (.sv 5 NP F) [] (.cal [0,1,2,3] (.i .i64 13) [.set (rsA 4 w),.set (rsR w),.set (rjO g a r u true),.gone,.set (rsP w)] (.c .z)))) .ret [0,1,2,4] [(4,.i .i64 13)] [some (rsA 3 w),some (rsR w),some (rjO g a r u true),some (rsP w)] 5 (fun Lf=>decide (ofNat i<ofNat n)=true∧(0≤ofNat i∧ofNat i<↑n)∧True∧Con PG 61 [.i .i64 (ofNat G),.i .i64 (ofNat i),.sv 1 (m i) (byF (b (Int.toNat (ofNat i))))] [] (.sv 5 NP F) []∧Con PG 60 [.p 2 0,.i .i64 (ofNat at0),.sv 5 NP F] [some (rsA 3 s),some (rsR s),some (rjO g a r u false),some (rsP s)] (.i .i64 13) [.set (rsA 4 w),.set (rsR w),.set (rjO g a r u true),.gone,.set (rsP w)]∧Lf):=by unfold LD LQ;kernel_rfl
theorem rr1E_lq (s:SS) (g a r u n i q G at0:Nat) (A:Int) (m:Nat→Nat) (b:Nat→Nat→Nat) (h:decide (ofNat i<ofNat n)=false):LD PG (loopAt PG 16 1) 127 3 [(0,.p 2 0),(1,.sv 1 n (recF m b)),(5,.i .i64 (ofNat q)),(7,.i .i64 (ofNat G)),(8,.i .i64 A),(9,.i .i64 (ofNat at0)),(10,.i .i64 (ofNat i))] [some (rsA 3 s),some (rsR s),some (rjO g a r u false),some (rsP s)] (.f .z) (.exit 2) [0,1,2,3] [(0,.p 2 0),(1,.sv 1 n (recF m b)),(5,.i .i64 (ofNat q)),(7,.i .i64 (ofNat G)),(8,.i .i64 A)] [some (rsA 3 s),some (rsR s),some (rjO g a r u false),some (rsP s)] 4 (fun Lf=>decide (ofNat i<ofNat n)=false∧Lf):=by unfold LD LQ;kernel_rfl
theorem rrwB_vq (s:SS) (g a r u n:Nat) (m:Nat→Nat) (b:Nat→Nat→Nat):VD PG 16 [.p 2 0,.sv 1 n (recF m b)] [some (rsA 3 s),some (rsR s),some (rjO g a r u false),some (rsP s)] (.c (.lop [0,1,2,3] [0,1,5,6] 4 .ret [(4,.i .i64 2)] [some (rsA 3 s),some (rsR s),some (rjO g a r u false),some (rsP s)] .z)) (.i .i64 2) [.keep,.keep,.keep,.keep] [] 4 (fun Lf=>True∧LDoes PG (loopAt PG 16 0) 127 4 (mkT [(0,.p 2 0),(1,.sv 1 n (recF m b)),(5,.i .i64 0),(6,.i .i64 0)]) [some (rsA 3 s),some (rsR s),some (rjO g a r u false),some (rsP s)] .ret (mkT [(4,.i .i64 2)]) [some (rsA 3 s),some (rsR s),some (rjO g a r u false),some (rsP s)]∧Lf):=by unfold VD VQ;kernel_rfl
theorem rrwS_vq (s:SS) (q g a r u n:Nat) (m:Nat→Nat) (b:Nat→Nat→Nat) (h1:decide (60<ofNat q)=true):VD PG 16 [.p 2 0,.sv 1 n (recF m b)] [some (rsA 3 s),some (rsR s),some (rjO g a r u false),some (rsP s)] (.c (.lop [0,1,2,3] [0,1,5,6] 4 (.exit 0) [(0,.p 2 0),(1,.sv 1 n (recF m b)),(5,.i .i64 (ofNat q))] [some (rsA 3 s),some (rsR s),some (rjO g a r u false),some (rsP s)] (.t .z))) (.i .i64 12) [.keep,.keep,.keep,.keep] [] 4 (fun Lf=>True∧LDoes PG (loopAt PG 16 0) 127 4 (mkT [(0,.p 2 0),(1,.sv 1 n (recF m b)),(5,.i .i64 0),(6,.i .i64 0)]) [some (rsA 3 s),some (rsR s),some (rjO g a r u false),some (rsP s)] (.exit 0) (mkT [(0,.p 2 0),(1,.sv 1 n (recF m b)),(5,.i .i64 (ofNat q))]) [some (rsA 3 s),some (rsR s),some (rjO g a r u false),some (rsP s)]∧decide (60<ofNat q)=true∧Lf):=by unfold VD VQ;kernel_rfl
theorem rrwW_vq (s:SS) (q G g a r u n:Nat) (m:Nat→Nat) (b:Nat→Nat→Nat) (h1:decide (60<ofNat q)=false) (ho:s.off=false) (hg:decide (1073741824<ofNat G)=true):VD PG 16 [.p 2 0,.sv 1 n (recF m b)] [some (rsA 3 s),some (rsR s),some (rjO g a r u false),some (rsP s)] (.c (.lop [0,1,2,3] [0,1,5,6] 4 (.exit 0) [(0,.p 2 0),(1,.sv 1 n (recF m b)),(5,.i .i64 (ofNat q))] [some (rsA 3 s),some (rsR s),some (rjO g a r u false),some (rsP s)] (.f (.f (.cal [0,1,2,3] (.i .i64 (ofNat G)) [.keep,.keep,.keep,.keep] (.t .z)))))) (.i .i64 15) [.keep,.keep,.keep,.keep] [] 4 (fun Lf=>True∧LDoes PG (loopAt PG 16 0) 127 4 (mkT [(0,.p 2 0),(1,.sv 1 n (recF m b)),(5,.i .i64 0),(6,.i .i64 0)]) [some (rsA 3 s),some (rsR s),some (rjO g a r u false),some (rsP s)] (.exit 0) (mkT [(0,.p 2 0),(1,.sv 1 n (recF m b)),(5,.i .i64 (ofNat q))]) [some (rsA 3 s),some (rsR s),some (rjO g a r u false),some (rsP s)]∧decide (60<ofNat q)=false∧True∧True∧SS.off s=false∧Con PG 59 [.p 2 0] [some (rsA 3 s),some (rsR s),some (rjO g a r u false),some (rsP s)] (.i .i64 (ofNat G)) [.keep,.keep,.keep,.keep]∧decide (1073741824<ofNat G)=true∧Lf):=by unfold VD VQ;kernel_rfl
theorem rrwL_vq (s w:SS) (q G g a r u n:Nat) (m:Nat→Nat) (b:Nat→Nat→Nat) (h1:decide (60<ofNat q)=false) (ho:s.off=false) (hg:decide (1073741824<ofNat G)=false):VD PG 16 [.p 2 0,.sv 1 n (recF m b)] [some (rsA 3 s),some (rsR s),some (rjO g a r u false),some (rsP s)] (.c (.lop [0,1,2,3] [0,1,5,6] 4 (.exit 0) [(0,.p 2 0),(1,.sv 1 n (recF m b)),(5,.i .i64 (ofNat q))] [some (rsA 3 s),some (rsR s),some (rjO g a r u false),some (rsP s)] (.f (.f (.cal [0,1,2,3] (.i .i64 (ofNat G)) [.keep,.keep,.keep,.keep] (.f (.lop [0,1,2,3] [0,1,5,7,8,9,10] 3 .ret [(4,.i .i64 13)] [some (rsA 3 w),some (rsR w),some (rjO g a r u true),some (rsP w)] .z))))))) (.i .i64 13) [.set (rsA 4 w),.set (rsR w),.set (rjO g a r u true),.gone,.set (rsP w)] [4] 5 (fun Lf=>True∧LDoes PG (loopAt PG 16 0) 127 4 (mkT [(0,.p 2 0),(1,.sv 1 n (recF m b)),(5,.i .i64 0),(6,.i .i64 0)]) [some (rsA 3 s),some (rsR s),some (rjO g a r u false),some (rsP s)] (.exit 0) (mkT [(0,.p 2 0),(1,.sv 1 n (recF m b)),(5,.i .i64 (ofNat q))]) [some (rsA 3 s),some (rsR s),some (rjO g a r u false),some (rsP s)]∧decide (60<ofNat q)=false∧True∧True∧SS.off s=false∧Con PG 59 [.p 2 0] [some (rsA 3 s),some (rsR s),some (rjO g a r u false),some (rsP s)] (.i .i64 (ofNat G)) [.keep,.keep,.keep,.keep]∧decide (1073741824<ofNat G)=false∧True∧rg (1-ofNat a)∧rg ((1-ofNat a)*60)∧rg (2+(1-ofNat a)*60)∧LDoes PG (loopAt PG 16 1) 127 3 (mkT [(0,.p 2 0),(1,.sv 1 n (recF m b)),(5,.i .i64 (ofNat q)),(7,.i .i64 (ofNat G)),(8,.i .i64 (1-ofNat a)),(9,.i .i64 (2+(1-ofNat a)*60)),(10,.i .i64 0)]) [some (rsA 3 s),some (rsR s),some (rjO g a r u false),some (rsP s)] .ret (mkT [(4,.i .i64 13)]) [some (rsA 3 w),some (rsR w),some (rjO g a r u true),some (rsP w)]∧Lf):=by unfold VD VQ;kernel_rfl
theorem rrwG_vq (s w v x y:SS) (q G g a r u n:Nat) (m:Nat→Nat) (b:Nat→Nat→Nat) (h1:decide (60<ofNat q)=false) (ho:s.off=false) (hg:decide (1073741824<ofNat G)=false):VD PG 16 [.p 2 0,.sv 1 n (recF m b)] [some (rsA 3 s),some (rsR s),some (rjO g a r u false),some (rsP s)] (.c (.lop [0,1,2,3] [0,1,5,6] 4 (.exit 0) [(0,.p 2 0),(1,.sv 1 n (recF m b)),(5,.i .i64 (ofNat q))] [some (rsA 3 s),some (rsR s),some (rjO g a r u false),some (rsP s)] (.f (.f (.cal [0,1,2,3] (.i .i64 (ofNat G)) [.keep,.keep,.keep,.keep] (.f (.lop [0,1,2,3] [0,1,5,7,8,9,10] 3 (.exit 2) [(0,.p 2 0),(1,.sv 1 n (recF m b)),(5,.i .i64 (ofNat q)),(7,.i .i64 (ofNat G)),(8,.i .i64 (1-ofNat a))] [some (rsA 3 w),some (rsR w),some (rjO g a r u false),some (rsP w)] (.cal [0,1,2,4] (.i .i64 0) [.set (rsA 3 v),.set (rsR v),.keep,.set (rsP v)] (.c (.cal [0,1,2,4,6,5] (.i .i64 0) [.set (rsA 6 x),.set (rsR x),.keep,.gone,.gone,.gone,.set (rsP x)] (.c (.cal [0,1,2,7] (.i .i64 0) [.set (rsA 3 y),.set (rsR y),.keep,.set (rsP y)] (.c .z))))))))))))) (.i .i64 0) [.set (rsA 4 y),.set (rsR y),.set (rjI G (1-ofNat a) n q false),.gone,.set (rsP y)] [7] 8 (fun Lf=>True∧LDoes PG (loopAt PG 16 0) 127 4 (mkT [(0,.p 2 0),(1,.sv 1 n (recF m b)),(5,.i .i64 0),(6,.i .i64 0)]) [some (rsA 3 s),some (rsR s),some (rjO g a r u false),some (rsP s)] (.exit 0) (mkT [(0,.p 2 0),(1,.sv 1 n (recF m b)),(5,.i .i64 (ofNat q))]) [some (rsA 3 s),some (rsR s),some (rjO g a r u false),some (rsP s)]∧decide (60<ofNat q)=false∧True∧True∧SS.off s=false∧Con PG 59 [.p 2 0] [some (rsA 3 s),some (rsR s),some (rjO g a r u false),some (rsP s)] (.i .i64 (ofNat G)) [.keep,.keep,.keep,.keep]∧decide (1073741824<ofNat G)=false∧True∧rg (1-ofNat a)∧rg ((1-ofNat a)*60)∧rg (2+(1-ofNat a)*60)∧LDoes PG (loopAt PG 16 1) 127 3 (mkT [(0,.p 2 0),(1,.sv 1 n (recF m b)),(5,.i .i64 (ofNat q)),(7,.i .i64 (ofNat G)),(8,.i .i64 (1-ofNat a)),(9,.i .i64 (2+(1-ofNat a)*60)),(10,.i .i64 0)]) [some (rsA 3 s),some (rsR s),some (rjO g a r u false),some (rsP s)] (.exit 2) (mkT [(0,.p 2 0),(1,.sv 1 n (recF m b)),(5,.i .i64 (ofNat q)),(7,.i .i64 (ofNat G)),(8,.i .i64 (1-ofNat a))]) [some (rsA 3 w),some (rsR w),some (rjO g a r u false),some (rsP w)]∧Con PG 62 [.p 2 0] [some (rsA 3 w),some (rsR w),some (rjO g a r u false),some (rsP w)] (.i .i64 0) [.set (rsA 3 v),.set (rsR v),.keep,.set (rsP v)]∧(2:Int)≠(0:Int)∧True∧Con PG 60 [.p 2 0,.i .i64 (Int.tmod (ofNat G) 2),.l 4 0 1 1 5 true] [some (rsA 3 v),some (rsR v),some (rjO g a r u false),some (rsP v),some (cellsO 93 [.i .i64 (ofNat G),.i .i64 0,.i .i64 0,.i .i64 1,.l 5 0 1 1 1 true]),some (cellsO 5 [.i .u8 (wrapA .u8 (1-ofNat a))])] (.i .i64 0) [.set (rsA 6 x),.set (rsR x),.keep,.gone,.gone,.gone,.set (rsP x)]∧Con PG 62 [.p 2 0] [some (rsA 3 x),some (rsR x),some (rjO g a r u false),some (rsP x)] (.i .i64 0) [.set (rsA 3 y),.set (rsR y),.keep,.set (rsP y)]∧True∧True∧True∧True∧Lf):=by unfold VD VQ;kernel_rfl
theorem rrwH_vq (s w v x:SS) (q G g a r u n:Nat) (m:Nat→Nat) (b:Nat→Nat→Nat) (h1:decide (60<ofNat q)=false) (ho:s.off=false) (hg:decide (1073741824<ofNat G)=false):VD PG 16 [.p 2 0,.sv 1 n (recF m b)] [some (rsA 3 s),some (rsR s),some (rjO g a r u false),some (rsP s)] (.c (.lop [0,1,2,3] [0,1,5,6] 4 (.exit 0) [(0,.p 2 0),(1,.sv 1 n (recF m b)),(5,.i .i64 (ofNat q))] [some (rsA 3 s),some (rsR s),some (rjO g a r u false),some (rsP s)] (.f (.f (.cal [0,1,2,3] (.i .i64 (ofNat G)) [.keep,.keep,.keep,.keep] (.f (.lop [0,1,2,3] [0,1,5,7,8,9,10] 3 (.exit 2) [(0,.p 2 0),(1,.sv 1 n (recF m b)),(5,.i .i64 (ofNat q)),(7,.i .i64 (ofNat G)),(8,.i .i64 (1-ofNat a))] [some (rsA 3 w),some (rsR w),some (rjO g a r u false),some (rsP w)] (.cal [0,1,2,4] (.i .i64 0) [.set (rsA 3 v),.set (rsR v),.keep,.set (rsP v)] (.c (.cal [0,1,2,4,6,5] (.i .i64 13) [.set (rsA 6 x),.set (rsR x),.set (rjO g a r u true),.gone,.gone,.gone,.set (rsP x)] (oc 2 .z))))))))))) (.i .i64 13) [.set (rsA 4 x),.set (rsR x),.set (rjO g a r u true),.gone,.set (rsP x)] [7] 8 (fun Lf=>True∧LDoes PG (loopAt PG 16 0) 127 4 (mkT [(0,.p 2 0),(1,.sv 1 n (recF m b)),(5,.i .i64 0),(6,.i .i64 0)]) [some (rsA 3 s),some (rsR s),some (rjO g a r u false),some (rsP s)] (.exit 0) (mkT [(0,.p 2 0),(1,.sv 1 n (recF m b)),(5,.i .i64 (ofNat q))]) [some (rsA 3 s),some (rsR s),some (rjO g a r u false),some (rsP s)]∧decide (60<ofNat q)=false∧True∧True∧SS.off s=false∧Con PG 59 [.p 2 0] [some (rsA 3 s),some (rsR s),some (rjO g a r u false),some (rsP s)] (.i .i64 (ofNat G)) [.keep,.keep,.keep,.keep]∧decide (1073741824<ofNat G)=false∧True∧rg (1-ofNat a)∧rg ((1-ofNat a)*60)∧rg (2+(1-ofNat a)*60)∧LDoes PG (loopAt PG 16 1) 127 3 (mkT [(0,.p 2 0),(1,.sv 1 n (recF m b)),(5,.i .i64 (ofNat q)),(7,.i .i64 (ofNat G)),(8,.i .i64 (1-ofNat a)),(9,.i .i64 (2+(1-ofNat a)*60)),(10,.i .i64 0)]) [some (rsA 3 s),some (rsR s),some (rjO g a r u false),some (rsP s)] (.exit 2) (mkT [(0,.p 2 0),(1,.sv 1 n (recF m b)),(5,.i .i64 (ofNat q)),(7,.i .i64 (ofNat G)),(8,.i .i64 (1-ofNat a))]) [some (rsA 3 w),some (rsR w),some (rjO g a r u false),some (rsP w)]∧Con PG 62 [.p 2 0] [some (rsA 3 w),some (rsR w),some (rjO g a r u false),some (rsP w)] (.i .i64 0) [.set (rsA 3 v),.set (rsR v),.keep,.set (rsP v)]∧(2:Int)≠(0:Int)∧True∧Con PG 60 [.p 2 0,.i .i64 (Int.tmod (ofNat G) 2),.l 4 0 1 1 5 true] [some (rsA 3 v),some (rsR v),some (rjO g a r u false),some (rsP v),some (cellsO 93 [.i .i64 (ofNat G),.i .i64 0,.i .i64 0,.i .i64 1,.l 5 0 1 1 1 true]),some (cellsO 5 [.i .u8 (wrapA .u8 (1-ofNat a))])] (.i .i64 13) [.set (rsA 6 x),.set (rsR x),.set (rjO g a r u true),.gone,.gone,.gone,.set (rsP x)]∧Lf):=by unfold VD VQ;kernel_rfl
abbrev r0T (n q i:Nat) (m:Nat→Nat) (b:Nat→Nat→Nat):List (Nat×AV):=[(0,.p 2 0),(1,.sv 1 n (recF m b)),(5,.i .i64 (ofNat q)),(6,.i .i64 (ofNat i))]
theorem min61 (q M:Nat):m61 q M=ofNat (min 61 (q+M)):=by
 unfold m61
 by_cases h:61<q+M
 · rw [if_pos (by simp;omega),Nat.min_eq_left (by omega)];rfl
 · rw [if_neg (by simp;omega),Nat.min_eq_right (by omega)];rfl
section
variable (s:SS) (g a r u n:Nat) (d:Bool) (m:Nat→Nat) (b:Nat→Nat→Nat)
theorem rr0_rd {X:XO} {l':List (Nat×AV)} {objs':List (Option AObj)} {inv:Nat→Prop} (hn:n≤17592186044416) (i:Nat) (hi:i<n) (hm:m i≤1128) (h':inv (i+1)) :
 RdQ PG (loopAt PG 16 0) 127 4 (fun i=>(r0T n (min 61 (sumP m i 0)) i m b,wL s g a r u d)) (fun i=>n-i) inv X l' objs' i:=by
 have h0:decide (ofNat i<ofNat n)=true:=decide_eq_true (by simp;omega)
 have h1:decide ((1128:Int)<ofNat (m i))=false:=decide_eq_false (by simp;omega)
 have r0:(0:Int)≤ofNat i∧ofNat i<(↑n:Int):=⟨by simp,by simp;omega⟩
 have n24:=np_le hm
 have e:min 61 (min 61 (sumP m i 0)+npF (m i))=min 61 (sumP m (i+1) 0):=by rw [sumP_snoc,Nat.zero_add];omega
 refine rd_nrm (rr0R_lq s (npF (m i)) g a r u n i (min 61 (sumP m i 0)) d m b h0 h1) ⟨h0,r0,trivial,h1,r0,trivial,rparts_con (m i) (by omega),⟨by simp;omega,by simp;omega⟩,⟨by simp;omega,by simp;omega⟩,rfl⟩ (i+1) h' (by show n-(i+1)<n-i;omega) rfl ?_ (.refl _)
 rw [min61,e]
 exact .refl _
theorem rr0_lp (hn:n≤17592186044416) (ok:∀i,i<n→m i≤1128):LDoes PG (loopAt PG 16 0) 127 4 (mkT (r0T n 0 0 m b)) (wL s g a r u d) (.exit 0) (mkT [(0,.p 2 0),(1,.sv 1 n (recF m b)),(5,.i .i64 (ofNat (min 61 (sumP m n 0))))]) (wL s g a r u d):=by
 refine loop_q (D:=Nat) (l':=[(0,.p 2 0),(1,.sv 1 n (recF m b)),(5,.i .i64 (ofNat (min 61 (sumP m n 0))))]) (fun i=>(r0T n (min 61 (sumP m i 0)) i m b,wL s g a r u d)) (fun i=>n-i) (fun i=>i≤n) (fun _=>by show 4≤4;decide) ?_ 0 (Nat.zero_le _)
 intro i hi
 by_cases c:i<n
 · exact rr0_rd s g a r u n d m b hn i c (ok i c) c
 · have:i=n:=by omega
   subst this
   have h0:decide (ofNat i<ofNat i)=false:=decide_eq_false (by simp)
   exact rd_out (rr0E_lq s g a r u i i (min 61 (sumP m i 0)) d m b h0) ⟨h0,rfl⟩ rfl rfl (.refl _) (.refl _)
theorem rr0B_lp (k:Nat) (hn:n≤17592186044416) (hk:k<n) (bad:1128<m k) (ok:∀i,i<k→m i≤1128):LDoes PG (loopAt PG 16 0) 127 4 (mkT (r0T n 0 0 m b)) (wL s g a r u d) .ret (mkT [(4,.i .i64 2)]) (wL s g a r u d):=by
 refine loop_q (D:=Nat) (l':=[(4,.i .i64 2)]) (fun i=>(r0T n (min 61 (sumP m i 0)) i m b,wL s g a r u d)) (fun i=>n-i) (fun i=>i≤k) (fun _=>by show 4≤4;decide) ?_ 0 (Nat.zero_le _)
 intro i hi
 by_cases c:i<k
 · exact rr0_rd s g a r u n d m b hn i (by omega) (ok i c) c
 · have:i=k:=by omega
   subst this
   have h0:decide (ofNat i<ofNat n)=true:=decide_eq_true (by simp;omega)
   have h1:decide ((1128:Int)<ofNat (m i))=true:=decide_eq_true (by simp;omega)
   have r0:(0:Int)≤ofNat i∧ofNat i<(↑n:Int):=⟨by simp,by simp;omega⟩
   exact rd_out (rr0B_lq s g a r u n i (min 61 (sumP m i 0)) d m b h0 h1) ⟨h0,r0,trivial,h1,rfl⟩ rfl rfl (.refl _) (.refl _)
end
theorem runW_at {c:Nat→Nat→Nat} {j:Nat} {s:SS} {a k:Nat} (hj:1≤j) (ha:a+j≤s.n) (h:(runW c j s a k).1=0):(runW c j s a k).2.2=a+j:=by
 cases ho:s.off with
 | false=>
   obtain ⟨w,_,_,q,_⟩:=runW_p c j s a k ho ha
   exact (q h).2.2
 | true=>
   obtain ⟨i,rfl⟩:∃i,j=i+1:=⟨j-1,by omega⟩
   have e13:s.wrE (ofNat a) 64=13:=by unfold SS.wrE;rw [ho]
   unfold runW at h
   rw [e13] at h
   exact absurd (show (13:Int)=0 from h) (by decide)
section
variable (g a r u n q G:Nat) (A:Int) (m:Nat→Nat) (b:Nat→Nat→Nat)
abbrev r1T (n q G at0 i:Nat) (A:Int) (m:Nat→Nat) (b:Nat→Nat→Nat):List (Nat×AV):=[(0,.p 2 0),(1,.sv 1 n (recF m b)),(5,.i .i64 (ofNat q)),(7,.i .i64 (ofNat G)),(8,.i .i64 A),(9,.i .i64 (ofNat at0)),(10,.i .i64 (ofNat i))]
structure RwOk (G n:Nat) (m:Nat→Nat) (b:Nat→Nat→Nat) (R:Int×SS×Nat) (d:SS×Nat×Nat):Prop where
 i:d.2.2≤n
 run:runR G 0 m b (n-d.2.2) d.1 d.2.1 d.2.2=R
 ok:∃mm,OkM d.1 mm∧mm+sumP m (n-d.2.2) d.2.2<1073741823
 at_:d.2.1+sumP m (n-d.2.2) d.2.2≤d.1.n
theorem rr1_lp (hn:n≤17592186044416) (hb:∀i t,b i t<256) (hm:∀i,i<n→m i≤1128) (R:Int×SS×Nat) (x:XO) (l':List (Nat×AV)) (objs':List (Option AObj))
 (hx:(R.1=0∧x=.exit 2∧l'=[(0,.p 2 0),(1,.sv 1 n (recF m b)),(5,.i .i64 (ofNat q)),(7,.i .i64 (ofNat G)),(8,.i .i64 A)]∧objs'=wL R.2.1 g a r u false)∨(R.1≠0∧x=.ret∧l'=[(4,.i .i64 13)]∧objs'=wL R.2.1 g a r u true)) (d0:SS×Nat×Nat) (h:RwOk G n m b R d0) :
 LDoes PG (loopAt PG 16 1) 127 3 (mkT (r1T n q G d0.2.1 d0.2.2 A m b)) (wL d0.1 g a r u false) x (mkT l') objs':=by
 refine loop_q (D:=SS×Nat×Nat) (l':=l') (fun d'=>(r1T n q G d'.2.1 d'.2.2 A m b,wL d'.1 g a r u false)) (fun d'=>n-d'.2.2) (RwOk G n m b R) (fun _=>by show 3≤4;decide) ?_ d0 h
 rintro ⟨s,at0,i⟩ ⟨hi,hR,⟨mm,ok,hmm⟩,ha⟩
 simp only at hi hR ok hmm ha
 have hn512:=ok.n
 by_cases c:i<n
 · obtain ⟨j,hj⟩:∃j,n-i=j+1:=⟨n-i-1,by omega⟩
   rw [hj] at hR hmm ha
   have hmm':mm+(npF (m i)+sumP m j (i+1))<1073741823:=hmm
   have ha':at0+(npF (m i)+sumP m j (i+1))≤s.n:=ha
   have h0:decide (ofNat i<ofNat n)=true:=decide_eq_true (by simp;omega)
   have r0:(0:Int)≤ofNat i∧ofNat i<(↑n:Int):=⟨by simp,by simp;omega⟩
   have n24:=np_le (hm i c)
   have cu:=cut_con G i (m i) (b i) (hm i c)
   have pp:=rparts_con (m i) (by have:=hm i c;omega)
   have ly:=rlay_con G i (m i) at0 g a r u mm false (b i) (hb i) s ok (hm i c) (by omega) (by omega)
   have k1:=runW_ok (pcB G i (npF (m i)) (m i) (b i)) (npF (m i)) s at0 0 mm ok (by omega)
   have kat:=runW_at (c:=pcB G i (npF (m i)) (m i) (b i)) (s:=s) (a:=at0) (k:=0) (npF_pos (m i)) (by omega)
   have er:recW G 0 m b s at0 i=runW (pcB G i (npF (m i)) (m i) (b i)) (npF (m i)) s at0 0:=by unfold recW;rw [Nat.zero_add]
   have hR':(match decide ((recW G 0 m b s at0 i).1=0) with
    | true=>runR G 0 m b j (recW G 0 m b s at0 i).2.1 (recW G 0 m b s at0 i).2.2 (i+1)
    | false=>recW G 0 m b s at0 i)=R:=hR
   rw [er] at hR'
   generalize runW (pcB G i (npF (m i)) (m i) (b i)) (npF (m i)) s at0 0=W at ly k1 kat hR'
   by_cases hE:W.1=0
   · rw [decide_eq_true hE] at hR' ly
     simp only at hR'
     have hat:=kat hE
     have ly:Con PG 60 [.p 2 0,.i .i64 (ofNat at0),.sv 5 (npF (m i)) (cutF G i (m i) (npF (m i)) (b i))] (wL s g a r u false) (.i .i64 0) [.set (rsA 4 W.2.1),.set (rsR W.2.1),.keep,.gone,.set (rsP W.2.1)]:=ly.post (.refl _) (OVL.refl _)
     exact rd_nrm (rr1R_lq s W.2.1 (npF (m i)) (cutF G i (m i) (npF (m i)) (b i)) g a r u n i q G at0 A m b h0) ⟨h0,r0,trivial,cu,ly,r0,trivial,pp,⟨by simp;omega,by simp;omega⟩,⟨by simp;omega,by simp;omega⟩,rfl⟩ (W.2.1,W.2.2,i+1)
      ⟨c,by simp only;rw [show n-(i+1)=j by omega];exact hR',⟨mm+npF (m i),k1.1,by simp only;rw [show n-(i+1)=j by omega];omega⟩,by simp only;rw [show n-(i+1)=j by omega,k1.2.1];omega⟩ (by show n-(i+1)<n-i;omega) rfl (by show TVL _ (r1T n q G W.2.2 (i+1) A m b);rw [hat];exact .refl _) (.refl _)
   · rw [decide_eq_false hE] at hR' ly
     simp only at hR'
     subst hR'
     rcases hx with ⟨h1,_⟩ | ⟨_,rfl,rfl,rfl⟩
     · exact absurd h1 hE
     exact rd_out (rr1F_lq s W.2.1 (npF (m i)) (cutF G i (m i) (npF (m i)) (b i)) g a r u n i q G at0 A m b h0) ⟨h0,r0,trivial,cu,ly,rfl⟩ rfl rfl (.refl _) (.refl _)
 · have e:i=n:=by omega
   subst e
   rw [Nat.sub_self] at hR
   have hR:((0:Int),s,at0)=R:=hR
   subst hR
   have h0:decide (ofNat i<ofNat i)=false:=decide_eq_false (by simp)
   rcases hx with ⟨_,rfl,rfl,rfl⟩ | ⟨h1,_⟩
   · exact rd_out (rr1E_lq s g a r u i i q G at0 A m b h0) ⟨h0,rfl⟩ rfl rfl (.refl _) (.refl _)
   · exact absurd rfl h1
end
theorem layH_con (G at0 g a r u mm x:Nat) (hx:x<256) (s:SS) (ok:OkM s mm) (hm:mm+1<1073741823) (ha:at0+1≤s.n) :
 Con PG 60 [.p 2 0,.i .i64 (ofNat at0),.l 4 0 1 1 5 true] [some (rsA 3 s),some (rsR s),some (rjO g a r u false),some (rsP s),some (cellsO 93 [.i .i64 (ofNat G),.i .i64 0,.i .i64 0,.i .i64 1,.l 5 0 1 1 1 true]),some (cellsO 5 [.i .u8 (ofNat x)])]
  (.i .i64 (bif decide (cmtE G 0 1 (fun _=>1) (fun _ _=>x) s at0=0) then 0 else 13))
  [.set (rsA 6 (runW (pcB G 0 1 1 fun _=>x) 1 s at0 0).2.1),.set (rsR (runW (pcB G 0 1 1 fun _=>x) 1 s at0 0).2.1),.set (rjO g a r u (!decide (cmtE G 0 1 (fun _=>1) (fun _ _=>x) s at0=0))),.gone,.gone,.gone,.set (rsP (runW (pcB G 0 1 1 fun _=>x) 1 s at0 0).2.1)]:=by
 have n1:=one_parts 0
 have k0:=rlay_con G 0 1 at0 g a r u mm false (fun _=>x) (fun _=>hx) s ok (by decide) (by rw [n1];exact hm) (by rw [n1];exact ha)
 obtain ⟨c1,c2⟩:=cmt1 G 0 1 (fun _=>x) s at0
 have hon:=runW_on (c:=pcB G 0 (npF 1) 1 fun _=>x) (s:=s) (a:=at0) (k:=0) (npF_pos 1) (by rw [n1];exact ha)
 rw [n1] at k0 c1 c2 hon
 have eE:decide (cmtE G 0 1 (fun _=>1) (fun _ _=>x) s at0=0)=decide ((runW (pcB G 0 1 1 fun _=>x) 1 s at0 0).1=0):=by
  by_cases h:(runW (pcB G 0 1 1 fun _=>x) 1 s at0 0).1=0
  · rw [(c1 h).1,fault0 (hon h),decide_eq_true h];rfl
  · rw [(c2 h).1]
 rw [eE]
 generalize runW (pcB G 0 1 1 fun _=>x) 1 s at0 0=R at k0⊢
 have kk:∀(V:AV) (D:Bool),ren (nameIn [0,1,2,3] 6) V=V→embV [0,1,2,3] (mkH [some (rsA 3 s),some (rsR s),some (rjO g a r u false),some (rsP s),none,none]) V=V→Con PG 60 [.p 2 0,.i .i64 (ofNat at0),.sv 5 1 (cutF G 0 1 1 fun _=>x)] (wL s g a r u false) V [.set (rsA 4 R.2.1),.set (rsR R.2.1),.set (rjO g a r u D),.gone,.set (rsP R.2.1)]→
  Con PG 60 [.p 2 0,.i .i64 (ofNat at0),.l 4 0 1 1 5 true] [some (rsA 3 s),some (rsR s),some (rjO g a r u false),some (rsP s),some (cellsO 93 [.i .i64 (ofNat G),.i .i64 0,.i .i64 0,.i .i64 1,.l 5 0 1 1 1 true]),some (cellsO 5 [.i .u8 (ofNat x)])] V
   [.set (rsA 6 R.2.1),.set (rsR R.2.1),.set (rjO g a r u D),.gone,.gone,.gone,.set (rsP R.2.1)]:=by
  intro V D hV hV2 k0
  have k1:Con PG 60 [.p 2 0,.i .i64 (ofNat at0),.sv 5 1 (cutF G 0 1 1 fun _=>x)] [some (rsA 3 s),some (rsR s),some (rjO g a r u false),some (rsP s),none,none] V [.set (rsA 6 R.2.1),.set (rsR R.2.1),.set (rjO g a r u D),.gone,.gone,.gone,.set (rsP R.2.1)]:=
   k0.moreG [0,1,2,3] (by kernel_rfl) (hasAll_of (by kernel_rfl) (by kernel_rfl)) (by kernel_rfl) (by kernel_rfl) hV2 (by kernel_rfl)
  have k2:Con PG 60 [.p 2 0,.i .i64 (ofNat at0),.sv 5 1 (listF 5 [.i .i64 (ofNat G),.i .i64 0,.i .i64 0,.i .i64 1,.sv 1 1 (oneB (ofNat x))] 1)] [some (rsA 3 s),some (rsR s),some (rjO g a r u false),some (rsP s),none,none] V [.set (rsA 6 R.2.1),.set (rsR R.2.1),.set (rjO g a r u D),.gone,.gone,.gone,.set (rsP R.2.1)]:=by
   refine k1.pre ⟨.refl _,.refl _,.svW fun i j hi hj=>?_,trivial⟩
   obtain rfl:i=0:=by omega
   have:j=0∨j=1∨j=2∨j=3∨j=4:=by omega
   rcases this with rfl | rfl | rfl | rfl | rfl
   · exact .of (Eq.refl _)
   · exact .of (Eq.refl _)
   · exact .of (Eq.refl _)
   · exact .of (Eq.refl _)
   · exact one_cw (ofNat x) (fun t=>x) rfl
  have k3:Con PG 60 [.p 2 0,.i .i64 (ofNat at0),.l 4 0 1 1 5 true] [some (rsA 3 s),some (rsR s),some (rjO g a r u false),some (rsP s),some (cellsO 93 [.i .i64 (ofNat G),.i .i64 0,.i .i64 0,.i .i64 1,.sv 1 1 (oneB (ofNat x))]),none] V [.set (rsA 6 R.2.1),.set (rsR R.2.1),.set (rjO g a r u D),.gone,.gone,.gone,.set (rsP R.2.1)]:=
   k2.thawZ 4 (z:=.cells 5 [.i .i64 (ofNat G),.i .i64 0,.i .i64 0,.i .i64 1,.sv 1 1 (oneB (ofNat x))]) (by kernel_rfl) ⟨.inl rfl,.inl rfl,.inl rfl,.inl rfl,rfl,.inl rfl,trivial⟩ ⟨.inl rfl,.inl rfl,.inr ⟨by kernel_rfl,by show 0+1*5≤5;decide,rfl⟩,trivial⟩ rfl
  exact k3.thawZ 5 (z:=.cells 1 [.i .u8 (ofNat x)]) (by kernel_rfl) ⟨.inl rfl,.inl rfl,.inl rfl,.inl rfl,.cells ⟨.inl rfl,.inl rfl,.inl rfl,.inl rfl,.inr ⟨by kernel_rfl,by show 0+1*1≤1;decide,rfl⟩,trivial⟩,rfl,trivial⟩ ⟨.inl rfl,.inl rfl,.inl rfl,trivial⟩ rfl
 cases hd:decide (R.1=0) with
 | true=>rw [hd] at k0;exact kk (.i .i64 0) false (by kernel_rfl) (by kernel_rfl) k0
 | false=>rw [hd] at k0;exact kk (.i .i64 13) true (by kernel_rfl) (by kernel_rfl) k0
theorem roS_vq (s:SS) (h:decide (ofNat s.n<122)=true):VD PG 13 [.p 0 0] [some (rsA 2 s),some (rsR s),some (rsP s)] (.c (.t .z)) (.tup [.p0,.l0,.i .i64 12]) [.keep,.keep,.keep] [] 3 (fun Lf=>True∧True∧decide (ofNat (SS.n s)<122)=true∧Lf):=by unfold VD VQ;kernel_rfl
theorem roA_vq (s:SS) (O:Nat→Nat→CV) (g0 a0 g1 a1 c U:Nat) (R:Nat→Nat→CV) (h:decide (ofNat s.n<122)=false) (ho:s.off=false) (hg:decide (ofNat g0<ofNat g1)=false) (hz:decide (ofNat g0=0)=false):VD PG 13 [.p 0 0] [some (rsA 2 s),some (rsR s),some (rsP s)] (.c (.f (.f (.cal [0,1,2] (.sv 1 122 (alF s)) [.keep,.keep,.keep] (.cal [] (.tup [.i .i64 (ofNat g0),.i .i64 (ofNat a0)]) [] (.cal [] (.tup [.i .i64 (ofNat g1),.i .i64 (ofNat a1)]) [] (.f (.f (.cal [] (.sv 1 60 O) [] (.cal [] (.tup [.sv 1 c R,.i .i64 (ofNat U)]) [.gone] .z)))))))))) (.tup [.p 3 0,.sv 1 c R,.i .i64 0]) [.keep,.keep,.keep,.set (rjO g0 a0 c U false)] [4] 5 (fun Lf=>True∧True∧decide (ofNat (SS.n s)<122)=false∧True∧SS.off s=false∧Con PG 42 [.p 0 0] [some (rsA 2 s),some (rsR s),some (rsP s)] (.sv 1 122 (alF s)) [.keep,.keep,.keep]∧((0:Int)≤(0:Int)∧(0:Int)<(122:Int))∧True∧Con PG 43 [.sv 1 (SS.rdN s (ofNat 0)) fun k x=>CV.i .u8 (SS.rdB s (ofNat 0) k),.i .i64 0] [] (.tup [.i .i64 (ofNat g0),.i .i64 (ofNat a0)]) []∧((0:Int)≤(1:Int)∧(1:Int)<(122:Int))∧True∧Con PG 43 [.sv 1 (SS.rdN s (ofNat 1)) fun k x=>CV.i .u8 (SS.rdB s (ofNat 1) k),.i .i64 1] [] (.tup [.i .i64 (ofNat g1),.i .i64 (ofNat a1)]) []∧decide (ofNat g0<ofNat g1)=false∧decide (ofNat g0=0)=false∧Con PG 48 [.sv 1 122 (alF s),.i .i64 (ofNat a0)] [] (.sv 1 60 O) []∧Con PG 47 [.sv 1 60 O,.i .i64 (ofNat g0)] [] (.tup [.sv 1 c R,.i .i64 (ofNat U)]) [.gone]∧Lf):=by unfold VD VQ;kernel_rfl
theorem roB_vq (s:SS) (O:Nat→Nat→CV) (g0 a0 g1 a1 c U:Nat) (R:Nat→Nat→CV) (h:decide (ofNat s.n<122)=false) (ho:s.off=false) (hg:decide (ofNat g0<ofNat g1)=true) (hz:decide (ofNat g1=0)=false):VD PG 13 [.p 0 0] [some (rsA 2 s),some (rsR s),some (rsP s)] (.c (.f (.f (.cal [0,1,2] (.sv 1 122 (alF s)) [.keep,.keep,.keep] (.cal [] (.tup [.i .i64 (ofNat g0),.i .i64 (ofNat a0)]) [] (.cal [] (.tup [.i .i64 (ofNat g1),.i .i64 (ofNat a1)]) [] (.t (.f (.cal [] (.sv 1 60 O) [] (.cal [] (.tup [.sv 1 c R,.i .i64 (ofNat U)]) [.gone] .z)))))))))) (.tup [.p 3 0,.sv 1 c R,.i .i64 0]) [.keep,.keep,.keep,.set (rjO g1 a1 c U false)] [4] 5 (fun Lf=>True∧True∧decide (ofNat (SS.n s)<122)=false∧True∧SS.off s=false∧Con PG 42 [.p 0 0] [some (rsA 2 s),some (rsR s),some (rsP s)] (.sv 1 122 (alF s)) [.keep,.keep,.keep]∧((0:Int)≤(0:Int)∧(0:Int)<(122:Int))∧True∧Con PG 43 [.sv 1 (SS.rdN s (ofNat 0)) fun k x=>CV.i .u8 (SS.rdB s (ofNat 0) k),.i .i64 0] [] (.tup [.i .i64 (ofNat g0),.i .i64 (ofNat a0)]) []∧((0:Int)≤(1:Int)∧(1:Int)<(122:Int))∧True∧Con PG 43 [.sv 1 (SS.rdN s (ofNat 1)) fun k x=>CV.i .u8 (SS.rdB s (ofNat 1) k),.i .i64 1] [] (.tup [.i .i64 (ofNat g1),.i .i64 (ofNat a1)]) []∧decide (ofNat g0<ofNat g1)=true∧decide (ofNat g1=0)=false∧Con PG 48 [.sv 1 122 (alF s),.i .i64 (ofNat a1)] [] (.sv 1 60 O) []∧Con PG 47 [.sv 1 60 O,.i .i64 (ofNat g1)] [] (.tup [.sv 1 c R,.i .i64 (ofNat U)]) [.gone]∧Lf):=by unfold VD VQ;kernel_rfl
theorem roN_vq (s w v:SS) (O:Nat→Nat→CV) (g0 a0 g1 a1 c U:Nat) (R:Nat→Nat→CV) (C1:Nat→Nat) (h:decide (ofNat s.n<122)=false) (ho:s.off=false) (hg:decide (ofNat g0<ofNat g1)=false) (hz:decide (ofNat g0=0)=true):VD PG 13 [.p 0 0] [some (rsA 2 s),some (rsR s),some (rsP s)] (.c (.f (.f (.cal [0,1,2] (.sv 1 122 (alF s)) [.keep,.keep,.keep] (.cal [] (.tup [.i .i64 (ofNat g0),.i .i64 (ofNat a0)]) [] (.cal [] (.tup [.i .i64 (ofNat g1),.i .i64 (ofNat a1)]) [] (.f (.t (.cal [3] (.sv 1 64 (byF C1)) [.gone] (.cal [0,1,2] (.i .i64 0) [.set (rsA 3 w),.keep,.gone,.set (rsP w)] (.c (.cal [0,1,4] (.i .i64 0) [.set (rsA 2 v),.set (rsR v),.set (rsP v)] (.c (.cal [0,1,4] (.sv 1 122 (alF v)) [.keep,.keep,.keep] (.cal [] (.sv 1 60 O) [] (.cal [] (.tup [.sv 1 c R,.i .i64 (ofNat U)]) [.gone] .z)))))))))))))))) (.tup [.p 3 0,.sv 1 c R,.i .i64 0]) [.set (rsA 4 v),.set (rsR v),.gone,.set (rjO 1 a0 c U false),.set (rsP v)] [6,4] 7 (fun Lf=>True∧True∧decide (ofNat (SS.n s)<122)=false∧True∧SS.off s=false∧Con PG 42 [.p 0 0] [some (rsA 2 s),some (rsR s),some (rsP s)] (.sv 1 122 (alF s)) [.keep,.keep,.keep]∧((0:Int)≤(0:Int)∧(0:Int)<(122:Int))∧True∧Con PG 43 [.sv 1 (SS.rdN s (ofNat 0)) fun k x=>CV.i .u8 (SS.rdB s (ofNat 0) k),.i .i64 0] [] (.tup [.i .i64 (ofNat g0),.i .i64 (ofNat a0)]) []∧((0:Int)≤(1:Int)∧(1:Int)<(122:Int))∧True∧Con PG 43 [.sv 1 (SS.rdN s (ofNat 1)) fun k x=>CV.i .u8 (SS.rdB s (ofNat 1) k),.i .i64 1] [] (.tup [.i .i64 (ofNat g1),.i .i64 (ofNat a1)]) []∧decide (ofNat g0<ofNat g1)=false∧decide (ofNat g0=0)=true∧Con PG 45 [.agg [.i .i64 1,.i .i64 0,.i .i64 0,.i .i64 1,.l 0 0 1 1 1 true]] [some (cellsO 5 [.i .u8 0])] (.sv 1 64 (byF C1)) [.gone]∧Con PG 44 [.p 0 0,.i .i64 1,.sv 1 64 (byF C1)] [some (rsA 2 s),some (rsR s),some (rsP s)] (.i .i64 0) [.set (rsA 3 w),.keep,.gone,.set (rsP w)]∧Con PG 46 [.p 0 0] [some (rsA 2 w),some (rsR s),some (rsP w)] (.i .i64 0) [.set (rsA 2 v),.set (rsR v),.set (rsP v)]∧Con PG 42 [.p 0 0] [some (rsA 2 v),some (rsR v),some (rsP v)] (.sv 1 122 (alF v)) [.keep,.keep,.keep]∧Con PG 48 [.sv 1 122 (alF v),.i .i64 (ofNat a0)] [] (.sv 1 60 O) []∧Con PG 47 [.sv 1 60 O,.i .i64 1] [] (.tup [.sv 1 c R,.i .i64 (ofNat U)]) [.gone]∧Lf):=by unfold VD VQ;kernel_rfl
theorem rlay0_vq (yg ys B S:Nat→Nat):VD PG 45 [.agg [.i .i64 1,.i .i64 0,.i .i64 0,.i .i64 1,.l 0 0 1 1 1 true]] [some (cellsO 5 [.i .u8 0])] (.cal [] (.lr 0 1 0 4 false) [.set (AObj.rows 5 1 4 (byF yg))] (.cal [] (.lr 0 1 0 4 false) [.set (AObj.rows 5 1 4 (byF ys))] (.lop [7] [3] 0 (.exit 0) [(3,.sv 1 60 (byF B))] [] (.cal [] (.sv 1 64 (byF S)) [] .z)))) (.sv 1 64 (byF S)) [.gone] [] 8 (fun Lf=>True∧True∧Con PG 73 [.i .u32 1] [] (.lr 0 1 0 4 false) [.set (AObj.rows 5 1 4 (byF yg))]∧True∧True∧Con PG 73 [.i .u32 0] [] (.lr 0 1 0 4 false) [.set (AObj.rows 5 1 4 (byF ys))]∧(4≤4∧4≤4∧8≤140737488355328∧1560≤562949953421312)∧True∧True∧True∧True∧True∧True∧(8≤8∧True∧11≤140737488355328∧1569≤562949953421312)∧True∧(11≤11∧True∧12≤140737488355328∧1572≤562949953421312)∧LDoes PG (loopAt PG 45 0) 39 0 (mkT [(3,.lr 0 1 0 12 false)]) [some (AObj.rows 5 1 12 (appZ 11 (appZ 8 (appZ 4 (byF yg) (byF ys)) (listF 1 [CV.i .u8 0,CV.i .u8 1,CV.i .u8 1] 3)) (listF 1 [CV.i .u8 0] 1)))] (.exit 0) (mkT [(3,.sv 1 60 (byF B))]) []∧Con PG 74 [.sv 1 60 (byF B)] [] (.sv 1 64 (byF S)) []∧Lf):=by unfold VD VQ;kernel_rfl
theorem fill0_cw:∀i j,i<12→j<1→CW (appZ 11 (appZ 8 (appZ 4 (byF (fourB 1)) (byF (fourB 0))) (listF 1 [CV.i .u8 0,CV.i .u8 1,CV.i .u8 1] 3)) (listF 1 [CV.i .u8 0] 1) i j) (byF (pbodyB 1 0 0 1 1 fun _=>0) i j):=by
 intro i j hi hj
 obtain rfl:j=0:=by omega
 have:i=0∨i=1∨i=2∨i=3∨i=4∨i=5∨i=6∨i=7∨i=8∨i=9∨i=10∨i=11:=by omega
 rcases this with rfl | rfl | rfl | rfl | rfl | rfl | rfl | rfl | rfl | rfl | rfl | rfl<;>exact .of (by kernel_rfl)
theorem rlay0_con:Con PG 45 [.agg [.i .i64 1,.i .i64 0,.i .i64 0,.i .i64 1,.l 0 0 1 1 1 true]] [some (cellsO 5 [.i .u8 0])] (.sv 1 64 (byF (pcB 1 0 1 1 (fun _=>0) 0))) [.gone]:=by
 have lp:=(rlayK_lp (pbodyB 1 0 0 1 1 fun _=>0) 12 (by decide) (by decide) (fun k hk=>pbodyB_tail 1 0 0 1 1 _ (by omega))).ovl (objs0:=[some (.rows 5 1 12 (appZ 11 (appZ 8 (appZ 4 (byF (fourB 1)) (byF (fourB 0))) (listF 1 [CV.i .u8 0,CV.i .u8 1,CV.i .u8 1] 3)) (listF 1 [CV.i .u8 0] 1)))]) ⟨.rowsW fill0_cw,trivial⟩
 exact con_d (rlay0_vq (fourB 1) (fourB 0) (pbodyB 1 0 0 1 1 fun _=>0) (psecB 1 0 0 1 1 fun _=>0))
  ⟨trivial,trivial,rfour_con 1 (by decide),trivial,trivial,rfour_con 0 (by decide),⟨by decide,by decide,by decide,by decide⟩,trivial,trivial,trivial,trivial,trivial,trivial,⟨by decide,trivial,by decide,by decide⟩,trivial,⟨by decide,trivial,by decide,by decide⟩,lp,rseal60_con _ (pbodyB_lt fun _ _=>by decide),rfl⟩
abbrev kp3:List Upd:=[.keep,.keep,.keep]
abbrev wS (s:SS):List (Option AObj):=[some (rsA 2 s),some (rsR s),some (rsP s)]
theorem ropenS_con (s:SS) (h:s.n<122):Con PG 13 [.p 0 0] (wS s) (.tup [.p0,.l0,.i .i64 12]) kp3:=
 have d:decide (ofNat s.n<(122:Int))=true:=decide_eq_true (by simp;omega)
 con_d (roS_vq s d) ⟨trivial,trivial,d,rfl⟩
theorem hdA_zero {s:SS} {h:Nat} (e:hdG s h=0):hdA s h=0:=by
 unfold hdG at e
 unfold hdA
 cases c:hdOk (bB s h) h with
 | false=>rfl
 | true=>
   rw [c,cond_true] at e
   unfold hdOk hdB at c
   by_cases ok:PtOk (bB s h)
   · rw [stG_t ok] at e
     have:=ok.gen0
     have e:g1 (bB s h)=0:=e
     omega
   · have:stP (bB s h)=0:=by unfold stP;rw [ptB_f ok,cond_false]
     rw [this] at c
     simp at c
theorem rhead_con (s:SS) (hb:Byt s) (h:Nat):Con PG 43 [.sv 1 (s.rdN (ofNat h)) fun k _=>.i .u8 (s.rdB (ofNat h) k),.i .i64 (ofNat h)] [] (.tup [.i .i64 (ofNat (hdG s h)),.i .i64 (ofNat (hdA s h))]) []:=
 rhd_con (bB s h) h (bB_lt hb h 11) _ _ (lookS_con s hb h)
theorem rscan_con (s:SS) (hb:Byt s) (g a c:Nat) (rc:Recs s a g c):Con PG 47 [.sv 1 60 (scF (aW s a) (aX s a)),.i .i64 (ofNat g)] [] (.tup [.sv 1 c (recF (opM s a) (opB s a)),.i .i64 (ofNat (jU (aP s a) c))]) [.gone]:=
 scan_con g c (aW s a) (aX s a) (aG s a) (aN s a) (aI s a) (aP s a) (aL s a) (aD s a) (fun i=>stL_le _) (fun i _=>lookA_con s hb a i) rc.st rc.no
theorem hdA_le (s:SS) (h:Nat):hdA s h≤1:=by
 unfold hdA
 cases c:hdOk (bB s h) h with
 | false=>exact Nat.zero_le _
 | true=>
   unfold hdOk hdB at c
   simp only [Bool.and_eq_true] at c
   have:=c.2.2.2.1
   rw [cond_true]
   exact Nat.le_of_ble_eq_true this
theorem bgA_le (s:SS):bgA s≤1:=by
 unfold bgA
 cases Nat.blt (hdG s 0) (hdG s 1)
 · rw [cond_false];exact hdA_le s 0
 · rw [cond_true];exact hdA_le s 1
theorem ropen_con {s:SS} {mm c:Nat} (ok:OkM s mm) (hm:mm<1073741823) (hb:Byt s) (hn:122≤s.n) (on:s.off=false) (hg:0<bgG s) (rc:Recs s (bgA s) (bgG s) c) :
 Con PG 13 [.p 0 0] (wS s) (.tup [.p 3 0,.sv 1 c (recF (opM s (bgA s)) (opB s (bgA s))),.i .i64 0]) [.keep,.keep,.keep,.set (rjO (bgG s) (bgA s) c (jU (aP s (bgA s)) c) false)]:=by
 have d:decide (ofNat s.n<(122:Int))=false:=decide_eq_false (by simp;omega)
 have al:=rall_con s (by have:=ok.P;omega)
 have h0:=rhead_con s hb 0
 have h1:=rhead_con s hb 1
 have of_:=rof2_con s (bgA s) (bgA_le s)
 have sc:=rscan_con s hb (bgG s) (bgA s) c rc
 unfold bgG bgA at *
 cases cc:Nat.blt (hdG s 0) (hdG s 1) with
 | true=>
   rw [cc] at hg of_ sc
   simp only [cond_true] at hg of_ sc⊢
   exact con_d (roB_vq s _ _ _ _ _ c _ (recF (opM s (hdA s 1)) (opB s (hdA s 1))) d on ((dlt _ _).trans cc) (decide_eq_false (by simp;omega)))
    ⟨trivial,trivial,d,trivial,on,al,⟨by decide,by decide⟩,trivial,h0,⟨by decide,by decide⟩,trivial,h1,(dlt _ _).trans cc,decide_eq_false (by simp;omega),of_,sc,rfl⟩
 | false=>
   rw [cc] at hg of_ sc
   simp only [cond_false] at hg of_ sc⊢
   exact con_d (roA_vq s _ _ _ _ _ c _ (recF (opM s (hdA s 0)) (opB s (hdA s 0))) d on ((dlt _ _).trans cc) (decide_eq_false (by simp;omega)))
    ⟨trivial,trivial,d,trivial,on,al,⟨by decide,by decide⟩,trivial,h0,⟨by decide,by decide⟩,trivial,h1,(dlt _ _).trans cc,decide_eq_false (by simp;omega),of_,sc,rfl⟩
theorem nmS_calm {s:SS} (h:Calm s) (hn:2≤s.n):nmS s 1 0=(s.wrS (ofNat 1) 64 fun t=>ofNat (pcB 1 0 1 1 (fun _=>0) 0 t)).bar∧nmE s 1 0=0∧Calm (nmS s 1 0):=by
 have n1:=one_parts 0
 obtain ⟨w1,w2⟩:=h.wr (q:=1) (by omega) fun t=>ofNat (pcB 1 0 1 1 (fun _=>0) 0 t)
 have e:runW (pcB 1 0 1 1 fun _=>0) 1 s 1 0=(0,s.wrS (ofNat 1) 64 (fun t=>ofNat (pcB 1 0 1 1 (fun _=>0) 0 t)),2):=by
  unfold runW
  rw [decide_eq_true w1]
  rfl
 obtain ⟨c1,_⟩:=cmt1 1 0 1 (fun _=>0) s 1
 rw [n1,e] at c1
 obtain ⟨c1,c2⟩:=c1 rfl
 have k:=h.cmt 1 0 1 (fun _=>1) (fun _ _=>0 % 256) (1 % 2) (by rw [sumP1,n1];omega)
 exact ⟨c2,k.1,k.2⟩
theorem ropen0_con {s:SS} {mm c:Nat} (ok:OkM s mm) (hm:mm+1<1073741823) (hb:Byt s) (hn:122≤s.n) (hc:Calm s) (hg:bgG s=0) (hb2:Byt (nmS s 1 0)) (rc:Recs (nmS s 1 0) 0 1 c) :
 Con PG 13 [.p 0 0] (wS s) (.tup [.p 3 0,.sv 1 c (recF (opM (nmS s 1 0) 0) (opB (nmS s 1 0) 0)),.i .i64 0]) [.set (rsA 4 (nmS s 1 0)),.set (rsR (nmS s 1 0)),.gone,.set (rjO 1 0 c (jU (aP (nmS s 1 0) 0) c) false),.set (rsP (nmS s 1 0))]:=by
 have d:decide (ofNat s.n<(122:Int))=false:=decide_eq_false (by simp;omega)
 have on:=hc.on
 have hn512:=ok.n
 have al:=rall_con s (by have:=ok.P;omega)
 have h0:=rhead_con s hb 0
 have h1:=rhead_con s hb 1
 have e01:hdG s 0=0∧hdG s 1=0:=by
  unfold bgG at hg
  have:=dlt (hdG s 0) (hdG s 1)
  cases cc:Nat.blt (hdG s 0) (hdG s 1) with
  | true=>rw [cc] at hg this;simp at hg this;omega
  | false=>rw [cc] at hg this;simp at hg this;omega
 rw [e01.1,hdA_zero e01.1] at h0
 rw [e01.2] at h1
 have lyv:=rlay0_con
 have wr:=rwriteOk_con s 1 (fun t=>ofNat (pcB 1 0 1 1 (fun _=>0) 0 t)) (ok.ok (by omega)) (by have:=ok.P;omega) on (by omega)
 rw [←wrE_pay on (by omega),←wrS_on on (by omega),(hc.wr (q:=1) (by omega) fun _=>0).1] at wr
 obtain ⟨eS,_,cS⟩:=nmS_calm hc (by omega)
 have okW:=ok.wrS (q:=1) (by omega) fun t=>ofNat (pcB 1 0 1 1 (fun _=>0) 0 t)
 have cW:=(hc.wr (q:=1) (by omega) fun t=>ofNat (pcB 1 0 1 1 (fun _=>0) 0 t)).2
 have eR:=rsR_wrS s (q:=1) (by omega) fun t=>ofNat (pcB 1 0 1 1 (fun _=>0) 0 t)
 have ba:=rbar2_con (s.wrS (ofNat 1) 64 fun t=>ofNat (pcB 1 0 1 1 (fun _=>0) 0 t)) (by have:=okW.P;omega) okW.at_
 rw [fault0 cW.on,eR,←eS] at ba
 have ok2:OkM (nmS s 1 0) (mm+1):=by rw [eS];exact okW.bar
 have al2:=rall_con (nmS s 1 0) (by have:=ok2.P;omega)
 have of2:=rof2_con (nmS s 1 0) 0 (by decide)
 have sc:=rscan_con (nmS s 1 0) hb2 1 0 c rc
 generalize nmS s 1 0=S at *
 generalize (s.wrS (ofNat 1) 64 fun t=>ofNat (pcB 1 0 1 1 (fun _=>0) 0 t))=W at *
 exact con_d (roN_vq s W S (scF (aW S 0) (aX S 0)) 0 0 0 _ c (jU (aP S 0) c) (recF (opM S 0) (opB S 0)) (pcB 1 0 1 1 (fun _=>0) 0) d on (by decide) (by decide))
  ⟨trivial,trivial,d,trivial,on,al,⟨by decide,by decide⟩,trivial,h0,⟨by decide,by decide⟩,trivial,h1,by decide,by decide,lyv,wr,ba,al2,of2,sc,rfl⟩
theorem rrewriteRange_con (s:SS) (g a r u n k:Nat) (m:Nat→Nat) (b:Nat→Nat→Nat) (hn:n≤17592186044416) (hk:k<n) (bad:1128<m k) (ok:∀i,i<k→m i≤1128):Con PG 16 [.p 2 0,.sv 1 n (recF m b)] (wL s g a r u false) (.i .i64 2) kp4:=
 con_d (rrwB_vq s g a r u n m b) ⟨trivial,rr0B_lp s g a r u n false m b k hn hk bad ok,rfl⟩
section
variable (s:SS) (g a r u n:Nat) (m:Nat→Nat) (b:Nat→Nat→Nat) (hn:n≤17592186044416) (ok:∀i,i<n→m i≤1128)
include hn ok
theorem rrewriteSpace_con (hs:60<sumP m n 0):Con PG 16 [.p 2 0,.sv 1 n (recF m b)] (wL s g a r u false) (.i .i64 12) kp4:=
 have d:decide ((60:Int)<ofNat (min 61 (sumP m n 0)))=true:=decide_eq_true (by simp;omega)
 con_d (rrwS_vq s (min 61 (sumP m n 0)) g a r u n m b d) ⟨trivial,rr0_lp s g a r u n false m b hn ok,d,rfl⟩
end
theorem rrewriteWorn_con (s:SS) (j:JS) (mm r u n:Nat) (m:Nat→Nat) (b:Nat→Nat→Nat) (hn:n≤17592186044416) (hl:∀i,i<n→m i≤1128) (hs:sumP m n 0≤60) (okm:OkM s mm) (hm:mm<1073741823) (hb:Byt s) (ha:j.area≤1) (hg:j.gen≤4294967296) (on:s.off=false) (hv:1073741824<nxV s j) :
 Con PG 16 [.p 2 0,.sv 1 n (recF m b)] (wL s j.gen j.area r u false) (.i .i64 15) kp4:=
 have d:decide ((60:Int)<ofNat (min 61 (sumP m n 0)))=false:=decide_eq_false (by simp;omega)
 have d2:decide ((1073741824:Int)<ofNat (nxV s j))=true:=decide_eq_true (by simp;omega)
 con_d (rrwW_vq s (min 61 (sumP m n 0)) (nxV s j) j.gen j.area r u n m b d on d2) ⟨trivial,rr0_lp s j.gen j.area r u n false m b hn hl,d,trivial,trivial,on,rnext_con s j mm r u false okm hm hb ha hg,d2,rfl⟩
def rwR (s:SS) (j:JS) (r u n:Nat) (m:Nat→Nat) (b:Nat→Nat→Nat):AObj:=
 bif decide (rwE s j n m b=0) then (bif decide (nmE (rwS s j n m b) (nxV s j) (1-j.area)=0) then rjO (nxV s j) (1-j.area) n (sumP m n 0) false else rjO j.gen j.area r u true) else rjO j.gen j.area r u true
def rwV (s:SS) (j:JS) (n:Nat) (m:Nat→Nat) (b:Nat→Nat→Nat):Int:=bif decide (rwE s j n m b=0) then (bif decide (nmE (rwS s j n m b) (nxV s j) (1-j.area)=0) then 0 else 13) else 13
def rwT2 (s:SS) (j:JS) (n:Nat) (m:Nat→Nat) (b:Nat→Nat→Nat):SS:=bif decide (rwE s j n m b=0) then nmS (rwS s j n m b) (nxV s j) (1-j.area) else rwS s j n m b
theorem rrewrite_con (s:SS) (j:JS) (mm r u n:Nat) (m:Nat→Nat) (b:Nat→Nat→Nat) (hl:∀i,i<n→m i≤1128) (hs:sumP m n 0≤60) (okm:OkM s mm) (hm:mm+61<1073741823) (hB:Byt s) (hb:∀i t,b i t<256) (ha:j.area≤1) (hg:j.gen≤4294967296) (on:s.off=false) (h122:122≤s.n) (hv:nxV s j≤1073741824) :
 Con PG 16 [.p 2 0,.sv 1 n (recF m b)] (wL s j.gen j.area r u false) (.i .i64 (rwV s j n m b)) [.set (rsA 4 (rwT2 s j n m b)),.set (rsR (rwT2 s j n m b)),.set (rwR s j r u n m b),.gone,.set (rsP (rwT2 s j n m b))]:=by
 have hn60:=sumP_ge m n 0
 have hn:n≤17592186044416:=by omega
 have q61:min 61 (sumP m n 0)=sumP m n 0:=Nat.min_eq_right (by omega)
 have d:decide ((60:Int)<ofNat (sumP m n 0))=false:=decide_eq_false (by simp;omega)
 have d2:decide ((1073741824:Int)<ofNat (nxV s j))=false:=decide_eq_false (by simp;omega)
 have l0:=rr0_lp s j.gen j.area r u n false m b hn hl
 rw [q61] at l0
 have nx:=rnext_con s j mm r u false okm (by omega) hB ha hg
 have l1:=fun R x l' objs' hx hR=>rr1_lp j.gen j.area r u n (sumP m n 0) (nxV s j) (1-ofNat j.area) m b hn hb hl R x l' objs' hx (s,2+(1-j.area)*60,0) ⟨Nat.zero_le _,hR,⟨mm,okm,by simp only [Nat.sub_zero];omega⟩,by simp only [Nat.sub_zero];omega⟩
 have eT:(2:Int)+(1-ofNat j.area)*60=ofNat (2+(1-j.area)*60):=by simp;omega
 have eA:(1:Int)-ofNat j.area=ofNat (1-j.area):=by simp;omega
 have r1:rg ((1:Int)-ofNat j.area):=⟨by simp;omega,by simp;omega⟩
 have r2:rg (((1:Int)-ofNat j.area)*60):=⟨by simp;omega,by simp;omega⟩
 have r3:rg ((2:Int)+((1:Int)-ofNat j.area)*60):=⟨by simp;omega,by simp;omega⟩
 have rok:=runR_ok (nxV s j) 0 m b n s (2+(1-j.area)*60) 0 mm okm (by omega)
 obtain ⟨w,_,_,hon,_⟩:=runR_p (nxV s j) 0 m b n s (2+(1-j.area)*60) 0 on (by omega)
 have e1:rwE s j n m b=match decide ((runR (nxV s j) 0 m b n s (2+(1-j.area)*60) 0).1=0) with
  | true=>(runR (nxV s j) 0 m b n s (2+(1-j.area)*60) 0).2.1.faultE
  | false=>(runR (nxV s j) 0 m b n s (2+(1-j.area)*60) 0).1:=rfl
 have e2:rwS s j n m b=match decide ((runR (nxV s j) 0 m b n s (2+(1-j.area)*60) 0).1=0) with
  | true=>(runR (nxV s j) 0 m b n s (2+(1-j.area)*60) 0).2.1.bar
  | false=>(runR (nxV s j) 0 m b n s (2+(1-j.area)*60) 0).2.1:=rfl
 have l1:=fun x l' objs' hx=>l1 (runR (nxV s j) 0 m b n s (2+(1-j.area)*60) 0) x l' objs' hx rfl
 unfold rwV rwT2 rwR
 generalize runR (nxV s j) 0 m b n s (2+(1-j.area)*60) 0=R at rok hon e1 e2 l1
 by_cases h:R.1=0
 · rw [decide_eq_true h] at e1 e2
   have on1:=(hon h).2
   simp only at e1 e2
   rw [fault0 on1] at e1
   rw [e1,e2,show decide ((0:Int)=0)=true from rfl]
   simp only [cond_true]
   have okb:=rok.1.bar
   have se:=setOn_con rok.1 (by omega) on1 j.gen j.area r u false
   have l1:=l1 _ _ _ (.inl ⟨h,rfl,rfl,rfl⟩)
   have bn:R.2.1.bar.n=s.n:=(bar_n _).trans rok.2
   have lh:=layH_con (nxV s j) (nxV s j % 2) j.gen j.area r u (mm+sumP m n 0) ((1-j.area) % 256) (Nat.mod_lt _ (by decide)) R.2.1.bar okb (by omega) (by rw [bn];omega)
   obtain ⟨c1,c2⟩:=cmt1 (nxV s j) 0 1 (fun _=>(1-j.area) % 256) R.2.1.bar (nxV s j % 2)
   have n1:=one_parts 0
   have hon2:=runW_on (c:=pcB (nxV s j) 0 (npF 1) 1 fun _=>(1-j.area) % 256) (s:=R.2.1.bar) (a:=nxV s j % 2) (k:=0) (npF_pos 1) (by rw [n1,bn];omega)
   have ok2:=(runW_ok (pcB (nxV s j) 0 (npF 1) 1 fun _=>(1-j.area) % 256) (npF 1) R.2.1.bar (nxV s j % 2) 0 (mm+sumP m n 0) okb (by rw [n1,bn];omega)).1
   rw [n1] at c1 c2 hon2 ok2
   unfold nmE nmS
   have l1':LDoes PG (loopAt PG 16 1) 127 3 (mkT [(0,.p 2 0),(1,.sv 1 n (recF m b)),(5,.i .i64 (ofNat (sumP m n 0))),(7,.i .i64 (ofNat (nxV s j))),(8,.i .i64 (1-ofNat j.area)),(9,.i .i64 (2+(1-ofNat j.area)*60)),(10,.i .i64 0)]) (wL s j.gen j.area r u false) (.exit 2)
    (mkT [(0,.p 2 0),(1,.sv 1 n (recF m b)),(5,.i .i64 (ofNat (sumP m n 0))),(7,.i .i64 (ofNat (nxV s j))),(8,.i .i64 (1-ofNat j.area))]) (wL R.2.1 j.gen j.area r u false):=by rw [eT];exact l1
   have d2':=d2
   generalize nxV s j=V at *
   generalize runW (pcB V 0 1 1 fun _=>(1-j.area) % 256) 1 R.2.1.bar (V % 2) 0=W at lh c1 c2 hon2 ok2
   by_cases h2:W.1=0
   · obtain ⟨f1,f2⟩:=c1 h2
     rw [fault0 (hon2 h2)] at f1
     rw [f1] at lh
     rw [f1,f2,show decide ((0:Int)=0)=true from rfl]
     simp only [cond_true]
     have se2:=setOn_con ok2 (by omega) (hon2 h2) j.gen j.area r u false
     have lh':Con PG 60 [.p 2 0,.i .i64 (Int.tmod (ofNat V) 2),.l 4 0 1 1 5 true] [some (rsA 3 R.2.1.bar),some (rsR R.2.1.bar),some (rjO j.gen j.area r u false),some (rsP R.2.1.bar),some (cellsO 93 [.i .i64 (ofNat V),.i .i64 0,.i .i64 0,.i .i64 1,.l 5 0 1 1 1 true]),some (cellsO 5 [.i .u8 (wrapA .u8 (1-ofNat j.area))])]
      (.i .i64 0) [.set (rsA 6 W.2.1),.set (rsR W.2.1),.keep,.gone,.gone,.gone,.set (rsP W.2.1)]:=by rw [eA];exact lh.post (.refl _) (OVL.refl _)
     have k:=con_d (rrwG_vq s R.2.1 R.2.1.bar W.2.1 W.2.1.bar (sumP m n 0) V j.gen j.area r u n m b d on d2)
      ⟨trivial,l0,d,trivial,trivial,on,nx,d2,trivial,r1,r2,r3,l1',se,by decide,trivial,lh',se2,trivial,trivial,trivial,trivial,rfl⟩
     rw [eA] at k
     exact k
   · obtain ⟨f1,f2⟩:=c2 h2
     rw [f1,decide_eq_false h2] at lh
     rw [f1,f2,decide_eq_false h2]
     simp only [cond_false]
     have lh':Con PG 60 [.p 2 0,.i .i64 (Int.tmod (ofNat V) 2),.l 4 0 1 1 5 true] [some (rsA 3 R.2.1.bar),some (rsR R.2.1.bar),some (rjO j.gen j.area r u false),some (rsP R.2.1.bar),some (cellsO 93 [.i .i64 (ofNat V),.i .i64 0,.i .i64 0,.i .i64 1,.l 5 0 1 1 1 true]),some (cellsO 5 [.i .u8 (wrapA .u8 (1-ofNat j.area))])]
      (.i .i64 13) [.set (rsA 6 W.2.1),.set (rsR W.2.1),.set (rjO j.gen j.area r u true),.gone,.gone,.gone,.set (rsP W.2.1)]:=by rw [eA];exact lh
     exact con_d (rrwH_vq s R.2.1 R.2.1.bar W.2.1 (sumP m n 0) V j.gen j.area r u n m b d on d2)
      ⟨trivial,l0,d,trivial,trivial,on,nx,d2,trivial,r1,r2,r3,l1',se,by decide,trivial,lh',rfl⟩
 · rw [decide_eq_false h] at e1 e2
   simp only at e1 e2
   rw [e1,e2,decide_eq_false h]
   simp only [cond_false]
   have l1:=l1 _ _ _ (.inr ⟨h,rfl,rfl,rfl⟩)
   have l1':LDoes PG (loopAt PG 16 1) 127 3 (mkT [(0,.p 2 0),(1,.sv 1 n (recF m b)),(5,.i .i64 (ofNat (sumP m n 0))),(7,.i .i64 (ofNat (nxV s j))),(8,.i .i64 (1-ofNat j.area)),(9,.i .i64 (2+(1-ofNat j.area)*60)),(10,.i .i64 0)]) (wL s j.gen j.area r u false) .ret
    (mkT [(4,.i .i64 13)]) (wL R.2.1 j.gen j.area r u true):=by rw [eT];exact l1
   exact con_d (rrwL_vq s R.2.1 (sumP m n 0) (nxV s j) j.gen j.area r u n m b d on d2) ⟨trivial,l0,d,trivial,trivial,on,nx,d2,trivial,r1,r2,r3,l1',rfl⟩
theorem oaR_vc (n k:Nat) (m:Nat→Nat) (b:Nat→Nat→Nat) (h1:decide (ofNat k<ofNat n)=true) (K:Res→Orc→Prop):runK PG 1000000 (.code (loopAt PG 15 0) 19 (mkT [(3,.lr 0 1 0 k false),(6,.sv 1 n (recF m b)),(7,.i .i64 (ofNat n)),(8,.i .i64 (ofNat k))]) (mkH [some (.rows 38 1 k (recF m b))])) (.t (.cal [] (.sv 1 (m k) (byF (b (Int.toNat (ofNat k))))) [] .z)) K=((fun (q1:Nat→Nat→CV)=>((fun (q0:AV)=>(decide (ofNat k<ofNat n)=true∧(0≤ofNat k∧ofNat k<↑n)∧True∧Con PG 25 [.sv 1 (m k) q1] [] q0 []∧(0+k≤k∧True∧k+1≤140737488355328∧(3*(k+1)+1536)*24≤562949953421312)∧rg (ofNat k+1)∧K (.st .nrm (t0 (t0 (t1 (.lr 2 1 0 (addN k 1) false) (t1 (inv n) (tl (.l 1 0 1 1 1 true)) .e) (tl q0)) (t1 q0 (t1 (.b (decide (ofNat k<ofNat n))) (tl (.i .i64 (ofNat k+1))) .e) (tl q0))) (t0 (t0 (t1 (.i .i64 (ofNat k+1)) (tl (.lr 2 1 0 (addN k 1) false)) .e) (tl (.lr 0 1 0 k false))) (t1 (.sv 1 n (recF m b)) (tl (.pv 1 (recF m b k))) (tl q0)))) ⟨t0 (tl (.cells 38 1 [] (tl q0))) (tl (.rows 38 1 (addN k 1) (appZ k (recF m b) (listF 1 [CV.sv 1 (m k) q1] 1)))),3,[2,0,1]⟩) .z)) (.sv 1 (m k) q1))) (byF (b (Int.toNat (ofNat k))))):=by kernel_rfl
theorem oaE_vc (n k:Nat) (m:Nat→Nat) (b:Nat→Nat→Nat) (h1:decide (ofNat k<ofNat n)=false) (K:Res→Orc→Prop):runK PG 1000000 (.code (loopAt PG 15 0) 19 (mkT [(3,.lr 0 1 0 k false),(6,.sv 1 n (recF m b)),(7,.i .i64 (ofNat n)),(8,.i .i64 (ofNat k))]) (mkH [some (.rows 38 1 k (recF m b))])) (.f .z) K=(decide (ofNat k<ofNat n)=false∧K (.st (.exit 0) (t0 (t0 (t1 (.lr 0 1 0 k false) (tn n) .e) (t0 (tl (.b (decide (ofNat k<ofNat n)))) .e)) (t0 (t0 (tn k) .e) (tl (.sv 1 n (recF m b))))) ⟨tl (AObj.rows 38 1 k (recF m b)),1,[]⟩) .z):=by kernel_rfl
theorem oaM_vc (n:Nat) (m:Nat→Nat) (b:Nat→Nat→Nat) (K:Res→Orc→Prop):runK PG 1000000 (.call 15 [.sv 1 n (recF m b)] (mkH [])) (.lop [] [3,6,7,8] 0 (.exit 0) [(3,.lr 0 1 0 n false)] [some (.rows 38 1 n (recF m b))] .z) K=(LDoes PG (loopAt PG 15 0) 19 0 (mkT [(3,.l0),(6,.sv 1 n (recF m b)),(7,.i .i64 (ofNat n)),(8,.i .i64 0)]) [] (.exit 0) (mkT [(3,.lr 0 1 0 n false)]) [some (.rows 38 1 n (recF m b))]∧K (.rv (.lr 0 1 0 n false) ⟨tl (AObj.rows 38 1 n (recF m b)),1,[0]⟩) .z):=by kernel_rfl
theorem oa_lp (n:Nat) (m:Nat→Nat) (b:Nat→Nat→Nat) (hn:n≤5864062014634) (hm:∀i,i<n→m i≤140737488351232):LDoes PG (loopAt PG 15 0) 19 0 (mkT [(3,.l0),(6,.sv 1 n (recF m b)),(7,.i .i64 (ofNat n)),(8,.i .i64 0)]) [] (.exit 0) (mkT [(3,.lr 0 1 0 n false)]) [some (.rows 38 1 n (recF m b))]:=by
 have key:LDoes PG (loopAt PG 15 0) 19 0 (mkT [(3,.lr 0 1 0 0 false),(6,.sv 1 n (recF m b)),(7,.i .i64 (ofNat n)),(8,.i .i64 0)]) [some (.rows 38 1 0 (recF m b))] (.exit 0) (mkT [(3,.lr 0 1 0 n false)]) [some (.rows 38 1 n (recF m b))]:=by
  refine loop_indV (D:=Nat) (l':=[(3,.lr 0 1 0 n false)]) (fun k=>([(3,.lr 0 1 0 k false),(6,.sv 1 n (recF m b)),(7,.i .i64 (ofNat n)),(8,.i .i64 (ofNat k))],[some (.rows 38 1 k (recF m b))])) (fun k=>n-k) (fun k=>k≤n) (fun k hk=>?_) 0 (Nat.zero_le _)
  refine ⟨Nat.zero_le _,?_⟩
  by_cases e:k=n
  · subst e
    have h1:decide (ofNat k<ofNat k)=false:=by simp
    exact ⟨_,_,(oaE_vc k k m b h1 _).mpr ⟨h1,.inr ⟨[0],[],_,_,_,_,rfl,by simp,st_k [0] (by kernel_rfl),TVL.refl _,OVL.refl _⟩⟩⟩
  have hlt:k<n:=by omega
  have h1:decide (ofNat k<ofNat n)=true:=by simp;omega
  refine ⟨_,_,(oaR_vc n k m b h1 _).mpr ⟨h1,⟨by simp,by simp;omega⟩,trivial,jown_con _ _ (hm k hlt),⟨by omega,trivial,by omega,by omega⟩,⟨by simp<;>omega,by simp<;>omega⟩,.inl ⟨k+1,[2],[],_,_,[(3,.lr 0 1 0 (addN k 1) false),(6,.sv 1 n (recF m b)),(7,.i .i64 (ofNat n)),(8,.i .i64 (ofNat k+1))],
   [some (.rows 38 1 (addN k 1) (appZ k (recF m b) (listF 1 [CV.sv 1 (m k) (byF (b (Int.toNat (ofNat k))))] 1)))],hlt,by show n-(k+1)<n-k;omega,rfl,st_k [2] (by kernel_rfl),?_,?_⟩⟩⟩
  · rw [addN_eq];exact .refl _
  · rw [addN_eq]
    refine ⟨.rowsW fun t j ht hj=>?_,trivial⟩
    obtain rfl:j=0:=by omega
    refine (appZ_CW _ _ _ _ _).trans ?_
    by_cases hc:t<k
    · rw [lt_ hc,cond_true];exact .refl _
    · rw [lf hc,cond_false]
      have:t=k:=by omega
      subst this
      rw [Nat.sub_self]
      exact .refl _
 exact key.weak ⟨rfl,.inr ⟨rfl,.inl ⟨0,1,0,false,rfl⟩⟩,rfl,.inl rfl,rfl,.inl rfl,rfl,.inl rfl,trivial⟩ (by intro o ho;simp at ho;subst ho;exact ⟨_,rfl,rfl⟩)
theorem jownA_con (n:Nat) (m:Nat→Nat) (b:Nat→Nat→Nat) (hn:n≤5864062014634) (hm:∀i,i<n→m i≤140737488351232):Con PG 15 [.sv 1 n (recF m b)] [] (.lr 0 1 0 n false) [.set (.rows 38 1 n (recF m b))]:=
 con_of_run [] [0] ((oaM_vc n m b _).mpr ⟨oa_lp n m b hn hm,_,_,rfl,ret_k (by kernel_rfl)⟩)
def eqB (m m2:Nat→Nat) (b b2:Nat→Nat→Nat) (i:Nat):Bool:=natsEq (bytesF (m i) (byF (b i))) (bytesF (m2 i) (byF (b2 i)))
theorem rewriteWorn_con (s:SS) (j:JS) (n:Nat) (m:Nat→Nat) (b:Nat→Nat→Nat) (hd:j.dead=false) (hl:∀i,i<n→m i≤1128) (hs:sumP m n 0≤60) (ha:j.area≤1) (on:s.off=false) (h122:122≤s.n) (h512:s.n≤512) (hB:Byt s) (w:1073741824≤j.gen∨1073741824<nxV s j) :
 Con PG 14 [.p 1 0,.sv 1 n (recF m b)] [some s.o,some j.o] (.i .i64 15) [.keep,.keep]:=by
 have hn60:=sumP_ge m n 0
 have ft:=fitOk_con 60 n m b (by omega) hl (by simp;omega)
 have nx:Con PG 51 [.p 1 0] [some s.o,some j.o] (.tup [.i .i64 (ofNat 0),.i .i64 15]) [.keep,.keep]:=by
  by_cases c:1073741824≤j.gen
  · exact nextWorn_con s j c
  · have k:=next_con s j (by omega) ha on h122 h512 hB
    rw [bf (show ¬nxV s j≤1073741824 by rcases w with w | w<;>omega),cond_false] at k
    exact k
 exact con_of_run [] [] ((rwD_vc s j 0 15 (ofNat (sumP m n 0)) 0 n m b hd rfl rfl _).mpr (by repeat' first | exact trivial | refine And.intro ?_ ?_ | assumption | exact nt (by assumption) | exact nf (by assumption) | exact nnt (by assumption) | exact nnf (by assumption) | (decide;done) | exact ⟨_,_,rfl,ret_k (by kernel_rfl)⟩))
section
variable {s:SS} {j:JS} {mm n:Nat} {m:Nat→Nat} {b:Nat→Nat→Nat}
end
end Go.Proofs.Jn
namespace Go.Proofs.Jn
open Go Go.Sim Go.Proofs Go.Proofs.Cd Go.Proofs.St Go.Proofs.Cl Go.Proofs.YtbilafnamckglaaDoor
theorem sm5_vq (c:Nat) (F G:Nat→Nat→CV):VD PG 23 [.sv 1 c F,.sv 1 c G] [] (.cal [] (.b true) [] .z) (.b true) [] [] 0 (fun Lf=>Con PG 33 [.sv 1 c F,.sv 1 c G] [] (.b true) []∧Lf):=by unfold VD VQ;kernel_rfl
def gn (d:Nat→Int):Nat:=stG fun t=>(d t).toNat
structure GB (s:SS) (B:Nat):Prop where
 dur:∀q,gn (s.dur q)≤B
 P:∀w∈s.P,gn w.2≤B
theorem stG0:stG (fun _=>0)=0:=by unfold stG;rw [ptB_f zero_bad,cond_false]
section
variable {s:SS} {B:Nat}
theorem GB.bB (h:GB s B) (q:Nat):stG (Jn.bB s q)≤B:=by
 unfold Jn.bB
 split
 · show stG (fun k=>(s.rdB (ofNat q) k).toNat)≤B
   unfold SS.rdB
   cases c:lB s.P (ofNat q).toNat with
   | true=>
     obtain ⟨w,q1,_,q3⟩:=lbs_mem c
     simp only [q3]
     exact h.P w q1
   | false=>exact h.dur _
 · rw [stG0];exact Nat.zero_le _
end
def JS.u (j:JS):Nat:=60-j.room.toNat
abbrev wJ (s:SS) (j:JS):List (Option AObj):=[some (rsA 3 s),some (rsR s),some (rjO j.gen j.area j.recs j.u j.dead),some (rsP s)]
structure PJ (B M:Nat) (s:SS) (j:JS):Prop where
 n:122≤s.n
 ok:OkM s M
 byt:Byt s
 area:j.area≤1
 g:j.gen≤B
 gb:GB s B
 r:∃rm,rm≤60∧j.room=ofNat rm∧j.recs≤60-rm
def Bth (f g:FuncId) (pa ra:List AV) (s:SS) (j:JS) (s2:SS) (j2:JS):Prop:=
 (∃E:Int,Con PG f (.p 1 0 :: pa) [some s.o,some j.o] (.i .i64 E) [.set s2.o,.set j2.o]∧Con PG g (.p 2 0 :: ra) (wJ s j) (.i .i64 E) [.set (rsA 4 s2),.set (rsR s2),.set (rjO j2.gen j2.area j2.recs j2.u j2.dead),.gone,.set (rsP s2)])∨
 (s2=s∧∃E:Int,Con PG f (.p 1 0 :: pa) [some s.o,some j.o] (.i .i64 E) [.keep,.set j2.o]∧Con PG g (.p 2 0 :: ra) (wJ s j) (.i .i64 E) [.keep,.keep,.set (rjO j2.gen j2.area j2.recs j2.u j2.dead),.keep])
theorem bth_keep {f g:FuncId} {pa ra:List AV} {s:SS} {j:JS} {E:Int} (h1:Con PG f (.p 1 0 :: pa) [some s.o,some j.o] (.i .i64 E) [.keep,.keep]) (h2:Con PG g (.p 2 0 :: ra) (wJ s j) (.i .i64 E) kp4):Bth f g pa ra s j s j:=
 .inr ⟨rfl,E,h1.post (.refl _) (OVL.refl _),h2.post (.refl _) (OVL.refl _)⟩
theorem u_of {j:JS} {rm:Nat} (h:j.room=ofNat rm):j.u=60-rm:=by unfold JS.u;rw [h];rfl
theorem wJ_wL {s:SS} {j:JS} {d:Bool} {rm:Nat} (h:j.room=ofNat rm) (hd:j.dead=d):wJ s j=wL s j.gen j.area j.recs (60-rm) d:=by unfold wJ wL;rw [u_of h,hd]
theorem first_long (n:Nat) (m:Nat→Nat):(∀i,i<n→m i≤1128)∨∃k,k<n∧1128<m k∧∀i,i<k→m i≤1128:=by
 rcases first_bad (fun i=>m i≤1128) n with h | ⟨q,h1,h2,h3⟩
 · exact .inl h
 · exact .inr ⟨q,h1,by omega,h3⟩
end Go.Proofs.Jn
namespace Go.Proofs.St
open Go Go.Sim Go.Proofs Go.Proofs.YtbilafnamckglaaDoor
theorem sameR_vc (n m k:Nat) (ll mm:Nat→Nat) (bb cb:Nat→Nat→Nat) (K:Res→Orc→Prop):runK PG 1000000 (.code (loopAt PG 33 0) 28 (mkT [(0,.sv 1 n (imF ll bb)),(1,.sv 1 m (imF mm cb)),(5,.i .i64 (ofNat k))]) (mkH [])) (.s (.s .z .z) .z) K=((fun (q2:AV)=>((fun (q1:AV)=>((fun (q0:AV)=>((decide (ofNat k<ofNat n)=true→(0≤ofNat k∧ofNat k<↑n)∧True∧(U8s (ll k) fun k_1 x=>CV.i .u8 (ofNat (bb k k_1)))∧(0≤ofNat k∧ofNat k<↑m)∧True∧(U8s (mm k) fun k_1 x=>CV.i .u8 (ofNat (cb k k_1)))∧((!natsEq (bytesF (ll k) fun k_1 x=>CV.i .u8 (ofNat (bb k k_1))) (bytesF (mm k) fun k_1 x=>CV.i .u8 (ofNat (cb k k_1))))=true→K (.st .ret (t1 q0 (t1 q2 (t0 (t0 .e (tn k)) (t1 (inv k) (tl (.pv 1 (imF ll bb k))) (tl (.b !natsEq (bytesF (ll k) fun k_1 x=>CV.i .u8 (ofNat (bb k k_1))) (bytesF (mm k) fun k_1 x=>CV.i .u8 (ofNat (cb k k_1))))))) (t1 (inv k) (t0 (tl q0) (tl (.sv 1 (mm k) fun k_1 x=>CV.i .u8 (ofNat (cb k k_1))))) (t1 (inv n) (tl (.s (bytesF (ll k) fun k_1 x=>CV.i .u8 (ofNat (bb k k_1))))) .e))) (t0 (t1 (.b false) (t0 .e (tl (.pv 1 (imF mm cb k)))) (t1 q0 (tl (.sv 1 (ll k) fun k_1 x=>CV.i .u8 (ofNat (bb k k_1)))) .e)) (t0 (t0 (tn k) (tl (.s (bytesF (mm k) fun k_1 x=>CV.i .u8 (ofNat (cb k k_1)))))) (t1 q1 (tl q2) .e)))) ⟨.e,0,[]⟩) .z)∧((!natsEq (bytesF (ll k) fun k_1 x=>CV.i .u8 (ofNat (bb k k_1))) (bytesF (mm k) fun k_1 x=>CV.i .u8
 (ofNat (cb k k_1))))=false→rg (ofNat k+1)∧K (.st .nrm (t1 q0 (t1 q2 (t0 (t0 (tn k) (tn k)) (t1 (inv k) (tl (.pv 1 (imF ll bb k))) (tl (.b !natsEq (bytesF (ll k) fun k_1 x=>CV.i .u8 (ofNat (bb k k_1))) (bytesF (mm k) fun k_1 x=>CV.i .u8 (ofNat (cb k k_1))))))) (t1 (.i .i64 (ofNat k+1)) (t0 (tl q0) (tl (.sv 1 (mm k) fun k_1 x=>CV.i .u8 (ofNat (cb k k_1))))) (t1 (inv n) (tl (.s (bytesF (ll k) fun k_1 x=>CV.i .u8 (ofNat (bb k k_1))))) .e))) (t0 (t0 (t0 (tl (.i .i64 (ofNat k+1))) (tl (.pv 1 (imF mm cb k)))) (t1 q0 (tl (.sv 1 (ll k) fun k_1 x=>CV.i .u8 (ofNat (bb k k_1)))) .e)) (t0 (t0 (tn k) (tl (.s (bytesF (mm k) fun k_1 x=>CV.i .u8 (ofNat (cb k k_1)))))) (t1 q1 (tl q2) .e)))) ⟨.e,0,[]⟩) .z))∧(decide (ofNat k<ofNat n)=false→K (.st (.exit 0) (t1 q0 (t1 q2 (t0 .e (tn k)) (t1 (inv k) .e (tn n))) (t0 (t0 .e (tl q0)) (t0 .e (tl q1)))) ⟨.e,0,[]⟩) .z))) (.sv 1 n (imF ll bb)))) (.b (decide (ofNat k<ofNat n))))) (.sv 1 m (imF mm cb))):=by kernel_rfl
theorem same_vc (n m:Nat) (ll mm:Nat→Nat) (bb cb:Nat→Nat→Nat) (K:Res→Orc→Prop):runK PG 1000000 (.call 33 [.sv 1 n (imF ll bb),.sv 1 m (imF mm cb)] (mkH [])) (.s .z (.lop [] [0,1,5] 0 (.exit 0) [] [] .z)) K=(((!decide (ofNat n=ofNat m))=true→K (.rv (.b false) ⟨.e,0,[]⟩) .z)∧((!decide (ofNat n=ofNat m))=false→LDoes PG (loopAt PG 33 0) 28 0 (mkT [(0,.sv 1 n (imF ll bb)),(1,.sv 1 m (imF mm cb)),(5,.i .i64 0)]) [] (.exit 0) (mkT []) []∧K (.rv (.b true) ⟨.e,0,[]⟩) .z)):=by kernel_rfl
theorem im_u8 (n:Nat) (b:Nat→Nat):U8s n fun k _=>.i .u8 (ofNat (b k)):=fun k hk=>⟨b k,rfl⟩
theorem nats_same (a:List Nat):natsEq a a=true:=(natsEq_iff a a).2 rfl
theorem bytes_same {n:Nat} {b c:Nat→Nat} (h:∀k,k<n→c k=b k):bytesF n (fun k _=>.i .u8 (ofNat (b k)))=bytesF n (fun k _=>.i .u8 (ofNat (c k))):=by
 unfold bytesF
 refine List.map_congr_left fun k hk=>?_
 show Go.Sim.byteOf (CV.i .u8 (ofNat (b k)))=Go.Sim.byteOf (CV.i .u8 (ofNat (c k)))
 rw [h k (List.mem_range.1 hk)]
theorem sameG_lp (n:Nat) (ll mm:Nat→Nat) (bb cb:Nat→Nat→Nat) (hn:n≤512) (he:∀i,i<n→mm i=ll i∧∀k,k<ll i→cb i k=bb i k) :
 LDoes PG (loopAt PG 33 0) 28 0 (mkT [(0,.sv 1 n (imF ll bb)),(1,.sv 1 n (imF mm cb)),(5,.i .i64 0)]) [] (.exit 0) (mkT []) []:=by
 refine loop_ind (D:=Nat) (l':=[]) (fun k=>([(0,.sv 1 n (imF ll bb)),(1,.sv 1 n (imF mm cb)),(5,.i .i64 (ofNat k))],[])) (fun k=>n-k) (fun k=>k≤n) ?_ 0 (Nat.zero_le n)
 intro k hk
 refine ⟨Nat.zero_le _,1000000,_,(sameR_vc n n k ll mm bb cb _).mpr ⟨fun h=>?_,fun h=>?_⟩⟩
 · have hlt:k<n:=by have:=of_decide_eq_true h;simp at this;omega
   obtain ⟨e1,e2⟩:=he k hlt
   have u1:=im_u8 (ll k) (bb k)
   have u2:=im_u8 (mm k) (cb k)
   have ne:(!natsEq (bytesF (ll k) fun q _=>CV.i .u8 (ofNat (bb k q))) (bytesF (mm k) fun q _=>CV.i .u8 (ofNat (cb k q))))=false:=by
    rw [e1,←bytes_same e2,nats_same];rfl
   exact ⟨⟨by simp,by simp;omega⟩,trivial,u1,⟨by simp,by simp;omega⟩,trivial,u2,fun h=>(by rw [ne] at h;cases h),fun _=>⟨⟨by simp<;>omega,by simp<;>omega⟩,.inl ⟨k+1,[],[],_,_,hlt,by show n-(k+1)<n-k;omega,rfl,
    st_is [] (by kernel_rfl) rfl rfl rfl trivial rfl⟩⟩⟩
 · exact .inr ⟨[],[],_,_,rfl,by simp,st_is [] (by kernel_rfl) rfl rfl rfl trivial rfl⟩
theorem same_con (n:Nat) (ll mm:Nat→Nat) (bb cb:Nat→Nat→Nat) (hn:n≤512) (he:∀i,i<n→mm i=ll i∧∀k,k<ll i→cb i k=bb i k) :
 Con PG 33 [.sv 1 n (imF ll bb),.sv 1 n (imF mm cb)] [] (.b true) []:=
 con_plain rfl ((same_vc n n ll mm bb cb _).mpr ⟨fun h=>absurd h (by simp),fun _=>⟨sameG_lp n ll mm bb cb hn he,_,_,rfl,rfl⟩⟩)
end Go.Proofs.St
