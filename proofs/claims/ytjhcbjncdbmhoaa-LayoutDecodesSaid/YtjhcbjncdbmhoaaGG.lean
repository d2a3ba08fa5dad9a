/- Runs over unknown values, told by the kernel: part GG. -/
import Derived.Test.YtjhcbjncdbmhoaaGF
set_option linter.unusedSimpArgs false
set_option linter.unusedVariables false
set_option maxRecDepth 20000
namespace Go.Proofs.Ly
open Go Go.Sim Go.Proofs Go.Proofs.Cl Go.Proofs.Ytjhcbjncdbmhoaa
theorem sg_ov {a b:Nat->Bool} (h:∀k,k<32->a k=b k):OV (some (cellsD 37 [.b false,.b false,.b false,.b false,.b false,.b false,.b false,.b false,.b false,.b false,.b false,.b false,.b false,.b false,.b false,.b false,.b false,.b false,.b false,.b false,.b false,.b false,.b false,.b false,.b false,.b false,.b false,.b false,.b false,.b false,.b false,.b false] [.b (a 0),.b (a 1),.b (a 2),.b (a 3),.b (a 4),.b (a 5),.b (a 6),.b (a 7),.b (a 8),.b (a 9),.b (a 10),.b (a 11),.b (a 12),.b (a 13),.b (a 14),.b (a 15),.b (a 16),.b (a 17),.b (a 18),.b (a 19),.b (a 20),.b (a 21),.b (a 22),.b (a 23),.b (a 24),.b (a 25),.b (a 26),.b (a 27),.b (a 28),.b (a 29),.b (a 30),.b (a 31)])) (some (cellsD 37 [.b false,.b false,.b false,.b false,.b false,.b false,.b false,.b false,.b false,.b false,.b false,.b false,.b false,.b false,.b false,.b false,.b false,.b false,.b false,.b false,.b false,.b false,.b false,.b false,.b false,.b false,.b false,.b false,.b false,.b false,.b false,.b false] [.b (b 0),.b (b 1),.b (b 2),.b (b 3),.b (b 4),.b (b 5),.b (b 6),.b (b 7),.b (b 8),.b (b 9),.b (b 10),.b (b 11),.b (b 12),.b (b 13),.b (b 14),.b (b 15),.b (b 16),.b (b 17),.b (b 18),.b (b 19),.b (b 20),.b (b 21),.b (b 22),.b (b 23),.b (b 24),.b (b 25),.b (b 26),.b (b 27),.b (b 28),.b (b 29),.b (b 30),.b (b 31)])):=by
 rw [h 0 (by decide),h 1 (by decide),h 2 (by decide),h 3 (by decide),h 4 (by decide),h 5 (by decide),h 6 (by decide),h 7 (by decide),h 8 (by decide),h 9 (by decide),h 10 (by decide),h 11 (by decide),h 12 (by decide),h 13 (by decide),h 14 (by decide),h 15 (by decide),h 16 (by decide),h 17 (by decide),h 18 (by decide),h 19 (by decide),h 20 (by decide),h 21 (by decide),h 22 (by decide),h 23 (by decide),h 24 (by decide),h 25 (by decide),h 26 (by decide),h 27 (by decide),h 28 (by decide),h 29 (by decide),h 30 (by decide),h 31 (by decide)];exact .refl _
theorem po_ov {a b:Nat->Int} (h:∀k,k<8->a k=b k):OV (some (cellsD 32 [.i .i64 0,.i .i64 0,.i .i64 0,.i .i64 0,.i .i64 0,.i .i64 0,.i .i64 0,.i .i64 0] [.i .i64 (a 0),.i .i64 (a 1),.i .i64 (a 2),.i .i64 (a 3),.i .i64 (a 4),.i .i64 (a 5),.i .i64 (a 6),.i .i64 (a 7)])) (some (cellsD 32 [.i .i64 0,.i .i64 0,.i .i64 0,.i .i64 0,.i .i64 0,.i .i64 0,.i .i64 0,.i .i64 0] [.i .i64 (b 0),.i .i64 (b 1),.i .i64 (b 2),.i .i64 (b 3),.i .i64 (b 4),.i .i64 (b 5),.i .i64 (b 6),.i .i64 (b 7)])):=by
 rw [h 0 (by decide),h 1 (by decide),h 2 (by decide),h 3 (by decide),h 4 (by decide),h 5 (by decide),h 6 (by decide),h 7 (by decide)];exact .refl _
noncomputable def gS (y i k:Nat):Bool:=bif Nat.blt k i then bt y k else false
noncomputable def gT (y z i k:Nat):Bool:=bif Nat.blt k 8 then bt y k else bif Nat.blt (k-8) i then bt z (k-8) else false
noncomputable def hS (f:Nat->Nat) (i k:Nat):Int:=bif Nat.blt k i then Int.ofNat (f k) else 0
theorem bT {a b:Nat} (h:a<b):Nat.blt a b=true:=by rw [Nat.blt_eq];exact h
theorem bF {a b:Nat} (h:b<=a):Nat.blt a b=false:=by rw [Bool.eq_false_iff,ne_eq,Nat.blt_eq];omega
theorem qT (a:Nat):Nat.beq a a=true:=by rw [Nat.beq_eq]
theorem qF {a b:Nat} (h:a≠b):Nat.beq a b=false:=by rw [Bool.eq_false_iff,ne_eq,Nat.beq_eq];exact h
theorem bt_d (y i:Nat):decide (Int.tmod (Int.ofNat (y / 2 ^ i)) 2=1)=bt y i:=dtm _
theorem gS_s (y i k:Nat) (hi:i<8):(bif Nat.blt k 8 then (bif Nat.beq i k then decide (Int.tmod (Int.ofNat (y / 2 ^ i)) 2=1) else gS y i k) else gS y i k)=gS y (i+1) k:=by
 unfold gS
 rw [bt_d]
 rcases Nat.lt_or_ge k 8 with h | h
 · rw [bT h,cond_true]
   rcases Nat.lt_trichotomy k i with q | rfl | q
   · rw [qF (show i≠k by omega),bT q,bT (show k<i+1 by omega)];rfl
   · rw [qT,bT (show k<k+1 by omega)];rfl
   · rw [qF (show i≠k by omega),bF (show i<=k by omega),bF (show i+1<=k by omega)];rfl
 · rw [bF h,bF (show i<=k by omega),bF (show i+1<=k by omega)];rfl
theorem gT_s (y z i k:Nat) (hi:i<24):(bif Nat.blt k 8 then gT y z i k else (bif Nat.beq i (k-8) then decide (Int.tmod (Int.ofNat (z / 2 ^ i)) 2=1) else gT y z i k))=gT y z (i+1) k:=by
 unfold gT
 rw [bt_d]
 cases Nat.blt k 8 with
 | true=>rfl
 | false=>
   simp only [cond_false]
   generalize k-8=k
   rcases Nat.lt_trichotomy k i with q | rfl | q
   · rw [qF (show i≠k by omega),bT q,bT (show k<i+1 by omega)];rfl
   · rw [qT,bT (show k<k+1 by omega)];rfl
   · rw [qF (show i≠k by omega),bF (show i<=k by omega),bF (show i+1<=k by omega)];rfl
theorem gT_0 (y z k:Nat) (hk:k<32):gS y 8 k=gT y z 0 k:=by
 unfold gS gT
 rw [bF (show 0<=k-8 by omega)];rfl
theorem td_r {y i:Nat} (hy:y<9223372036854775808):rg (Int.tdiv (Int.ofNat (y / 2 ^ i)) 2):=by
 rw [tdv]
 have h1:y / 2 ^ i<=y:=Nat.div_le_self _ _
 generalize y / 2 ^ i=m at h1
 have h2:m / 2<=m:=Nat.div_le_self _ _
 generalize m / 2=p at h2
 exact ⟨by simp<;>omega,by simp<;>omega⟩
theorem sg_lp1 (y z:Nat) (hy:y<9223372036854775808):LDoes Try.prog (loopAt Try.prog 35 0) 63 3 (mkT [(2,.p 0 0),(4,.l 1 0 2 2 1 false),(5,.p 2 0),(6,.i .i64 0)]) [some (.cells 37 32 [.b false,.b false,.b false,.b false,.b false,.b false,.b false,.b false,.b false,.b false,.b false,.b false,.b false,.b false,.b false,.b false,.b false,.b false,.b false,.b false,.b false,.b false,.b false,.b false,.b false,.b false,.b false,.b false,.b false,.b false,.b false,.b false] .e),some (cellsO 3 [.i .i64 (Int.ofNat y),.i .i64 (Int.ofNat z)]),some (cellsD 37 [.b false,.b false,.b false,.b false,.b false,.b false,.b false,.b false,.b false,.b false,.b false,.b false,.b false,.b false,.b false,.b false,.b false,.b false,.b false,.b false,.b false,.b false,.b false,.b false,.b false,.b false,.b false,.b false,.b false,.b false,.b false,.b false] [.b false,.b false,.b false,.b false,.b false,.b false,.b false,.b false,.b false,.b false,.b false,.b false,.b false,.b false,.b false,.b false,.b false,.b false,.b false,.b false,.b false,.b false,.b false,.b false,.b false,.b false,.b false,.b false,.b false,.b false,.b false,.b false])] (.exit 0) (mkT [(2,.p 0 0),(4,.l 1 0 2 2 1 false),(5,.p 2 0)]) [some (.cells 37 32 [.b false,.b false,.b false,.b false,.b false,.b false,.b false,.b false,.b false,.b false,.b false,.b false,.b false,.b false,.b false,.b false,.b false,.b false,.b false,.b false,.b false,.b false,.b false,.b false,.b false,.b false,.b false,.b false,.b false,.b false,.b false,.b false] .e),some (cellsO 3 [.i .i64 (Int.ofNat (y / 2 ^ 8)),.i .i64 (Int.ofNat z)]),some (cellsD 37 [.b false,.b false,.b false,.b false,.b false,.b false,.b false,.b false,.b false,.b false,.b false,.b false,.b false,.b false,.b false,.b false,.b false,.b false,.b false,.b false,.b false,.b false,.b false,.b false,.b false,.b false,.b false,.b false,.b false,.b false,.b false,.b false] [.b (gS y 8 0),.b (gS y 8 1),.b (gS y 8 2),.b (gS y 8 3),.b (gS y 8 4),.b (gS y 8 5),.b (gS y 8 6),.b (gS y 8 7),.b (gS y 8 8),.b (gS y 8 9),.b (gS y 8 10),.b (gS y 8 11),.b (gS y 8 12),.b (gS y 8 13),.b (gS y 8 14),.b (gS y 8 15),.b (gS y 8 16),.b (gS y 8 17),.b (gS y 8 18),.b (gS y 8 19),.b (gS y 8 20),.b (gS y 8 21),.b (gS y 8 22),.b (gS y 8 23),.b (gS y 8 24),.b (gS y 8 25),.b (gS y 8 26),.b (gS y 8 27),.b (gS y 8 28),.b (gS y 8 29),.b (gS y 8 30),.b (gS y 8 31)])]:=by
 have key:=loop_q (P:=Try.prog) (c:=loopAt Try.prog 35 0) (n:=63) (b:=3) (x:=.exit 0) (l':=[(2,.p 0 0),(4,.l 1 0 2 2 1 false),(5,.p 2 0)]) (objs':=[some (.cells 37 32 [.b false,.b false,.b false,.b false,.b false,.b false,.b false,.b false,.b false,.b false,.b false,.b false,.b false,.b false,.b false,.b false,.b false,.b false,.b false,.b false,.b false,.b false,.b false,.b false,.b false,.b false,.b false,.b false,.b false,.b false,.b false,.b false] .e),some (cellsO 3 [.i .i64 (Int.ofNat (y / 2 ^ 8)),.i .i64 (Int.ofNat z)]),some (cellsD 37 [.b false,.b false,.b false,.b false,.b false,.b false,.b false,.b false,.b false,.b false,.b false,.b false,.b false,.b false,.b false,.b false,.b false,.b false,.b false,.b false,.b false,.b false,.b false,.b false,.b false,.b false,.b false,.b false,.b false,.b false,.b false,.b false] [.b (gS y 8 0),.b (gS y 8 1),.b (gS y 8 2),.b (gS y 8 3),.b (gS y 8 4),.b (gS y 8 5),.b (gS y 8 6),.b (gS y 8 7),.b (gS y 8 8),.b (gS y 8 9),.b (gS y 8 10),.b (gS y 8 11),.b (gS y 8 12),.b (gS y 8 13),.b (gS y 8 14),.b (gS y 8 15),.b (gS y 8 16),.b (gS y 8 17),.b (gS y 8 18),.b (gS y 8 19),.b (gS y 8 20),.b (gS y 8 21),.b (gS y 8 22),.b (gS y 8 23),.b (gS y 8 24),.b (gS y 8 25),.b (gS y 8 26),.b (gS y 8 27),.b (gS y 8 28),.b (gS y 8 29),.b (gS y 8 30),.b (gS y 8 31)])]) (D:=Nat)
  (fun i:Nat=>([(2,.p 0 0),(4,.l 1 0 2 2 1 false),(5,.p 2 0),(6,.i .i64 (Int.ofNat i))],[some (.cells 37 32 [.b false,.b false,.b false,.b false,.b false,.b false,.b false,.b false,.b false,.b false,.b false,.b false,.b false,.b false,.b false,.b false,.b false,.b false,.b false,.b false,.b false,.b false,.b false,.b false,.b false,.b false,.b false,.b false,.b false,.b false,.b false,.b false] .e),some (cellsO 3 [.i .i64 (Int.ofNat (y / 2 ^ i)),.i .i64 (Int.ofNat z)]),some (cellsD 37 [.b false,.b false,.b false,.b false,.b false,.b false,.b false,.b false,.b false,.b false,.b false,.b false,.b false,.b false,.b false,.b false,.b false,.b false,.b false,.b false,.b false,.b false,.b false,.b false,.b false,.b false,.b false,.b false,.b false,.b false,.b false,.b false] [.b (gS y i 0),.b (gS y i 1),.b (gS y i 2),.b (gS y i 3),.b (gS y i 4),.b (gS y i 5),.b (gS y i 6),.b (gS y i 7),.b (gS y i 8),.b (gS y i 9),.b (gS y i 10),.b (gS y i 11),.b (gS y i 12),.b (gS y i 13),.b (gS y i 14),.b (gS y i 15),.b (gS y i 16),.b (gS y i 17),.b (gS y i 18),.b (gS y i 19),.b (gS y i 20),.b (gS y i 21),.b (gS y i 22),.b (gS y i 23),.b (gS y i 24),.b (gS y i 25),.b (gS y i 26),.b (gS y i 27),.b (gS y i 28),.b (gS y i 29),.b (gS y i 30),.b (gS y i 31)])])) (fun i=>8-i) (fun i=>i<=8) (fun _=>Nat.le_refl _) ?_ 0 (Nat.zero_le _)
 · rw [Nat.pow_zero,Nat.div_one] at key;exact key
 intro i hi
 rcases Nat.lt_or_ge i 8 with hlt | q
 · have h1:decide (Int.ofNat i<8)=true:=decide_eq_true (by simp;omega)
   have bi:(0:Int)<=Int.ofNat i/\Int.ofNat i<(8:Int):=⟨by simp,by simp;omega⟩
   have ri:rg (Int.ofNat i+1):=⟨by simp<;>omega,by simp<;>omega⟩
   obtain ⟨td1,td2⟩:=td_r (i:=i) hy
   exact rd_nrm (sgA_lq (gS y i) (y / 2 ^ i) z i h1) (by repeat' first | exact trivial | assumption | exact rfl | exact nT (by assumption) | exact nF (by assumption) | exact nnT (by assumption) | exact nnF (by assumption) | apply And.intro | decide) (i+1) hlt (by show 8-(i+1)<8-i;omega) rfl (.refl _) ⟨.refl _,by rw [tdv,div2];exact .refl _,sg_ov (a:=fun k=>bif Nat.blt k 8 then (bif Nat.beq i k then decide (Int.tmod (Int.ofNat (y / 2 ^ i)) 2=1) else gS y i k) else gS y i k) (b:=gS y (i+1)) (fun k hk=>gS_s y i k hlt),trivial⟩
 · obtain rfl:i=8:=Nat.le_antisymm hi q
   have h1:decide (Int.ofNat 8<8)=false:=decide_eq_false (by simp)
   exact rd_out (sgB_lq (gS y 8) (y / 2 ^ 8) z 8 h1) (by repeat' first | exact trivial | assumption | exact rfl | exact nT (by assumption) | exact nF (by assumption) | exact nnT (by assumption) | exact nnF (by assumption) | apply And.intro | decide) rfl rfl (.refl _) (.refl _)
theorem sg_lp2 (y0 y z:Nat) (hz:z<9223372036854775808):LDoes Try.prog (loopAt Try.prog 35 1) 63 3 (mkT [(2,.p 0 0),(4,.l 1 0 2 2 1 false),(5,.p 2 0),(7,.i .i64 0)]) [some (.cells 37 32 [.b false,.b false,.b false,.b false,.b false,.b false,.b false,.b false,.b false,.b false,.b false,.b false,.b false,.b false,.b false,.b false,.b false,.b false,.b false,.b false,.b false,.b false,.b false,.b false,.b false,.b false,.b false,.b false,.b false,.b false,.b false,.b false] .e),some (cellsO 3 [.i .i64 (Int.ofNat y),.i .i64 (Int.ofNat z)]),some (cellsD 37 [.b false,.b false,.b false,.b false,.b false,.b false,.b false,.b false,.b false,.b false,.b false,.b false,.b false,.b false,.b false,.b false,.b false,.b false,.b false,.b false,.b false,.b false,.b false,.b false,.b false,.b false,.b false,.b false,.b false,.b false,.b false,.b false] [.b (gS y0 8 0),.b (gS y0 8 1),.b (gS y0 8 2),.b (gS y0 8 3),.b (gS y0 8 4),.b (gS y0 8 5),.b (gS y0 8 6),.b (gS y0 8 7),.b (gS y0 8 8),.b (gS y0 8 9),.b (gS y0 8 10),.b (gS y0 8 11),.b (gS y0 8 12),.b (gS y0 8 13),.b (gS y0 8 14),.b (gS y0 8 15),.b (gS y0 8 16),.b (gS y0 8 17),.b (gS y0 8 18),.b (gS y0 8 19),.b (gS y0 8 20),.b (gS y0 8 21),.b (gS y0 8 22),.b (gS y0 8 23),.b (gS y0 8 24),.b (gS y0 8 25),.b (gS y0 8 26),.b (gS y0 8 27),.b (gS y0 8 28),.b (gS y0 8 29),.b (gS y0 8 30),.b (gS y0 8 31)])] (.exit 2) (mkT [(2,.p 0 0),(4,.l 1 0 2 2 1 false),(5,.p 2 0)]) [some (.cells 37 32 [.b false,.b false,.b false,.b false,.b false,.b false,.b false,.b false,.b false,.b false,.b false,.b false,.b false,.b false,.b false,.b false,.b false,.b false,.b false,.b false,.b false,.b false,.b false,.b false,.b false,.b false,.b false,.b false,.b false,.b false,.b false,.b false] .e),some (cellsO 3 [.i .i64 (Int.ofNat y),.i .i64 (Int.ofNat (z / 2 ^ 24))]),some (cellsD 37 [.b false,.b false,.b false,.b false,.b false,.b false,.b false,.b false,.b false,.b false,.b false,.b false,.b false,.b false,.b false,.b false,.b false,.b false,.b false,.b false,.b false,.b false,.b false,.b false,.b false,.b false,.b false,.b false,.b false,.b false,.b false,.b false] [.b (gT y0 z 24 0),.b (gT y0 z 24 1),.b (gT y0 z 24 2),.b (gT y0 z 24 3),.b (gT y0 z 24 4),.b (gT y0 z 24 5),.b (gT y0 z 24 6),.b (gT y0 z 24 7),.b (gT y0 z 24 8),.b (gT y0 z 24 9),.b (gT y0 z 24 10),.b (gT y0 z 24 11),.b (gT y0 z 24 12),.b (gT y0 z 24 13),.b (gT y0 z 24 14),.b (gT y0 z 24 15),.b (gT y0 z 24 16),.b (gT y0 z 24 17),.b (gT y0 z 24 18),.b (gT y0 z 24 19),.b (gT y0 z 24 20),.b (gT y0 z 24 21),.b (gT y0 z 24 22),.b (gT y0 z 24 23),.b (gT y0 z 24 24),.b (gT y0 z 24 25),.b (gT y0 z 24 26),.b (gT y0 z 24 27),.b (gT y0 z 24 28),.b (gT y0 z 24 29),.b (gT y0 z 24 30),.b (gT y0 z 24 31)])]:=by
 have key:=loop_q (P:=Try.prog) (c:=loopAt Try.prog 35 1) (n:=63) (b:=3) (x:=.exit 2) (l':=[(2,.p 0 0),(4,.l 1 0 2 2 1 false),(5,.p 2 0)]) (objs':=[some (.cells 37 32 [.b false,.b false,.b false,.b false,.b false,.b false,.b false,.b false,.b false,.b false,.b false,.b false,.b false,.b false,.b false,.b false,.b false,.b false,.b false,.b false,.b false,.b false,.b false,.b false,.b false,.b false,.b false,.b false,.b false,.b false,.b false,.b false] .e),some (cellsO 3 [.i .i64 (Int.ofNat y),.i .i64 (Int.ofNat (z / 2 ^ 24))]),some (cellsD 37 [.b false,.b false,.b false,.b false,.b false,.b false,.b false,.b false,.b false,.b false,.b false,.b false,.b false,.b false,.b false,.b false,.b false,.b false,.b false,.b false,.b false,.b false,.b false,.b false,.b false,.b false,.b false,.b false,.b false,.b false,.b false,.b false] [.b (gT y0 z 24 0),.b (gT y0 z 24 1),.b (gT y0 z 24 2),.b (gT y0 z 24 3),.b (gT y0 z 24 4),.b (gT y0 z 24 5),.b (gT y0 z 24 6),.b (gT y0 z 24 7),.b (gT y0 z 24 8),.b (gT y0 z 24 9),.b (gT y0 z 24 10),.b (gT y0 z 24 11),.b (gT y0 z 24 12),.b (gT y0 z 24 13),.b (gT y0 z 24 14),.b (gT y0 z 24 15),.b (gT y0 z 24 16),.b (gT y0 z 24 17),.b (gT y0 z 24 18),.b (gT y0 z 24 19),.b (gT y0 z 24 20),.b (gT y0 z 24 21),.b (gT y0 z 24 22),.b (gT y0 z 24 23),.b (gT y0 z 24 24),.b (gT y0 z 24 25),.b (gT y0 z 24 26),.b (gT y0 z 24 27),.b (gT y0 z 24 28),.b (gT y0 z 24 29),.b (gT y0 z 24 30),.b (gT y0 z 24 31)])]) (D:=Nat)
  (fun i:Nat=>([(2,.p 0 0),(4,.l 1 0 2 2 1 false),(5,.p 2 0),(7,.i .i64 (Int.ofNat i))],[some (.cells 37 32 [.b false,.b false,.b false,.b false,.b false,.b false,.b false,.b false,.b false,.b false,.b false,.b false,.b false,.b false,.b false,.b false,.b false,.b false,.b false,.b false,.b false,.b false,.b false,.b false,.b false,.b false,.b false,.b false,.b false,.b false,.b false,.b false] .e),some (cellsO 3 [.i .i64 (Int.ofNat y),.i .i64 (Int.ofNat (z / 2 ^ i))]),some (cellsD 37 [.b false,.b false,.b false,.b false,.b false,.b false,.b false,.b false,.b false,.b false,.b false,.b false,.b false,.b false,.b false,.b false,.b false,.b false,.b false,.b false,.b false,.b false,.b false,.b false,.b false,.b false,.b false,.b false,.b false,.b false,.b false,.b false] [.b (gT y0 z i 0),.b (gT y0 z i 1),.b (gT y0 z i 2),.b (gT y0 z i 3),.b (gT y0 z i 4),.b (gT y0 z i 5),.b (gT y0 z i 6),.b (gT y0 z i 7),.b (gT y0 z i 8),.b (gT y0 z i 9),.b (gT y0 z i 10),.b (gT y0 z i 11),.b (gT y0 z i 12),.b (gT y0 z i 13),.b (gT y0 z i 14),.b (gT y0 z i 15),.b (gT y0 z i 16),.b (gT y0 z i 17),.b (gT y0 z i 18),.b (gT y0 z i 19),.b (gT y0 z i 20),.b (gT y0 z i 21),.b (gT y0 z i 22),.b (gT y0 z i 23),.b (gT y0 z i 24),.b (gT y0 z i 25),.b (gT y0 z i 26),.b (gT y0 z i 27),.b (gT y0 z i 28),.b (gT y0 z i 29),.b (gT y0 z i 30),.b (gT y0 z i 31)])])) (fun i=>24-i) (fun i=>i<=24) (fun _=>Nat.le_refl _) ?_ 0 (Nat.zero_le _)
 · rw [Nat.pow_zero,Nat.div_one] at key
   exact key.ovl ⟨.refl _,.refl _,sg_ov (a:=gS y0 8) (b:=gT y0 z 0) (fun k hk=>gT_0 y0 z k hk),trivial⟩
 intro i hi
 rcases Nat.lt_or_ge i 24 with hlt | q
 · have h1:decide (Int.ofNat i<24)=true:=decide_eq_true (by simp;omega)
   have bi:(0:Int)<=Int.ofNat i/\Int.ofNat i<(24:Int):=⟨by simp,by simp;omega⟩
   have ri:rg (Int.ofNat i+1):=⟨by simp<;>omega,by simp<;>omega⟩
   obtain ⟨td1,td2⟩:=td_r (i:=i) hz
   exact rd_nrm (sgC_lq (gT y0 z i) y (z / 2 ^ i) i h1) (by repeat' first | exact trivial | assumption | exact rfl | exact nT (by assumption) | exact nF (by assumption) | exact nnT (by assumption) | exact nnF (by assumption) | apply And.intro | decide) (i+1) hlt (by show 24-(i+1)<24-i;omega) rfl (.refl _) ⟨.refl _,by rw [tdv,div2];exact .refl _,sg_ov (a:=fun k=>bif Nat.blt k 8 then gT y0 z i k else (bif Nat.beq i (k-8) then decide (Int.tmod (Int.ofNat (z / 2 ^ i)) 2=1) else gT y0 z i k)) (b:=gT y0 z (i+1)) (fun k hk=>gT_s y0 z i k hlt),trivial⟩
 · obtain rfl:i=24:=Nat.le_antisymm hi q
   have h1:decide (Int.ofNat 24<24)=false:=decide_eq_false (by simp)
   exact rd_out (sgD_lq (gT y0 z 24) y (z / 2 ^ 24) 24 h1) (by repeat' first | exact trivial | assumption | exact rfl | exact nT (by assumption) | exact nF (by assumption) | exact nnT (by assumption) | exact nnF (by assumption) | apply And.intro | decide) rfl rfl (.refl _) (.refl _)
theorem pg_eq (f:Nat->Nat) (i:Nat) (h:i<8):List.getD [Int.ofNat (f 0),Int.ofNat (f 1),Int.ofNat (f 2),Int.ofNat (f 3),Int.ofNat (f 4),Int.ofNat (f 5),Int.ofNat (f 6),Int.ofNat (f 7)] i 0=Int.ofNat (f i):=by
 rcases i with _ | _ | _ | _ | _ | _ | _ | _ | i<;>first | rfl | omega
theorem hS_s (f:Nat->Nat) (i k:Nat) (hi:i<8):(bif Nat.beq i k then List.getD [Int.ofNat (f 0),Int.ofNat (f 1),Int.ofNat (f 2),Int.ofNat (f 3),Int.ofNat (f 4),Int.ofNat (f 5),Int.ofNat (f 6),Int.ofNat (f 7)] i 0 else hS f i k)=hS f (i+1) k:=by
 rw [pg_eq f i hi]
 unfold hS
 rcases Nat.lt_trichotomy k i with q | rfl | q
 · rw [qF (show i≠k by omega),bT q,bT (show k<i+1 by omega)];rfl
 · rw [qT,bT (show k<k+1 by omega)];rfl
 · rw [qF (show i≠k by omega),bF (show i<=k by omega),bF (show i+1<=k by omega)];rfl
theorem pdR_li (f:Nat->Nat) (i:Nat) (hi:i<8) (h:ipB (Int.ofNat (f i))=true):LI Try.prog (loopAt Try.prog 31 0) 39 3 [(2,.p 0 0),(4,.p 1 0),(5,.l 2 0 8 8 1 false),(6,.i .i64 (Int.ofNat i))] [some (.cells 32 8 [.i .i64 0,.i .i64 0,.i .i64 0,.i .i64 0,.i .i64 0,.i .i64 0,.i .i64 0,.i .i64 0] .e),some (cellsD 32 [.i .i64 0,.i .i64 0,.i .i64 0,.i .i64 0,.i .i64 0,.i .i64 0,.i .i64 0,.i .i64 0] [.i .i64 (hS f i 0),.i .i64 (hS f i 1),.i .i64 (hS f i 2),.i .i64 (hS f i 3),.i .i64 (hS f i 4),.i .i64 (hS f i 5),.i .i64 (hS f i 6),.i .i64 (hS f i 7)]),some (cellsO 3 [.i .i64 (Int.ofNat (f 0)),.i .i64 (Int.ofNat (f 1)),.i .i64 (Int.ofNat (f 2)),.i .i64 (Int.ofNat (f 3)),.i .i64 (Int.ofNat (f 4)),.i .i64 (Int.ofNat (f 5)),.i .i64 (Int.ofNat (f 6)),.i .i64 (Int.ofNat (f 7))])] .nrm [(2,.p 0 0),(4,.p 1 0),(5,.l 2 0 8 8 1 false),(6,.i .i64 (Int.ofNat i+1))] [some (.cells 32 8 [.i .i64 0,.i .i64 0,.i .i64 0,.i .i64 0,.i .i64 0,.i .i64 0,.i .i64 0,.i .i64 0] .e),some (cellsD 32 [.i .i64 0,.i .i64 0,.i .i64 0,.i .i64 0,.i .i64 0,.i .i64 0,.i .i64 0,.i .i64 0] [.i .i64 ((fun k=>bif Nat.beq i k then List.getD [Int.ofNat (f 0),Int.ofNat (f 1),Int.ofNat (f 2),Int.ofNat (f 3),Int.ofNat (f 4),Int.ofNat (f 5),Int.ofNat (f 6),Int.ofNat (f 7)] i 0 else hS f i k) 0),.i .i64 ((fun k=>bif Nat.beq i k then List.getD [Int.ofNat (f 0),Int.ofNat (f 1),Int.ofNat (f 2),Int.ofNat (f 3),Int.ofNat (f 4),Int.ofNat (f 5),Int.ofNat (f 6),Int.ofNat (f 7)] i 0 else hS f i k) 1),.i .i64 ((fun k=>bif Nat.beq i k then List.getD [Int.ofNat (f 0),Int.ofNat (f 1),Int.ofNat (f 2),Int.ofNat (f 3),Int.ofNat (f 4),Int.ofNat (f 5),Int.ofNat (f 6),Int.ofNat (f 7)] i 0 else hS f i k) 2),.i .i64 ((fun k=>bif Nat.beq i k then List.getD [Int.ofNat (f 0),Int.ofNat (f 1),Int.ofNat (f 2),Int.ofNat (f 3),Int.ofNat (f 4),Int.ofNat (f 5),Int.ofNat (f 6),Int.ofNat (f 7)] i 0 else hS f i k) 3),.i .i64 ((fun k=>bif Nat.beq i k then List.getD [Int.ofNat (f 0),Int.ofNat (f 1),Int.ofNat (f 2),Int.ofNat (f 3),Int.ofNat (f 4),Int.ofNat (f 5),Int.ofNat (f 6),Int.ofNat (f 7)] i 0 else hS f i k) 4),.i .i64 ((fun k=>bif Nat.beq i k then List.getD [Int.ofNat (f 0),Int.ofNat (f 1),Int.ofNat (f 2),Int.ofNat (f 3),Int.ofNat (f 4),Int.ofNat (f 5),Int.ofNat (f 6),Int.ofNat (f 7)] i 0 else hS f i k) 5),.i .i64 ((fun k=>bif Nat.beq i k then List.getD [Int.ofNat (f 0),Int.ofNat (f 1),Int.ofNat (f 2),Int.ofNat (f 3),Int.ofNat (f 4),Int.ofNat (f 5),Int.ofNat (f 6),Int.ofNat (f 7)] i 0 else hS f i k) 6),.i .i64 ((fun k=>bif Nat.beq i k then List.getD [Int.ofNat (f 0),Int.ofNat (f 1),Int.ofNat (f 2),Int.ofNat (f 3),Int.ofNat (f 4),Int.ofNat (f 5),Int.ofNat (f 6),Int.ofNat (f 7)] i 0 else hS f i k) 7)]),some (cellsO 3 [.i .i64 (Int.ofNat (f 0)),.i .i64 (Int.ofNat (f 1)),.i .i64 (Int.ofNat (f 2)),.i .i64 (Int.ofNat (f 3)),.i .i64 (Int.ofNat (f 4)),.i .i64 (Int.ofNat (f 5)),.i .i64 (Int.ofNat (f 6)),.i .i64 (Int.ofNat (f 7))])]:=by
 have h1:decide (Int.ofNat i<8)=true:=decide_eq_true (by simp;omega)
 have bi:(0:Int)<=Int.ofNat i/\Int.ofNat i<(8:Int):=⟨by simp,by simp;omega⟩
 have ri:rg (Int.ofNat i+1):=⟨by simp<;>omega,by simp<;>omega⟩
 rw [<-pg_eq f i hi] at h
 have c:=c24_con (List.getD [Int.ofNat (f 0),Int.ofNat (f 1),Int.ofNat (f 2),Int.ofNat (f 3),Int.ofNat (f 4),Int.ofNat (f 5),Int.ofNat (f 6),Int.ofNat (f 7)] i 0)
 unfold ipB at h
 cases e:decide (List.getD [Int.ofNat (f 0),Int.ofNat (f 1),Int.ofNat (f 2),Int.ofNat (f 3),Int.ofNat (f 4),Int.ofNat (f 5),Int.ofNat (f 6),Int.ofNat (f 7)] i 0=0) with
 | true=>exact li_of (pdZ_lq f (hS f i) i h1 e) (by repeat' first | exact trivial | assumption | exact rfl | exact nT (by assumption) | exact nF (by assumption) | exact nnT (by assumption) | exact nnF (by assumption) | apply And.intro | decide)
 | false=>
   rw [e,Bool.false_or] at h
   exact li_of (pdD_lq wi f (hS f i) i h1 e h) (by repeat' first | exact trivial | assumption | exact rfl | exact nT (by assumption) | exact nF (by assumption) | exact nnT (by assumption) | exact nnF (by assumption) | apply And.intro | decide)
theorem pd_lp (f:Nat->Nat) (h:ptB 8 (fun k=>Int.ofNat (f k))=true):LDoes Try.prog (loopAt Try.prog 31 0) 39 3 (mkT [(2,.p 0 0),(4,.p 1 0),(5,.l 2 0 8 8 1 false),(6,.i .i64 0)]) [some (.cells 32 8 [.i .i64 0,.i .i64 0,.i .i64 0,.i .i64 0,.i .i64 0,.i .i64 0,.i .i64 0,.i .i64 0] .e),some (cellsD 32 [.i .i64 0,.i .i64 0,.i .i64 0,.i .i64 0,.i .i64 0,.i .i64 0,.i .i64 0,.i .i64 0] [.i .i64 0,.i .i64 0,.i .i64 0,.i .i64 0,.i .i64 0,.i .i64 0,.i .i64 0,.i .i64 0]),some (cellsO 3 [.i .i64 (Int.ofNat (f 0)),.i .i64 (Int.ofNat (f 1)),.i .i64 (Int.ofNat (f 2)),.i .i64 (Int.ofNat (f 3)),.i .i64 (Int.ofNat (f 4)),.i .i64 (Int.ofNat (f 5)),.i .i64 (Int.ofNat (f 6)),.i .i64 (Int.ofNat (f 7))])] (.exit 0) (mkT [(2,.p 0 0),(4,.p 1 0)]) [some (.cells 32 8 [.i .i64 0,.i .i64 0,.i .i64 0,.i .i64 0,.i .i64 0,.i .i64 0,.i .i64 0,.i .i64 0] .e),some (cellsD 32 [.i .i64 0,.i .i64 0,.i .i64 0,.i .i64 0,.i .i64 0,.i .i64 0,.i .i64 0,.i .i64 0] [.i .i64 ((fun k=>Int.ofNat (f k)) 0),.i .i64 ((fun k=>Int.ofNat (f k)) 1),.i .i64 ((fun k=>Int.ofNat (f k)) 2),.i .i64 ((fun k=>Int.ofNat (f k)) 3),.i .i64 ((fun k=>Int.ofNat (f k)) 4),.i .i64 ((fun k=>Int.ofNat (f k)) 5),.i .i64 ((fun k=>Int.ofNat (f k)) 6),.i .i64 ((fun k=>Int.ofNat (f k)) 7)]),some (cellsO 3 [.i .i64 (Int.ofNat (f 0)),.i .i64 (Int.ofNat (f 1)),.i .i64 (Int.ofNat (f 2)),.i .i64 (Int.ofNat (f 3)),.i .i64 (Int.ofNat (f 4)),.i .i64 (Int.ofNat (f 5)),.i .i64 (Int.ofNat (f 6)),.i .i64 (Int.ofNat (f 7))])]:=by
 have key:=loop_q (P:=Try.prog) (c:=loopAt Try.prog 31 0) (n:=39) (b:=3) (x:=.exit 0) (l':=[(2,.p 0 0),(4,.p 1 0)]) (objs':=[some (.cells 32 8 [.i .i64 0,.i .i64 0,.i .i64 0,.i .i64 0,.i .i64 0,.i .i64 0,.i .i64 0,.i .i64 0] .e),some (cellsD 32 [.i .i64 0,.i .i64 0,.i .i64 0,.i .i64 0,.i .i64 0,.i .i64 0,.i .i64 0,.i .i64 0] [.i .i64 (hS f 8 0),.i .i64 (hS f 8 1),.i .i64 (hS f 8 2),.i .i64 (hS f 8 3),.i .i64 (hS f 8 4),.i .i64 (hS f 8 5),.i .i64 (hS f 8 6),.i .i64 (hS f 8 7)]),some (cellsO 3 [.i .i64 (Int.ofNat (f 0)),.i .i64 (Int.ofNat (f 1)),.i .i64 (Int.ofNat (f 2)),.i .i64 (Int.ofNat (f 3)),.i .i64 (Int.ofNat (f 4)),.i .i64 (Int.ofNat (f 5)),.i .i64 (Int.ofNat (f 6)),.i .i64 (Int.ofNat (f 7))])]) (D:=Nat)
  (fun i:Nat=>([(2,.p 0 0),(4,.p 1 0),(5,.l 2 0 8 8 1 false),(6,.i .i64 (Int.ofNat i))],[some (.cells 32 8 [.i .i64 0,.i .i64 0,.i .i64 0,.i .i64 0,.i .i64 0,.i .i64 0,.i .i64 0,.i .i64 0] .e),some (cellsD 32 [.i .i64 0,.i .i64 0,.i .i64 0,.i .i64 0,.i .i64 0,.i .i64 0,.i .i64 0,.i .i64 0] [.i .i64 (hS f i 0),.i .i64 (hS f i 1),.i .i64 (hS f i 2),.i .i64 (hS f i 3),.i .i64 (hS f i 4),.i .i64 (hS f i 5),.i .i64 (hS f i 6),.i .i64 (hS f i 7)]),some (cellsO 3 [.i .i64 (Int.ofNat (f 0)),.i .i64 (Int.ofNat (f 1)),.i .i64 (Int.ofNat (f 2)),.i .i64 (Int.ofNat (f 3)),.i .i64 (Int.ofNat (f 4)),.i .i64 (Int.ofNat (f 5)),.i .i64 (Int.ofNat (f 6)),.i .i64 (Int.ofNat (f 7))])])) (fun i=>8-i) (fun i=>i<=8) (fun _=>Nat.le_refl _) ?_ 0 (Nat.zero_le _)
 · exact key
 intro i hi
 rcases Nat.lt_or_ge i 8 with hlt | q
 · exact ri_nrm (pdR_li f i hlt (alB_t h i hlt)) (i+1) hlt (by show 8-(i+1)<8-i;omega) rfl (.refl _) ⟨.refl _,po_ov (a:=fun k=>bif Nat.beq i k then List.getD [Int.ofNat (f 0),Int.ofNat (f 1),Int.ofNat (f 2),Int.ofNat (f 3),Int.ofNat (f 4),Int.ofNat (f 5),Int.ofNat (f 6),Int.ofNat (f 7)] i 0 else hS f i k) (b:=hS f (i+1)) (fun k hk=>hS_s f i k hlt),.refl _,trivial⟩
 · obtain rfl:i=8:=Nat.le_antisymm hi q
   have h1:decide (Int.ofNat 8<8)=false:=decide_eq_false (by simp)
   exact rd_out (pdE_lq f (hS f 8) 8 h1) (by repeat' first | exact trivial | assumption | exact rfl | exact nT (by assumption) | exact nF (by assumption) | exact nnT (by assumption) | exact nnF (by assumption) | apply And.intro | decide) rfl rfl (.refl _) (.refl _)
theorem pdX_lp (f:Nat->Nat) (h:ptB 8 (fun k=>Int.ofNat (f k))=false):∃h9:Nat->Int,LDoes Try.prog (loopAt Try.prog 31 0) 39 3 (mkT [(2,.p 0 0),(4,.p 1 0),(5,.l 2 0 8 8 1 false),(6,.i .i64 0)]) [some (.cells 32 8 [.i .i64 0,.i .i64 0,.i .i64 0,.i .i64 0,.i .i64 0,.i .i64 0,.i .i64 0,.i .i64 0] .e),some (cellsD 32 [.i .i64 0,.i .i64 0,.i .i64 0,.i .i64 0,.i .i64 0,.i .i64 0,.i .i64 0,.i .i64 0] [.i .i64 0,.i .i64 0,.i .i64 0,.i .i64 0,.i .i64 0,.i .i64 0,.i .i64 0,.i .i64 0]),some (cellsO 3 [.i .i64 (Int.ofNat (f 0)),.i .i64 (Int.ofNat (f 1)),.i .i64 (Int.ofNat (f 2)),.i .i64 (Int.ofNat (f 3)),.i .i64 (Int.ofNat (f 4)),.i .i64 (Int.ofNat (f 5)),.i .i64 (Int.ofNat (f 6)),.i .i64 (Int.ofNat (f 7))])] .ret (mkT [(2,.p 0 0),(3,.i .i64 11)]) [some (cellsD 32 [.i .i64 0,.i .i64 0,.i .i64 0,.i .i64 0,.i .i64 0,.i .i64 0,.i .i64 0,.i .i64 0] [.i .i64 0,.i .i64 0,.i .i64 0,.i .i64 0,.i .i64 0,.i .i64 0,.i .i64 0,.i .i64 0]),some (cellsD 32 [.i .i64 0,.i .i64 0,.i .i64 0,.i .i64 0,.i .i64 0,.i .i64 0,.i .i64 0,.i .i64 0] [.i .i64 (h9 0),.i .i64 (h9 1),.i .i64 (h9 2),.i .i64 (h9 3),.i .i64 (h9 4),.i .i64 (h9 5),.i .i64 (h9 6),.i .i64 (h9 7)]),some (cellsO 3 [.i .i64 (Int.ofNat (f 0)),.i .i64 (Int.ofNat (f 1)),.i .i64 (Int.ofNat (f 2)),.i .i64 (Int.ofNat (f 3)),.i .i64 (Int.ofNat (f 4)),.i .i64 (Int.ofNat (f 5)),.i .i64 (Int.ofNat (f 6)),.i .i64 (Int.ofNat (f 7))])]:=by
 obtain ⟨j,hj,hb,hg⟩:=alB_f h
 refine ⟨hS f j,loop_q (P:=Try.prog) (c:=loopAt Try.prog 31 0) (n:=39) (b:=3) (x:=.ret) (l':=[(2,.p 0 0),(3,.i .i64 11)]) (objs':=[some (cellsD 32 [.i .i64 0,.i .i64 0,.i .i64 0,.i .i64 0,.i .i64 0,.i .i64 0,.i .i64 0,.i .i64 0] [.i .i64 0,.i .i64 0,.i .i64 0,.i .i64 0,.i .i64 0,.i .i64 0,.i .i64 0,.i .i64 0]),some (cellsD 32 [.i .i64 0,.i .i64 0,.i .i64 0,.i .i64 0,.i .i64 0,.i .i64 0,.i .i64 0,.i .i64 0] [.i .i64 (hS f j 0),.i .i64 (hS f j 1),.i .i64 (hS f j 2),.i .i64 (hS f j 3),.i .i64 (hS f j 4),.i .i64 (hS f j 5),.i .i64 (hS f j 6),.i .i64 (hS f j 7)]),some (cellsO 3 [.i .i64 (Int.ofNat (f 0)),.i .i64 (Int.ofNat (f 1)),.i .i64 (Int.ofNat (f 2)),.i .i64 (Int.ofNat (f 3)),.i .i64 (Int.ofNat (f 4)),.i .i64 (Int.ofNat (f 5)),.i .i64 (Int.ofNat (f 6)),.i .i64 (Int.ofNat (f 7))])]) (D:=Nat)
  (fun i:Nat=>([(2,.p 0 0),(4,.p 1 0),(5,.l 2 0 8 8 1 false),(6,.i .i64 (Int.ofNat i))],[some (.cells 32 8 [.i .i64 0,.i .i64 0,.i .i64 0,.i .i64 0,.i .i64 0,.i .i64 0,.i .i64 0,.i .i64 0] .e),some (cellsD 32 [.i .i64 0,.i .i64 0,.i .i64 0,.i .i64 0,.i .i64 0,.i .i64 0,.i .i64 0,.i .i64 0] [.i .i64 (hS f i 0),.i .i64 (hS f i 1),.i .i64 (hS f i 2),.i .i64 (hS f i 3),.i .i64 (hS f i 4),.i .i64 (hS f i 5),.i .i64 (hS f i 6),.i .i64 (hS f i 7)]),some (cellsO 3 [.i .i64 (Int.ofNat (f 0)),.i .i64 (Int.ofNat (f 1)),.i .i64 (Int.ofNat (f 2)),.i .i64 (Int.ofNat (f 3)),.i .i64 (Int.ofNat (f 4)),.i .i64 (Int.ofNat (f 5)),.i .i64 (Int.ofNat (f 6)),.i .i64 (Int.ofNat (f 7))])])) (fun i=>8-i) (fun i=>i<=j) (fun _=>Nat.le_refl _) ?_ 0 (Nat.zero_le _)⟩
 intro i hi
 have hlt:i<8:=by omega
 rcases Nat.lt_or_ge i j with q | q
 · exact ri_nrm (pdR_li f i hlt (hg i q)) (i+1) q (by show 8-(i+1)<8-i;omega) rfl (.refl _) ⟨.refl _,po_ov (a:=fun k=>bif Nat.beq i k then List.getD [Int.ofNat (f 0),Int.ofNat (f 1),Int.ofNat (f 2),Int.ofNat (f 3),Int.ofNat (f 4),Int.ofNat (f 5),Int.ofNat (f 6),Int.ofNat (f 7)] i 0 else hS f i k) (b:=hS f (i+1)) (fun k hk=>hS_s f i k hlt),.refl _,trivial⟩
 · obtain rfl:i=j:=by omega
   have h1:decide (Int.ofNat i<8)=true:=decide_eq_true (by simp;omega)
   have bi:(0:Int)<=Int.ofNat i/\Int.ofNat i<(8:Int):=⟨by simp,by simp;omega⟩
   have c:=c24_con (List.getD [Int.ofNat (f 0),Int.ofNat (f 1),Int.ofNat (f 2),Int.ofNat (f 3),Int.ofNat (f 4),Int.ofNat (f 5),Int.ofNat (f 6),Int.ofNat (f 7)] i 0)
   have hb:(decide (Int.ofNat (f i)=0) || wi (Int.ofNat (f i)) 32 79)=false:=hb
   rw [<-pg_eq f i hj,Bool.or_eq_false_iff] at hb
   obtain ⟨e,e2⟩:=hb
   exact rd_out (pdX_lq wi f (hS f i) i h1 e e2) (by repeat' first | exact trivial | assumption | exact rfl | exact nT (by assumption) | exact nF (by assumption) | exact nnT (by assumption) | exact nnF (by assumption) | apply And.intro | decide) rfl rfl (.refl _) (.refl _)
theorem eaR_lq (L1:Nat) (b1:Nat->Nat) (e1:Int) (L2:Nat) (b2:Nat->Nat) (e2:Int) (tt:List Nat) (v0:Nat) (A:Nat->List Nat) (N:Nat->Int) (L k:Nat) (b :
 Nat->Nat) (e:Int) (h0:decide (0<Int.ofNat L)=true) (h1:decide (e=0)=true) (h2:decide (Int.ofNat k<8)=true):LD Try.prog (loopAt Try.prog 66 0) 26 1 [(0,
 .p 0 0),(3,.lr 1 2 0 k false)] [some (rdO L b e),some (.rows 41 2 k (eF A N))] (Orc.inl (Orc.c (Orc.t (Orc.t (Orc.inl (Orc.c (Orc.t (Orc.t (Orc.t (Orc.t (Orc.t (Orc.t
 (Orc.t (Orc.cal [0] (.s tt) [.set (rdO L1 b1 e1)] (Orc.cal [0] (.i .i64 (Int.ofNat v0)) [.set (rdO L2 b2 e2)] Orc.z))))))))))))))) .nrm [0,3] [(0,.p 0 0),(3,.lr 1 2 0
 (addN k 1) false)] [some (rdO L2 b2 e2),some (.rows 41 2 (addN k 1) (appZ k (eF A N) (listF 2 [.s tt,.i .i64 (Int.ofNat v0)] 1)))] 4 (fun Lf=>True/\True/\decide (0 <
 Int.ofNat L)=true/\decide (0<Int.ofNat L)=true/\True/\True/\decide (0<Int.ofNat L)=true/\decide (0<Int.ofNat L)=true/\decide (e=0)=true/\decide (e =
 0)=true/\decide (e=0)=true/\decide (e=0)=true/\decide (Int.ofNat k<8)=true/\Con Try.prog 68 [.p 0 0,.i .i64 6] [some (rdO L b e)] (.s tt) [.set (rdO L1 b1
 e1)]/\Con Try.prog 55 [.p 0 0] [some (rdO L1 b1 e1)] (.i .i64 (Int.ofNat v0)) [.set (rdO L2 b2 e2)]/\(0+k<=k/\True/\k+1<=140737488355328/\(3*(k+1)+1536)*24
 <=562949953421312)/\Lf):=by unfold LD LQ;kernel_rfl
theorem eaX_lq (A:Nat->List Nat) (N:Nat->Int) (L k:Nat) (b:Nat->Nat) (e:Int) (h0:decide (0<Int.ofNat L)=false):LD Try.prog (loopAt Try.prog 66 0) 26 1 [(0,
 .p 0 0),(3,.lr 1 2 0 k false)] [some (rdO L b e),some (.rows 41 2 k (eF A N))] (Orc.inl (Orc.c (Orc.f (Orc.f (Orc.f (Orc.f (oc 5 Orc.z))))))) (.exit 0) [0,1] [(3,.lr 1 2
 0 k false)] [some (rdO L b e),some (.rows 41 2 k (eF A N))] 2 (fun Lf=>True/\True/\decide (0<Int.ofNat L)=false/\decide (0<Int.ofNat L)=false/\decide (0 <
 Int.ofNat L)=false/\decide (0<Int.ofNat L)=false/\Lf):=by unfold LD LQ;kernel_rfl
theorem eaY_lq (A:Nat->List Nat) (N:Nat->Int) (L k:Nat) (b:Nat->Nat) (e:Int) (h0:decide (0<Int.ofNat L)=true) (h1:decide (e=0)=false):LD Try.prog
 (loopAt Try.prog 66 0) 26 1 [(0,.p 0 0),(3,.lr 1 2 0 k false)] [some (rdO L b e),some (.rows 41 2 k (eF A N))] (Orc.inl (Orc.c (Orc.t (Orc.t (Orc.inl (Orc.c (Orc.t (Orc.t
 (Orc.f (Orc.f (Orc.f (Orc.f (Orc.c Orc.z))))))))))))) (.exit 0) [0,1] [(3,.lr 1 2 0 k false)] [some (rdO L b e),some (.rows 41 2 k (eF A N))] 2 (fun Lf=>True/\True/\
 decide (0<Int.ofNat L)=true/\decide (0<Int.ofNat L)=true/\True/\True/\decide (0<Int.ofNat L)=true/\decide (0<Int.ofNat L)=true/\decide (e=0)=false/\
 decide (e=0)=false/\decide (e=0)=false/\decide (e=0)=false/\Lf):=by unfold LD LQ;kernel_rfl
theorem eaZ_lq (A:Nat->List Nat) (N:Nat->Int) (L k:Nat) (b:Nat->Nat) (e:Int) (h0:decide (0<Int.ofNat L)=true) (h1:decide (e=0)=true) (h2:decide
 (Int.ofNat k<8)=false):LD Try.prog (loopAt Try.prog 66 0) 26 1 [(0,.p 0 0),(3,.lr 1 2 0 k false)] [some (rdO L b e),some (.rows 41 2 k (eF A N))] (Orc.inl (Orc.c
 (Orc.t (Orc.t (Orc.inl (Orc.c (Orc.t (Orc.t (Orc.t (Orc.t (Orc.t (Orc.t (Orc.f Orc.z))))))))))))) (.exit 0) [0,1] [(3,.lr 1 2 0 k false)] [some (rdO L b e),some (.rows 41
 2 k (eF A N))] 2 (fun Lf=>True/\True/\decide (0<Int.ofNat L)=true/\decide (0<Int.ofNat L)=true/\True/\True/\decide (0<Int.ofNat L)=true/\decide (0 <
 Int.ofNat L)=true/\decide (e=0)=true/\decide (e=0)=true/\decide (e=0)=true/\decide (e=0)=true/\decide (Int.ofNat k<8)=false/\Lf)
 :=by unfold LD LQ;kernel_rfl
theorem rbR_lq (L1:Nat) (b1:Nat->Nat) (e1:Int) (L2:Nat) (b2:Nat->Nat) (e2:Int) (tt:List Nat) (v0:Nat) (A:Nat->List Nat) (N:Nat->Int) (L k:Nat) (b :
 Nat->Nat) (e:Int) (h0:decide (0<Int.ofNat L)=true) (h1:decide (e=0)=true) (h2:decide (Int.ofNat k<=8)=true):LD Try.prog (loopAt Try.prog 33 0) 59 1 [(4,
 .p 0 0),(5,.lr 2 2 0 k false)] [some (cellsD 116 [.l0,.i .i64 0] [.sv 1 L (byF b),.i .i64 e]),none,some (.rows 41 2 k (eF A N))] (Orc.t (Orc.t (Orc.t (Orc.t (Orc.t
 (Orc.t (Orc.t (Orc.t (Orc.t (Orc.cal [] (.tup [.s tt,.agg [.sv 1 L1 (byF b1),.i .i64 e1]]) [] (Orc.cal [] (.tup [.i .i64 (Int.ofNat v0),.agg [.sv 1 L2 (byF b2),.i .i64
 e2]]) [] Orc.z))))))))))) .nrm [0,1,6] [(4,.p 0 0),(5,.lr 2 2 0 (addN k 1) false)] [some (cellsD 116 [.l0,.i .i64 0] [.sv 1 L2 (byF b2),.i .i64 e2]),none,some (.rows
 41 2 (addN k 1) (appZ k (eF A N) (listF 2 [.s tt,.i .i64 (Int.ofNat v0)] 1)))] 7 (fun Lf=>True/\decide (0<Int.ofNat L)=true/\True/\decide (0<Int.ofNat L)=true/\
 decide (0<Int.ofNat L)=true/\decide (0<Int.ofNat L)=true/\decide (e=0)=true/\decide (e=0)=true/\decide (e=0)=true/\decide (e=0)=true/\decide
 (Int.ofNat k<=8)=true/\Con Try.prog 69 [.agg [.sv 1 L (byF b),.i .i64 e],.i .i64 6] [] (.tup [.s tt,.agg [.sv 1 L1 (byF b1),.i .i64 e1]]) []/\Con Try.prog 70 [.agg
 [.sv 1 L1 (byF b1),.i .i64 e1]] [] (.tup [.i .i64 (Int.ofNat v0),.agg [.sv 1 L2 (byF b2),.i .i64 e2]]) []/\(0+k<=k/\True/\k+1<=140737488355328/\(3*(k+1) +
 1536)*24<=562949953421312)/\Lf):=by unfold LD LQ;kernel_rfl
theorem rbX_lq (A:Nat->List Nat) (N:Nat->Int) (L k:Nat) (b:Nat->Nat) (e:Int) (h0:decide (0<Int.ofNat L)=false):LD Try.prog (loopAt Try.prog 33 0) 59 1 [(4,
 .p 0 0),(5,.lr 2 2 0 k false)] [some (cellsD 116 [.l0,.i .i64 0] [.sv 1 L (byF b),.i .i64 e]),none,some (.rows 41 2 k (eF A N))] (Orc.f (Orc.f (Orc.f (Orc.f (oc 5
 Orc.z))))) (.exit 0) [0,1,2] [(4,.p 0 0),(5,.lr 2 2 0 k false)] [some (cellsD 116 [.l0,.i .i64 0] [.sv 1 L (byF b),.i .i64 e]),none,some (.rows 41 2 k (eF A N))] 3
 (fun Lf=>True/\decide (0<Int.ofNat L)=false/\decide (0<Int.ofNat L)=false/\decide (0<Int.ofNat L)=false/\decide (0<Int.ofNat L)=false/\Lf)
 :=by unfold LD LQ;kernel_rfl
theorem rbY_lq (A:Nat->List Nat) (N:Nat->Int) (L k:Nat) (b:Nat->Nat) (e:Int) (h0:decide (0<Int.ofNat L)=true) (h1:decide (e=0)=false):LD Try.prog
 (loopAt Try.prog 33 0) 59 1 [(4,.p 0 0),(5,.lr 2 2 0 k false)] [some (cellsD 116 [.l0,.i .i64 0] [.sv 1 L (byF b),.i .i64 e]),none,some (.rows 41 2 k (eF A N))] (Orc.t
 (Orc.t (Orc.t (Orc.t (Orc.f (Orc.f (Orc.f (Orc.f (Orc.c Orc.z))))))))) (.exit 0) [0,1,2] [(4,.p 0 0),(5,.lr 2 2 0 k false)] [some (cellsD 116 [.l0,.i .i64 0] [.sv 1 L
 (byF b),.i .i64 e]),none,some (.rows 41 2 k (eF A N))] 3 (fun Lf=>True/\decide (0<Int.ofNat L)=true/\True/\decide (0<Int.ofNat L)=true/\decide (0<Int.ofNat
 L)=true/\decide (0<Int.ofNat L)=true/\decide (e=0)=false/\decide (e=0)=false/\decide (e=0)=false/\decide (e=0)=false/\Lf)
 :=by unfold LD LQ;kernel_rfl
theorem rbZ_lq (A:Nat->List Nat) (N:Nat->Int) (L k:Nat) (b:Nat->Nat) (e:Int) (h0:decide (0<Int.ofNat L)=true) (h1:decide (e=0)=true) (h2:decide
 (Int.ofNat k<=8)=false):LD Try.prog (loopAt Try.prog 33 0) 59 1 [(4,.p 0 0),(5,.lr 2 2 0 k false)] [some (cellsD 116 [.l0,.i .i64 0] [.sv 1 L (byF b),.i .i64 e]),
 none,some (.rows 41 2 k (eF A N))] (Orc.t (Orc.t (Orc.t (Orc.t (Orc.t (Orc.t (Orc.t (Orc.t (Orc.f Orc.z))))))))) (.exit 0) [0,1,2] [(4,.p 0 0),(5,.lr 2 2 0 k false)]
 [some (cellsD 116 [.l0,.i .i64 0] [.sv 1 L (byF b),.i .i64 e]),none,some (.rows 41 2 k (eF A N))] 3 (fun Lf=>True/\decide (0<Int.ofNat L)=true/\True/\decide (0 <
 Int.ofNat L)=true/\decide (0<Int.ofNat L)=true/\decide (0<Int.ofNat L)=true/\decide (e=0)=true/\decide (e=0)=true/\decide (e=0)=true/\decide (e =
 0)=true/\decide (Int.ofNat k<=8)=false/\Lf):=by unfold LD LQ;kernel_rfl
theorem te0_vq (L2:Nat) (b2:Nat->Nat) (e2:Int) (A:Nat->List Nat) (N:Nat->Int) (K0:Nat) (L0:Nat) (b0:Nat->Nat):VD Try.prog 66 [.p 0 0] [some (rdO L0 b0 0)]
 (Orc.lop [0] [0,3] 1 (XO.exit 0) [(3,.lr 1 2 0 K0 false)] [some (rdO L2 b2 e2),some (AObj.rows 41 2 K0 (eF A N))] Orc.z) (.lr 1 2 0 K0 false) [.set (rdO L2 b2 e2),.set
 (.rows 41 2 K0 (eF A N))] [1] 2 (fun Lf=>LDoes Try.prog (loopAt Try.prog 66 0) 26 1 (mkT [(0,.p 0 0),(3,.l0)]) [some (rdO L0 b0 0)] (XO.exit 0) (mkT [(3,.lr 1 2 0 K0
 false)]) [some (rdO L2 b2 e2),some (AObj.rows 41 2 K0 (eF A N))]/\Lf):=by unfold VD VQ;kernel_rfl
theorem te_con (L0:Nat) (b0:Nat->Nat) (L2:Nat) (b2:Nat->Nat) (e2:Int) (K0:Nat) (A:Nat->List Nat) (N:Nat->Int) (k0:LDoes Try.prog (loopAt Try.prog 66 0) 26 1 (mkT [(0,.p 0 0),(3,.l0)]) [some (rdO L0 b0 0)] (.exit 0) (mkT [(3,.lr 1 2 0 K0 false)]) [some (rdO L2 b2 e2),some (.rows 41 2 K0 (eF A N))]):Con Try.prog 66 [.p 0 0] [some (rdO L0 b0 0)] (.lr 1 2 0 K0 false) [.set (rdO L2 b2 e2),.set (.rows 41 2 K0 (eF A N))]:=by
 exact con_d (te0_vq (L2:=L2) (b2:=b2) (e2:=e2) (A:=A) (N:=N) (K0:=K0) (L0:=L0) (b0:=b0)) (by repeat' first | exact trivial | assumption | exact rfl | exact nT (by assumption) | exact nF (by assumption) | assumption | apply And.intro | decide)
theorem dea0_fq (L2:Nat) (b2:Nat->Nat) (e2:Int) (A:Nat->List Nat) (N:Nat->Int) (K0:Nat) (L0:Nat) (b0:Nat->Nat) (oT:List Nat) (oE:Int) (s:List Nat) (ha
 :decide (oE=0)=true) (hb:natsEq oT s=true):VF Try.prog 32 [.s s] [] (Orc.inl (Orc.s (Orc.cal [0] (.p 1 0) [.gone,.set (rdO L0 b0 0)] (Orc.cal [1] (.lr 1 2 0 K0
 false) [.set (rdO L2 b2 e2),.set (AObj.rows 41 2 K0 (eF A N))] (Orc.cal [2] (.tup [.s oT,.i .i64 oE]) [.keep] (Orc.t (Orc.t (Orc.t (Orc.f (Orc.f Orc.z)))))))) Orc.z)) (.tup
 [.sv 2 K0 (shiftF 0 (eF A N)),.i .i64 0]) [] [2] [] (((2=2/\0+K0<=K0)/\(True/\True))/\True) 3 (fun Lf=>True/\Con Try.prog 83 [.lr 0 1 0 (List.length s) false]
 [some (AObj.rows 5 1 (List.length s) (byF (tB s)))] (.p 1 0) [.gone,.set (rdO L0 b0 0)]/\Con Try.prog 66 [.p 0 0] [some (rdO L0 b0 0)] (.lr 1 2 0 K0 false) [.set (rdO L2 b2
 e2),.set (AObj.rows 41 2 K0 (eF A N))]/\Con Try.prog 17 [.lr 0 2 0 K0 false] [some (AObj.rows 41 2 K0 (eF A N))] (.tup [.s oT,.i .i64 oE]) [.keep]/\(!!decide (oE=0)) =
 true/\(!!decide (oE=0))=true/\(!!decide (oE=0))=true/\(!decide (oE=0))=false/\(!natsEq oT s)=false/\Lf):=by unfold VF;kernel_rfl
theorem dea_con (s:List Nat) (L0:Nat) (b0:Nat->Nat) (L2:Nat) (b2:Nat->Nat) (e2:Int) (K0:Nat) (A:Nat->List Nat) (N:Nat->Int) (oT:List Nat) (oE:Int) (k0:Con Try.prog 83 [.lr 0 1 0 s.length false] [some (.rows 5 1 s.length (byF (tB s)))] (.p 1 0) [.gone,.set (rdO L0 b0 0)]) (k1:Con Try.prog 66 [.p 0 0] [some (rdO L0 b0 0)] (.lr 1 2 0 K0 false) [.set (rdO L2 b2 e2),.set (.rows 41 2 K0 (eF A N))]) (k2:Con Try.prog 17 [.lr 0 2 0 K0 false] [some (.rows 41 2 K0 (eF A N))] (.tup [.s oT,.i .i64 oE]) [.keep]) (ha:decide (oE=0)=true) (hb:natsEq oT s=true):Con Try.prog 32 [.s s] [] (.tup [.sv 2 K0 (shiftF 0 (eF A N)),.i .i64 0]) []:=by
 exact con_f (dea0_fq (L2:=L2) (b2:=b2) (e2:=e2) (A:=A) (N:=N) (K0:=K0) (L0:=L0) (b0:=b0) (oT:=oT) (oE:=oE) (s:=s) (ha:=ha) (hb:=hb)) ⟨⟨⟨rfl,by simp⟩,trivial,trivial⟩,trivial⟩ (by repeat' first | exact trivial | assumption | exact rfl | exact nT (by assumption) | exact nF (by assumption) | assumption | assumption | assumption | exact nnT (by assumption) | exact nnF (by assumption) | apply And.intro | decide)
theorem deb0_vq (L2:Nat) (b2:Nat->Nat) (e2:Int) (A:Nat->List Nat) (N:Nat->Int) (K0:Nat) (L0:Nat) (b0:Nat->Nat) (oT:List Nat) (oE:Int) (s:List Nat) (ha
 :decide (oE=0)=true) (hb:natsEq oT s=false):VD Try.prog 32 [.s s] [] (Orc.inl (Orc.s (Orc.cal [0] (.p 1 0) [.gone,.set (rdO L0 b0 0)] (Orc.cal [1] (.lr 1 2 0 K0
 false) [.set (rdO L2 b2 e2),.set (AObj.rows 41 2 K0 (eF A N))] (Orc.cal [2] (.tup [.s oT,.i .i64 oE]) [.keep] (Orc.t (Orc.t (Orc.t (Orc.f (Orc.t Orc.z)))))))) Orc.z)) (.tup
 [.l0,.i .i64 11]) [] [] 3 (fun Lf=>True/\Con Try.prog 83 [.lr 0 1 0 (List.length s) false] [some (AObj.rows 5 1 (List.length s) (byF (tB s)))] (.p 1 0) [.gone,.set (rdO
 L0 b0 0)]/\Con Try.prog 66 [.p 0 0] [some (rdO L0 b0 0)] (.lr 1 2 0 K0 false) [.set (rdO L2 b2 e2),.set (AObj.rows 41 2 K0 (eF A N))]/\Con Try.prog 17 [.lr 0 2 0 K0 false]
 [some (AObj.rows 41 2 K0 (eF A N))] (.tup [.s oT,.i .i64 oE]) [.keep]/\(!!decide (oE=0))=true/\(!!decide (oE=0))=true/\(!!decide (oE=0))=true/\(!decide (oE =
 0))=false/\(!natsEq oT s)=true/\Lf):=by unfold VD VQ;kernel_rfl
theorem deb_con (s:List Nat) (L0:Nat) (b0:Nat->Nat) (L2:Nat) (b2:Nat->Nat) (e2:Int) (K0:Nat) (A:Nat->List Nat) (N:Nat->Int) (oT:List Nat) (oE:Int) (k0:Con Try.prog 83 [.lr 0 1 0 s.length false] [some (.rows 5 1 s.length (byF (tB s)))] (.p 1 0) [.gone,.set (rdO L0 b0 0)]) (k1:Con Try.prog 66 [.p 0 0] [some (rdO L0 b0 0)] (.lr 1 2 0 K0 false) [.set (rdO L2 b2 e2),.set (.rows 41 2 K0 (eF A N))]) (k2:Con Try.prog 17 [.lr 0 2 0 K0 false] [some (.rows 41 2 K0 (eF A N))] (.tup [.s oT,.i .i64 oE]) [.keep]) (ha:decide (oE=0)=true) (hb:natsEq oT s=false):Con Try.prog 32 [.s s] [] (.tup [.l0,.i .i64 11]) []:=by
 exact con_d (deb0_vq (L2:=L2) (b2:=b2) (e2:=e2) (A:=A) (N:=N) (K0:=K0) (L0:=L0) (b0:=b0) (oT:=oT) (oE:=oE) (s:=s) (ha:=ha) (hb:=hb)) (by repeat' first | exact trivial | assumption | exact rfl | exact nT (by assumption) | exact nF (by assumption) | assumption | assumption | assumption | exact nnT (by assumption) | exact nnF (by assumption) | apply And.intro | decide)
theorem dec0_vq (L2:Nat) (b2:Nat->Nat) (e2:Int) (A:Nat->List Nat) (N:Nat->Int) (K0:Nat) (L0:Nat) (b0:Nat->Nat) (oT:List Nat) (oE:Int) (s:List Nat) (ha
 :decide (oE=0)=false):VD Try.prog 32 [.s s] [] (Orc.inl (Orc.s (Orc.cal [0] (.p 1 0) [.gone,.set (rdO L0 b0 0)] (Orc.cal [1] (.lr 1 2 0 K0 false) [.set (rdO L2 b2
 e2),.set (AObj.rows 41 2 K0 (eF A N))] (Orc.cal [2] (.tup [.s oT,.i .i64 oE]) [.keep] (Orc.f (Orc.f (Orc.f (Orc.t (Orc.c Orc.z)))))))) Orc.z)) (.tup [.l0,.i .i64 11]) []
 [] 3 (fun Lf=>True/\Con Try.prog 83 [.lr 0 1 0 (List.length s) false] [some (AObj.rows 5 1 (List.length s) (byF (tB s)))] (.p 1 0) [.gone,.set (rdO L0 b0 0)]/\Con
 Try.prog 66 [.p 0 0] [some (rdO L0 b0 0)] (.lr 1 2 0 K0 false) [.set (rdO L2 b2 e2),.set (AObj.rows 41 2 K0 (eF A N))]/\Con Try.prog 17 [.lr 0 2 0 K0 false] [some
 (AObj.rows 41 2 K0 (eF A N))] (.tup [.s oT,.i .i64 oE]) [.keep]/\(!!decide (oE=0))=false/\(!!decide (oE=0))=false/\(!!decide (oE=0))=false/\(!decide (oE =
 0))=true/\Lf):=by unfold VD VQ;kernel_rfl
theorem dec_con (s:List Nat) (L0:Nat) (b0:Nat->Nat) (L2:Nat) (b2:Nat->Nat) (e2:Int) (K0:Nat) (A:Nat->List Nat) (N:Nat->Int) (oT:List Nat) (oE:Int) (k0:Con Try.prog 83 [.lr 0 1 0 s.length false] [some (.rows 5 1 s.length (byF (tB s)))] (.p 1 0) [.gone,.set (rdO L0 b0 0)]) (k1:Con Try.prog 66 [.p 0 0] [some (rdO L0 b0 0)] (.lr 1 2 0 K0 false) [.set (rdO L2 b2 e2),.set (.rows 41 2 K0 (eF A N))]) (k2:Con Try.prog 17 [.lr 0 2 0 K0 false] [some (.rows 41 2 K0 (eF A N))] (.tup [.s oT,.i .i64 oE]) [.keep]) (ha:decide (oE=0)=false):Con Try.prog 32 [.s s] [] (.tup [.l0,.i .i64 11]) []:=by
 exact con_d (dec0_vq (L2:=L2) (b2:=b2) (e2:=e2) (A:=A) (N:=N) (K0:=K0) (L0:=L0) (b0:=b0) (oT:=oT) (oE:=oE) (s:=s) (ha:=ha)) (by repeat' first | exact trivial | assumption | exact rfl | exact nT (by assumption) | exact nF (by assumption) | assumption | assumption | assumption | exact nnT (by assumption) | exact nnF (by assumption) | apply And.intro | decide)
theorem rea0_vq (L2:Nat) (b2:Nat->Nat) (e2:Int) (A:Nat->List Nat) (N:Nat->Int) (K0:Nat) (s:List Nat) (ha:decide (e2=0)=false):VD Try.prog 33 [.s s] []
 (Orc.s (Orc.lop [1,0] [4,5] 1 (XO.exit 0) [(4,.p 0 0),(5,.lr 2 2 0 K0 false)] [some (cellsD 116 [.l0,.i .i64 0] [.sv 1 L2 (byF b2),.i .i64 e2]),none,some (AObj.rows
 41 2 K0 (eF A N))] (Orc.f (Orc.f (Orc.f (Orc.f (Orc.t (oc 5 Orc.z))))))) Orc.z) (.tup [.l0,.i .i64 11]) [] [] 4 (fun Lf=>True/\LDoes Try.prog (loopAt Try.prog 33 0) 59 1
 (mkT [(4,.p 0 0),(5,.l0)]) [some (cellsD 116 [.l0,.i .i64 0] [.lr 1 1 0 (List.length s) false,.i .i64 0]),some (AObj.rows 5 1 (List.length s) (byF (tB s)))] (XO.exit 0)
 (mkT [(4,.p 0 0),(5,.lr 2 2 0 K0 false)]) [some (cellsD 116 [.l0,.i .i64 0] [.sv 1 L2 (byF b2),.i .i64 e2]),none,some (AObj.rows 41 2 K0 (eF A N))]/\True/\(!!decide
 (e2=0))=false/\(!!decide (e2=0))=false/\(!!decide (e2=0))=false/\(!!decide (e2=0))=false/\(!decide (e2=0))=true/\Lf):=by unfold VD VQ;kernel_rfl
theorem rea_con (s:List Nat) (L2:Nat) (b2:Nat->Nat) (e2:Int) (K0:Nat) (A:Nat->List Nat) (N:Nat->Int) (oB:Bool) (k0:LDoes Try.prog (loopAt Try.prog 33 0) 59 1 (mkT [(4,.p 0 0),(5,.l0)]) [some (cellsD 116 [.l0,.i .i64 0] [.lr 1 1 0 s.length false,.i .i64 0]),some (.rows 5 1 s.length (byF (tB s)))] (.exit 0) (mkT [(4,.p 0 0),(5,.lr 2 2 0 K0 false)]) [some (cellsD 116 [.l0,.i .i64 0] [.sv 1 L2 (byF b2),.i .i64 e2]),none,some (.rows 41 2 K0 (eF A N))]) (k1:Con Try.prog 48 [.lr 0 2 0 K0 false] [some (.rows 41 2 K0 (eF A N))] (.b oB) [.keep]) (ha:decide (e2=0)=false):Con Try.prog 33 [.s s] [] (.tup [.l0,.i .i64 11]) []:=by
 exact con_d (rea0_vq (L2:=L2) (b2:=b2) (e2:=e2) (A:=A) (N:=N) (K0:=K0) (s:=s) (ha:=ha)) (by repeat' first | exact trivial | assumption | exact rfl | exact nT (by assumption) | exact nF (by assumption) | assumption | assumption | exact nnT (by assumption) | exact nnF (by assumption) | apply And.intro | decide)
theorem reb0_vq (L2:Nat) (b2:Nat->Nat) (e2:Int) (A:Nat->List Nat) (N:Nat->Int) (K0:Nat) (s:List Nat) (ha:decide (e2=0)=true) (hb:decide (0<Int.ofNat
 L2)=true):VD Try.prog 33 [.s s] [] (Orc.s (Orc.lop [1,0] [4,5] 1 (XO.exit 0) [(4,.p 0 0),(5,.lr 2 2 0 K0 false)] [some (cellsD 116 [.l0,.i .i64 0] [.sv 1 L2 (byF
 b2),.i .i64 e2]),none,some (AObj.rows 41 2 K0 (eF A N))] (Orc.t (Orc.t (Orc.t (Orc.t (Orc.f (Orc.f (Orc.f (Orc.f (Orc.t (Orc.c Orc.z))))))))))) Orc.z) (.tup [.l0,.i .i64
 11]) [] [] 4 (fun Lf=>True/\LDoes Try.prog (loopAt Try.prog 33 0) 59 1 (mkT [(4,.p 0 0),(5,.l0)]) [some (cellsD 116 [.l0,.i .i64 0] [.lr 1 1 0 (List.length s) false,
 .i .i64 0]),some (AObj.rows 5 1 (List.length s) (byF (tB s)))] (XO.exit 0) (mkT [(4,.p 0 0),(5,.lr 2 2 0 K0 false)]) [some (cellsD 116 [.l0,.i .i64 0] [.sv 1 L2 (byF
 b2),.i .i64 e2]),none,some (AObj.rows 41 2 K0 (eF A N))]/\True/\(!!decide (e2=0))=true/\True/\(!!decide (e2=0))=true/\(!!decide (e2=0))=true/\(!!decide
 (e2=0))=true/\(!decide (e2=0))=false/\(!decide (0<Int.ofNat L2))=false/\(!decide (0<Int.ofNat L2))=false/\(!decide (0<Int.ofNat L2))=false/\decide (0
 <Int.ofNat L2)=true/\Lf):=by unfold VD VQ;kernel_rfl
theorem reb_con (s:List Nat) (L2:Nat) (b2:Nat->Nat) (e2:Int) (K0:Nat) (A:Nat->List Nat) (N:Nat->Int) (oB:Bool) (k0:LDoes Try.prog (loopAt Try.prog 33 0) 59 1 (mkT [(4,.p 0 0),(5,.l0)]) [some (cellsD 116 [.l0,.i .i64 0] [.lr 1 1 0 s.length false,.i .i64 0]),some (.rows 5 1 s.length (byF (tB s)))] (.exit 0) (mkT [(4,.p 0 0),(5,.lr 2 2 0 K0 false)]) [some (cellsD 116 [.l0,.i .i64 0] [.sv 1 L2 (byF b2),.i .i64 e2]),none,some (.rows 41 2 K0 (eF A N))]) (k1:Con Try.prog 48 [.lr 0 2 0 K0 false] [some (.rows 41 2 K0 (eF A N))] (.b oB) [.keep]) (ha:decide (e2=0)=true) (hb:decide (0<Int.ofNat L2)=true):Con Try.prog 33 [.s s] [] (.tup [.l0,.i .i64 11]) []:=by
 exact con_d (reb0_vq (L2:=L2) (b2:=b2) (e2:=e2) (A:=A) (N:=N) (K0:=K0) (s:=s) (ha:=ha) (hb:=hb)) (by repeat' first | exact trivial | assumption | exact rfl | exact nT (by assumption) | exact nF (by assumption) | assumption | assumption | exact nnT (by assumption) | exact nnF (by assumption) | apply And.intro | decide)
theorem rec0_vq (L2:Nat) (b2:Nat->Nat) (e2:Int) (A:Nat->List Nat) (N:Nat->Int) (K0:Nat) (oB:Bool) (s:List Nat) (ha:decide (e2=0)=true) (hb:decide (0
 <Int.ofNat L2)=false) (hc:oB=false):VD Try.prog 33 [.s s] [] (Orc.s (Orc.lop [1,0] [4,5] 1 (XO.exit 0) [(4,.p 0 0),(5,.lr 2 2 0 K0 false)] [some (cellsD 116
 [.l0,.i .i64 0] [.sv 1 L2 (byF b2),.i .i64 e2]),none,some (AObj.rows 41 2 K0 (eF A N))] (Orc.t (Orc.t (Orc.t (Orc.t (Orc.f (Orc.t (Orc.t (Orc.cal [3] (.b oB) [.keep]
 (Orc.t (Orc.f (Orc.t Orc.z)))))))))))) Orc.z) (.tup [.l0,.i .i64 11]) [] [] 4 (fun Lf=>True/\LDoes Try.prog (loopAt Try.prog 33 0) 59 1 (mkT [(4,.p 0 0),(5,.l0)])
 [some (cellsD 116 [.l0,.i .i64 0] [.lr 1 1 0 (List.length s) false,.i .i64 0]),some (AObj.rows 5 1 (List.length s) (byF (tB s)))] (XO.exit 0) (mkT [(4,.p 0 0),(5,.lr 2
 2 0 K0 false)]) [some (cellsD 116 [.l0,.i .i64 0] [.sv 1 L2 (byF b2),.i .i64 e2]),none,some (AObj.rows 41 2 K0 (eF A N))]/\True/\(!!decide (e2=0))=true/\True/\
 (!!decide (e2=0))=true/\(!!decide (e2=0))=true/\(!!decide (e2=0))=true/\(!decide (e2=0))=false/\(!decide (0<Int.ofNat L2))=true/\(!decide (0 <
 Int.ofNat L2))=true/\Con Try.prog 48 [.lr 0 2 0 K0 false] [some (AObj.rows 41 2 K0 (eF A N))] (.b oB) [.keep]/\(!decide (0<Int.ofNat L2))=true/\True/\decide (0 <
 Int.ofNat L2)=false/\(!oB)=true/\Lf):=by unfold VD VQ;kernel_rfl
theorem rec_con (s:List Nat) (L2:Nat) (b2:Nat->Nat) (e2:Int) (K0:Nat) (A:Nat->List Nat) (N:Nat->Int) (oB:Bool) (k0:LDoes Try.prog (loopAt Try.prog 33 0) 59 1 (mkT [(4,.p 0 0),(5,.l0)]) [some (cellsD 116 [.l0,.i .i64 0] [.lr 1 1 0 s.length false,.i .i64 0]),some (.rows 5 1 s.length (byF (tB s)))] (.exit 0) (mkT [(4,.p 0 0),(5,.lr 2 2 0 K0 false)]) [some (cellsD 116 [.l0,.i .i64 0] [.sv 1 L2 (byF b2),.i .i64 e2]),none,some (.rows 41 2 K0 (eF A N))]) (k1:Con Try.prog 48 [.lr 0 2 0 K0 false] [some (.rows 41 2 K0 (eF A N))] (.b oB) [.keep]) (ha:decide (e2=0)=true) (hb:decide (0<Int.ofNat L2)=false) (hc:oB=false):Con Try.prog 33 [.s s] [] (.tup [.l0,.i .i64 11]) []:=by
 exact con_d (rec0_vq (L2:=L2) (b2:=b2) (e2:=e2) (A:=A) (N:=N) (K0:=K0) (oB:=oB) (s:=s) (ha:=ha) (hb:=hb) (hc:=hc)) (by repeat' first | exact trivial | assumption | exact rfl | exact nT (by assumption) | exact nF (by assumption) | assumption | assumption | exact nnT (by assumption) | exact nnF (by assumption) | apply And.intro | decide)
theorem red0_fq (L2:Nat) (b2:Nat->Nat) (e2:Int) (A:Nat->List Nat) (N:Nat->Int) (K0:Nat) (oB:Bool) (s:List Nat) (ha:decide (e2=0)=true) (hb:decide (0
 <Int.ofNat L2)=false) (hc:oB=true):VF Try.prog 33 [.s s] [] (Orc.s (Orc.lop [1,0] [4,5] 1 (XO.exit 0) [(4,.p 0 0),(5,.lr 2 2 0 K0 false)] [some (cellsD 116
 [.l0,.i .i64 0] [.sv 1 L2 (byF b2),.i .i64 e2]),none,some (AObj.rows 41 2 K0 (eF A N))] (Orc.t (Orc.t (Orc.t (Orc.t (Orc.f (Orc.t (Orc.t (Orc.cal [3] (.b oB) [.keep]
 (Orc.t (Orc.f (Orc.f Orc.z)))))))))))) Orc.z) (.tup [.sv 2 K0 (shiftF 0 (eF A N)),.i .i64 0]) [] [3] [] (((2=2/\0+K0<=K0)/\(True/\True))/\True) 4 (fun Lf=>True/\
 LDoes Try.prog (loopAt Try.prog 33 0) 59 1 (mkT [(4,.p 0 0),(5,.l0)]) [some (cellsD 116 [.l0,.i .i64 0] [.lr 1 1 0 (List.length s) false,.i .i64 0]),some (AObj.rows 5 1
 (List.length s) (byF (tB s)))] (XO.exit 0) (mkT [(4,.p 0 0),(5,.lr 2 2 0 K0 false)]) [some (cellsD 116 [.l0,.i .i64 0] [.sv 1 L2 (byF b2),.i .i64 e2]),none,some
 (AObj.rows 41 2 K0 (eF A N))]/\True/\(!!decide (e2=0))=true/\True/\(!!decide (e2=0))=true/\(!!decide (e2=0))=true/\(!!decide (e2=0))=true/\(!decide (e2
 =0))=false/\(!decide (0<Int.ofNat L2))=true/\(!decide (0<Int.ofNat L2))=true/\Con Try.prog 48 [.lr 0 2 0 K0 false] [some (AObj.rows 41 2 K0 (eF A N))] (.b oB)
 [.keep]/\(!decide (0<Int.ofNat L2))=true/\True/\decide (0<Int.ofNat L2)=false/\(!oB)=false/\Lf):=by unfold VF;kernel_rfl
theorem red_con (s:List Nat) (L2:Nat) (b2:Nat->Nat) (e2:Int) (K0:Nat) (A:Nat->List Nat) (N:Nat->Int) (oB:Bool) (k0:LDoes Try.prog (loopAt Try.prog 33 0) 59 1 (mkT [(4,.p 0 0),(5,.l0)]) [some (cellsD 116 [.l0,.i .i64 0] [.lr 1 1 0 s.length false,.i .i64 0]),some (.rows 5 1 s.length (byF (tB s)))] (.exit 0) (mkT [(4,.p 0 0),(5,.lr 2 2 0 K0 false)]) [some (cellsD 116 [.l0,.i .i64 0] [.sv 1 L2 (byF b2),.i .i64 e2]),none,some (.rows 41 2 K0 (eF A N))]) (k1:Con Try.prog 48 [.lr 0 2 0 K0 false] [some (.rows 41 2 K0 (eF A N))] (.b oB) [.keep]) (ha:decide (e2=0)=true) (hb:decide (0<Int.ofNat L2)=false) (hc:oB=true):Con Try.prog 33 [.s s] [] (.tup [.sv 2 K0 (shiftF 0 (eF A N)),.i .i64 0]) []:=by
 exact con_f (red0_fq (L2:=L2) (b2:=b2) (e2:=e2) (A:=A) (N:=N) (K0:=K0) (oB:=oB) (s:=s) (ha:=ha) (hb:=hb) (hc:=hc)) ⟨⟨⟨rfl,by simp⟩,trivial,trivial⟩,trivial⟩ (by repeat' first | exact trivial | assumption | exact rfl | exact nT (by assumption) | exact nF (by assumption) | assumption | assumption | exact nnT (by assumption) | exact nnF (by assumption) | apply And.intro | decide)
theorem nV_head (b:Nat->Nat):∀i,nV b (i+1)=b 0 % 128+128*nV (fun k=>b (k+1)) i
 | 0=>by show 0+b 0 % 128*2 ^ (7*0)=b 0 % 128+128*0;rw [Nat.mul_zero,Nat.pow_zero];omega
 | i+1=>by
   have h:=nV_head b i
   show nV b (i+1)+b (i+1) % 128*2 ^ (7*(i+1))=b 0 % 128+128*(nV (fun k=>b (k+1)) i+b (i+1) % 128*2 ^ (7*i))
   rw [h,show 7*(i+1)=7*i+7 by omega,Nat.pow_add,Nat.mul_add,show (2:Nat) ^ 7=128 from rfl]
   have e:b (i+1) % 128*(2 ^ (7*i)*128)=128*(b (i+1) % 128*2 ^ (7*i)):=by
    rw [<-Nat.mul_assoc,Nat.mul_comm]
   rw [e];omega
theorem nV_form:∀(i f:Nat) (b:Nat->Nat),i<=f->(∀j,j<i->128<=b j/\b j<256)->b i<128->(i=0\/b i≠0)->fNf f (nV b (i+1))=(List.range (i+1)).map b/\(b i≠0->0<nV b (i+1))
 | 0,f,b,_,_,hi,_=>by
   have e:nV b 1=b 0:=by rw [nV_head];show b 0 % 128+128*0=b 0;omega
   rw [e]
   refine ⟨?_,fun h=>by omega⟩
   show fNf f (b 0)=[b 0]
   cases f with
   | zero=>rfl
   | succ f=>
     show (match Nat.blt (b 0) 128 with | true=>[b 0] | false=>(b 0 % 128+128) :: fNf f (b 0 / 128))=[b 0]
     rw [show Nat.blt (b 0) 128=true by rw [Nat.blt_eq];exact hi]
 | i+1,f,b,hf,hj,hi,hn=>by
   have hn:b (i+1)≠0:=by rcases hn with q | q;omega;exact q
   cases f with
   | zero=>omega
   | succ f=>
     obtain ⟨h1,h2⟩:=nV_form i f (fun k=>b (k+1)) (by omega) (fun j q=>hj (j+1) (by omega)) hi (.inr hn)
     have h2:=h2 hn
     obtain ⟨h3,h4⟩:=hj 0 (by omega)
     rw [nV_head]
     generalize hv:nV (fun k=>b (k+1)) (i+1)=v at h1 h2
     refine ⟨?_,fun _=>by omega⟩
     show (match Nat.blt (b 0 % 128+128*v) 128 with | true=>[b 0 % 128+128*v] | false=>((b 0 % 128+128*v) % 128+128) :: fNf f ((b 0 % 128+128*v) / 128))= _
     rw [show Nat.blt (b 0 % 128+128*v) 128=false by rw [Bool.eq_false_iff,ne_eq,Nat.blt_eq];omega]
     show ((b 0 % 128+128*v) % 128+128) :: fNf f ((b 0 % 128+128*v) / 128)= _
     rw [show (b 0 % 128+128*v) % 128+128=b 0 by omega,show (b 0 % 128+128*v) / 128=v by omega,h1]
     rw [List.range_succ_eq_map (n:=i+1),List.map_cons,List.map_map]
     rfl
theorem nm_ok0 (b:Nat->Nat) (L:Nat):∀k i v z,i+k=9->i<=L->nm b L k i=some (v,z,0)->∃m,i<=m/\m<9/\m<L/\(∀j,i<=j->j<m->128<=b j)/\b m<128/\(m=0\/b m≠0)/\v=nV b (m+1)/\z=m+1
 | 0,i,v,z,_,_,h=>by cases h
 | k+1,i,v,z,hk,hi,h=>by
   have h:(match Nat.beq i L with
    | true=>some (0,0,10)
    | false=>match Nat.ble 128 (b i) with
      | true=>Cl.nm b L k (i+1)
      | false=>match Nat.beq (b i) 0 && Nat.blt 0 i with
        | true=>some (0,0,11)
        | false=>some (Cl.nV b (i+1),i+1,0))=some (v,z,0):=h
   cases h1:Nat.beq i L with
   | true=>rw [h1] at h;cases h
   | false=>
     rw [h1] at h
     have hL:i<L:=by rw [Bool.eq_false_iff,ne_eq,Nat.beq_eq] at h1;omega
     cases h2:Nat.ble 128 (b i) with
     | true=>
       rw [h2] at h
       obtain ⟨m,a1,a2,a3,a4,a5⟩:=nm_ok0 b L k (i+1) v z (by omega) (by omega) h
       refine ⟨m,by omega,a2,a3,fun j q1 q2=>?_,a5⟩
       rcases Nat.lt_or_ge i j with q | q
       · exact a4 j q q2
       · obtain rfl:j=i:=by omega
         exact Nat.le_of_ble_eq_true h2
     | false=>
       rw [h2] at h
       have hb:b i<128:=by
        rcases Nat.lt_or_ge (b i) 128 with q | q
        · exact q
        · rw [Nat.ble_eq_true_of_le q] at h2;cases h2
       cases h3:(Nat.beq (b i) 0 && Nat.blt 0 i) with
       | true=>rw [h3] at h;cases h
       | false=>
         rw [h3] at h
         simp only [Option.some.injEq,Prod.mk.injEq] at h
         refine ⟨i,Nat.le_refl _,by omega,hL,fun j q1 q2=>by omega,hb,?_,h.1.symm,h.2.1.symm⟩
         rw [Bool.and_eq_false_iff] at h3
         rcases h3 with q | q
         · exact .inr (by rw [Bool.eq_false_iff,ne_eq,Nat.beq_eq] at q;exact q)
         · exact .inl (by rw [Bool.eq_false_iff,ne_eq,Nat.blt_eq] at q;omega)
theorem map_take {u:List Nat}:∀{z:Nat},z<=u.length->(List.range z).map (tB u)=u.take z
 | 0,_=>by simp
 | z+1,h=>by
   rw [List.range_succ,List.map_append,map_take (by omega),List.take_add_one,List.getElem?_eq_getElem (show z<u.length by omega)]
   show u.take z ++ [u.getD z 0]=u.take z ++ [u[z]]
   rw [List.getD_eq_getElem?_getD,List.getElem?_eq_getElem (show z<u.length by omega)];rfl
theorem nm_lt (b:Nat->Nat) (L:Nat):∀k i v z e,i+k=9->nm b L k i=some (v,z,e)->v<9223372036854775808
 | 0,i,v,z,e,_,h=>by cases h
 | k+1,i,v,z,e,hk,h=>by
   have h:(match Nat.beq i L with
    | true=>some (0,0,10)
    | false=>match Nat.ble 128 (b i) with
      | true=>Cl.nm b L k (i+1)
      | false=>match Nat.beq (b i) 0 && Nat.blt 0 i with
        | true=>some (0,0,11)
        | false=>some (Cl.nV b (i+1),i+1,0))=some (v,z,e):=h
   cases h1:Nat.beq i L with
   | true=>rw [h1] at h;simp only [Option.some.injEq,Prod.mk.injEq] at h;omega
   | false=>
     rw [h1] at h
     cases h2:Nat.ble 128 (b i) with
     | true=>rw [h2] at h;exact nm_lt b L k (i+1) v z e (by omega) h
     | false=>
       rw [h2] at h
       cases h3:(Nat.beq (b i) 0 && Nat.blt 0 i) with
       | true=>rw [h3] at h;simp only [Option.some.injEq,Prod.mk.injEq] at h;omega
       | false=>
         rw [h3] at h
         simp only [Option.some.injEq,Prod.mk.injEq] at h
         have h5:=nV_lt b (i+1)
         have h6:2 ^ (7*(i+1))<=2 ^ 63:=Nat.pow_le_pow_right (by decide) (by omega)
         have h7:2 ^ 63=9223372036854775808:=by decide
         omega
theorem nvU_lt (u:List Nat):nvU u<9223372036854775808:=by
 unfold nvU nmv
 cases e:nm (tB u) u.length 9 0 with
 | none=>show 0<_;decide
 | some p=>obtain ⟨v,z,x⟩:=p;exact nm_lt _ _ 9 0 v z x rfl e
theorem num_one {u:List Nat} (h:Byt u) (he:neU u=0):u=fN (nvU u) ++ u.drop (nzU u):=by
 unfold neU nme at he
 cases e:nm (tB u) u.length 9 0 with
 | none=>rw [e] at he;cases he
 | some p=>
   obtain ⟨v,z,x⟩:=p
   rw [e] at he
   have hx:x=0:=he
   subst hx
   obtain ⟨m,_,h9,hL,hj,hm,hn,hv,hz⟩:=nm_ok0 (tB u) u.length 9 0 v z rfl (Nat.zero_le _) e
   have e1:nvU u=v:=by unfold nvU nmv;rw [e];rfl
   have e2:nzU u=z:=by unfold nzU nmz;rw [e];rfl
   rw [e1,e2,hv,hz]
   have f:=(nV_form m 10 (tB u) (by omega) (fun j q=>⟨hj j (Nat.zero_le _) q,u_lt h j⟩) hm hn).1
   show u=fNf 10 (nV (tB u) (m+1)) ++ u.drop (m+1)
   rw [f,map_take (by omega),List.take_append_drop]
theorem num_back {n:Nat} (hn:n<9223372036854775808) (v:List Nat):nvU (fN n ++ v)=n/\nzU (fN n ++ v)=(fN n).length/\neU (fN n ++ v)=0:=by
 have f:Cl.Form n (tB (fN n ++ v)):=fun i hi=>by
  rw [tB_lo (by rw [fN_len];exact hi)]
  exact fN_get hi
 obtain ⟨a,b,c⟩:=f.reads hn (L:=(fN n ++ v).length) (by rw [List.length_append,fN_len];omega)
 exact ⟨a,by rw [fN_len];exact b,c⟩
theorem drop_len (a v:List Nat):(a ++ v).drop a.length=v:=by rw [List.drop_append_of_le_length (Nat.le_refl _),List.drop_length,List.nil_append]
theorem rN_back {n:Nat} (hn:n<9223372036854775808) (v:List Nat):rN ⟨fN n ++ v,0⟩=⟨v,0⟩/\rV ⟨fN n ++ v,0⟩=n:=by
 obtain ⟨a,b,c⟩:=num_back hn v
 constructor
 · show (⟨(fN n ++ v).drop (nzU (fN n ++ v)),Int.ofNat (neU (fN n ++ v))⟩:Rd)= _
   rw [b,c,drop_len];rfl
 · exact a
theorem rV_lt (r:Rd):rV r<9223372036854775808:=by
 unfold rV
 cases decide (r.e=0) with
 | true=>exact nvU_lt _
 | false=>show 0<_;decide
theorem rN_one {r:Rd} (h:Byt r.u) (he:(rN r).e=0):r.e=0/\r.u=fN (rV r) ++ (rN r).u:=by
 obtain ⟨u,e⟩:=r
 cases d:decide (e=0) with
 | false=>
   have e2:rN ⟨u,e⟩=⟨u,e⟩:=by unfold rN;rw [d];rfl
   rw [e2] at he
   exact absurd he (of_decide_eq_false d)
 | true=>
   obtain rfl:=of_decide_eq_true d
   have he:Int.ofNat (neU u)=0:=he
   exact ⟨rfl,num_one h (by simp at he;omega)⟩
theorem itR_head (r:Rd):∀k,itR r (k+1)=itR (rN r) k
 | 0=>rfl
 | k+1=>by show rN (itR r (k+1))=rN (itR (rN r) k);rw [itR_head r k]
noncomputable def vL:Nat->Rd->List Nat
 | 0,_=>[]
 | n+1,r=>rV r :: vL n (rN r)
theorem chain_back:∀(l:List Nat) (v:List Nat),(∀x∈l,x<9223372036854775808)->vL l.length ⟨fm l ++ v,0⟩=l/\itR ⟨fm l ++ v,0⟩ l.length=⟨v,0⟩
 | [],v,_=>⟨rfl,rfl⟩
 | a :: l,v,h=>by
   obtain ⟨h1,h2⟩:=rN_back (h a (by simp)) (fm l ++ v)
   obtain ⟨h3,h4⟩:=chain_back l v fun x hx=>h x (by simp [hx])
   have e:fm (a :: l) ++ v=fN a ++ (fm l ++ v):=List.append_assoc _ _ _
   rw [e]
   constructor
   · show rV _ :: vL l.length (rN _)= _
     rw [h1,h2,h3]
   · rw [show (a :: l).length=l.length+1 from rfl,itR_head,h1,h4]
theorem chain_one:∀(n:Nat) (r:Rd),Byt r.u->(itR r n).e=0->r.e=0/\r.u=fm (vL n r) ++ (itR r n).u
 | 0,r,_,he=>⟨he,rfl⟩
 | n+1,r,h,he=>by
   rw [itR_head] at he⊢
   obtain ⟨h1,h2⟩:=chain_one n (rN r) (byt_rN h) he
   obtain ⟨h3,h4⟩:=rN_one h h1
   refine ⟨h3,?_⟩
   rw [h4]
   show _=(fN (rV r) ++ fm (vL n (rN r))) ++ _
   rw [List.append_assoc,<-h2]
theorem vL_len:∀n r,(vL n r).length=n
 | 0,_=>rfl
 | n+1,r=>by show (vL n (rN r)).length+1= _;rw [vL_len]
theorem vL_lt:∀n r,∀x∈vL n r,x<9223372036854775808
 | 0,_,x,hx=>by simp [vL] at hx
 | n+1,r,x,hx=>by
   rcases List.mem_cons.1 hx with rfl | q
   · exact rV_lt r
   · exact vL_lt n _ x q
noncomputable def allR (n:Nat) (s:List Nat):Bool:=decide ((itR (rd0 s) n).e=0) && !decide (0<Int.ofNat (itR (rd0 s) n).u.length)
theorem allR_iff {n:Nat} {s:List Nat} (h:Byt s):allR n s=natsEq (fm (vL n (rd0 s))) s:=by
 rw [Bool.eq_iff_iff,natsEq_iff]
 constructor
 · intro q
   unfold allR at q
   simp only [Bool.and_eq_true,Bool.not_eq_true',decide_eq_true_eq,decide_eq_false_iff_not] at q
   obtain ⟨_,h2⟩:=chain_one n (rd0 s) h q.1
   have h3:(itR (rd0 s) n).u=[]:=List.eq_nil_of_length_eq_zero (by
    rcases Nat.eq_zero_or_pos (itR (rd0 s) n).u.length with z | z
    · exact z
    · exact absurd (show (0:Int)<Int.ofNat (itR (rd0 s) n).u.length by simp;omega) q.2)
   rw [h3,List.append_nil] at h2
   exact h2.symm
 · intro q
   obtain ⟨_,h2⟩:=chain_back (vL n (rd0 s)) [] (vL_lt n _)
   rw [List.append_nil,q,vL_len] at h2
   have h2:itR (rd0 s) n=⟨[],0⟩:=h2
   unfold allR
   rw [h2];rfl
theorem tx_back {t:List Nat} (ht:t.length<=6) (v:List Nat):txE (tN t ++ v)=0/\txV (tN t ++ v)=t/\txZ (tN t ++ v)=(tN t).length:=by
 have e:tN t ++ v=fN t.length ++ (t ++ v):=List.append_assoc _ _ _
 obtain ⟨a,b,c⟩:=num_back (n:=t.length) (by omega) (t ++ v)
 have h1:decide ((6:Int)<Int.ofNat t.length)=false:=decide_eq_false (by simp;omega)
 have h2:decide (Int.ofNat (fN t.length ++ (t ++ v)).length-Int.ofNat (fN t.length).length<Int.ofNat t.length)=false:=decide_eq_false (by simp<;>omega)
 have h0:decide (Int.ofNat 0=0)=true:=by decide
 rw [e]
 unfold txE txV txZ
 rw [a,b,c,h0,h1,h2]
 refine ⟨rfl,?_,?_⟩
 · show ((fN t.length ++ (t ++ v)).drop (fN t.length).length).take t.length=t
   rw [drop_len,List.take_append_of_le_length (Nat.le_refl _),List.take_length]
 · show (fN t.length).length+t.length=(fN t.length ++ t).length
   rw [List.length_append]
theorem tx_one {u:List Nat} (h:Byt u) (he:txE u=0):u=tN (txV u) ++ u.drop (txZ u)/\(txV u).length<=6:=by
 unfold txE at he
 unfold txV txZ
 cases h0:decide (Int.ofNat (neU u)=0) with
 | false=>
   rw [h0] at he
   have he:neU u=0:=he
   rw [he] at h0;cases h0
 | true=>
   rw [h0] at he
   cases h1:decide ((6:Int)<Int.ofNat (nvU u)) with
   | true=>rw [h1] at he;cases he
   | false=>
     rw [h1] at he
     cases h2:decide (Int.ofNat u.length-Int.ofNat (nzU u)<Int.ofNat (nvU u)) with
     | true=>rw [h2] at he;cases he
     | false=>
       have hz:nzU u<=u.length:=nmz_le _ _
       have hl:=txl h2 hz
       have hn:neU u=0:=by have:=of_decide_eq_true h0;simp at this;omega
       have e:=num_one h hn
       have hv:nvU u<=6:=by have:=of_decide_eq_false h1;simp at this;omega
       have hlen:((u.drop (nzU u)).take (nvU u)).length=nvU u:=by rw [List.length_take,List.length_drop];omega
       simp only [cond_true,cond_false]
       refine ⟨?_,by rw [hlen];exact hv⟩
       unfold tN
       rw [hlen,List.append_assoc,<-List.drop_drop,List.take_append_drop]
       exact e
theorem rX_back {t:List Nat} (ht:t.length<=6) (v:List Nat):rX ⟨tN t ++ v,0⟩=⟨v,0⟩/\rT ⟨tN t ++ v,0⟩=t:=by
 obtain ⟨a,b,c⟩:=tx_back ht v
 constructor
 · show (⟨(tN t ++ v).drop (txZ (tN t ++ v)),Int.ofNat (txE (tN t ++ v))⟩:Rd)= _
   rw [a,c,drop_len];rfl
 · exact b
theorem rX_one {r:Rd} (h:Byt r.u) (he:(rX r).e=0):r.e=0/\r.u=tN (rT r) ++ (rX r).u/\(rT r).length<=6:=by
 obtain ⟨u,e⟩:=r
 cases d:decide (e=0) with
 | false=>
   have e2:rX ⟨u,e⟩=⟨u,e⟩:=by unfold rX;rw [d];rfl
   rw [e2] at he
   exact absurd he (of_decide_eq_false d)
 | true=>
   obtain rfl:=of_decide_eq_true d
   have he:Int.ofNat (txE u)=0:=he
   exact ⟨rfl,tx_one h (by simp at he;omega)⟩
theorem byt_rX {r:Rd} (h:Byt r.u):Byt (rX r).u:=by
 unfold rX
 cases decide (r.e=0) with
 | true=>exact h.drop _
 | false=>exact h
theorem byt_rT {r:Rd} (h:Byt r.u):Byt (rT r):=by
 unfold rT txV
 cases decide (r.e=0) with
 | false=>exact Byt.nil
 | true=>cases decide (Int.ofNat (neU r.u)=0) with
   | false=>exact Byt.nil
   | true=>cases decide ((6:Int)<Int.ofNat (nvU r.u)) with
     | true=>exact Byt.nil
     | false=>cases decide (Int.ofNat r.u.length-Int.ofNat (nzU r.u)<Int.ofNat (nvU r.u)) with
       | true=>exact Byt.nil
       | false=>exact (h.drop _).take _
noncomputable def eR (r:Rd):Nat->Rd
 | 0=>r
 | k+1=>rN (rX (eR r k))
noncomputable def eA (r:Rd) (k:Nat):List Nat:=rT (eR r k)
noncomputable def eN (r:Rd) (k:Nat):Int:=Int.ofNat (rV (rX (eR r k)))
noncomputable def goB (r:Rd) (k:Nat):Bool:=decide (0<Int.ofNat (eR r k).u.length) && decide ((eR r k).e=0)
theorem byt_eR {r:Rd} (h:Byt r.u):∀k,Byt (eR r k).u
 | 0=>h
 | k+1=>byt_rN (byt_rX (byt_eR h k))
theorem eR_head (r:Rd):∀k,eR r (k+1)=eR (rN (rX r)) k
 | 0=>rfl
 | k+1=>by show rN (rX (eR r (k+1)))=rN (rX (eR (rN (rX r)) k));rw [eR_head r k]
theorem eA_head (r:Rd):(fun k=>eA r (k+1))=eA (rN (rX r)):=by funext k;unfold eA;rw [eR_head]
theorem eN_head (r:Rd):(fun k=>eN r (k+1))=eN (rN (rX r)):=by funext k;unfold eN;rw [eR_head]
theorem enP_head (A:Nat->List Nat) (N:Nat->Int):∀n,enP A N (n+1)=tN (A 0) ++ (fN (N 0).toNat ++ enP (fun k=>A (k+1)) (fun k=>N (k+1)) n)
 | 0=>by show ([] ++ tN (A 0)) ++ fN (N 0).toNat=tN (A 0) ++ (fN (N 0).toNat ++ []);rw [List.nil_append,List.append_nil]
 | n+1=>by
   show (enP A N (n+1) ++ tN (A (n+1))) ++ fN (N (n+1)).toNat=tN (A 0) ++ (fN (N 0).toNat ++ ((enP (fun k=>A (k+1)) (fun k=>N (k+1)) n ++ tN (A (n+1))) ++ fN (N (n+1)).toNat))
   rw [enP_head A N n]
   simp only [List.append_assoc]
theorem fN_pos (n:Nat):0<(fN n).length:=by rw [fN_len];unfold wl;omega
theorem e_back:∀(n:Nat) (A:Nat->List Nat) (N:Nat->Int) (v:List Nat),(∀i,i<n->(A i).length<=6/\rwI (N i))->eR ⟨enP A N n ++ v,0⟩ n=⟨v,0⟩/\∀k,k<n->eA ⟨enP A N n ++ v,0⟩ k=A k/\eN ⟨enP A N n ++ v,0⟩ k=N k/\goB ⟨enP A N n ++ v,0⟩ k=true
 | 0,A,N,v,_=>⟨rfl,fun k hk=>absurd hk (Nat.not_lt_zero k)⟩
 | n+1,A,N,v,h=>by
   obtain ⟨a0,n0⟩:=h 0 (by omega)
   have n1:(N 0).toNat<9223372036854775808:=by unfold rwI at n0;omega
   have e:enP A N (n+1) ++ v=tN (A 0) ++ (fN (N 0).toNat ++ (enP (fun k=>A (k+1)) (fun k=>N (k+1)) n ++ v)):=by rw [enP_head];simp only [List.append_assoc]
   obtain ⟨x1,x2⟩:=rX_back a0 (fN (N 0).toNat ++ (enP (fun k=>A (k+1)) (fun k=>N (k+1)) n ++ v))
   obtain ⟨y1,y2⟩:=rN_back n1 (enP (fun k=>A (k+1)) (fun k=>N (k+1)) n ++ v)
   obtain ⟨z1,z2⟩:=e_back n (fun k=>A (k+1)) (fun k=>N (k+1)) v fun i hi=>h (i+1) (by omega)
   rw [e]
   have hE:rN (rX ⟨tN (A 0) ++ (fN (N 0).toNat ++ (enP (fun k=>A (k+1)) (fun k=>N (k+1)) n ++ v)),0⟩)=⟨enP (fun k=>A (k+1)) (fun k=>N (k+1)) n ++ v,0⟩:=by rw [x1,y1]
   refine ⟨by rw [eR_head,hE];exact z1,fun k hk=>?_⟩
   cases k with
   | zero=>
     refine ⟨x2,?_,?_⟩
     · show Int.ofNat (rV (rX ⟨tN (A 0) ++ (fN (N 0).toNat ++ (enP (fun k=>A (k+1)) (fun k=>N (k+1)) n ++ v)),0⟩))= _
       rw [x1,y2,nat_of n0]
     · unfold goB
       show (decide ((0:Int)<Int.ofNat (tN (A 0) ++ (fN (N 0).toNat ++ (enP (fun k=>A (k+1)) (fun k=>N (k+1)) n ++ v))).length) && decide ((0:Int)=0))=true
       rw [decide_eq_true (show (0:Int)<Int.ofNat (tN (A 0) ++ (fN (N 0).toNat ++ (enP (fun k=>A (k+1)) (fun k=>N (k+1)) n ++ v))).length by
        have:=fN_pos (N 0).toNat
        simp only [List.length_append];simp;omega)];rfl
   | succ k=>
     obtain ⟨w1,w2,w3⟩:=z2 k (by omega)
     refine ⟨?_,?_,?_⟩
     · rw [<-hE,<-eA_head] at w1;exact w1
     · rw [<-hE,<-eN_head] at w2;exact w2
     · unfold goB at w3⊢;rw [eR_head,hE];exact w3
theorem e_one:∀(n:Nat) (r:Rd),Byt r.u->(eR r n).e=0->r.e=0/\r.u=enP (eA r) (eN r) n ++ (eR r n).u
 | 0,r,_,he=>⟨he,rfl⟩
 | n+1,r,h,he=>by
   rw [eR_head] at he⊢
   obtain ⟨h1,h2⟩:=e_one n (rN (rX r)) (byt_rN (byt_rX h)) he
   obtain ⟨h3,h4⟩:=rN_one (byt_rX h) h1
   obtain ⟨h5,h6,_⟩:=rX_one h h3
   refine ⟨h5,?_⟩
   rw [enP_head,eA_head,eN_head]
   show r.u=(tN (rT r) ++ (fN (Int.ofNat (rV (rX r))).toNat ++ enP (eA (rN (rX r))) (eN (rN (rX r))) n)) ++ (eR (rN (rX r)) n).u
   rw [List.append_assoc,List.append_assoc,<-h2,show (Int.ofNat (rV (rX r))).toNat=rV (rX r) from rfl,<-h4]
   exact h6
def Stop (r:Rd) (m K:Nat):Prop:=K<=m/\(∀i,i<K->goB r i=true)/\(K=m\/goB r K=false)
theorem stop_ex (r:Rd) (m:Nat):∃K,Stop r m K:=by
 cases h:alB (goB r) m with
 | true=>exact ⟨m,Nat.le_refl _,alB_t h,.inl rfl⟩
 | false=>
   obtain ⟨j,a,b,c⟩:=alB_f h
   exact ⟨j,by omega,c,.inr b⟩
noncomputable def okE (s:List Nat) (K:Nat):Bool:=enB K (eA (rd0 s)) (eN (rd0 s)) && natsEq (enP (eA (rd0 s)) (eN (rd0 s)) K) s
noncomputable def okF (s:List Nat) (K:Nat):Bool:=decide ((eR (rd0 s) K).e=0) && (!decide (0<Int.ofNat (eR (rd0 s) K).u.length) && enB K (eA (rd0 s)) (eN (rd0 s)))
theorem end_iff {s:List Nat} (h:Byt s) {K:Nat} (hb:enB K (eA (rd0 s)) (eN (rd0 s))=true):enP (eA (rd0 s)) (eN (rd0 s)) K=s↔eR (rd0 s) K=⟨[],0⟩:=by
 have ok:=en_ok hb fun i _=>byt_rT (byt_eR (r:=rd0 s) h i)
 constructor
 · intro q
   have k:=(e_back K (eA (rd0 s)) (eN (rd0 s)) [] fun i hi=>⟨(ok.2 i hi).1,(ok.2 i hi).2.2⟩).1
   rw [List.append_nil,q] at k
   exact k
 · intro q
   have k:=(e_one K (rd0 s) h (by rw [q])).2
   rw [q,List.append_nil] at k
   exact k.symm
theorem nil_len {u:List Nat} (h:decide ((0:Int)<Int.ofNat u.length)=false):u=[]:=by
 cases u with
 | nil=>rfl
 | cons a u=>exact absurd (show (0:Int)<Int.ofNat (a :: u).length by simp<;>omega) (of_decide_eq_false h)
theorem ok_same {s:List Nat} (h:Byt s) {K K':Nat} (hK:Stop (rd0 s) 8 K) (hK':Stop (rd0 s) 9 K'):okE s K=okF s K'/\(okE s K=true->K=K'):=by
 obtain ⟨a1,a2,a3⟩:=hK
 obtain ⟨b1,b2,b3⟩:=hK'
 cases hg:goB (rd0 s) K with
 | false=>
   have e:K=K':=by
    rcases Nat.lt_trichotomy K K' with q | q | q
    · rw [b2 K q] at hg;cases hg
    · exact q
    · rcases b3 with r | r
      · omega
      · rw [a2 K' q] at r;cases r
   subst e
   refine ⟨?_,fun _=>rfl⟩
   unfold okE okF
   cases hb:enB K (eA (rd0 s)) (eN (rd0 s)) with
   | false=>rw [Bool.false_and,Bool.and_false,Bool.and_false]
   | true=>
     rw [Bool.true_and,Bool.and_true,Bool.eq_iff_iff,natsEq_iff,end_iff h hb]
     constructor
     · intro q;rw [q];rfl
     · intro q
       simp only [Bool.and_eq_true,Bool.not_eq_true'] at q
       have q1:=of_decide_eq_true q.1
       have q2:=nil_len q.2
       cases he:eR (rd0 s) K with
       | mk u e=>rw [he] at q1 q2;rw [show u=[] from q2,show e=0 from q1]
 | true=>
   have e8:K=8:=by
    rcases a3 with r | r
    · exact r
    · rw [r] at hg;cases hg
   subst e8
   have e9:K'=9:=by
    rcases b3 with r | r
    · exact r
    · rcases Nat.lt_trichotomy K' 8 with q | q | q
      · rw [a2 K' q] at r;cases r
      · rw [q,hg] at r;cases r
      · omega
   subst e9
   have x:okE s 8=false:=by
    unfold okE
    cases hb:enB 8 (eA (rd0 s)) (eN (rd0 s)) with
    | false=>rfl
    | true=>
      rw [Bool.true_and,Bool.eq_false_iff,ne_eq,natsEq_iff,end_iff h hb]
      intro q
      unfold goB at hg
      rw [q] at hg
      cases hg
   have y:okF s 9=false:=by
    unfold okF enB
    rw [show decide (Int.ofNat 9<=8)=false by decide,Bool.false_and,Bool.and_false,Bool.and_false]
   rw [x,y]
   exact ⟨rfl,fun h=>by cases h⟩
theorem cl0_vq (t:List Nat):VD Try.prog 56 [.s t] [] (Orc.cal [] (.s t) [] Orc.z) (.s t) [] [] 0 (fun Lf=>Con Try.prog 85 [.s t] [] (.s t) []/\Lf)
 :=by unfold VD VQ;kernel_rfl
theorem cl_con (t:List Nat) (ht:t.length<=281474976710656):Con Try.prog 56 [.s t] [] (.s t) []:=by
 exact con_d (cl0_vq (t:=t)) (by repeat' first | exact trivial | assumption | exact rfl | exact nT (by assumption) | exact nF (by assumption) | exact clone85_con _ ht | apply And.intro | decide)
theorem cut_eq {s:List Nat} {z:Nat} (hz:z<=s.length):List.take (List.length s-Int.toNat (Int.ofNat (List.length s)-Int.ofNat (s.drop z).length)) (List.drop (Int.toNat (Int.ofNat (List.length s)-Int.ofNat (s.drop z).length)) s)=s.drop z:=by
 have e:Int.toNat (Int.ofNat (List.length s)-Int.ofNat (s.drop z).length)=z:=by rw [List.length_drop];simp<;>omega
 rw [e,List.take_of_length_le (by rw [List.length_drop];exact Nat.le_refl _)]
theorem cut_eq2 {s:List Nat} {z:Nat}:List.take (List.length s-z) (List.drop z s)=s.drop z:=by
 rw [List.take_of_length_le (by rw [List.length_drop];exact Nat.le_refl _)]
noncomputable def okD (s:List Nat):Bool:=blB (Int.ofNat (nvU s)) (s.drop (nzU s)) && natsEq (ebT (Int.ofNat (nvU s)) (s.drop (nzU s))) s
noncomputable def dbV (s:List Nat):Int:=bif okD s then Int.ofNat (nvU s) else 0
noncomputable def dbD (s:List Nat):List Nat:=bif okD s then s.drop (nzU s) else []
noncomputable def dE (b:Bool):Int:=bif b then 0 else 11
theorem eb_0 {v:Int} {t:List Nat}:decide (ebE v t=0)=blB v t:=by unfold ebE;cases blB v t<;>rfl
theorem in_0 {k g l s d0 d1 d2 d3 i:Int}:decide (inE k g l s d0 d1 d2 d3 i=0)=inB k g l s d0 d1 d2 d3 i:=by unfold inE;cases inB k g l s d0 d1 d2 d3 i<;>rfl
theorem en_0 {n:Nat} {A:Nat->List Nat} {N:Nat->Int}:decide (enE n A N=0)=enB n A N:=by unfold enE;cases enB n A N<;>rfl
theorem cl_cut {s:List Nat} {z:Nat} (hz:z<=s.length) (hS:s.length<=140737488351232):Con Try.prog 56 [.s (List.take (List.length s-Int.toNat (Int.ofNat (List.length s)-Int.ofNat (s.drop z).length)) (List.drop (Int.toNat (Int.ofNat (List.length s)-Int.ofNat (s.drop z).length)) s))] [] (.s (s.drop z)) []:=by
 rw [cut_eq hz]
 exact cl_con _ (by rw [List.length_drop];omega)
theorem decB_con {s:List Nat} (h:Byt s) (hS:s.length<=140737488351232):Con Try.prog 26 [.s s] [] (.tup [.agg [.i .i64 (dbV s),.s (dbD s)],.i .i64 (dE (okD s))]) []:=by
 have hz:nzU s<=s.length:=nmz_le _ _
 have hl:(s.drop (nzU s)).length<=s.length:=by rw [List.length_drop];omega
 have k0:=new_s hS
 have k1:=num_u h
 have k2:=cl_cut hz hS
 have k3:=eb_con (Int.ofNat (nvU s)) (s.drop (nzU s))
 unfold dbV dbD dE okD
 rw [<-eb_0]
 cases ha:decide (ebE (Int.ofNat (nvU s)) (s.drop (nzU s))=0) with
 | false=>exact dbc_con s _ _ _ _ _ _ _ _ _ k0 k1 k2 k3 hl hS ha
 | true=>cases hb:natsEq (ebT (Int.ofNat (nvU s)) (s.drop (nzU s))) s with
   | false=>exact dbb_con s _ _ _ _ _ _ _ _ _ k0 k1 k2 k3 hl hS ha hb
   | true=>exact dba_con s _ _ _ _ _ _ _ _ _ k0 k1 k2 k3 hl hS ha hb
theorem ne0 {n:Nat} (h:decide (Int.ofNat n=0)=false):n≠0:=by rintro rfl;cases h
theorem rdecB_con {s:List Nat} (h:Byt s) (hS:s.length<=140737488351232):Con Try.prog 27 [.s s] [] (.tup [.agg [.i .i64 (dbV s),.s (dbD s)],.i .i64 (dE (okD s))]) []:=by
 have hz:nzU s<=s.length:=nmz_le _ _
 have k0:=tk0 h
 have k1:=rencB_con (Int.ofNat (nvU s)) (s.drop (nzU s))
 have k1:Con Try.prog 12 [.agg [.i .i64 (Int.ofNat (nvU s)),.s (List.take (List.length s-nzU s) (List.drop (nzU s) s))]] [] (.tup [.s (ebT (Int.ofNat (nvU s)) (s.drop (nzU s))),.i .i64 (ebE (Int.ofNat (nvU s)) (s.drop (nzU s)))]) []:=by rw [cut_eq2];exact k1
 cases hs:natsEq s [] with
 | true=>
   obtain rfl:=(natsEq_iff s []).1 hs
   have e:okD []=true:=by
    obtain ⟨a,b⟩:=nm_err (tB []) 0 (show nme (tB []) 0≠0 by decide)
    unfold okD
    rw [show nvU []=0 from a,show nzU []=0 from b]
    rfl
   obtain ⟨a,b⟩:=nm_err (tB []) 0 (show nme (tB []) 0≠0 by decide)
   unfold dbV dbD dE
   rw [e,show nvU []=0 from a,show nzU []=0 from b]
   exact rda_con [] hs
 | false=>cases hn:decide (Int.ofNat (neU s)=0) with
   | false=>
     obtain ⟨a,b⟩:=nm_err (tB s) s.length (ne0 hn)
     have e:okD s=false:=by
      unfold okD
      rw [show nvU s=0 from a,show nzU s=0 from b]
      unfold blB
      rw [show decide ((0:Int)<Int.ofNat 0)=false by decide,Bool.false_or,List.drop_zero,hs,Bool.and_false,Bool.and_false,Bool.false_and]
     unfold dbV dbD dE
     rw [e]
     exact rdb_con s _ _ _ _ _ k0 k1 hz hS hs hn
   | true=>
     unfold dbV dbD dE okD
     rw [<-eb_0]
     cases ha:decide (ebE (Int.ofNat (nvU s)) (s.drop (nzU s))=0) with
     | false=>exact rdc_con s _ _ _ _ _ k0 k1 hz hS hs hn ha
     | true=>cases hb:natsEq (ebT (Int.ofNat (nvU s)) (s.drop (nzU s))) s with
       | false=>exact rdd_con s _ _ _ _ _ k0 k1 hz hS hs hn ha hb
       | true=>
         have q:=rde_con s _ _ _ _ _ k0 k1 hz hS hs hn ha hb
         rw [cut_eq2] at q
         exact q
noncomputable def inX (s:List Nat):Bool:=inB (Int.ofNat (vR (rd0 s) 0)) (Int.ofNat (vR (rd0 s) 1)) (Int.ofNat (vR (rd0 s) 2)) (Int.ofNat (vR (rd0 s) 3)) (Int.ofNat (vR (rd0 s) 4)) (Int.ofNat (vR (rd0 s) 5)) (Int.ofNat (vR (rd0 s) 6)) (Int.ofNat (vR (rd0 s) 7)) (Int.ofNat (vR (rd0 s) 8))
noncomputable def okI (s:List Nat):Bool:=inX s && natsEq (fI [Int.ofNat (vR (rd0 s) 0),Int.ofNat (vR (rd0 s) 1),Int.ofNat (vR (rd0 s) 2),Int.ofNat (vR (rd0 s) 3),Int.ofNat (vR (rd0 s) 4),Int.ofNat (vR (rd0 s) 5),Int.ofNat (vR (rd0 s) 6),Int.ofNat (vR (rd0 s) 7),Int.ofNat (vR (rd0 s) 8)]) s
theorem fI_vL (s:List Nat):fI [Int.ofNat (vR (rd0 s) 0),Int.ofNat (vR (rd0 s) 1),Int.ofNat (vR (rd0 s) 2),Int.ofNat (vR (rd0 s) 3),Int.ofNat (vR (rd0 s) 4),Int.ofNat (vR (rd0 s) 5),Int.ofNat (vR (rd0 s) 6),Int.ofNat (vR (rd0 s) 7),Int.ofNat (vR (rd0 s) 8)]=fm (vL 9 (rd0 s)):=rfl
theorem okI_eq {s:List Nat} (h:Byt s):okI s=(allR 9 s && inX s):=by
 unfold okI
 rw [fI_vL,<-allR_iff h,Bool.and_comm]
theorem decI_con {s:List Nat} (h:Byt s) (hS:s.length<=140737488351232):Con Try.prog 28 [.s s] [] (.tup [.agg [.i .i64 (bif okI s then Int.ofNat (vR (rd0 s) 0) else 0),.i .i64 (bif okI s then Int.ofNat (vR (rd0 s) 1) else 0),.i .i64 (bif okI s then Int.ofNat (vR (rd0 s) 2) else 0),.i .i64 (bif okI s then Int.ofNat (vR (rd0 s) 3) else 0),.i .i64 (bif okI s then Int.ofNat (vR (rd0 s) 4) else 0),.i .i64 (bif okI s then Int.ofNat (vR (rd0 s) 5) else 0),.i .i64 (bif okI s then Int.ofNat (vR (rd0 s) 6) else 0),.i .i64 (bif okI s then Int.ofNat (vR (rd0 s) 7) else 0),.i .i64 (bif okI s then Int.ofNat (vR (rd0 s) 8) else 0)],.i .i64 (dE (okI s))]) []:=by
 have k0:=new_s hS
 have k1:=ti_r (r:=rd0 s) h
 have k2:=encI_con (Int.ofNat (vR (rd0 s) 0)) (Int.ofNat (vR (rd0 s) 1)) (Int.ofNat (vR (rd0 s) 2)) (Int.ofNat (vR (rd0 s) 3)) (Int.ofNat (vR (rd0 s) 4)) (Int.ofNat (vR (rd0 s) 5)) (Int.ofNat (vR (rd0 s) 6)) (Int.ofNat (vR (rd0 s) 7)) (Int.ofNat (vR (rd0 s) 8))
 unfold dE okI inX
 cases ha:inB (Int.ofNat (vR (rd0 s) 0)) (Int.ofNat (vR (rd0 s) 1)) (Int.ofNat (vR (rd0 s) 2)) (Int.ofNat (vR (rd0 s) 3)) (Int.ofNat (vR (rd0 s) 4)) (Int.ofNat (vR (rd0 s) 5)) (Int.ofNat (vR (rd0 s) 6)) (Int.ofNat (vR (rd0 s) 7)) (Int.ofNat (vR (rd0 s) 8)) with
 | false=>exact dic_con (s:=s) (k0:=k0) (k1:=k1) (k2:=k2) (ha:=in_0.trans ha)
 | true=>
   have eT:inT (Int.ofNat (vR (rd0 s) 0)) (Int.ofNat (vR (rd0 s) 1)) (Int.ofNat (vR (rd0 s) 2)) (Int.ofNat (vR (rd0 s) 3)) (Int.ofNat (vR (rd0 s) 4)) (Int.ofNat (vR (rd0 s) 5)) (Int.ofNat (vR (rd0 s) 6)) (Int.ofNat (vR (rd0 s) 7)) (Int.ofNat (vR (rd0 s) 8))=fI [Int.ofNat (vR (rd0 s) 0),Int.ofNat (vR (rd0 s) 1),Int.ofNat (vR (rd0 s) 2),Int.ofNat (vR (rd0 s) 3),Int.ofNat (vR (rd0 s) 4),Int.ofNat (vR (rd0 s) 5),Int.ofNat (vR (rd0 s) 6),Int.ofNat (vR (rd0 s) 7),Int.ofNat (vR (rd0 s) 8)]:=by unfold inT;rw [ha];rfl
   rw [eT] at k2
   cases hb:natsEq (fI [Int.ofNat (vR (rd0 s) 0),Int.ofNat (vR (rd0 s) 1),Int.ofNat (vR (rd0 s) 2),Int.ofNat (vR (rd0 s) 3),Int.ofNat (vR (rd0 s) 4),Int.ofNat (vR (rd0 s) 5),Int.ofNat (vR (rd0 s) 6),Int.ofNat (vR (rd0 s) 7),Int.ofNat (vR (rd0 s) 8)]) s with
   | false=>exact dib_con (s:=s) (k0:=k0) (k1:=k1) (k2:=k2) (ha:=in_0.trans ha) (hb:=hb)
   | true=>exact dia_con (s:=s) (k0:=k0) (k1:=k1) (k2:=k2) (ha:=in_0.trans ha) (hb:=hb)
theorem rdecI_con {s:List Nat} (h:Byt s) (hS:s.length<=140737488351232):Con Try.prog 29 [.s s] [] (.tup [.agg [.i .i64 (bif okI s then Int.ofNat (vR (rd0 s) 0) else 0),.i .i64 (bif okI s then Int.ofNat (vR (rd0 s) 1) else 0),.i .i64 (bif okI s then Int.ofNat (vR (rd0 s) 2) else 0),.i .i64 (bif okI s then Int.ofNat (vR (rd0 s) 3) else 0),.i .i64 (bif okI s then Int.ofNat (vR (rd0 s) 4) else 0),.i .i64 (bif okI s then Int.ofNat (vR (rd0 s) 5) else 0),.i .i64 (bif okI s then Int.ofNat (vR (rd0 s) 6) else 0),.i .i64 (bif okI s then Int.ofNat (vR (rd0 s) 7) else 0),.i .i64 (bif okI s then Int.ofNat (vR (rd0 s) 8) else 0)],.i .i64 (dE (okI s))]) []:=by
 rw [okI_eq h]
 unfold dE
 cases q:allR 9 s with
 | false=>exact rjn_con s (k9_no h q)
 | true=>
   have k1:=rin_con (Int.ofNat (vR (rd0 s) 0)) (Int.ofNat (vR (rd0 s) 1)) (Int.ofNat (vR (rd0 s) 2)) (Int.ofNat (vR (rd0 s) 3)) (Int.ofNat (vR (rd0 s) 4)) (Int.ofNat (vR (rd0 s) 5)) (Int.ofNat (vR (rd0 s) 6)) (Int.ofNat (vR (rd0 s) 7)) (Int.ofNat (vR (rd0 s) 8))
   cases hb:inX s with
   | false=>exact rix_con (s:=s) (k0:=k9_ok h q) (k1:=k1) (hb:=hb)
   | true=>exact riy_con (s:=s) (k0:=k9_ok h q) (k1:=k1) (hb:=hb)
noncomputable def ptX (s:List Nat):Bool:=pm8B (Int.ofNat (vR (rd0 s) 0)) (Int.ofNat (vR (rd0 s) 1)) (Int.ofNat (vR (rd0 s) 2)) (Int.ofNat (vR (rd0 s) 3)) (Int.ofNat (vR (rd0 s) 4)) (Int.ofNat (vR (rd0 s) 5)) (Int.ofNat (vR (rd0 s) 6)) (Int.ofNat (vR (rd0 s) 7))
noncomputable def okP (s:List Nat):Bool:=ptX s && natsEq (fm (vL 8 (rd0 s))) s
theorem okP_eq {s:List Nat} (h:Byt s):okP s=(allR 8 s && ptX s):=by
 unfold okP
 rw [<-allR_iff h,Bool.and_comm]
theorem pt_0 {p0 p1 p2 p3 p4 p5 p6 p7:Int}:decide (ptE p0 p1 p2 p3 p4 p5 p6 p7=0)=pm8B p0 p1 p2 p3 p4 p5 p6 p7:=by unfold ptE;cases pm8B p0 p1 p2 p3 p4 p5 p6 p7<;>rfl
theorem decP_con {s:List Nat} (h:Byt s) (hS:s.length<=140737488351232):Con Try.prog 30 [.s s] [] (.tup [.agg [.i .i64 (bif okP s then Int.ofNat (vR (rd0 s) 0) else 0),.i .i64 (bif okP s then Int.ofNat (vR (rd0 s) 1) else 0),.i .i64 (bif okP s then Int.ofNat (vR (rd0 s) 2) else 0),.i .i64 (bif okP s then Int.ofNat (vR (rd0 s) 3) else 0),.i .i64 (bif okP s then Int.ofNat (vR (rd0 s) 4) else 0),.i .i64 (bif okP s then Int.ofNat (vR (rd0 s) 5) else 0),.i .i64 (bif okP s then Int.ofNat (vR (rd0 s) 6) else 0),.i .i64 (bif okP s then Int.ofNat (vR (rd0 s) 7) else 0)],.i .i64 (dE (okP s))]) []:=by
 have k0:=new_s hS
 have k1:=tp_r (r:=rd0 s) h
 have k2:=encP_con (Int.ofNat (vR (rd0 s) 0)) (Int.ofNat (vR (rd0 s) 1)) (Int.ofNat (vR (rd0 s) 2)) (Int.ofNat (vR (rd0 s) 3)) (Int.ofNat (vR (rd0 s) 4)) (Int.ofNat (vR (rd0 s) 5)) (Int.ofNat (vR (rd0 s) 6)) (Int.ofNat (vR (rd0 s) 7))
 unfold dE okP ptX
 cases ha:pm8B (Int.ofNat (vR (rd0 s) 0)) (Int.ofNat (vR (rd0 s) 1)) (Int.ofNat (vR (rd0 s) 2)) (Int.ofNat (vR (rd0 s) 3)) (Int.ofNat (vR (rd0 s) 4)) (Int.ofNat (vR (rd0 s) 5)) (Int.ofNat (vR (rd0 s) 6)) (Int.ofNat (vR (rd0 s) 7)) with
 | false=>exact dpc_con (s:=s) (k0:=k0) (k1:=k1) (k2:=k2) (ha:=pt_0.trans ha)
 | true=>
   have eT:ptT (Int.ofNat (vR (rd0 s) 0)) (Int.ofNat (vR (rd0 s) 1)) (Int.ofNat (vR (rd0 s) 2)) (Int.ofNat (vR (rd0 s) 3)) (Int.ofNat (vR (rd0 s) 4)) (Int.ofNat (vR (rd0 s) 5)) (Int.ofNat (vR (rd0 s) 6)) (Int.ofNat (vR (rd0 s) 7))=fm (vL 8 (rd0 s)):=by unfold ptT;rw [ha];rfl
   rw [eT] at k2
   cases hb:natsEq (fm (vL 8 (rd0 s))) s with
   | false=>exact dpb_con (s:=s) (k0:=k0) (k1:=k1) (k2:=k2) (ha:=pt_0.trans ha) (hb:=hb)
   | true=>exact dpa_con (s:=s) (k0:=k0) (k1:=k1) (k2:=k2) (ha:=pt_0.trans ha) (hb:=hb)
theorem rdecP_con {s:List Nat} (h:Byt s) (hS:s.length<=140737488351232):Con Try.prog 31 [.s s] [] (.tup [.agg [.i .i64 (bif okP s then Int.ofNat (vR (rd0 s) 0) else 0),.i .i64 (bif okP s then Int.ofNat (vR (rd0 s) 1) else 0),.i .i64 (bif okP s then Int.ofNat (vR (rd0 s) 2) else 0),.i .i64 (bif okP s then Int.ofNat (vR (rd0 s) 3) else 0),.i .i64 (bif okP s then Int.ofNat (vR (rd0 s) 4) else 0),.i .i64 (bif okP s then Int.ofNat (vR (rd0 s) 5) else 0),.i .i64 (bif okP s then Int.ofNat (vR (rd0 s) 6) else 0),.i .i64 (bif okP s then Int.ofNat (vR (rd0 s) 7) else 0)],.i .i64 (dE (okP s))]) []:=by
 rw [okP_eq h]
 unfold dE
 cases q:allR 8 s with
 | false=>exact rpn_con s (k8_no h q)
 | true=>
   cases hb:ptX s with
   | false=>
     obtain ⟨h9,k1⟩:=pdX_lp (vR (rd0 s)) hb
     exact rpx_con (s:=s) (k0:=k8_ok h q) (k1:=k1)
   | true=>exact rpy_con (s:=s) (k0:=k8_ok h q) (k1:=pd_lp (vR (rd0 s)) hb)
theorem bw_bt {s i:Nat} (hs:s<9223372036854775808):bw s (2 ^ i)=bt s i:=by
 unfold bw bt
 have e1:Int.fdiv (Int.ofNat s) (Int.ofNat (2 ^ i))=Int.ofNat (s / 2 ^ i):=by
  cases s with
  | zero=>rw [Nat.zero_div];exact Int.zero_fdiv _
  | succ s=>cases (2 ^ i)<;>rfl
 have h1:s / 2 ^ i<=s:=Nat.div_le_self _ _
 rw [e1]
 generalize s / 2 ^ i=m at h1
 have e2:wrapA IntKind.i64 ↑(BitVec.toNat (BitVec.ofInt 64 (Int.ofNat m) &&& BitVec.ofInt 64 1))=Int.ofNat (m % 2):=by
  rw [BitVec.toNat_and,ofInt_nat,show (BitVec.ofInt 64 1).toNat=1 by decide,Nat.mod_eq_of_lt (show m<2 ^ 64 by omega),Nat.and_one_is_mod]
  exact wrap64 (by omega)
 rw [e2]
 exact decide_eq_decide.2 ⟨fun h=>by simp at h;omega,fun h=>by rw [h];rfl⟩
noncomputable def sgX (s:List Nat) (k:Nat):Bool:=sgF (vR (rd0 s) 0) (vR (rd0 s) 1) k
theorem vR_lt (r:Rd) (k:Nat):vR r k<9223372036854775808:=rV_lt _
theorem sgX_eq (s:List Nat) (k:Nat) (hk:k<32):sgX s k=gT (vR (rd0 s) 0) (vR (rd0 s) 1) 24 k:=by
 unfold sgX sgF gT
 cases h:Nat.blt k 8 with
 | true=>exact bw_bt (vR_lt _ _)
 | false=>
   rw [bT (show k-8<24 by omega)]
   exact bw_bt (vR_lt _ _)
theorem gat_bt (v:Nat):∀n,gat (bt v) n=v % 2 ^ n
 | 0=>by show 0=v % 1;omega
 | n+1=>by
   rw [Nat.mod_pow_succ,<-gat_bt v n]
   cases h:bt v n with
   | true=>
     have:=of_decide_eq_true h
     rw [gat_t h,this,Nat.mul_one]
   | false=>
     have:=of_decide_eq_false h
     have h2:v / 2 ^ n % 2=0:=by omega
     rw [gat_s h,h2,Nat.mul_zero,Nat.add_zero]
theorem gat_congr {f g:Nat->Bool}:∀n,(∀i,i<n->f i=g i)->gat f n=gat g n
 | 0,_=>rfl
 | n+1,h=>by
   show gat f n+(bif f n then 2 ^ n else 0)=gat g n+(bif g n then 2 ^ n else 0)
   rw [gat_congr n fun i hi=>h i (by omega),h n (by omega)]
theorem sgT_eq (s:List Nat):sgT (sgX s)=fm [vR (rd0 s) 0 % 2 ^ 8,vR (rd0 s) 1 % 2 ^ 24]:=by
 have e1:gat (fun i=>sgX s (0+i)) 8=vR (rd0 s) 0 % 2 ^ 8:=by
  rw [<-gat_bt]
  refine gat_congr 8 fun i hi=>?_
  show sgX s (0+i)= _
  rw [Nat.zero_add,sgX_eq s i (by omega)]
  unfold gT
  rw [bT hi];rfl
 have e2:gat (fun i=>sgX s (8+i)) 24=vR (rd0 s) 1 % 2 ^ 24:=by
  rw [<-gat_bt]
  refine gat_congr 24 fun i hi=>?_
  show sgX s (8+i)= _
  rw [sgX_eq s (8+i) (by omega)]
  unfold gT
  rw [bF (show 8<=8+i by omega),Nat.add_sub_cancel_left,bT hi];rfl
 unfold sgT
 rw [e1,e2];rfl
noncomputable def okS (s:List Nat):Bool:=natsEq (sgT (sgX s)) s
noncomputable def okT (s:List Nat):Bool:=allR 2 s && (decide (Int.ofNat (vR (rd0 s) 0 / 2 ^ 8)=0) && decide (Int.ofNat (vR (rd0 s) 1 / 2 ^ 24)=0))
theorem vL2 (s:List Nat):vL 2 (rd0 s)=[vR (rd0 s) 0,vR (rd0 s) 1]:=rfl
theorem dz {n:Nat}:decide (Int.ofNat n=0)=decide (n=0):=decide_eq_decide.2 ⟨fun h=>by simp at h;omega,fun h=>by rw [h];rfl⟩
theorem okS_eq {s:List Nat} (h:Byt s):okS s=okT s:=by
 unfold okS okT
 rw [sgT_eq,dz,dz,Bool.eq_iff_iff,natsEq_iff]
 have p8:(2:Nat) ^ 8=256:=rfl
 have p24:(2:Nat) ^ 24=16777216:=rfl
 have l0:=vR_lt (rd0 s) 0
 have l1:=vR_lt (rd0 s) 1
 constructor
 · intro q
   obtain ⟨k1,k2⟩:=chain_back [vR (rd0 s) 0 % 2 ^ 8,vR (rd0 s) 1 % 2 ^ 24] [] (by intro x hx;simp at hx;rcases hx with rfl | rfl<;>omega)
   rw [List.append_nil,q] at k1
   have k1:vL 2 (rd0 s)=[vR (rd0 s) 0 % 2 ^ 8,vR (rd0 s) 1 % 2 ^ 24]:=k1
   have k3:=k1
   rw [vL2,List.cons.injEq,List.cons.injEq] at k3
   obtain ⟨z0,z1,_⟩:=k3
   have ha:allR 2 s=true:=by rw [allR_iff h,k1,natsEq_iff];exact q
   rw [ha,Bool.true_and,Bool.and_eq_true]
   exact ⟨decide_eq_true (by omega),decide_eq_true (by omega)⟩
 · intro q
   simp only [Bool.and_eq_true,decide_eq_true_eq] at q
   obtain ⟨ha,hb,hc⟩:=q
   rw [allR_iff h,natsEq_iff,vL2] at ha
   rw [show vR (rd0 s) 0 % 2 ^ 8=vR (rd0 s) 0 by omega,show vR (rd0 s) 1 % 2 ^ 24=vR (rd0 s) 1 by omega]
   exact ha
noncomputable def gO (s:List Nat) (k:Nat):Bool:=bif okS s then gT (vR (rd0 s) 0) (vR (rd0 s) 1) 24 k else false
theorem ag_eq {a b:Nat->Bool} (h:∀k,k<32->a k=b k):AV.agg [.b (a 0),.b (a 1),.b (a 2),.b (a 3),.b (a 4),.b (a 5),.b (a 6),.b (a 7),.b (a 8),.b (a 9),.b (a 10),.b (a 11),.b (a 12),.b (a 13),.b (a 14),.b (a 15),.b (a 16),.b (a 17),.b (a 18),.b (a 19),.b (a 20),.b (a 21),.b (a 22),.b (a 23),.b (a 24),.b (a 25),.b (a 26),.b (a 27),.b (a 28),.b (a 29),.b (a 30),.b (a 31)]=.agg [.b (b 0),.b (b 1),.b (b 2),.b (b 3),.b (b 4),.b (b 5),.b (b 6),.b (b 7),.b (b 8),.b (b 9),.b (b 10),.b (b 11),.b (b 12),.b (b 13),.b (b 14),.b (b 15),.b (b 16),.b (b 17),.b (b 18),.b (b 19),.b (b 20),.b (b 21),.b (b 22),.b (b 23),.b (b 24),.b (b 25),.b (b 26),.b (b 27),.b (b 28),.b (b 29),.b (b 30),.b (b 31)]:=by
 rw [h 0 (by decide),h 1 (by decide),h 2 (by decide),h 3 (by decide),h 4 (by decide),h 5 (by decide),h 6 (by decide),h 7 (by decide),h 8 (by decide),h 9 (by decide),h 10 (by decide),h 11 (by decide),h 12 (by decide),h 13 (by decide),h 14 (by decide),h 15 (by decide),h 16 (by decide),h 17 (by decide),h 18 (by decide),h 19 (by decide),h 20 (by decide),h 21 (by decide),h 22 (by decide),h 23 (by decide),h 24 (by decide),h 25 (by decide),h 26 (by decide),h 27 (by decide),h 28 (by decide),h 29 (by decide),h 30 (by decide),h 31 (by decide)]
theorem decS_con {s:List Nat} (h:Byt s) (hS:s.length<=140737488351232):Con Try.prog 34 [.s s] [] (.tup [.agg [.b (gO s 0),.b (gO s 1),.b (gO s 2),.b (gO s 3),.b (gO s 4),.b (gO s 5),.b (gO s 6),.b (gO s 7),.b (gO s 8),.b (gO s 9),.b (gO s 10),.b (gO s 11),.b (gO s 12),.b (gO s 13),.b (gO s 14),.b (gO s 15),.b (gO s 16),.b (gO s 17),.b (gO s 18),.b (gO s 19),.b (gO s 20),.b (gO s 21),.b (gO s 22),.b (gO s 23),.b (gO s 24),.b (gO s 25),.b (gO s 26),.b (gO s 27),.b (gO s 28),.b (gO s 29),.b (gO s 30),.b (gO s 31)],.i .i64 (dE (okS s))]) []:=by
 have k0:=new_s hS
 have k1:=ts_r (r:=rd0 s) h
 have k2:=seg_con (sgX s)
 cases hb:okS s with
 | false=>
   have e:=ag_eq (a:=gO s) (b:=fun _=>false) fun k hk=>by unfold gO;rw [hb];rfl
   rw [e]
   exact dsb_con (s:=s) (k0:=k0) (k1:=k1) (k2:=k2) (hb:=hb)
 | true=>
   have e:=ag_eq (a:=gO s) (b:=sgX s) fun k hk=>by unfold gO;rw [hb,sgX_eq s k hk];rfl
   rw [e]
   exact dsa_con (s:=s) (k0:=k0) (k1:=k1) (k2:=k2) (hb:=hb)
theorem rdecS_con {s:List Nat} (h:Byt s) (hS:s.length<=140737488351232):Con Try.prog 35 [.s s] [] (.tup [.agg [.b (gO s 0),.b (gO s 1),.b (gO s 2),.b (gO s 3),.b (gO s 4),.b (gO s 5),.b (gO s 6),.b (gO s 7),.b (gO s 8),.b (gO s 9),.b (gO s 10),.b (gO s 11),.b (gO s 12),.b (gO s 13),.b (gO s 14),.b (gO s 15),.b (gO s 16),.b (gO s 17),.b (gO s 18),.b (gO s 19),.b (gO s 20),.b (gO s 21),.b (gO s 22),.b (gO s 23),.b (gO s 24),.b (gO s 25),.b (gO s 26),.b (gO s 27),.b (gO s 28),.b (gO s 29),.b (gO s 30),.b (gO s 31)],.i .i64 (dE (okS s))]) []:=by
 have l1:=sg_lp1 (vR (rd0 s) 0) (vR (rd0 s) 1) (vR_lt _ _)
 have l2:=sg_lp2 (vR (rd0 s) 0) (vR (rd0 s) 0 / 2 ^ 8) (vR (rd0 s) 1) (vR_lt _ _)
 cases hb:okS s with
 | false=>
   have e:=ag_eq (a:=gO s) (b:=fun _=>false) fun k hk=>by unfold gO;rw [hb];rfl
   rw [e]
   rw [okS_eq h] at hb
   unfold okT at hb
   cases q:allR 2 s with
   | false=>exact rsn_con s (k2_no h q)
   | true=>
     rw [q,Bool.true_and] at hb
     cases c1:decide (Int.ofNat (vR (rd0 s) 0 / 2 ^ 8)=0) with
     | false=>exact rsa_con (s:=s) (k0:=k2_ok h q) (k1:=l1) (k2:=l2) (ha:=c1)
     | true=>
       rw [c1,Bool.true_and] at hb
       exact rsb_con (s:=s) (k0:=k2_ok h q) (k1:=l1) (k2:=l2) (ha:=c1) (hb:=hb)
 | true=>
   have e:=ag_eq (a:=gO s) (b:=gT (vR (rd0 s) 0) (vR (rd0 s) 1) 24) fun k hk=>by unfold gO;rw [hb];rfl
   rw [e]
   rw [okS_eq h] at hb
   unfold okT at hb
   simp only [Bool.and_eq_true] at hb
   exact rsc_con (s:=s) (k0:=k2_ok h hb.1) (k1:=l1) (k2:=l2) (ha:=hb.2.1) (hb:=hb.2.2)
theorem rX_len (r:Rd):(rX r).u.length<=r.u.length:=by
 unfold rX
 cases decide (r.e=0) with
 | true=>show (r.u.drop _).length<=_;rw [List.length_drop];omega
 | false=>exact Nat.le_refl _
theorem rN_len (r:Rd):(rN r).u.length<=r.u.length:=by
 unfold rN
 cases decide (r.e=0) with
 | true=>show (r.u.drop _).length<=_;rw [List.length_drop];omega
 | false=>exact Nat.le_refl _
theorem eR_len (r:Rd):∀k,(eR r k).u.length<=r.u.length
 | 0=>Nat.le_refl _
 | k+1=>Nat.le_trans (rN_len _) (Nat.le_trans (rX_len _) (eR_len r k))
theorem ent_app (A:Nat->List Nat) (N:Nat->Int) (k:Nat):OV (some (.rows 41 2 (addN k 1) (appZ k (eF A N) (listF 2 [.s (A k),.i .i64 (N k)] 1)))) (some (.rows 41 2 (k+1) (eF A N))):=by
 rw [addN_eq]
 refine .rowsW fun i j hi hj=>.of ?_
 rcases j with _ | _ | j
 · rw [appZ_s (f:=eF A N) (g:=listF 2 [.s (A k),.i .i64 (N k)] 1) (n:=k) (i:=i) (j:=0) (a:=A i) (b:=A k) rfl rfl]
   show CV.s _=CV.s (A i)
   split
   · rfl
   · obtain rfl:i=k:=by omega
     rfl
 · rw [appZ_i (f:=eF A N) (g:=listF 2 [.s (A k),.i .i64 (N k)] 1) (n:=k) (i:=i) (j:=1) (k:=.i64) (a:=N i) (b:=N k) rfl rfl]
   show CV.i .i64 _=CV.i .i64 (N i)
   split
   · rfl
   · obtain rfl:i=k:=by omega
     rfl
 · omega
theorem goB_t {r:Rd} {k:Nat} (h:goB r k=true):decide (0<Int.ofNat (eR r k).u.length)=true/\decide ((eR r k).e=0)=true:=by unfold goB at h;rwa [Bool.and_eq_true] at h
theorem ea_lp (s:List Nat) (h:Byt s) (hS:s.length<=140737488351232) (K:Nat) (hK:Stop (rd0 s) 8 K):LDoes Try.prog (loopAt Try.prog 66 0) 26 1 (mkT [(0,.p 0 0),(3,.l0)]) [some (rO (rd0 s))] (.exit 0) (mkT [(3,.lr 1 2 0 K false)]) [some (rO (eR (rd0 s) K)),some (.rows 41 2 K (eF (eA (rd0 s)) (eN (rd0 s))))]:=by
 obtain ⟨k8,hg,hs⟩:=hK
 have key:=loop_q (P:=Try.prog) (c:=loopAt Try.prog 66 0) (n:=26) (b:=1) (x:=.exit 0) (l':=[(3,.lr 1 2 0 K false)]) (objs':=[some (rO (eR (rd0 s) K)),some (.rows 41 2 K (eF (eA (rd0 s)) (eN (rd0 s))))]) (D:=Nat)
  (fun k:Nat=>([(0,.p 0 0),(3,.lr 1 2 0 k false)],[some (rO (eR (rd0 s) k)),some (.rows 41 2 k (eF (eA (rd0 s)) (eN (rd0 s))))])) (fun k=>K-k) (fun k=>k<=K) (fun _=>by simp) ?_ 0 (Nat.zero_le _)
 · refine key.weak ⟨rfl,.inl rfl,rfl,.inr ⟨rfl,.inl ⟨1,2,0,false,rfl⟩⟩,trivial⟩ ⟨.refl _,?_⟩
   intro o ho
   simp at ho;subst ho
   exact ⟨_,rfl,rfl⟩
 intro k hk
 have hb:=byt_eR (r:=rd0 s) h k
 have hl:=eR_len (rd0 s) k
 have hl:(eR (rd0 s) k).u.length<=s.length:=hl
 rcases Nat.lt_or_ge k K with hlt | q
 · obtain ⟨g1,g2⟩:=goB_t (hg k hlt)
   have g3:decide (Int.ofNat k<8)=true:=decide_eq_true (by simp;omega)
   have c1:=rtext_r (eR (rd0 s) k) hb (by omega)
   have c2:=rnum_r (rX (eR (rd0 s) k)) (byt_rX hb)
   refine rd_nrm (eaR_lq (L1:=(rX (eR (rd0 s) k)).u.length) (b1:=tB (rX (eR (rd0 s) k)).u) (e1:=(rX (eR (rd0 s) k)).e) (L2:=(rN (rX (eR (rd0 s) k))).u.length) (b2:=tB (rN (rX (eR (rd0 s) k))).u) (e2:=(rN (rX (eR (rd0 s) k))).e) (tt:=rT (eR (rd0 s) k)) (v0:=rV (rX (eR (rd0 s) k))) (L:=(eR (rd0 s) k).u.length) (k:=k) (b:=tB (eR (rd0 s) k).u) (e:=(eR (rd0 s) k).e) (A:=eA (rd0 s)) (N:=eN (rd0 s)) (h0:=g1) (h1:=g2) (h2:=g3)) (by repeat' first | exact trivial | assumption | exact rfl | exact nT (by assumption) | exact nnT (by assumption) | apply And.intro | omega) (k+1) hlt (by show K-(k+1)<K-k;omega) rfl (by rw [addN_eq];exact .refl _) ⟨.refl _,ent_app _ _ _,trivial⟩
 · obtain rfl:k=K:=Nat.le_antisymm hk q
   cases g1:decide (0<Int.ofNat (eR (rd0 s) k).u.length) with
   | false=>exact rd_out (eaX_lq (L:=(eR (rd0 s) k).u.length) (k:=k) (b:=tB (eR (rd0 s) k).u) (e:=(eR (rd0 s) k).e) (A:=eA (rd0 s)) (N:=eN (rd0 s)) (h0:=g1)) (by repeat' first | exact trivial | assumption | exact rfl | apply And.intro) rfl rfl (.refl _) (.refl _)
   | true=>cases g2:decide ((eR (rd0 s) k).e=0) with
     | false=>exact rd_out (eaY_lq (L:=(eR (rd0 s) k).u.length) (k:=k) (b:=tB (eR (rd0 s) k).u) (e:=(eR (rd0 s) k).e) (A:=eA (rd0 s)) (N:=eN (rd0 s)) (h0:=g1) (h1:=g2)) (by repeat' first | exact trivial | assumption | exact rfl | apply And.intro) rfl rfl (.refl _) (.refl _)
     | true=>
       have e8:k=8:=by
        rcases hs with r | r
        · exact r
        · unfold goB at r;rw [g1,g2] at r;cases r
       subst e8
       have g3:decide (Int.ofNat 8<8)=false:=by decide
       exact rd_out (eaZ_lq (L:=(eR (rd0 s) 8).u.length) (k:=8) (b:=tB (eR (rd0 s) 8).u) (e:=(eR (rd0 s) 8).e) (A:=eA (rd0 s)) (N:=eN (rd0 s)) (h0:=g1) (h1:=g2) (h2:=g3)) (by repeat' first | exact trivial | assumption | exact rfl | apply And.intro) rfl rfl (.refl _) (.refl _)
theorem re_lp (s:List Nat) (h:Byt s) (hS:s.length<=140737488351232) (K:Nat) (hK:Stop (rd0 s) 9 K):LDoes Try.prog (loopAt Try.prog 33 0) 59 1 (mkT [(4,.p 0 0),(5,.l0)]) [some (cellsD 116 [.l0,.i .i64 0] [.lr 1 1 0 s.length false,.i .i64 0]),some (.rows 5 1 s.length (byF (tB s)))] (.exit 0) (mkT [(4,.p 0 0),(5,.lr 2 2 0 K false)]) [some (cellsD 116 [.l0,.i .i64 0] [.sv 1 (eR (rd0 s) K).u.length (byF (tB (eR (rd0 s) K).u)),.i .i64 (eR (rd0 s) K).e]),none,some (.rows 41 2 K (eF (eA (rd0 s)) (eN (rd0 s))))]:=by
 obtain ⟨k9,hg,hs⟩:=hK
 have key:=loop_q (P:=Try.prog) (c:=loopAt Try.prog 33 0) (n:=59) (b:=1) (x:=.exit 0) (l':=[(4,.p 0 0),(5,.lr 2 2 0 K false)]) (objs':=[some (cellsD 116 [.l0,.i .i64 0] [.sv 1 (eR (rd0 s) K).u.length (byF (tB (eR (rd0 s) K).u)),.i .i64 (eR (rd0 s) K).e]),none,some (.rows 41 2 K (eF (eA (rd0 s)) (eN (rd0 s))))]) (D:=Nat)
  (fun k:Nat=>([(4,.p 0 0),(5,.lr 2 2 0 k false)],[some (cellsD 116 [.l0,.i .i64 0] [.sv 1 (eR (rd0 s) k).u.length (byF (tB (eR (rd0 s) k).u)),.i .i64 (eR (rd0 s) k).e]),none,some (.rows 41 2 k (eF (eA (rd0 s)) (eN (rd0 s))))])) (fun k=>K-k) (fun k=>k<=K) (fun _=>by simp) ?_ 0 (Nat.zero_le _)
 · have k1:=key.weak (l0:=[(4,.p 0 0),(5,.l0)]) (objs0:=[some (cellsD 116 [.l0,.i .i64 0] [.sv 1 s.length (byF (tB s)),.i .i64 0]),none]) ⟨rfl,.inl rfl,rfl,.inr ⟨rfl,.inl ⟨2,2,0,false,rfl⟩⟩,trivial⟩ ⟨.refl _,.inl ⟨rfl,rfl⟩,by
    intro o ho
    simp at ho;subst ho
    exact ⟨_,rfl,rfl⟩⟩
   exact k1.thaw 1 rfl ⟨.inr ⟨_,_,[.lr 1 1 0 s.length false,.i .i64 0],[.sv 1 s.length (byF (tB s)),.i .i64 0],rfl,rfl,⟨.inr ⟨rfl,by simp [frzP],rfl⟩,.inl rfl,trivial⟩⟩,rfl,trivial⟩
 intro k hk
 have hb:=byt_eR (r:=rd0 s) h k
 have hl:=eR_len (rd0 s) k
 have hl:(eR (rd0 s) k).u.length<=s.length:=hl
 rcases Nat.lt_or_ge k K with hlt | q
 · obtain ⟨g1,g2⟩:=goB_t (hg k hlt)
   have g3:decide (Int.ofNat k<=8)=true:=decide_eq_true (by simp;omega)
   have c1:=qtext_r (eR (rd0 s) k) hb (by omega)
   have c2:=qnum_r (rX (eR (rd0 s) k)) (byt_rX hb)
   refine rd_nrm (rbR_lq (L1:=(rX (eR (rd0 s) k)).u.length) (b1:=tB (rX (eR (rd0 s) k)).u) (e1:=(rX (eR (rd0 s) k)).e) (L2:=(rN (rX (eR (rd0 s) k))).u.length) (b2:=tB (rN (rX (eR (rd0 s) k))).u) (e2:=(rN (rX (eR (rd0 s) k))).e) (tt:=rT (eR (rd0 s) k)) (v0:=rV (rX (eR (rd0 s) k))) (L:=(eR (rd0 s) k).u.length) (k:=k) (b:=tB (eR (rd0 s) k).u) (e:=(eR (rd0 s) k).e) (A:=eA (rd0 s)) (N:=eN (rd0 s)) (h0:=g1) (h1:=g2) (h2:=g3)) (by repeat' first | exact trivial | assumption | exact rfl | exact nT (by assumption) | exact nnT (by assumption) | apply And.intro | omega) (k+1) hlt (by show K-(k+1)<K-k;omega) rfl (by rw [addN_eq];exact .refl _) ⟨.refl _,.refl _,ent_app _ _ _,trivial⟩
 · obtain rfl:k=K:=Nat.le_antisymm hk q
   cases g1:decide (0<Int.ofNat (eR (rd0 s) k).u.length) with
   | false=>exact rd_out (rbX_lq (L:=(eR (rd0 s) k).u.length) (k:=k) (b:=tB (eR (rd0 s) k).u) (e:=(eR (rd0 s) k).e) (A:=eA (rd0 s)) (N:=eN (rd0 s)) (h0:=g1)) (by repeat' first | exact trivial | assumption | exact rfl | apply And.intro) rfl rfl (.refl _) (.refl _)
   | true=>cases g2:decide ((eR (rd0 s) k).e=0) with
     | false=>exact rd_out (rbY_lq (L:=(eR (rd0 s) k).u.length) (k:=k) (b:=tB (eR (rd0 s) k).u) (e:=(eR (rd0 s) k).e) (A:=eA (rd0 s)) (N:=eN (rd0 s)) (h0:=g1) (h1:=g2)) (by repeat' first | exact trivial | assumption | exact rfl | apply And.intro) rfl rfl (.refl _) (.refl _)
     | true=>
       have e9:k=9:=by
        rcases hs with r | r
        · exact r
        · unfold goB at r;rw [g1,g2] at r;cases r
       subst e9
       have g3:decide (Int.ofNat 9<=8)=false:=by decide
       exact rd_out (rbZ_lq (L:=(eR (rd0 s) 9).u.length) (k:=9) (b:=tB (eR (rd0 s) 9).u) (e:=(eR (rd0 s) 9).e) (A:=eA (rd0 s)) (N:=eN (rd0 s)) (h0:=g1) (h1:=g2) (h2:=g3)) (by repeat' first | exact trivial | assumption | exact rfl | apply And.intro) rfl rfl (.refl _) (.refl _)
theorem VR_si {t:List Nat} {n:Int} (ρ ρ':Rho) (x:Value) (h:VR ρ (.tup [.s t,.i .i64 n]) x):VR ρ' (.tup [.s t,.i .i64 n]) x:=by
 cases h with
 | tup _ vs h=>
   cases h with
   | cons _ a _ r h1 h2=>
     cases h2 with
     | cons _ b _ q h3 h4=>
       cases h4
       exact .tup _ _ (.cons _ _ _ _ (VR_s ρ ρ' _ h1) (.cons _ _ _ _ (VR_i ρ ρ' _ h3) .nil))
theorem encE_lr (n:Nat) (A:Nat->List Nat) (N:Nat->Int) (hA:LenA n A) (hb:∀i,i<n->Byt (A i)):Con Try.prog 17 [.lr 0 2 0 n false] [some (.rows 41 2 n (eF A N))] (.tup [.s (enT n A N),.i .i64 (enE n A N)]) [.keep]:=
 (encE_con n A N hA hb).borrow (pargs0:=[.lr 0 2 0 n false]) (objs:=[some (.rows 41 2 n (eF A N))]) [0] (frzP 0 (.rows 2 n (eF A N)) (.tup [.lr 0 2 0 n false])/\True) (by kernel_rfl) (by kernel_rfl) (by kernel_rfl) ⟨by simp [frzP,frzsP],trivial⟩ (by kernel_rfl) (by kernel_rfl) VR_si
theorem rem_lr (n:Nat) (A:Nat->List Nat) (N:Nat->Int) (hA:LenA n A) (hn:n<=281474976710656):Con Try.prog 48 [.lr 0 2 0 n false] [some (.rows 41 2 n (eF A N))] (.b (enB n A N)) [.keep]:=
 (rem_con n A N hA hn).borrow (pargs0:=[.lr 0 2 0 n false]) (objs:=[some (.rows 41 2 n (eF A N))]) [0] (frzP 0 (.rows 2 n (eF A N)) (.tup [.lr 0 2 0 n false])/\True) (by kernel_rfl) (by kernel_rfl) (by kernel_rfl) ⟨by simp [frzP,frzsP],trivial⟩ (by kernel_rfl) (by kernel_rfl) VR_b
theorem te_r (s:List Nat) (h:Byt s) (hS:s.length<=140737488351232) (K:Nat) (hK:Stop (rd0 s) 8 K):Con Try.prog 66 [.p 0 0] [some (rO (rd0 s))] (.lr 1 2 0 K false) [.set (rO (eR (rd0 s) K)),.set (.rows 41 2 K (eF (eA (rd0 s)) (eN (rd0 s))))]:=te_con (k0:=ea_lp s h hS K hK)
theorem len_eA (s:List Nat) (h:Byt s) (k:Nat):(eA (rd0 s) k).length<=281474976710656:=by
 unfold eA rT txV
 cases decide ((eR (rd0 s) k).e=0) with
 | false=>exact Nat.zero_le _
 | true=>cases decide (Int.ofNat (neU (eR (rd0 s) k).u)=0) with
   | false=>exact Nat.zero_le _
   | true=>cases h6:decide ((6:Int)<Int.ofNat (nvU (eR (rd0 s) k).u)) with
     | true=>exact Nat.zero_le _
     | false=>cases decide (Int.ofNat (eR (rd0 s) k).u.length-Int.ofNat (nzU (eR (rd0 s) k).u)<Int.ofNat (nvU (eR (rd0 s) k).u)) with
       | true=>exact Nat.zero_le _
       | false=>
         have:=of_decide_eq_false h6
         show (List.take (nvU (eR (rd0 s) k).u) _).length<=_
         rw [List.length_take]
         simp at this;omega
noncomputable def nE (s:List Nat) (K:Nat):Nat:=bif okE s K then K else 0
theorem ent_wk (A:Nat->List Nat) (N:Nat->Int) (e:Int):VW (.tup [.l0,.i .i64 e]) (.tup [.sv 2 0 (eF A N),.i .i64 e]):=.tup ⟨.nil _ _,.refl _,trivial⟩
theorem decE_con {s:List Nat} (h:Byt s) (hS:s.length<=140737488351232) (K:Nat) (hK:Stop (rd0 s) 8 K):Con Try.prog 32 [.s s] [] (.tup [.sv 2 (nE s K) (eF (eA (rd0 s)) (eN (rd0 s))),.i .i64 (dE (okE s K))]) []:=by
 have k0:=new_s hS
 have k1:=te_r s h hS K hK
 have k2:=encE_lr K (eA (rd0 s)) (eN (rd0 s)) (fun i _=>len_eA s h i) (fun i _=>byt_rT (byt_eR (r:=rd0 s) h i))
 unfold nE dE okE
 cases ha:enB K (eA (rd0 s)) (eN (rd0 s)) with
 | false=>exact (dec_con (s:=s) (k0:=k0) (k1:=k1) (k2:=k2) (ha:=en_0.trans ha)).post (ent_wk _ _ _) trivial
 | true=>
   have eT:enT K (eA (rd0 s)) (eN (rd0 s))=enP (eA (rd0 s)) (eN (rd0 s)) K:=by unfold enT;rw [ha];rfl
   rw [eT] at k2
   cases hb:natsEq (enP (eA (rd0 s)) (eN (rd0 s)) K) s with
   | false=>exact (deb_con (s:=s) (k0:=k0) (k1:=k1) (k2:=k2) (ha:=en_0.trans ha) (hb:=hb)).post (ent_wk _ _ _) trivial
   | true=>exact dea_con (s:=s) (k0:=k0) (k1:=k1) (k2:=k2) (ha:=en_0.trans ha) (hb:=hb)
theorem rdecE_con {s:List Nat} (h:Byt s) (hS:s.length<=140737488351232) (K:Nat) (hK:Stop (rd0 s) 8 K):Con Try.prog 33 [.s s] [] (.tup [.sv 2 (nE s K) (eF (eA (rd0 s)) (eN (rd0 s))),.i .i64 (dE (okE s K))]) []:=by
 obtain ⟨K',hK'⟩:=stop_ex (rd0 s) 9
 have k0:=re_lp s h hS K' hK'
 have k1:=rem_lr K' (eA (rd0 s)) (eN (rd0 s)) (fun i _=>len_eA s h i) (by have:=hK'.1;omega)
 obtain ⟨hs,he⟩:=ok_same h hK hK'
 unfold nE dE
 cases q:okE s K with
 | false=>
   rw [q] at hs
   have hs:(decide ((eR (rd0 s) K').e=0) && (!decide (0<Int.ofNat (eR (rd0 s) K').u.length) && enB K' (eA (rd0 s)) (eN (rd0 s))))=false:=hs.symm
   refine Con.post (us:=[]) (us':=[]) ?_ (ent_wk _ _ _) trivial
   cases ha:decide ((eR (rd0 s) K').e=0) with
   | false=>exact rea_con (s:=s) (k0:=k0) (k1:=k1) (ha:=ha)
   | true=>
     rw [ha,Bool.true_and] at hs
     cases hb:decide (0<Int.ofNat (eR (rd0 s) K').u.length) with
     | true=>exact reb_con (s:=s) (k0:=k0) (k1:=k1) (ha:=ha) (hb:=hb)
     | false=>
       rw [hb] at hs
       exact rec_con (s:=s) (k0:=k0) (k1:=k1) (ha:=ha) (hb:=hb) (hc:=hs)
 | true=>
   obtain rfl:=he q
   rw [q] at hs
   have hs:(decide ((eR (rd0 s) K).e=0) && (!decide (0<Int.ofNat (eR (rd0 s) K).u.length) && enB K (eA (rd0 s)) (eN (rd0 s))))=true:=hs.symm
   simp only [Bool.and_eq_true,Bool.not_eq_true'] at hs
   exact red_con (s:=s) (k0:=k0) (k1:=k1) (ha:=hs.1) (hb:=hs.2.1) (hc:=hs.2.2)
theorem a13_con:Con Try.prog 13 [.agg [.i .i64 2,.i .i64 1,.i .i64 1,.i .i64 0,.i .i64 0,.i .i64 0,.i .i64 0,.i .i64 0,.i .i64 0]] [] (.tup [.s [2,1,1,0,0,0,0,0,0],.i .i64 0]) []:=con_xx (fuel:=100000000) (fz:=[]) (nx:=100) (by kernel_rfl)
theorem a19_con:Con Try.prog 19 [.agg [.b true,.b false,.b false,.b false,.b false,.b false,.b false,.b false,.b false,.b true,.b false,.b false,.b false,.b false,.b false,.b false,.b false,.b false,.b false,.b false,.b false,.b false,.b false,.b false,.b false,.b false,.b false,.b false,.b false,.b false,.b false,.b false]] [] (.s [1,2]) []:=con_xx (fuel:=100000000) (fz:=[]) (nx:=100) (by kernel_rfl)
theorem a11_con:Con Try.prog 11 [.agg [.i .i64 300,.s [120]]] [] (.tup [.s [172,2,120],.i .i64 0]) []:=con_xx (fuel:=100000000) (fz:=[]) (nx:=100) (by kernel_rfl)
theorem a21_con:Con Try.prog 21 [.s [97,46,49]] [] (.b true) []:=con_xx (fuel:=100000000) (fz:=[]) (nx:=100) (by kernel_rfl)
theorem b21_con:Con Try.prog 21 [.s [65]] [] (.b false) []:=con_xx (fuel:=100000000) (fz:=[]) (nx:=100) (by kernel_rfl)
theorem a23_con:Con Try.prog 23 [.i .i64 32] [] (.b true) []:=con_xx (fuel:=100000000) (fz:=[]) (nx:=100) (by kernel_rfl)
theorem b23_con:Con Try.prog 23 [.i .i64 80] [] (.b false) []:=con_xx (fuel:=100000000) (fz:=[]) (nx:=100) (by kernel_rfl)
theorem a26_con:Con Try.prog 26 [.s [172,2,120]] [] (.tup [.agg [.i .i64 300,.s [120]],.i .i64 0]) []:=by
 have h:=decB_con (s:=[172,2,120]) (by intro x hx;simp at hx;rcases hx with rfl | rfl | rfl<;>decide) (by decide)
 have e1:dbV [172,2,120]=300:=by kernel_rfl
 have e2:dbD [172,2,120]=[120]:=by kernel_rfl
 have e3:dE (okD [172,2,120])=0:=by kernel_rfl
 rwa [e1,e2,e3] at h
def A2 (a b:List Nat) (i:Nat):List Nat:=[a,b].getD i []
def N2 (i:Nat):Int:=[3,4].getD i 0
theorem lit_con (a b:List Nat) (ha:a.length<=6) (hb:b.length<=6) (h1:Byt a) (h2:Byt b):Con Try.prog 17 [.l 0 0 2 2 2 true] [some (cellsO 41 [.s a,.i .i64 3,.s b,.i .i64 4])] (.tup [.s (enT 2 (A2 a b) N2),.i .i64 (enE 2 (A2 a b) N2)]) [.keep]:=
 ((encE_con 2 (A2 a b) N2 (fun i hi=>by rcases i with _ | _ | i;exact Nat.le_trans ha (by decide);exact Nat.le_trans hb (by decide);omega) (fun i hi=>by rcases i with _ | _ | i;exact h1;exact h2;omega)).pre (pargs':=[.sv 2 2 (listF 2 [.s a,.i .i64 3,.s b,.i .i64 4] 2)]) ⟨by
   refine .sv fun i j hi hj=>?_
   rcases i with _ | _ | i<;>rcases j with _ | _ | j<;>first | rfl | omega,trivial⟩).borrow (pargs0:=[.l 0 0 2 2 2 true]) (objs:=[some (cellsO 41 [.s a,.i .i64 3,.s b,.i .i64 4])]) [0] (frzP 0 (.cells 4 [.s a,.i .i64 3,.s b,.i .i64 4]) (.tup [.l 0 0 2 2 2 true])/\True) (by kernel_rfl) (by kernel_rfl) (by kernel_rfl) ⟨by simp [frzP,frzsP],trivial⟩ (by kernel_rfl) (by kernel_rfl) VR_si
theorem byt1 (a:Nat) (h:a<256):Byt [a]:=fun x hx=>by simp at hx;omega
theorem a17_con:Con Try.prog 17 [.l 0 0 2 2 2 true] [some (cellsO 41 [.s [97],.i .i64 3,.s [98],.i .i64 4])] (.tup [.s [1,97,3,1,98,4],.i .i64 0]) [.keep]:=by
 have h:=lit_con [97] [98] (by decide) (by decide) (byt1 _ (by decide)) (byt1 _ (by decide))
 have e1:enT 2 (A2 [97] [98]) N2=[1,97,3,1,98,4]:=by kernel_rfl
 have e2:enE 2 (A2 [97] [98]) N2=0:=by kernel_rfl
 rwa [e1,e2] at h
theorem b17_con:Con Try.prog 17 [.l 0 0 2 2 2 true] [some (cellsO 41 [.s [98],.i .i64 3,.s [97],.i .i64 4])] (.tup [.s [],.i .i64 2]) [.keep]:=by
 have h:=lit_con [98] [97] (by decide) (by decide) (byt1 _ (by decide)) (byt1 _ (by decide))
 have e1:enT 2 (A2 [98] [97]) N2=[]:=by kernel_rfl
 have e2:enE 2 (A2 [98] [97]) N2=2:=by kernel_rfl
 rwa [e1,e2] at h
theorem aw0_vq:VD Try.prog 8 [] [] (Orc.cal [] (.tup [.s [2,1,1,0,0,0,0,0,0],.i .i64 0]) [] (Orc.cal [0] (.tup [.s [1,97,3,1,98,4],.i .i64 0]) [.keep] (Orc.cal
 [1] (.tup [.s [],.i .i64 2]) [.keep] (oc 2 (Orc.cal [] (.tup [.s [172,2,120],.i .i64 0]) [] (Orc.cal [] (.tup [.agg [.i .i64 300,.s [120]],.i .i64 0]) [] (oc 14
 (Orc.cal [] (.s [1,2]) [] (oc 16 (Orc.cal [] (.b true) [] (oc 2 (Orc.cal [] (.b false) [] (oc 3 (Orc.cal [] (.b true) [] (oc 2 (Orc.cal [] (.b false) [] (oc 2
 Orc.z))))))))))))))))) (.b true) [] [] 4 (fun Lf=>Con Try.prog 13 [.agg [.i .i64 2,.i .i64 1,.i .i64 1,.i .i64 0,.i .i64 0,.i .i64 0,.i .i64 0,.i .i64 0,.i .i64 0]]
 [] (.tup [.s [2,1,1,0,0,0,0,0,0],.i .i64 0]) []/\Con Try.prog 17 [.l 0 0 2 2 2 true] [some (cellsO 41 [.s [97],.i .i64 3,.s [98],.i .i64 4])] (.tup [.s [1,97,
 3,1,98,4],.i .i64 0]) [.keep]/\Con Try.prog 17 [.l 0 0 2 2 2 true] [some (cellsO 41 [.s [98],.i .i64 3,.s [97],.i .i64 4])] (.tup [.s [],.i .i64 2]) [.keep]/\True/\
 True/\Con Try.prog 11 [.agg [.i .i64 300,.s [120]]] [] (.tup [.s [172,2,120],.i .i64 0]) []/\Con Try.prog 26 [.s [172,2,120]] [] (.tup [.agg [.i .i64 300,.s [120]],
 .i .i64 0]) []/\Con Try.prog 19 [.agg [.b true,.b false,.b false,.b false,.b false,.b false,.b false,.b false,.b false,.b true,.b false,.b false,.b false,.b
 false,.b false,.b false,.b false,.b false,.b false,.b false,.b false,.b false,.b false,.b false,.b false,.b false,.b false,.b false,.b false,.b false,.b
 false,.b false]] [] (.s [1,2]) []/\True/\Con Try.prog 21 [.s [97,46,49]] [] (.b true) []/\Con Try.prog 21 [.s [65]] [] (.b false) []/\True/\Con Try.prog 23 [.i .i64
 32] [] (.b true) []/\Con Try.prog 23 [.i .i64 80] [] (.b false) []/\True/\Lf):=by unfold VD VQ;kernel_rfl
theorem aw_con:Con Try.prog 8 [] [] (.b true) []:=by
 exact con_d (aw0_vq) (by repeat' first | exact trivial | assumption | exact rfl | exact nT (by assumption) | exact nF (by assumption) | exact a13_con | exact a17_con | exact b17_con | exact a19_con | exact a11_con | exact a26_con | exact a21_con | exact b21_con | exact a23_con | exact b23_con | apply And.intro | decide)
def rvIs (v:AV):Res->Prop
 | .rv v1 _=>v1=v
 | _=>False
def VP (P:Program) (g:FuncId) (pargs:List AV) (o:Orc) (v:AV) (C:Prop->Prop):Prop:=runK P 1000000 (.call g pargs (mkH [])) o (fun r _=>rvIs v r)=C (v=v)
theorem con_p {P:Program} {g:FuncId} {pargs:List AV} {o:Orc} {v:AV} {C:Prop->Prop} (hb:below 0 v=true) (h:VP P g pargs o v C) (hc:C (v=v)):Con P g pargs [] v []:=by
 refine con_plain (f:=1000000) (o:=o) hb ?_
 have e:(fun (r:Res) (_:Orc)=>rvIs v r)=fun r _=>∃v1 H1,r=.rv v1 H1/\v1=v:=by
  funext r _
  refine propext ⟨fun q=>?_,fun q=>?_⟩
  · cases r with
    | rv v1 H1=>exact ⟨v1,H1,rfl,q⟩
    | _=>exact q.elim
  · obtain ⟨v1,H1,rfl,q⟩:=q
    exact q
 rw [<-e]
 exact Eq.mpr h hc
theorem natsEq_self (a:List Nat):natsEq a a=true:=(natsEq_iff a a).2 rfl
abbrev bX (v:Int) (t:List Nat):AV:=.agg [.i .i64 v,.s t]
abbrev iX (x0 x1 x2 x3 x4 x5 x6 x7 x8:Int):AV:=.agg [.i .i64 x0,.i .i64 x1,.i .i64 x2,.i .i64 x3,.i .i64 x4,.i .i64 x5,.i .i64 x6,.i .i64 x7,.i .i64 x8]
abbrev pX (x0 x1 x2 x3 x4 x5 x6 x7:Int):AV:=.agg [.i .i64 x0,.i .i64 x1,.i .i64 x2,.i .i64 x3,.i .i64 x4,.i .i64 x5,.i .i64 x6,.i .i64 x7]
abbrev gL (g:Nat->Bool):List AV:=[.b (g 0),.b (g 1),.b (g 2),.b (g 3),.b (g 4),.b (g 5),.b (g 6),.b (g 7),.b (g 8),.b (g 9),.b (g 10),.b (g 11),.b (g 12),.b (g 13),.b (g 14),.b (g 15),.b (g 16),.b (g 17),.b (g 18),.b (g 19),.b (g 20),.b (g 21),.b (g 22),.b (g 23),.b (g 24),.b (g 25),.b (g 26),.b (g 27),.b (g 28),.b (g 29),.b (g 30),.b (g 31)]
abbrev gX (g:Nat->Bool):AV:=.agg (gL g)
theorem bnT {b:Bool} (h:b=true):(!b)=false:=by rw [h];rfl
theorem bnF {b:Bool} (h:b=false):(!b)=true:=by rw [h];rfl
theorem bvT {b:Bool} (h:b=true):(@Eq AV (.b b) (.b true)):=by rw [h]
end Go.Proofs.Ly
