import Derived.Test.YtnfnbcbadakofaaGoo
import Derived.Test.YtnfnbcbadakofaaBg2
import Derived.Test.YtnfnbcbadakofaaChecksw
namespace Go.Proofs.Ytnfnbcbadakofaa
open Go.RowKit
set_option maxHeartbeats 1000000
set_option maxRecDepth 100000
end Go.Proofs.Ytnfnbcbadakofaa
namespace Go.Proofs.Ytnfnbcbadakofaa
open Go.RowKit
section
variable {w:World} {img:ByteArray} {D:Dn} {R:Rn}
theorem sM (hz:(opF img).1=0) (hD:Rel (cxO img) D R) (sv iv:Value) (inp:List Int) (b1:Nat) (hs:ad w b1 sv (aN (aD img) R)) (hi:RdA w iv inp) (n:Nat) (hn:n<=10000) :
 Calls Try.prog 35 #[.string img,sv,iv,n] w fun e w'=>∃ sv' ov',e=.returned (.tuple #[.agg #[sv',ov',((cD (cxO img) (bP R) inp n).1.used:Int),.int .i64 (cD (cxO img) (bP R) inp n).2],oO]) /\
  ad w' w.heap.size sv' (aN (aD img) (cD (cxO img) (bP R) inp n).1)/\ad w' w.heap.size ov' (cD (cxO img) (bP R) inp n).1.out/\Chg () w w':=by
 have ht:=ig (ew hz) (aD img) hD
 refine (oq img sv iv _ inp n w hs.rdA hi (fun _ R' q=>by rw [ht] at q;cases q;exact ⟨D,hD.bare⟩)).mono ?_
 rintro e w' ⟨k,_,hO⟩
 obtain ⟨sv',ov',h1,h2,h3,_⟩:=((hO hz).2 _ ht).2 (by omega)
 rw [Int.toNat_natCast] at h1 h2 h3
 exact ⟨sv',ov',h1,h2,h3,k⟩
theorem og (hz:(opF img).1=0) (hD:Rel (cxO img) D R) (sv:Value) (b1:Nat) (hs:ad w b1 sv (aN (aD img) R)) :
 Calls Try.prog 29 #[.string img,sv] w fun e w'=>e=.returned (.tuple #[(bB D:Int),oO])/\Chg () w w':=by
 have ht:=ig (ew hz) (aD img) hD
 refine (pW img sv _ w hs.rdA (fun _ R' q=>by rw [ht] at q;cases q;exact ⟨D,hD.bare⟩)).mono ?_
 rintro e w' ⟨k,_,hO⟩
 rw [(hO hz).2 _ ht,(qz hD).2.1]
 exact ⟨rfl,k⟩
end
theorem ja (R:Rn):(bP R).used=0/\(bP R).out=[]:=by unfold bP;split <;> exact ⟨rfl,rfl⟩
theorem sy (c:Cx):∀ (n:Nat) (R:Rn),(bu c n R).1.out.length<=R.out.length+n:=by
 intro n
 induction n with
 | zero=>intro R;exact Nat.le_refl _
 | succ n ih =>
  intro R
  unfold bu
  split
  ·exact Nat.le_add_right _ _
  ·split
   ·exact Nat.le_add_right _ _
   ·have h1:=ih (doP c (eB c R) R)
    have h2:=(iR c (eB c R) R).1
    show (bu c n (doP c (eB c R) R)).1.out.length<=_
    omega
end Go.Proofs.Ytnfnbcbadakofaa
