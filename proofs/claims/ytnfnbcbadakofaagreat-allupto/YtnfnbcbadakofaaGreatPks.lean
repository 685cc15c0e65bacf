import Derived.Test.YtnfnbcbadakofaaGreatGoo
import Derived.Test.YtnfnbcbadakofaaGreatBg2
import Derived.Test.YtnfnbcbadakofaaGreatStk
namespace Go.Proofs.YtnfnbcbadakofaaGreat
open Go.RowKit
set_option maxHeartbeats 1000000
set_option maxRecDepth 100000
end Go.Proofs.YtnfnbcbadakofaaGreat
namespace Go.Proofs.YtnfnbcbadakofaaGreat
open Go.RowKit
section
variable {w:World} {img:ByteArray} {D:Dn} {R:Rn}
theorem tq (hz:(opF img).1=0) (hD:Rel (cxO img) D R) (sv iv:Value) (inp:List Int) (b1:Nat) (hs:ad w b1 sv (aJ (aB img) R)) (hi:RdA w iv inp) (n:Nat) (hn:n<=10000) :
 Calls Tryz.prog 18 #[.string img,sv,iv,n] w fun e w'=>∃ sv' ov',e=.returned (.tuple #[.agg #[sv',ov',((cB (cxO img) (bare R) inp n).1.used:Int),.int .i64 (cB (cxO img) (bare R) inp n).2],oO]) /\
  ad w' w.heap.size sv' (aJ (aB img) (cB (cxO img) (bare R) inp n).1)/\ad w' w.heap.size ov' (cB (cxO img) (bare R) inp n).1.out/\Chg () w w':=by
 have ht:=fE (dg hz) (aB img) hD
 refine (oR img sv iv _ inp n w hs.rdA hi (fun _ R' q=>by rw [ht] at q;cases q;exact ⟨D,hD.bare⟩)).mono ?_
 rintro e w' ⟨k,_,hO⟩
 obtain ⟨sv',ov',h1,h2,h3,_⟩:=((hO hz).2 _ ht).2 (by omega)
 rw [Int.toNat_natCast] at h1 h2 h3
 exact ⟨sv',ov',h1,h2,h3,k⟩
theorem qd (hz:(opF img).1=0) (hD:Rel (cxO img) D R) (sv:Value) (b1:Nat) (hs:ad w b1 sv (aJ (aB img) R)) :
 Calls Tryz.prog 14 #[.string img,sv] w fun e w'=>∃ u,e=.returned (.tuple #[u,oO])/\ad w' w.heap.size u (aJ (aB img) (a9 (cxO img) (bare R)))/\Chg () w w':=by
 have ht:=fE (dg hz) (aB img) hD
 refine (nI img sv _ w hs.rdA (fun _ R' q=>by rw [ht] at q;cases q;exact ⟨D,hD.bare⟩)).mono ?_
 rintro e w' ⟨k,_,hO⟩
 obtain ⟨u,h1,h2⟩:=(hO hz).2 _ ht
 exact ⟨u,h1,h2,k⟩
theorem qf (hz:(opF img).1=0) (hD:Rel (cxO img) D R) (sv:Value) (b1:Nat) (hs:ad w b1 sv (aJ (aB img) R)) :
 Calls Tryz.prog 6 #[.string img,sv] w fun e w'=>e=.returned (.tuple #[(bk D:Int),oO])/\Chg () w w':=by
 have ht:=fE (dg hz) (aB img) hD
 refine (qm img sv _ w hs.rdA (fun _ R' q=>by rw [ht] at q;cases q;exact ⟨D,hD.bare⟩)).mono ?_
 rintro e w' ⟨k,_,hO⟩
 rw [(hO hz).2 _ ht,(gU hD).2.1]
 exact ⟨rfl,k⟩
end
theorem i8 (R:Rn):(bare R).used=0/\(bare R).out=[]:=by unfold bare;split <;> exact ⟨rfl,rfl⟩
theorem sG (c:Cx):∀ (n:Nat) (R:Rn),(bu c n R).1.out.length<=R.out.length+n:=by
 intro n
 induction n with
 | zero=>intro R;exact Nat.le_refl _
 | succ n ih =>
  intro R
  unfold bu
  split
  ·exact Nat.le_add_right _ _
  ·split
   ·exact Nat.le_add_right _ _
   ·have h1:=ih (doP c (eC c R) R)
    have h2:=(iO c (eC c R) R).1
    show (bu c n (doP c (eC c R) R)).1.out.length<=_
    omega
end Go.Proofs.YtnfnbcbadakofaaGreat
