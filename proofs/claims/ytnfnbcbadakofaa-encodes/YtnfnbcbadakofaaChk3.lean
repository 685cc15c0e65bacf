import Derived.Test.YtnfnbcbadakofaaChk2
namespace Go.Proofs.Ytnfnbcbadakofaa
open Go.RowKit
set_option maxHeartbeats 400000
set_option maxRecDepth 100000
theorem IntsV.lit {W:World} {base b:Nat} (l:List Int) (n:Nat) (hn:l.length=n) (h:W.heap.size=b) (hb:base<=b) (hm:n<=maxLen):IntsV (W.alloc (.cells (ints l).toArray 3)) base (.slice b n n) l:=by
 subst hn;subst h
 exact ⟨by simp [ints],.inr ⟨W.heap.size,l.length,(ints l).toArray,rfl,hb,heap_alloc_new W _,Nat.le_refl _,hm,by simp [ints],by simp only [Nat.mul_one,ints];rw [List.take_of_length_le (by simp)]⟩⟩
end Go.Proofs.Ytnfnbcbadakofaa
