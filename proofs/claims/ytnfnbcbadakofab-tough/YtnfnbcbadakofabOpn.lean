import Derived.Test.YtnfnbcbadakofabPks
import Derived.ProofKit
import Derived.OpenShut
import Derived.ShutString
import Derived.JoinedCond
import Derived.Lib.SmallJoins
import Derived.Deep.Matrix
import Derived.Carry
namespace Go.Proofs.Ytnfnbcbadakofab
open Go.RowKit Go.ChangeShapes Go.Deep Go.Joins
section
variable {H:Type} {enc:TypeId × Value->H} {W:World}
theorem opn_in {n:Nat} {cs:List Value} {x:DataW H × List MemPlace} (h:DataW.trod enc Try.prog W 0 (fun _=>true) true n 24 cs=some x):∃ v l,cs=[v]/\RdA W v l:=by
 rcases open_ints Try.underlying24 Try.underlying3 (by kernel_rfl) h with ⟨rfl,rfl⟩ | ⟨a,len,cap,zs,rfl,_,hle,hcap,hz,rfl,hc,_⟩
 ·exact ⟨_,[],rfl,.inl ⟨rfl,rfl⟩⟩
 ·simp only [if_true] at hz
  have hlt:(zs.take len).length=len:=by rw [List.length_take];omega
  refine ⟨_,zs.take len,rfl,.inr ⟨a,cap,by rw [hlt],by rw [hlt];exact hle,hcap,fun j hj=>?_⟩⟩
  rw [hlt] at hj
  rw [hc j (by omega),List.getD_eq_getElem?_getD,List.getD_eq_getElem?_getD,List.getElem?_take_of_lt hj]
end
end Go.Proofs.Ytnfnbcbadakofab
