import Derived.Test.YtnfnbcbadakofaaApp
namespace Go.Proofs.Ytnfnbcbadakofaa
open Go.RowKit
set_option maxHeartbeats 2000000
set_option maxRecDepth 100000
theorem app_new {W0 wi wj w':World} {v:Value} {l:List Int} (h:IntsV wi W0.heap.size v l) (k:Chg () W0 wi) (hj:Chg () wi wj) (hch:Chg (fun j=>some j=v.ownBlock) wj w'):Chg () W0 w':=
 (k.trans hj).trans' hch (fun i hi e=>by have:=(h.lt i e.symm).1;omega)
theorem lit_rd {W:World} (l:List Int) (n:Nat) (hn:l.length=n) (hm:n<=maxLen):RdI (W.alloc (.cells (ints l).toArray 3)) (.slice W.heap.size n n) l:=
 (IntsV.lit (base:=0) l n hn rfl (Nat.zero_le _) hm).rdI
end Go.Proofs.Ytnfnbcbadakofaa
