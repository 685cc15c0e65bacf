import Derived.Test.YtnfnbcbadakofaaDec2
import Derived.Deep.QuietTactic
namespace Go.Proofs.Ytnfnbcbadakofaa
open Go.RowKit
set_option maxHeartbeats 400000
set_option maxRecDepth 100000
def wB (n lo hi:Int):Bool:=decide (lo<=n) && decide (n<=hi)
theorem within_any (n lo hi:Int) (w:World) :
 Calls Try.prog 53 #[n,lo,hi] w fun e w'=>e=.returned (.bool (wB n lo hi))/\w'=w:=by
 by_cases h1:lo<=n
 ·by_cases h2:n<=hi
  ·have e1:wB n lo hi=true:=by simp [wB,h1,h2]
   rw [e1]
   go_enter Try.func53,Try.ntmps53
   go_wp2
   go_ret
   exact ⟨by simp,rfl⟩
  ·have e1:wB n lo hi=false:=by simp [wB,h2]
   rw [e1]
   go_enter Try.func53,Try.ntmps53
   go_wp2
   go_ret
   exact ⟨by simp,rfl⟩
 ·have e1:wB n lo hi=false:=by simp [wB];omega
  rw [e1]
  go_enter Try.func53,Try.ntmps53
  go_wp2
  go_ret
  exact ⟨rfl,rfl⟩
end Go.Proofs.Ytnfnbcbadakofaa
