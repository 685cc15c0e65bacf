/-
  No cell of these rows narrows 'for every input' (looked for: loops, veiled, ifaces, maps, wideKeys, modest, calm, conditions, laid).
  DERIVED. THE GIVEN ROWS OF THIS SEAT. 3 by the template 'for every input the law returns true; each argument reads behind the call as it read before'; 0 by the template 'total and deterministic' (their statements: YtnfnbcbadakofabTotals.lean).
  GIVEN WITH THE SEED: the statements are not yours to turn. If you find one false, say at which input.
  Laid BY PROGRAM, IN A SANDBOX (cutbox-rows.mjs): the forced cells as the released guide's own fill.sh prints them over the translation 20bd15aeb6691fe2… (all of the seat's roots in one cut). By AI agents, Wed Nov 11 2026. No macro, syntax, notation, axiom, sorry.
-/
import Derived.Test.YtnfnbcbadakofabChecked
import GoSem.Claim
import GoSem.ClaimJoined
import GoSem.ClaimMapViews
import Derived.JoinedTies
import Derived.KernelRfl
namespace Go.Proofs.Ytnfnbcbadakofab
/- THE CELL 'sum', in the pinned program and in every row, IS THE sha256 OF THE DUMP (.gsa) THAT YtnfnbcbadakofabProg.lean LOADS. Nothing in Lean hashes anything: it is a label: what it is worth is what the hold of that sum in a sandbox is worth. -/
noncomputable def Try.pinned : Pinned := { name := "ytnfnbcbadakofab", sum := "20bd15aeb6691fe26c457af068f0fd3d1c30b78e6686ff86d676ea027846dda6", checked := Try.checked }
namespace Rows
def none {H : Type} : Left H := { results := [], args := [] }

/-- 'semilaw.Safe': WHATEVER THE INPUT: true; the input reads as it did. -/
def safeSpec : ChangeSpec := { name := "safe", fn := fun _ => fun
  | [d1, d2, d3, d4] => { results := [.lit (.bool true)], args := [d1, d2, d3, d4] }
  | _ => none }
def safeRow : OpenClaim := { program := "ytnfnbcbadakofab", sum := "20bd15aeb6691fe26c457af068f0fd3d1c30b78e6686ff86d676ea027846dda6", func := "semi/semilaw.Safe", spec := "safe", apart := false }
def SafeSaid : Prop := safeRow.holds Try.pinned (OpenSpec.ofChange safeSpec)

/-- ITS FALSE NEIGHBOUR: 'it returns false'. Refute it at one input. -/
def safeWrong : ChangeSpec := { name := "safe", fn := fun _ => fun
  | [d1, d2, d3, d4] => { results := [.lit (.bool false)], args := [d1, d2, d3, d4] }
  | _ => none }
def SafeWrongFalsely : Prop := safeRow.holds Try.pinned (OpenSpec.ofChange safeWrong)

/-- 'semilaw.Tough': WHATEVER THE INPUT: true; the input reads as it did. -/
def toughSpec : ChangeSpec := { name := "tough", fn := fun _ => fun
  | [d1, d2, d3, d4] => { results := [.lit (.bool true)], args := [d1, d2, d3, d4] }
  | _ => none }
def toughRow : OpenClaim := { program := "ytnfnbcbadakofab", sum := "20bd15aeb6691fe26c457af068f0fd3d1c30b78e6686ff86d676ea027846dda6", func := "semi/semilaw.Tough", spec := "tough", apart := false }
def ToughSaid : Prop := toughRow.holds Try.pinned (OpenSpec.ofChange toughSpec)

/-- ITS FALSE NEIGHBOUR: 'it returns false'. Refute it at one input. -/
def toughWrong : ChangeSpec := { name := "tough", fn := fun _ => fun
  | [d1, d2, d3, d4] => { results := [.lit (.bool false)], args := [d1, d2, d3, d4] }
  | _ => none }
def ToughWrongFalsely : Prop := toughRow.holds Try.pinned (OpenSpec.ofChange toughWrong)

/-- 'semilaw.Leaves': WHATEVER THE INPUT: true; the input reads as it did. -/
def leavesSpec : ChangeSpec := { name := "leaves", fn := fun _ => fun
  | [d1, d2, d3, d4, d5] => { results := [.lit (.bool true)], args := [d1, d2, d3, d4, d5] }
  | _ => none }
def leavesRow : OpenClaim := { program := "ytnfnbcbadakofab", sum := "20bd15aeb6691fe26c457af068f0fd3d1c30b78e6686ff86d676ea027846dda6", func := "semi/semilaw.Leaves", spec := "leaves", apart := false }
def LeavesSaid : Prop := leavesRow.holds Try.pinned (OpenSpec.ofChange leavesSpec)

/-- ITS FALSE NEIGHBOUR: 'it returns false'. Refute it at one input. -/
def leavesWrong : ChangeSpec := { name := "leaves", fn := fun _ => fun
  | [d1, d2, d3, d4, d5] => { results := [.lit (.bool false)], args := [d1, d2, d3, d4, d5] }
  | _ => none }
def LeavesWrongFalsely : Prop := leavesRow.holds Try.pinned (OpenSpec.ofChange leavesWrong)

/- THE SECOND FORM. 'bulk': how many values and letters a reading holds, each counted each time it is reached (what is shared counts as often as it is met; a slice's spare places count too). A statement '..UptoSaid' is the law's where the arguments, and the package variables that the reading takes, are together of bulk at most 1048576: NARROWER than '..Said'. Prove '..Said' where nothing that the law and all that it calls make is longer than what came in: it says more and counts as full. Else prove '..UptoSaid'. A law counts once. -/
mutual
def uptoBulk {H : Type} : DataW H → Nat
  | .lit (.string bytes) => bytes.length + 1
  | .lit _ => 1
  | .nil => 1
  | .ptr d => uptoBulk d + 1
  | .slice elems spare => uptoBulkAll elems + uptoBulkAll spare + 1
  | .agg parts => uptoBulkAll parts + 1
  | .iface _ d => uptoBulk d + 1
  | .map entries => uptoBulkEntries entries + 1
  | .held _ => 1
def uptoBulkAll {H : Type} : List (DataW H) → Nat
  | [] => 0
  | d :: r => uptoBulk d + uptoBulkAll r
def uptoBulkEntries {H : Type} : List (Lit × DataW H) → Nat
  | [] => 0
  | x :: r => uptoBulkEntry x + uptoBulkEntries r
def uptoBulkEntry {H : Type} : Lit × DataW H → Nat
  | (.string bytes, d) => bytes.length + uptoBulk d + 1
  | (_, d) => uptoBulk d + 1
 end
def uptoSmall : (H : Type) → List (DataW H) → Bool := fun _ ds => decide (uptoBulkAll ds ≤ 1048576)
def OpenSpec.upto (s : _root_.Go.ChangeSpec) : _root_.Go.OpenSpec := { _root_.Go.OpenSpec.ofChange s with cond := some uptoSmall }

/-- 'semilaw.Safe', WHERE WHAT IT READS IS OF BULK AT MOST 1048576: true; the input reads as it did. -/
def safeUptoRow : OpenClaim := { program := "ytnfnbcbadakofab", sum := "20bd15aeb6691fe26c457af068f0fd3d1c30b78e6686ff86d676ea027846dda6", func := "semi/semilaw.Safe", spec := "safe", apart := false, narrowed := true }
def SafeUptoSaid : Prop := safeUptoRow.holds Try.pinned (OpenSpec.upto safeSpec)

/-- 'semilaw.Tough', WHERE WHAT IT READS IS OF BULK AT MOST 1048576: true; the input reads as it did. -/
def toughUptoRow : OpenClaim := { program := "ytnfnbcbadakofab", sum := "20bd15aeb6691fe26c457af068f0fd3d1c30b78e6686ff86d676ea027846dda6", func := "semi/semilaw.Tough", spec := "tough", apart := false, narrowed := true }
def ToughUptoSaid : Prop := toughUptoRow.holds Try.pinned (OpenSpec.upto toughSpec)

/-- 'semilaw.Leaves', WHERE WHAT IT READS IS OF BULK AT MOST 1048576: true; the input reads as it did. -/
def leavesUptoRow : OpenClaim := { program := "ytnfnbcbadakofab", sum := "20bd15aeb6691fe26c457af068f0fd3d1c30b78e6686ff86d676ea027846dda6", func := "semi/semilaw.Leaves", spec := "leaves", apart := false, narrowed := true }
def LeavesUptoSaid : Prop := leavesUptoRow.holds Try.pinned (OpenSpec.upto leavesSpec)

end Rows
end Go.Proofs.Ytnfnbcbadakofab
