/-
  No cell of these rows narrows 'for every input' (looked for: loops, veiled, ifaces, maps, wideKeys, modest, calm, conditions, laid).
  DERIVED. THE GIVEN ROWS OF THIS SEAT. 11 by the template 'for every input the law returns true; each argument reads behind the call as it read before'; 0 by the template 'total and deterministic' (their statements: YtnfnbcbadakofaaTotals.lean).
  GIVEN WITH THE SEED: the statements are not yours to turn. If you find one false, say at which input.
  Laid BY PROGRAM, IN A SANDBOX (cutbox-rows.mjs): the forced cells as the released guide's own fill.sh prints them over the translation 00afd57847770dbd… (all of the seat's roots in one cut). By AI agents, Wed Nov 11 2026. No macro, syntax, notation, axiom, sorry.
-/
import Derived.Test.YtnfnbcbadakofaaChecked
import GoSem.Claim
import GoSem.ClaimJoined
import GoSem.ClaimMapViews
import Derived.JoinedTies
import Derived.KernelRfl
namespace Go.Proofs.Ytnfnbcbadakofaa
/- THE CELL 'sum', in the pinned program and in every row, IS THE sha256 OF THE DUMP (.gsa) THAT YtnfnbcbadakofaaProg.lean LOADS. Nothing in Lean hashes anything: it is a label: what it is worth is what the hold of that sum in a sandbox is worth. -/
noncomputable def Try.pinned : Pinned := { name := "ytnfnbcbadakofaa", sum := "00afd57847770dbd0188b4f70f3b0a9c5e4ada04e87e3e3b9653d8d7ef884e2d", checked := Try.checked }
namespace Rows
def none {H : Type} : Left H := { results := [], args := [] }

/-- 'semilaw.Checks': WHATEVER THE INPUT: true; the input reads as it did. -/
def checksSpec : ChangeSpec := { name := "checks", fn := fun _ => fun
  | [d] => { results := [.lit (.bool true)], args := [d] }
  | _ => none }
def checksRow : OpenClaim := { program := "ytnfnbcbadakofaa", sum := "00afd57847770dbd0188b4f70f3b0a9c5e4ada04e87e3e3b9653d8d7ef884e2d", func := "semi/semilaw.Checks", spec := "checks", apart := false }
def ChecksSaid : Prop := checksRow.holds Try.pinned (OpenSpec.ofChange checksSpec)

/-- ITS FALSE NEIGHBOUR: 'it returns false'. Refute it at one input. -/
def checksWrong : ChangeSpec := { name := "checks", fn := fun _ => fun
  | [d] => { results := [.lit (.bool false)], args := [d] }
  | _ => none }
def ChecksWrongFalsely : Prop := checksRow.holds Try.pinned (OpenSpec.ofChange checksWrong)

/-- 'semilaw.Decodes': WHATEVER THE INPUT: true; the input reads as it did. -/
def decodesSpec : ChangeSpec := { name := "decodes", fn := fun _ => fun
  | [d] => { results := [.lit (.bool true)], args := [d] }
  | _ => none }
def decodesRow : OpenClaim := { program := "ytnfnbcbadakofaa", sum := "00afd57847770dbd0188b4f70f3b0a9c5e4ada04e87e3e3b9653d8d7ef884e2d", func := "semi/semilaw.Decodes", spec := "decodes", apart := false }
def DecodesSaid : Prop := decodesRow.holds Try.pinned (OpenSpec.ofChange decodesSpec)

/-- ITS FALSE NEIGHBOUR: 'it returns false'. Refute it at one input. -/
def decodesWrong : ChangeSpec := { name := "decodes", fn := fun _ => fun
  | [d] => { results := [.lit (.bool false)], args := [d] }
  | _ => none }
def DecodesWrongFalsely : Prop := decodesRow.holds Try.pinned (OpenSpec.ofChange decodesWrong)

/-- 'semilaw.Encodes': WHATEVER THE INPUT: true; the input reads as it did. -/
def encodesSpec : ChangeSpec := { name := "encodes", fn := fun _ => fun
  | [d] => { results := [.lit (.bool true)], args := [d] }
  | _ => none }
def encodesRow : OpenClaim := { program := "ytnfnbcbadakofaa", sum := "00afd57847770dbd0188b4f70f3b0a9c5e4ada04e87e3e3b9653d8d7ef884e2d", func := "semi/semilaw.Encodes", spec := "encodes", apart := false }
def EncodesSaid : Prop := encodesRow.holds Try.pinned (OpenSpec.ofChange encodesSpec)

/-- ITS FALSE NEIGHBOUR: 'it returns false'. Refute it at one input. -/
def encodesWrong : ChangeSpec := { name := "encodes", fn := fun _ => fun
  | [d] => { results := [.lit (.bool false)], args := [d] }
  | _ => none }
def EncodesWrongFalsely : Prop := encodesRow.holds Try.pinned (OpenSpec.ofChange encodesWrong)

/-- 'semilaw.Returns': WHATEVER THE INPUT: true; the input reads as it did. -/
def returnsSpec : ChangeSpec := { name := "returns", fn := fun _ => fun
  | [d1, d2] => { results := [.lit (.bool true)], args := [d1, d2] }
  | _ => none }
def returnsRow : OpenClaim := { program := "ytnfnbcbadakofaa", sum := "00afd57847770dbd0188b4f70f3b0a9c5e4ada04e87e3e3b9653d8d7ef884e2d", func := "semi/semilaw.Returns", spec := "returns", apart := false }
def ReturnsSaid : Prop := returnsRow.holds Try.pinned (OpenSpec.ofChange returnsSpec)

/-- ITS FALSE NEIGHBOUR: 'it returns false'. Refute it at one input. -/
def returnsWrong : ChangeSpec := { name := "returns", fn := fun _ => fun
  | [d1, d2] => { results := [.lit (.bool false)], args := [d1, d2] }
  | _ => none }
def ReturnsWrongFalsely : Prop := returnsRow.holds Try.pinned (OpenSpec.ofChange returnsWrong)

/-- 'semilaw.Stacks': WHATEVER THE INPUT: true; the input reads as it did. -/
def stacksSpec : ChangeSpec := { name := "stacks", fn := fun _ => fun
  | [d1, d2, d3] => { results := [.lit (.bool true)], args := [d1, d2, d3] }
  | _ => none }
def stacksRow : OpenClaim := { program := "ytnfnbcbadakofaa", sum := "00afd57847770dbd0188b4f70f3b0a9c5e4ada04e87e3e3b9653d8d7ef884e2d", func := "semi/semilaw.Stacks", spec := "stacks", apart := false }
def StacksSaid : Prop := stacksRow.holds Try.pinned (OpenSpec.ofChange stacksSpec)

/-- ITS FALSE NEIGHBOUR: 'it returns false'. Refute it at one input. -/
def stacksWrong : ChangeSpec := { name := "stacks", fn := fun _ => fun
  | [d1, d2, d3] => { results := [.lit (.bool false)], args := [d1, d2, d3] }
  | _ => none }
def StacksWrongFalsely : Prop := stacksRow.holds Try.pinned (OpenSpec.ofChange stacksWrong)

/-- 'semilaw.Starts': WHATEVER THE INPUT: true; the input reads as it did. -/
def startsSpec : ChangeSpec := { name := "starts", fn := fun _ => fun
  | [d1, d2, d3] => { results := [.lit (.bool true)], args := [d1, d2, d3] }
  | _ => none }
def startsRow : OpenClaim := { program := "ytnfnbcbadakofaa", sum := "00afd57847770dbd0188b4f70f3b0a9c5e4ada04e87e3e3b9653d8d7ef884e2d", func := "semi/semilaw.Starts", spec := "starts", apart := false }
def StartsSaid : Prop := startsRow.holds Try.pinned (OpenSpec.ofChange startsSpec)

/-- ITS FALSE NEIGHBOUR: 'it returns false'. Refute it at one input. -/
def startsWrong : ChangeSpec := { name := "starts", fn := fun _ => fun
  | [d1, d2, d3] => { results := [.lit (.bool false)], args := [d1, d2, d3] }
  | _ => none }
def StartsWrongFalsely : Prop := startsRow.holds Try.pinned (OpenSpec.ofChange startsWrong)

/-- 'semilaw.Runs': WHATEVER THE INPUT: true; the input reads as it did. -/
def runsSpec : ChangeSpec := { name := "runs", fn := fun _ => fun
  | [d1, d2, d3, d4] => { results := [.lit (.bool true)], args := [d1, d2, d3, d4] }
  | _ => none }
def runsRow : OpenClaim := { program := "ytnfnbcbadakofaa", sum := "00afd57847770dbd0188b4f70f3b0a9c5e4ada04e87e3e3b9653d8d7ef884e2d", func := "semi/semilaw.Runs", spec := "runs", apart := false }
def RunsSaid : Prop := runsRow.holds Try.pinned (OpenSpec.ofChange runsSpec)

/-- ITS FALSE NEIGHBOUR: 'it returns false'. Refute it at one input. -/
def runsWrong : ChangeSpec := { name := "runs", fn := fun _ => fun
  | [d1, d2, d3, d4] => { results := [.lit (.bool false)], args := [d1, d2, d3, d4] }
  | _ => none }
def RunsWrongFalsely : Prop := runsRow.holds Try.pinned (OpenSpec.ofChange runsWrong)

/-- 'semilaw.Lives': WHATEVER THE INPUT: true; the input reads as it did. -/
def livesSpec : ChangeSpec := { name := "lives", fn := fun _ => fun
  | [d1, d2, d3, d4] => { results := [.lit (.bool true)], args := [d1, d2, d3, d4] }
  | _ => none }
def livesRow : OpenClaim := { program := "ytnfnbcbadakofaa", sum := "00afd57847770dbd0188b4f70f3b0a9c5e4ada04e87e3e3b9653d8d7ef884e2d", func := "semi/semilaw.Lives", spec := "lives", apart := false }
def LivesSaid : Prop := livesRow.holds Try.pinned (OpenSpec.ofChange livesSpec)

/-- ITS FALSE NEIGHBOUR: 'it returns false'. Refute it at one input. -/
def livesWrong : ChangeSpec := { name := "lives", fn := fun _ => fun
  | [d1, d2, d3, d4] => { results := [.lit (.bool false)], args := [d1, d2, d3, d4] }
  | _ => none }
def LivesWrongFalsely : Prop := livesRow.holds Try.pinned (OpenSpec.ofChange livesWrong)

/-- 'semilaw.Splits': WHATEVER THE INPUT: true; the input reads as it did. -/
def splitsSpec : ChangeSpec := { name := "splits", fn := fun _ => fun
  | [d1, d2, d3, d4, d5, d6] => { results := [.lit (.bool true)], args := [d1, d2, d3, d4, d5, d6] }
  | _ => none }
def splitsRow : OpenClaim := { program := "ytnfnbcbadakofaa", sum := "00afd57847770dbd0188b4f70f3b0a9c5e4ada04e87e3e3b9653d8d7ef884e2d", func := "semi/semilaw.Splits", spec := "splits", apart := false }
def SplitsSaid : Prop := splitsRow.holds Try.pinned (OpenSpec.ofChange splitsSpec)

/-- ITS FALSE NEIGHBOUR: 'it returns false'. Refute it at one input. -/
def splitsWrong : ChangeSpec := { name := "splits", fn := fun _ => fun
  | [d1, d2, d3, d4, d5, d6] => { results := [.lit (.bool false)], args := [d1, d2, d3, d4, d5, d6] }
  | _ => none }
def SplitsWrongFalsely : Prop := splitsRow.holds Try.pinned (OpenSpec.ofChange splitsWrong)

/-- 'semilaw.Packs': WHATEVER THE INPUT: true; the input reads as it did. -/
def packsSpec : ChangeSpec := { name := "packs", fn := fun _ => fun
  | [d1, d2, d3, d4, d5, d6] => { results := [.lit (.bool true)], args := [d1, d2, d3, d4, d5, d6] }
  | _ => none }
def packsRow : OpenClaim := { program := "ytnfnbcbadakofaa", sum := "00afd57847770dbd0188b4f70f3b0a9c5e4ada04e87e3e3b9653d8d7ef884e2d", func := "semi/semilaw.Packs", spec := "packs", apart := false }
def PacksSaid : Prop := packsRow.holds Try.pinned (OpenSpec.ofChange packsSpec)

/-- ITS FALSE NEIGHBOUR: 'it returns false'. Refute it at one input. -/
def packsWrong : ChangeSpec := { name := "packs", fn := fun _ => fun
  | [d1, d2, d3, d4, d5, d6] => { results := [.lit (.bool false)], args := [d1, d2, d3, d4, d5, d6] }
  | _ => none }
def PacksWrongFalsely : Prop := packsRow.holds Try.pinned (OpenSpec.ofChange packsWrong)

/-- 'semilaw.Roomy': WHATEVER THE INPUT: true; the input reads as it did. -/
def roomySpec : ChangeSpec := { name := "roomy", fn := fun _ => fun
  | [d1, d2, d3, d4, d5, d6, d7] => { results := [.lit (.bool true)], args := [d1, d2, d3, d4, d5, d6, d7] }
  | _ => none }
def roomyRow : OpenClaim := { program := "ytnfnbcbadakofaa", sum := "00afd57847770dbd0188b4f70f3b0a9c5e4ada04e87e3e3b9653d8d7ef884e2d", func := "semi/semilaw.Roomy", spec := "roomy", apart := false }
def RoomySaid : Prop := roomyRow.holds Try.pinned (OpenSpec.ofChange roomySpec)

/-- ITS FALSE NEIGHBOUR: 'it returns false'. Refute it at one input. -/
def roomyWrong : ChangeSpec := { name := "roomy", fn := fun _ => fun
  | [d1, d2, d3, d4, d5, d6, d7] => { results := [.lit (.bool false)], args := [d1, d2, d3, d4, d5, d6, d7] }
  | _ => none }
def RoomyWrongFalsely : Prop := roomyRow.holds Try.pinned (OpenSpec.ofChange roomyWrong)

/- THE SECOND FORM. 'bulk': how many values and letters a reading holds, each counted each time it is reached (what is shared counts as often as it is met; a slice's spare places count too). A statement '..UptoSaid' is the law's where the arguments, and the package variables that the reading takes, are together of bulk at most 1048576: NARROWER than '..Said'. Prove '..Said' where nothing that the law and all that it calls make is longer than what came in: it says more and counts as full. Else prove '..UptoSaid'. A law counts once. -/
mutual
def uptoBulk {H : Type} : DataW H → Nat
  | .lit (.string bytes) => bytes.length + 1
  | .lit _ => 1
  | .nil => 1
  | .ptr d => uptoBulk d + 1
  | .slice elems spare => uptoBulkAll elems + uptoBulkAll spare + 1
  | .agg parts => uptoBulkAll parts + 1
  | .iface _ d => uptoBulk d + 1
  | .map entries => uptoBulkEntries entries + 1
  | .held _ => 1
def uptoBulkAll {H : Type} : List (DataW H) → Nat
  | [] => 0
  | d :: r => uptoBulk d + uptoBulkAll r
def uptoBulkEntries {H : Type} : List (Lit × DataW H) → Nat
  | [] => 0
  | x :: r => uptoBulkEntry x + uptoBulkEntries r
def uptoBulkEntry {H : Type} : Lit × DataW H → Nat
  | (.string bytes, d) => bytes.length + uptoBulk d + 1
  | (_, d) => uptoBulk d + 1
 end
def uptoSmall : (H : Type) → List (DataW H) → Bool := fun _ ds => decide (uptoBulkAll ds ≤ 1048576)
def OpenSpec.upto (s : _root_.Go.ChangeSpec) : _root_.Go.OpenSpec := { _root_.Go.OpenSpec.ofChange s with cond := some uptoSmall }

/-- 'semilaw.Checks', WHERE WHAT IT READS IS OF BULK AT MOST 1048576: true; the input reads as it did. -/
def checksUptoRow : OpenClaim := { program := "ytnfnbcbadakofaa", sum := "00afd57847770dbd0188b4f70f3b0a9c5e4ada04e87e3e3b9653d8d7ef884e2d", func := "semi/semilaw.Checks", spec := "checks", apart := false, narrowed := true }
def ChecksUptoSaid : Prop := checksUptoRow.holds Try.pinned (OpenSpec.upto checksSpec)

/-- 'semilaw.Decodes', WHERE WHAT IT READS IS OF BULK AT MOST 1048576: true; the input reads as it did. -/
def decodesUptoRow : OpenClaim := { program := "ytnfnbcbadakofaa", sum := "00afd57847770dbd0188b4f70f3b0a9c5e4ada04e87e3e3b9653d8d7ef884e2d", func := "semi/semilaw.Decodes", spec := "decodes", apart := false, narrowed := true }
def DecodesUptoSaid : Prop := decodesUptoRow.holds Try.pinned (OpenSpec.upto decodesSpec)

/-- 'semilaw.Encodes', WHERE WHAT IT READS IS OF BULK AT MOST 1048576: true; the input reads as it did. -/
def encodesUptoRow : OpenClaim := { program := "ytnfnbcbadakofaa", sum := "00afd57847770dbd0188b4f70f3b0a9c5e4ada04e87e3e3b9653d8d7ef884e2d", func := "semi/semilaw.Encodes", spec := "encodes", apart := false, narrowed := true }
def EncodesUptoSaid : Prop := encodesUptoRow.holds Try.pinned (OpenSpec.upto encodesSpec)

/-- 'semilaw.Returns', WHERE WHAT IT READS IS OF BULK AT MOST 1048576: true; the input reads as it did. -/
def returnsUptoRow : OpenClaim := { program := "ytnfnbcbadakofaa", sum := "00afd57847770dbd0188b4f70f3b0a9c5e4ada04e87e3e3b9653d8d7ef884e2d", func := "semi/semilaw.Returns", spec := "returns", apart := false, narrowed := true }
def ReturnsUptoSaid : Prop := returnsUptoRow.holds Try.pinned (OpenSpec.upto returnsSpec)

/-- 'semilaw.Stacks', WHERE WHAT IT READS IS OF BULK AT MOST 1048576: true; the input reads as it did. -/
def stacksUptoRow : OpenClaim := { program := "ytnfnbcbadakofaa", sum := "00afd57847770dbd0188b4f70f3b0a9c5e4ada04e87e3e3b9653d8d7ef884e2d", func := "semi/semilaw.Stacks", spec := "stacks", apart := false, narrowed := true }
def StacksUptoSaid : Prop := stacksUptoRow.holds Try.pinned (OpenSpec.upto stacksSpec)

/-- 'semilaw.Starts', WHERE WHAT IT READS IS OF BULK AT MOST 1048576: true; the input reads as it did. -/
def startsUptoRow : OpenClaim := { program := "ytnfnbcbadakofaa", sum := "00afd57847770dbd0188b4f70f3b0a9c5e4ada04e87e3e3b9653d8d7ef884e2d", func := "semi/semilaw.Starts", spec := "starts", apart := false, narrowed := true }
def StartsUptoSaid : Prop := startsUptoRow.holds Try.pinned (OpenSpec.upto startsSpec)

/-- 'semilaw.Runs', WHERE WHAT IT READS IS OF BULK AT MOST 1048576: true; the input reads as it did. -/
def runsUptoRow : OpenClaim := { program := "ytnfnbcbadakofaa", sum := "00afd57847770dbd0188b4f70f3b0a9c5e4ada04e87e3e3b9653d8d7ef884e2d", func := "semi/semilaw.Runs", spec := "runs", apart := false, narrowed := true }
def RunsUptoSaid : Prop := runsUptoRow.holds Try.pinned (OpenSpec.upto runsSpec)

/-- 'semilaw.Lives', WHERE WHAT IT READS IS OF BULK AT MOST 1048576: true; the input reads as it did. -/
def livesUptoRow : OpenClaim := { program := "ytnfnbcbadakofaa", sum := "00afd57847770dbd0188b4f70f3b0a9c5e4ada04e87e3e3b9653d8d7ef884e2d", func := "semi/semilaw.Lives", spec := "lives", apart := false, narrowed := true }
def LivesUptoSaid : Prop := livesUptoRow.holds Try.pinned (OpenSpec.upto livesSpec)

/-- 'semilaw.Splits', WHERE WHAT IT READS IS OF BULK AT MOST 1048576: true; the input reads as it did. -/
def splitsUptoRow : OpenClaim := { program := "ytnfnbcbadakofaa", sum := "00afd57847770dbd0188b4f70f3b0a9c5e4ada04e87e3e3b9653d8d7ef884e2d", func := "semi/semilaw.Splits", spec := "splits", apart := false, narrowed := true }
def SplitsUptoSaid : Prop := splitsUptoRow.holds Try.pinned (OpenSpec.upto splitsSpec)

/-- 'semilaw.Packs', WHERE WHAT IT READS IS OF BULK AT MOST 1048576: true; the input reads as it did. -/
def packsUptoRow : OpenClaim := { program := "ytnfnbcbadakofaa", sum := "00afd57847770dbd0188b4f70f3b0a9c5e4ada04e87e3e3b9653d8d7ef884e2d", func := "semi/semilaw.Packs", spec := "packs", apart := false, narrowed := true }
def PacksUptoSaid : Prop := packsUptoRow.holds Try.pinned (OpenSpec.upto packsSpec)

/-- 'semilaw.Roomy', WHERE WHAT IT READS IS OF BULK AT MOST 1048576: true; the input reads as it did. -/
def roomyUptoRow : OpenClaim := { program := "ytnfnbcbadakofaa", sum := "00afd57847770dbd0188b4f70f3b0a9c5e4ada04e87e3e3b9653d8d7ef884e2d", func := "semi/semilaw.Roomy", spec := "roomy", apart := false, narrowed := true }
def RoomyUptoSaid : Prop := roomyUptoRow.holds Try.pinned (OpenSpec.upto roomySpec)

end Rows
end Go.Proofs.Ytnfnbcbadakofaa
