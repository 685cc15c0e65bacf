import Derived.Test.YtnfnbcbadakofabPks
import Derived.Test.YtnfnbcbadakofabLate
namespace Go.Proofs.Ytnfnbcbadakofab
open Go.RowKit
set_option maxHeartbeats 2000000
set_option maxRecDepth 100000

theorem opF_main {s : ByteArray} (h : (opF s).1 = 0) : 0 < (opF s).2.2.1.funcs.length ∧ (fnAt (opF s).2.2.1.funcs 0).locals.length ≤ 8 := by
  have hw := (opF_ok h).1
  have h1 : 0 < (opF s).2.2.1.funcs.length := hw.f1
  have hfn : fnAt (opF s).2.2.1.funcs 0 = (opF s).2.2.1.funcs[0] := by unfold fnAt; rw [dif_pos ⟨by omega, by simpa using h1⟩]; rfl
  refine ⟨h1, ?_⟩
  rw [hfn]
  exact (hw.fs 0 h1).l8


theorem start_any (s : ByteArray) (h d : Int) (w : World) : Calls Try.prog 7 #[.string s, h, d] w (SuEnd w s (opF s) h d) := by
  refine start_core s h d w (opF s) (fun w => openFit_any s w) opF_size ?_
  by_cases hz : (opF s).1 = 0
  · have := (opF_main hz).2; omega
  · have hp : (opF s).2.2.1 = ⟨[], []⟩ := by
      by_cases h1 : (opn s).1 = 0
      · rcases hA : fitAll (opn s).2.2 (opn s).2.2.funcs 0 [] with k | sps
        · rw [opF_2 h1 k hA]
        · rw [opF_3 h1 sps hA] at hz; exact absurd rfl hz
      · rw [opF_1 h1]
    rw [hp]; simp [fnAt]


theorem bulk_part {H : Type} {d : DataW H} {l : List (DataW H)} (h : d ∈ l) : Rows.uptoBulk d ≤ Rows.uptoBulkAll l := by
  induction l with
  | nil => cases h
  | cons x r ih =>
    simp only [Rows.uptoBulkAll]
    cases List.mem_cons.1 h with
    | inl e => subst e; omega
    | inr e => have := ih e; omega
end Go.Proofs.Ytnfnbcbadakofab
