import Derived.Test.YtnfnbcbadakofaaWf
import Derived.Deep.OwnRows
import Derived.Laws.MakeOwn
namespace Go.Proofs.Ytnfnbcbadakofaa
open Go.RowKit
/-- the spots of a function in memory -/
def SpotsV (w : World) (base : Nat) (v : Value) (sp : Spots) : Prop := ∃ xs : List (Option (List Int) × Value), xs.map (·.1) = sp ∧ w.ownsRow base 107 2 v xs.length (spC xs) ∧ ∀ x ∈ xs, IntsV w base x.2 (x.1.getD [])

theorem chg_set9 (w : World) (b : Nat) (x0 x1 x2 x3 x4 x5 x6 x7 x8 : Value) : Chg (fun k => k = b) w (((((((((w.setCell ⟨b, 0, none⟩ x0).setCell ⟨b, 1, none⟩ x1).setCell ⟨b, 2, none⟩ x2).setCell ⟨b, 3, none⟩ x3).setCell ⟨b, 4, none⟩ x4).setCell ⟨b, 5, none⟩ x5).setCell ⟨b, 6, none⟩ x6).setCell ⟨b, 7, none⟩ x7).setCell ⟨b, 8, none⟩ x8) :=
  ((((chg_set5 w b x0 x1 x2 x3 x4).setCell _ _ (.inl rfl)).setCell _ _ (.inl rfl)).setCell _ _ (.inl rfl)).setCell _ _ (.inl rfl)

set_option maxHeartbeats 2000000 in
/-- the end of fit: the box is copied into the result's -/
theorem fit_end {w W wr : World} {tb rb : Nat} {s0 s1 s2 s3 s4 s5 sv qv : Value} {ys : List (Option (List Int) × Value)} {q : List Int} {b : Bool} (h : TS W wr tb #[s0, s1, s2, s3, s4, s5] sv qv ys q b) (k : Chg (fun _ => False) w W) (hr : Blk W rb #[.slice none 0 0, .slice none 0 0, .int .i64 0, .slice none 0 0, .int .i64 0, .slice none 0 0, .slice none 0 0, .slice none 0 0, .bool false] 142) (hrb : w.heap.size ≤ rb) (wf : World)
    (hwf : wf = (((((((((wr.setCell ⟨rb, 0, none⟩ s0).setCell ⟨rb, 1, none⟩ s1).setCell ⟨rb, 2, none⟩ s2).setCell ⟨rb, 3, none⟩ s3).setCell ⟨rb, 4, none⟩ s4).setCell ⟨rb, 5, none⟩ s5).setCell ⟨rb, 6, none⟩ sv).setCell ⟨rb, 7, none⟩ qv).setCell ⟨rb, 8, none⟩ (.bool b))) :
    SpotsV wf w.heap.size sv (ys.map (·.1)) ∧ Chg (fun _ => False) w wf ∧ (wf.cell? ⟨rb, 0, none⟩ = some s0 ∧ wf.cell? ⟨rb, 1, none⟩ = some s1 ∧ wf.cell? ⟨rb, 2, none⟩ = some s2 ∧ wf.cell? ⟨rb, 3, none⟩ = some s3 ∧ wf.cell? ⟨rb, 4, none⟩ = some s4 ∧ wf.cell? ⟨rb, 5, none⟩ = some s5 ∧ wf.cell? ⟨rb, 6, none⟩ = some sv ∧ wf.cell? ⟨rb, 7, none⟩ = some qv ∧ wf.cell? ⟨rb, 8, none⟩ = some (.bool b)) := by
  have hk := chg_set9 wr rb s0 s1 s2 s3 s4 s5 sv qv (.bool b)
  rw [← hwf] at hk
  have hr1 := hr.chg h.ch (fun e => e)
  have b3 := ((((((((hr1.set 0 s0).set 1 s1).set 2 s2).set 3 s3).set 4 s4).set 5 s5).set 6 sv).set 7 qv).set 8 (.bool b)
  rw [← hwf] at b3
  have hs := k.size
  have e9 : ((((((((#[Value.slice none 0 0, .slice none 0 0, .int .i64 0, .slice none 0 0, .int .i64 0, .slice none 0 0, .slice none 0 0, .slice none 0 0, .bool false].setIfInBounds 0 s0).setIfInBounds 1 s1).setIfInBounds 2 s2).setIfInBounds 3 s3).setIfInBounds 4 s4).setIfInBounds 5 s5).setIfInBounds 6 sv).setIfInBounds 7 qv).setIfInBounds 8 (.bool b) = #[s0, s1, s2, s3, s4, s5, sv, qv, .bool b] := by simp
  rw [e9] at b3
  refine ⟨⟨ys, rfl, own_mono (own_chg h.sp hk (fun g hg e => own_ne h.sp hr1 (by decide) (by rw [hg, e]))) hs, fun x m => ?_⟩, (k.trans h.ch).trans' hk (fun i hi e => by omega), b3.cell 0, b3.cell 1, b3.cell 2, b3.cell 3, b3.cell 4, b3.cell 5, b3.cell 6, b3.cell 7, b3.cell 8⟩
  have hst := (h.stk x m _ rfl).1
  exact own_mono (own_chg hst hk (fun g hg e => own_ne hst hr1 (by decide) (by rw [hg, e]))) hs

end Go.Proofs.Ytnfnbcbadakofaa
