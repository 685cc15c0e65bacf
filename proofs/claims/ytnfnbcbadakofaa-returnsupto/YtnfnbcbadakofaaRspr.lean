import Derived.Test.YtnfnbcbadakofaaClos2
namespace Go.Proofs.Ytnfnbcbadakofaa
open Go.RowKit

/-- where the document's Fit stands -/
structure SS (w0 w : World) (b0 sb gh go ch co : Nat) (xs : List (Option (List Int) × Value)) : Prop where
  box : Blk w sb #[.slice (some ⟨gh, 0, none⟩) xs.length ch, .slice (some ⟨go, 0, none⟩) xs.length co] 112
  has : w.ownsRow w0.heap.size 4 1 (.slice (some ⟨gh, 0, none⟩) xs.length ch) xs.length (xs.map fun x => .bool x.1.isSome)
  of : w.ownsRow w0.heap.size 47 1 (.slice (some ⟨go, 0, none⟩) xs.length co) xs.length (xs.map (·.2))
  stk : ∀ x, x ∈ xs → ∀ l, x.1 = some l → IntsV w b0 x.2 l
  ch : Chg (fun _ => False) w0 w
  sb : w0.heap.size ≤ sb

theorem SS.new {w0 w w' : World} {b0 sb gh go ch co : Nat} {xs : List (Option (List Int) × Value)} (h : SS w0 w b0 sb gh go ch co xs) (k : Chg (fun _ => False) w w') : SS w0 w' b0 sb gh go ch co xs :=
  ⟨h.box.chg k (fun e => e), own_chg h.has k (fun _ _ e => e), own_chg h.of k (fun _ _ e => e), fun x m l hl => own_chg (h.stk x m l hl) k (fun _ _ e => e), h.ch.trans k, h.sb⟩

/-- a block that a mark does not touch -/
theorem SS.mark {w0 w : World} {b0 sb gh go ch co : Nat} {xs : List (Option (List Int) × Value)} (h : SS w0 w b0 sb gh go ch co xs) (k : Nat) (hk : k < xs.length) (u : Value) (l : List Int) (hu : IntsV w b0 u l) :
    SS w0 ((w.drew.setCell ⟨gh, k, none⟩ (.bool true)).drew.setCell ⟨go, k, none⟩ u) b0 sb gh go ch co (xs.set k (some l, u)) ∧
    (∀ u' l', IntsV w b0 u' l' → IntsV ((w.drew.setCell ⟨gh, k, none⟩ (.bool true)).drew.setCell ⟨go, k, none⟩ u) b0 u' l') ∧
    (∀ b cs, Blk w b cs 28 → Blk ((w.drew.setCell ⟨gh, k, none⟩ (.bool true)).drew.setCell ⟨go, k, none⟩ u) b cs 28) := by
  obtain ⟨c1, hg⟩ := own_frozen h.has
  obtain ⟨c2, ho⟩ := own_frozen h.of
  have hg' := hg.drew
  have ho' : Blk (w.drew.setCell ⟨gh, k, none⟩ (.bool true)).drew go c2 47 := (ho.drew.setOther _ _ (ho.ne hg (by decide))).drew
  have keep : ∀ u' l', IntsV w b0 u' l' → IntsV ((w.drew.setCell ⟨gh, k, none⟩ (.bool true)).drew.setCell ⟨go, k, none⟩ u) b0 u' l' := fun u' l' h' => by
    have a1 : IntsV (w.drew.setCell ⟨gh, k, none⟩ (.bool true)) b0 u' l' := IntsV.set (own_drew h') hg' (by decide) k (.bool true)
    exact IntsV.set (own_drew a1) ho' (by decide) k u
  have kb : ∀ b cs e, Blk w b cs e → e ≠ 4 → e ≠ 47 → Blk ((w.drew.setCell ⟨gh, k, none⟩ (.bool true)).drew.setCell ⟨go, k, none⟩ u) b cs e := fun b cs e hb h4 h47 =>
    ((hb.drew.setOther _ _ (hb.ne hg h4)).drew).setOther _ _ (hb.ne ho h47)
  have n1 : w0.heap.size ≤ gh := (h.has.lt gh rfl).1
  have n2 : w0.heap.size ≤ go := (h.of.lt go rfl).1
  refine ⟨⟨by rw [List.length_set]; exact kb _ _ _ h.box (by decide) (by decide), ?_, ?_, fun x m l' hl' => ?_, ?_, h.sb⟩, keep, fun b cs hb => kb b cs 28 hb (by decide) (by decide)⟩
  · have s1 := own_setIn (own_drew h.has) k (by omega) (.bool true)
    have s2 := own_set (own_drew s1) ⟨go, k, none⟩ u (own_ne (own_drew s1) ho' (by decide))
    rw [List.length_set]
    have e : (xs.map fun x => Value.bool x.1.isSome).set k (.bool true) = (xs.set k (some l, u)).map fun x => Value.bool x.1.isSome := by rw [List.map_set]; rfl
    rw [← e]
    exact s2
  · have s1 := own_set (own_drew h.of) ⟨gh, k, none⟩ (.bool true) (own_ne (own_drew h.of) hg' (by decide))
    have s2 := own_setIn (own_drew s1) k (by omega) u
    rw [List.length_set]
    have e : (xs.map fun x => x.2).set k u = (xs.set k (some l, u)).map fun x => x.2 := by rw [List.map_set]
    rw [← e]
    exact s2
  · rcases List.mem_or_eq_of_mem_set m with m | rfl
    · exact keep _ _ (h.stk x m l' hl')
    · simp only [Option.some.injEq] at hl'
      subst hl'
      exact keep _ _ hu
  · exact ((h.ch.drew.setCell _ _ (.inr n1)).drew).setCell _ _ (.inr n2)

end Go.Proofs.Ytnfnbcbadakofaa
