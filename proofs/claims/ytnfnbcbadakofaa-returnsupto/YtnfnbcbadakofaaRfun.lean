import Derived.Test.YtnfnbcbadakofaaGood
namespace Go.Proofs.Ytnfnbcbadakofaa
open Go.RowKit

def fixS (s : Nat × Bool) (g : Bool) : Nat × Bool := if s.2 = false ∧ g = false then (s.1 - 1, true) else s

def nxI (ns : List Int) (ls : List (List Int)) (fu lo co : Int) (s : Nat × Bool) : (Int × Int × Int) × (Nat × Bool) :=
  let q1 := nx ns 0 18 s
  let q2 := nx ns 0 255 q1.2
  let q3 := nx ns 0 255 (fixS q2.2 (wB q2.1 (bA ls.length fu lo co q1.1).1 (bA ls.length fu lo co q1.1).2))
  ((q1.1, q2.1, q3.1), fixS q3.2 (wB q3.1 0 (gB ls q1.1 q2.1)))

def nxC (ns : List Int) (ls : List (List Int)) (fu lo co : Int) : Nat → Nat × Bool → List (Int × Int × Int) × (Nat × Bool)
  | 0, s => ([], s)
  | k + 1, s =>
    if (nxC ns ls fu lo co k s).2.2 = true then nxC ns ls fu lo co k s else
    ((nxC ns ls fu lo co k s).1 ++ [(nxI ns ls fu lo co (nxC ns ls fu lo co k s).2).1], (nxI ns ls fu lo co (nxC ns ls fu lo co k s).2).2)
theorem nxC_len (ns : List Int) (ls : List (List Int)) (fu lo co : Int) (k : Nat) (s : Nat × Bool) : (nxC ns ls fu lo co k s).1.length ≤ k := by
  induction k with
  | zero => simp [nxC]
  | succ k ih =>
    simp only [nxC]; split
    · omega
    · rw [List.length_append, List.length_singleton]; omega
theorem nxC_stop (ns : List Int) (ls : List (List Int)) (fu lo co : Int) (k j : Nat) (s : Nat × Bool) (h : (nxC ns ls fu lo co k s).2.2 = true) : nxC ns ls fu lo co (k + j) s = nxC ns ls fu lo co k s := by
  induction j with
  | zero => rfl
  | succ j ih => rw [← Nat.add_assoc, nxC, if_pos (by rw [ih]; exact h), ih]

theorem nx_cases (ns : List Int) (lo hi : Int) (s : Nat × Bool) :
    (s.2 = true ∧ nx ns lo hi s = (lo, s)) ∨ (s.2 = false ∧ (ns.length ≤ s.1 ∨ ns.getD s.1 0 < lo ∨ hi < ns.getD s.1 0) ∧ nx ns lo hi s = (lo, (s.1, true))) ∨
    (s.2 = false ∧ s.1 < ns.length ∧ lo ≤ ns.getD s.1 0 ∧ ns.getD s.1 0 ≤ hi ∧ nx ns lo hi s = (ns.getD s.1 0, (s.1 + 1, false))) := by
  unfold nx
  by_cases h : s.2 = true
  · rw [if_pos h]; exact .inl ⟨h, rfl⟩
  · have h' : s.2 = false := by simpa using h
    rw [if_neg h]
    by_cases k : ns.length ≤ s.1 ∨ ns.getD s.1 0 < lo ∨ hi < ns.getD s.1 0
    · rw [if_pos k]; exact .inr (.inl ⟨h', k, rfl⟩)
    · rw [if_neg k]; exact .inr (.inr ⟨h', by omega, by omega, by omega, rfl⟩)
theorem nx_rng (ns : List Int) (lo hi : Int) (s : Nat × Bool) (h : lo ≤ hi) : lo ≤ (nx ns lo hi s).1 ∧ (nx ns lo hi s).1 ≤ hi := by
  rcases nx_cases ns lo hi s with ⟨_, e⟩ | ⟨_, _, e⟩ | ⟨_, _, h1, h2, e⟩ <;> rw [e]
  · exact ⟨Int.le_refl _, h⟩
  · exact ⟨Int.le_refl _, h⟩
  · exact ⟨h1, h2⟩
theorem nx_stop (ns : List Int) (lo hi : Int) (s : Nat × Bool) (h : s.2 = true) : nx ns lo hi s = (lo, s) := by unfold nx; rw [if_pos h]
theorem nx_pos (ns : List Int) (lo hi : Int) (s : Nat × Bool) (h : (nx ns lo hi s).2.2 = false) : 1 ≤ (nx ns lo hi s).2.1 ∧ (nx ns lo hi s).2.1 ≤ ns.length := by
  rcases nx_cases ns lo hi s with ⟨h0, e⟩ | ⟨_, _, e⟩ | ⟨_, h0, h1, h2, e⟩ <;> rw [e] at h ⊢
  · simp [h0] at h
  · simp at h
  · exact ⟨by simp, h0⟩

/-- where Reader.fun stands -/
structure GS (w wk : World) (rb : Nat) (b : ByteArray) (s : Nat × Bool) (base : Nat) (tv fv : Value) (ls : List (List Int)) : Prop where
  rr : RR wk rb b s
  ty : TypesV wk base tv ls
  pb : Blk wk w.heap.size #[tv, fv] 28
  ob : Blk wk (w.heap.size + 1) #[.int .i64 0, .slice none 0 0, .int .i64 0, .slice none 0 0] 92
  ch : Chg (fun k => k = rb) w wk
  hr : rb < w.heap.size

theorem TypesV.rr {w w' : World} {rb : Nat} {b : ByteArray} {s : Nat × Bool} {base : Nat} {v : Value} {ls : List (List Int)} (h : TypesV w base v ls) (hr : RR w rb b s) (k : Chg (fun k => k = rb) w w') : TypesV w' base v ls :=
  h.chg k (fun _ _ hb e => (hb.ne hr (by decide)) e) (fun _ _ hb e => (hb.ne hr (by decide)) e)
theorem IntsV.rr {w w' : World} {rb : Nat} {b : ByteArray} {s : Nat × Bool} {base : Nat} {v : Value} {l : List Int} (h : IntsV w base v l) (hr : RR w rb b s) (k : Chg (fun k => k = rb) w w') : IntsV w' base v l :=
  h.chg k (fun _ _ hb e => (hb.ne hr (by decide)) e)
theorem InsV.rr {eI : TypeId} (he : eI ≠ 87) {w w' : World} {rb : Nat} {b : ByteArray} {s : Nat × Bool} {base : Nat} {v : Value} {l : List (Int × Int × Int)} (h : InsV eI w base v l) (hr : RR w rb b s) (k : Chg (fun k => k = rb) w w') : InsV eI w' base v l :=
  h.chg k (fun _ _ hb e => (hb.ne hr he) e)

section
variable {w wk wk' : World} {rb : Nat} {b : ByteArray} {s s' : Nat × Bool} {base : Nat} {tv fv : Value} {ls : List (List Int)}
theorem GS.step (h : GS w wk rb b s base tv fv ls) (k : Chg (fun k => k = rb) wk wk') (hrr : RR wk' rb b s') : GS w wk' rb b s' base tv fv ls :=
  have hr := h.hr
  ⟨hrr, h.ty.rr h.rr k, h.pb.chg k (by omega), h.ob.chg k (by omega), h.ch.trans k, h.hr⟩
theorem GS.new (h : GS w wk rb b s base tv fv ls) (k : Chg (fun _ => False) wk wk') : GS w wk' rb b s base tv fv ls :=
  ⟨Blk.chg h.rr k (fun e => e), h.ty.new k, h.pb.chg k (fun e => e), h.ob.chg k (fun e => e), h.ch.trans k.ofNew, h.hr⟩
theorem GS.setG (h : GS w wk rb b s base tv fv ls) {gb : Nat} {gc : Array Value} (hb : Blk wk gb gc 92) (hg : w.heap.size + 2 ≤ gb) (i : Nat) (v : Value) : GS w (wk.setCell ⟨gb, i, none⟩ v) rb b s base tv fv ls :=
  have hr := h.hr
  ⟨Blk.setOther h.rr _ _ (by simp; omega), h.ty.set hb (by decide) (by decide) i v, h.pb.setOther _ _ (by simp; omega), h.ob.setOther _ _ (by simp; omega), h.ch.setCell _ _ (.inr (by simp; omega)), h.hr⟩
theorem GS.begin (h : RR w rb b s) (ht : TypesV w base tv ls) :
    GS w ((w.alloc (Obj.cells #[tv, fv] 28)).alloc (Obj.cells #[.int .i64 0, .slice none 0 0, .int .i64 0, .slice none 0 0] 92)) rb b s base tv fv ls :=
  have k : Chg (fun _ => False) w ((w.alloc (Obj.cells #[tv, fv] 28)).alloc (Obj.cells #[.int .i64 0, .slice none 0 0, .int .i64 0, .slice none 0 0] 92)) := ((Chg.refl _ w).alloc _).alloc _
  ⟨Blk.chg h k (fun e => e), ht.new k, (Blk.new w _ 28).alloc _, Blk.new' (by simp) _ 92, k.ofNew, Blk.lt h⟩
theorem GS.grow {cv : Value} {n : Nat} {xs : List Value} (h : GS w wk rb b s base tv fv ls)
    (hcv : wk.ownsRow w.heap.size 99 3 cv n xs) (k : Chg (fun k => some k = cv.ownBlock) wk wk') : GS w wk' rb b s base tv fv ls := by
  have ne : ∀ g cs e, Blk wk g cs e → e ≠ 99 → ¬ some g = cv.ownBlock := fun g cs e hb he hg => by
    obtain ⟨cs', hb'⟩ := own_blk hcv hg.symm
    exact hb.ne hb' he rfl
  exact ⟨Blk.chg h.rr k (ne _ _ _ h.rr (by decide)), h.ty.chg k (fun g cs hb => ne g cs 3 hb (by decide)) (fun g cs hb => ne g cs 47 hb (by decide)),
    h.pb.chg k (ne _ _ _ h.pb (by decide)), h.ob.chg k (ne _ _ _ h.ob (by decide)), h.ch.trans' k (fun i hi e => by have := (hcv.lt i e.symm).1; omega), h.hr⟩
end
theorem info74 : ∃ i : TypeInfo, Try.prog.info? 99 = some i ∧ i.zero = some (.agg #[.int .i64 0, .int .i64 0, .int .i64 0]) ∧ i.size = 3 ∧ i.bytes = 24 := info_of (by kernel_rfl)
end Go.Proofs.Ytnfnbcbadakofaa
