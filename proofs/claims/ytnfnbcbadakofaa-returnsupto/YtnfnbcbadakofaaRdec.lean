import Derived.Test.YtnfnbcbadakofaaRfun2
namespace Go.Proofs.Ytnfnbcbadakofaa
open Go.RowKit

def nxF (ns : List Int) (ls : List (List Int)) (fu : Int) (first : Bool) (s : Nat × Bool) : Fn × (Nat × Bool) :=
  let r1 := nx ns 0 (if first then 0 else 4) s
  let r2 := nx ns r1.1 8 r1.2
  let r3 := nxL ns ls.length r2.1.toNat r2.2
  let r4 := nx ns 0 (if first then 0 else ls.length) r3.2
  let r5 := nx ns 1 64 r4.2
  let r6 := nxC ns ls fu r2.1 r5.1 r5.1.toNat r5.2
  (⟨r1.1, r3.1, r4.1, r6.1⟩, r6.2)

theorem rfun_any (rb : Nat) (b : ByteArray) (s : Nat × Bool) (tv fv : Value) (ls : List (List Int)) (fu place : Int) (w : World) (base : Nat) (h : RR w rb b s) (hl : b.size ≤ 10000) (ht : TypesV w base tv ls) (hfv : ∃ fa nf fc, fv = .slice fa nf fc)
    (hn : ls.length ≤ 10000) (hls : ∀ j, (ls.getD j []).length ≤ 10000) (hfu : 0 ≤ fu) (hfu2 : fu ≤ 10000) :
    Calls Try.prog 43 #[.pointer (some ⟨rb, 0, none⟩), .agg #[tv, fv], .int .i64 place, .int .i64 fu] w fun e w' =>
      ∃ lv cv, e = .returned (.agg #[.int .i64 (nxF (bl b) ls fu (place == 0) s).1.args, lv, .int .i64 (nxF (bl b) ls fu (place == 0) s).1.result, cv]) ∧ IntsV w' w.heap.size lv (nxF (bl b) ls fu (place == 0) s).1.locals ∧
        InsV 99 w' w.heap.size cv (nxF (bl b) ls fu (place == 0) s).1.code ∧ RR w' rb b (nxF (bl b) ls fu (place == 0) s).2 ∧ Chg (fun k => k = rb) w w' := by
  obtain ⟨a, cap, rfl⟩ := ht.slice
  obtain ⟨fa, nf, fc, rfl⟩ := hfv
  have h0 : 0 ≤ (nx (bl b) 0 (if (place == 0) = true then 0 else 4) s).1 ∧ (nx (bl b) 0 (if (place == 0) = true then 0 else 4) s).1 ≤ 8 := by
    have hm : 0 ≤ (if (place == 0) = true then (0 : Int) else 4) ∧ (if (place == 0) = true then (0 : Int) else 4) ≤ 4 := by split <;> decide
    have := nx_rng (bl b) 0 (if (place == 0) = true then 0 else 4) s hm.1
    omega
  refine rfun_core rb b s a fa cap nf fc ls fu place w base h hl ht hn hls hfu hfu2 (if (place == 0) = true then 0 else 4) (if (place == 0) = true then 0 else ls.length) ?_ _ _ _ _ _ rfl rfl rfl rfl rfl ?_ ?_
  · cases hp : (place == 0) <;> simp
  · have := nx_rng (bl b) (nx (bl b) 0 (if (place == 0) = true then 0 else 4) s).1 8 (nx (bl b) 0 (if (place == 0) = true then 0 else 4) s).2 h0.2
    omega
  · have := nx_rng (bl b) 1 64 (nx (bl b) 0 (if (place == 0) = true then 0 else ls.length) (nxL (bl b) ls.length (nx (bl b) (nx (bl b) 0 (if (place == 0) = true then 0 else 4) s).1 8 (nx (bl b) 0 (if (place == 0) = true then 0 else 4) s).2).1.toNat (nx (bl b) (nx (bl b) 0 (if (place == 0) = true then 0 else 4) s).1 8 (nx (bl b) 0 (if (place == 0) = true then 0 else 4) s).2).2).2).2 (by decide)
    omega

def nxT (ns : List Int) (n : Int) : Nat → Nat × Bool → List (List Int) × (Nat × Bool)
  | 0, s => ([], s)
  | k + 1, s =>
    let r := nxT ns n k s
    let c := nx ns 0 5 r.2
    let l := nxL ns n c.1.toNat c.2
    (r.1 ++ [l.1], l.2)
def nxFs (ns : List Int) (ls : List (List Int)) (fu : Int) : Nat → Nat × Bool → List Fn × (Nat × Bool)
  | 0, s => ([], s)
  | k + 1, s =>
    let r := nxFs ns ls fu k s
    if r.2.2 = true then r else
    let f := nxF ns ls fu (k == 0) r.2
    (r.1 ++ [f.1], f.2)
theorem nxT_len (ns : List Int) (n : Int) (k : Nat) (s : Nat × Bool) : (nxT ns n k s).1.length = k := by
  induction k with
  | zero => rfl
  | succ k ih => simp [nxT, ih]
theorem nxFs_len (ns : List Int) (ls : List (List Int)) (fu : Int) (k : Nat) (s : Nat × Bool) : (nxFs ns ls fu k s).1.length ≤ k := by
  induction k with
  | zero => simp [nxFs]
  | succ k ih =>
    simp only [nxFs]; split
    · omega
    · rw [List.length_append, List.length_singleton]; omega
theorem nxFs_stop (ns : List Int) (ls : List (List Int)) (fu : Int) (k j : Nat) (s : Nat × Bool) (h : (nxFs ns ls fu k s).2.2 = true) : nxFs ns ls fu (k + j) s = nxFs ns ls fu k s := by
  induction j with
  | zero => rfl
  | succ j ih => rw [← Nat.add_assoc, nxFs]; simp only []; rw [if_pos (by rw [ih]; exact h), ih]
theorem nxT_small (ns : List Int) (n : Int) (k : Nat) (s : Nat × Bool) (j : Nat) : ((nxT ns n k s).1.getD j []).length ≤ 5 := by
  induction k with
  | zero => simp [nxT]
  | succ k ih =>
    simp only [nxT]
    rw [List.getD_eq_getElem?_getD, List.getElem?_append]
    split
    · rw [← List.getD_eq_getElem?_getD]; exact ih
    · rcases Nat.eq_zero_or_pos (j - (nxT ns n k s).1.length) with h | h
      · rw [h]
        have := nx_rng ns 0 5 (nxT ns n k s).2 (by decide)
        simp [nxL_len]; omega
      · rw [List.getElem?_eq_none (by simp; omega)]; simp

/-- where Decode of the document stands -/
structure DS (w wk : World) (b : ByteArray) (s : Nat × Bool) (pc : Array Value) : Prop where
  rr : RR wk (w.heap.size + 1) b s
  ob : Blk wk w.heap.size #[.slice none 0 0, .slice none 0 0] 28
  pb : Blk wk (w.heap.size + 2) pc 28
  ch : Chg (fun _ => False) w wk

section
variable {w wk wk' : World} {b : ByteArray} {s s' : Nat × Bool} {pc : Array Value}
theorem DS.step (h : DS w wk b s pc) (k : Chg (fun k => k = w.heap.size + 1) wk wk') (hrs : RR wk' (w.heap.size + 1) b s') : DS w wk' b s' pc :=
  ⟨hrs, h.ob.chg k (by omega), h.pb.chg k (by omega), h.ch.trans' k (fun i hi e => by omega)⟩
theorem DS.setP (h : DS w wk b s pc) (i : Nat) (v : Value) : DS w (wk.setCell ⟨w.heap.size + 2, i, none⟩ v) b s (pc.setIfInBounds i v) :=
  ⟨Blk.setOther h.rr _ _ (by simp), h.ob.setOther _ _ (by simp), h.pb.set i v, h.ch.setCell _ _ (.inr (by simp))⟩
theorem DS.grow {eF : TypeId} {size : Nat} {cv : Value} {n : Nat} {xs : List Value} (h : DS w wk b s pc) (h1 : 87 ≠ eF) (h3 : 28 ≠ eF)
    (hcv : wk.ownsRow w.heap.size eF size cv n xs) (k : Chg (fun k => some k = cv.ownBlock) wk wk') : DS w wk' b s pc := by
  have ne : ∀ g cs e, Blk wk g cs e → e ≠ eF → ¬ some g = cv.ownBlock := fun g cs e hb he hg => by
    obtain ⟨cs', hb'⟩ := own_blk hcv hg.symm
    exact hb.ne hb' he rfl
  exact ⟨Blk.chg h.rr k (ne _ _ _ h.rr h1), h.ob.chg k (ne _ _ _ h.ob h3), h.pb.chg k (ne _ _ _ h.pb h3),
    h.ch.trans' k (fun i hi e => by have := (hcv.lt i e.symm).1; omega)⟩
end
theorem FuncsV.rr {eF eI : TypeId} (h1 : eF ≠ 87) (h2 : eI ≠ 87) {w w' : World} {rb : Nat} {b : ByteArray} {s : Nat × Bool} {base : Nat} {v : Value} {fs : List Fn} (h : FuncsV eF eI w base v fs) (hr : RR w rb b s) (k : Chg (fun k => k = rb) w w') : FuncsV eF eI w' base v fs :=
  h.chg k (fun _ _ hb e => (hb.ne hr (by decide)) e) (fun _ _ hb e => (hb.ne hr h2) e) (fun _ _ hb e => (hb.ne hr h1) e)
theorem info67 : ∃ i : TypeInfo, Try.prog.info? 92 = some i ∧ i.zero = some (.agg #[.int .i64 0, .slice none 0 0, .int .i64 0, .slice none 0 0]) ∧ i.size = 4 ∧ i.bytes = 64 := info_of (by kernel_rfl)
end Go.Proofs.Ytnfnbcbadakofaa
