import Derived.Test.YtnfnbcbadakofaaGdp
import Derived.Test.YtnfnbcbadakofaaRdb
import Derived.Test.YtnfnbcbadakofaaMad
import Derived.Test.YtnfnbcbadakofaaLaw
import Derived.Lib.SmallJoins
import Derived.Deep.Matrix
import Derived.Deep.Strs
import Derived.Carry
namespace Go.Proofs.Ytnfnbcbadakofaa
open Go.RowKit

theorem docP_no {ls : List (List Int)} {fs : List Fn} (h : goodP ls fs = false) : docP ls fs = (⟨#[]⟩, 7) := by unfold docP; rw [if_pos h]
theorem docP_yes {ls : List (List Int)} {fs : List Fn} (h : goodP ls fs = true) : docP ls fs = if 800 < (numP ls fs).length then (⟨#[]⟩, 1) else (strOfNums (lows (numP ls fs)), 0) := by unfold docP; rw [if_neg (by rw [h]; decide)]

set_option maxHeartbeats 2000000 in
set_option maxRecDepth 100000 in
/-- the document's Encode, given its Image -/
theorem rencode_core (ta fa : Option Addr) (tc fc : Nat) (ls : List (List Int)) (fs : List Fn) (w : World) (ht : RdTs w (.slice ta ls.length tc) ls) (hf : RdFs w (.slice fa fs.length fc) fs) (hbl : ∀ j, (ls.getD j []).length ≤ 10000000) (hbf : ∀ f ∈ fs, f.locals.length ≤ 10000000 ∧ f.code.length ≤ 10000000)
    (him : goodP ls fs = true → ∀ w', Chg (fun _ => False) w w' → Calls Try.prog 50 #[.agg #[.slice ta ls.length tc, .slice fa fs.length fc]] w' fun e w'' => e = .returned (.string (strOfNums (lows (numP ls fs)))) ∧ Chg (fun _ => False) w' w'') :
    Calls Try.prog 23 #[.agg #[.slice ta ls.length tc, .slice fa fs.length fc]] w fun e w' => e = .returned (.tuple #[.string (docP ls fs).1, .int .i64 (docP ls fs).2]) ∧ Chg (fun _ => False) w w' := by
  have kb : Chg (fun _ => False) w (w.alloc (Obj.cells #[.slice ta ls.length tc, .slice fa fs.length fc] 28)) := (Chg.refl _ w).alloc _
  have bx : Blk (w.alloc (Obj.cells #[.slice ta ls.length tc, .slice fa fs.length fc] 28)) w.heap.size #[.slice ta ls.length tc, .slice fa fs.length fc] 28 := Blk.new w _ 28
  have ht0 := ht.new kb
  have hf0 := hf.new kb
  have HIM : Hid (goodP ls fs = true → ∀ w', Chg (fun _ => False) w w' → Calls Try.prog 50 #[.agg #[.slice ta ls.length tc, .slice fa fs.length fc]] w' fun e w'' => e = .returned (.string (strOfNums (lows (numP ls fs)))) ∧ Chg (fun _ => False) w' w'') := him
  clear ht hf him
  generalize hD : docP ls fs = D
  have HD : Hid (docP ls fs = D) := hD
  clear hD
  go_enter Try.func23, Try.ntmps23
  go_wp2_with fail
  generalize (w.alloc (Obj.cells #[.slice ta ls.length tc, .slice fa fs.length fc] 28)) = W0 at *
  refine (good_rd ta fa tc fc ls fs _ ht0 hf0 hbl hbf).mono ?_
  rintro e w1 ⟨rfl, k1⟩
  rcases hg : goodP ls fs
  · have HF : Hid (D = (⟨#[]⟩, 7)) := by
      show D = (⟨#[]⟩, 7)
      rw [← HD.out, docP_no hg]
    clear hg HD
    go_wp2
    go_ret2
    exact ⟨by rw [HF.out]; rfl, kb.trans k1⟩
  · have hd := docP_yes hg
    rw [HD.out] at hd
    have himg := HIM.out hg _ (kb.trans k1)
    have HI : Hid (∀ (_ : Unit), Calls Try.prog 50 #[.agg #[.slice ta ls.length tc, .slice fa fs.length fc]] w1 fun e w'' => e = .returned (.string (strOfNums (lows (numP ls fs)))) ∧ Chg (fun _ => False) w1 w'') := fun _ => himg
    have hlg := (goodP_iff.1 hg).lng
    have hnl := numP_len hlg
    have x0 : w1.cell? ⟨w.heap.size, 0, none⟩ = some (.slice ta ls.length tc) := (bx.chg k1 (fun e => e)).cell 0
    have x1 : w1.cell? ⟨w.heap.size, 1, none⟩ = some (.slice fa fs.length fc) := (bx.chg k1 (fun e => e)).cell 1
    have hsz : (strOfNums (lows (numP ls fs))).size = (numP ls fs).length := by rw [strOfNums_size]; simp [lows]
    have HDD : Hid (D = if 800 < (numP ls fs).length then (⟨#[]⟩, 1) else (strOfNums (lows (numP ls fs)), 0)) := hd
    clear hd himg hlg hg HIM HD
    go_wp2_with fail
    refine (HI.out ()).mono ?_
    rintro e w2 ⟨rfl, k2⟩
    generalize hN : numP ls fs = N at *
    clear hN x0 x1
    generalize hT : strOfNums (lows N) = T at *
    clear hT
    by_cases h8 : 800 < N.length
    · have h8' : (800 : Int) < (T.size : Int) := by omega
      have HF : Hid (D = (⟨#[]⟩, 1)) := by
        show D = (⟨#[]⟩, 1)
        rw [HDD.out, if_pos h8]
      clear HDD
      go_wp2
      go_ret2
      exact ⟨by rw [HF.out]; rfl, (kb.trans k1).trans k2⟩
    · have h8' : (T.size : Int) ≤ 800 := by omega
      have HF : Hid (D = (T, 0)) := by
        show D = (T, 0)
        rw [HDD.out, if_neg h8]
      clear HDD
      go_wp2
      go_ret2
      exact ⟨by rw [HF.out]; rfl, (kb.trans k1).trans k2⟩
end Go.Proofs.Ytnfnbcbadakofaa

namespace Go.Proofs.Ytnfnbcbadakofaa
open Go.RowKit

theorem image_good (ta fa : Option Addr) (tc fc : Nat) (ls : List (List Int)) (fs : List Fn) (w : World) (ht : RdTs w (.slice ta ls.length tc) ls) (hf : RdFs w (.slice fa fs.length fc) fs) (hg : goodP ls fs = true) :
    Calls Try.prog 50 #[.agg #[.slice ta ls.length tc, .slice fa fs.length fc]] w fun e w' => e = .returned (.string (strOfNums (lows (numP ls fs)))) ∧ Chg (fun _ => False) w w' := by
  obtain ⟨a, b, c, d⟩ := goodP_iff.1 hg
  refine image_rd ta fa tc fc ls fs w ht hf a (fun l hl => (b l hl).1) c.2 (fun f hm => ?_)
  obtain ⟨j, hj, rfl⟩ := List.mem_iff_getElem.1 hm
  have d' : GF ls fs.length (j == 0) fs[j] := d j hj
  unfold GF at d'
  exact ⟨by omega, by omega⟩

theorem rencode_any (ta fa : Option Addr) (tc fc : Nat) (ls : List (List Int)) (fs : List Fn) (w : World) (ht : RdTs w (.slice ta ls.length tc) ls) (hf : RdFs w (.slice fa fs.length fc) fs) (hbl : ∀ j, (ls.getD j []).length ≤ 2000000) (hbf : ∀ j (hj : j < fs.length), fs[j].locals.length ≤ 2000000 ∧ fs[j].code.length ≤ 2000000) :
    Calls Try.prog 23 #[.agg #[.slice ta ls.length tc, .slice fa fs.length fc]] w fun e w' => e = .returned (.tuple #[.string (docP ls fs).1, .int .i64 (docP ls fs).2]) ∧ Chg (fun _ => False) w w' :=
  rencode_core ta fa tc fc ls fs w ht hf (fun j => by have := hbl j; omega) (fun f hm => by
    obtain ⟨j, hj, rfl⟩ := List.mem_iff_getElem.1 hm
    have := hbf j hj
    omega) (fun hg w' k => image_good ta fa tc fc ls fs w' (ht.new k) (hf.new k) hg)

set_option maxHeartbeats 2000000 in
set_option maxRecDepth 100000 in
theorem encodes_walk (ta fa : Option Addr) (tc fc : Nat) (ls : List (List Int)) (fs : List Fn) (w : World) (ht : RdTs w (.slice ta ls.length tc) ls) (hf : RdFs w (.slice fa fs.length fc) fs) (hlt : ls.length ≤ 2000000) (hbl : ∀ j, (ls.getD j []).length ≤ 2000000) (hft : fs.length ≤ 2000000) (hbf : ∀ j (hj : j < fs.length), fs[j].locals.length ≤ 2000000 ∧ fs[j].code.length ≤ 2000000) :
    Calls Try.prog 5 #[.agg #[.slice ta ls.length tc, .slice fa fs.length fc]] w fun e w' => e = .returned (.bool true) ∧ Chg (fun _ => False) w w' := by
  have kb : Chg (fun _ => False) w (w.alloc (Obj.cells #[.slice ta ls.length tc, .slice fa fs.length fc] 28)) := (Chg.refl _ w).alloc _
  have bx : Blk (w.alloc (Obj.cells #[.slice ta ls.length tc, .slice fa fs.length fc] 28)) w.heap.size #[.slice ta ls.length tc, .slice fa fs.length fc] 28 := Blk.new w _ 28
  have HT : Hid (RdTs (w.alloc (Obj.cells #[.slice ta ls.length tc, .slice fa fs.length fc] 28)) (.slice ta ls.length tc) ls) := ht.new kb
  have HF : Hid (RdFs (w.alloc (Obj.cells #[.slice ta ls.length tc, .slice fa fs.length fc] 28)) (.slice fa fs.length fc) fs) := hf.new kb
  have HBL : Hid (∀ j, (ls.getD j []).length ≤ 2000000) := hbl
  have HBF : Hid (∀ j (hj : j < fs.length), fs[j].locals.length ≤ 2000000 ∧ fs[j].code.length ≤ 2000000) := hbf
  clear ht hf hbl hbf
  go_enter Try.func5, Try.ntmps5
  go_wp2_with fail
  generalize (w.alloc (Obj.cells #[.slice ta ls.length tc, .slice fa fs.length fc] 28)) = W0 at *
  refine (made_core ta fa tc fc ls fs _ HT.out HF.out hlt HBL.out hft HBF.out).mono ?_
  rintro e w1 ⟨tv', fv', rfl, h1, h2, k1⟩
  obtain ⟨ta', tc', rfl⟩ := h1.slice
  obtain ⟨fa', fc', rfl⟩ := h2.slice
  have H1 : Hid (TypesV w1 W0.heap.size (.slice ta' ls.length tc') ls) := h1
  have H2 : Hid (FuncsV 96 98 w1 W0.heap.size (.slice fa' fs.length fc') fs) := h2
  clear h1 h2
  have kA : Chg (fun _ => False) w1 (w1.alloc (Obj.cells #[.slice ta' ls.length tc', .slice fa' fs.length fc'] 35)) := (Chg.refl _ w1).alloc _
  go_wp2_with fail
  refine (encode_any ta' fa' tc' fc' ls fs _ W0.heap.size (H1.out.new kA) (H2.out.chg kA (fun _ _ _ e => e) (fun _ _ _ e => e) (fun _ _ _ e => e)) (by omega) (by omega)).mono ?_
  rintro e w2 ⟨rfl, k2⟩
  have k02 : Chg (fun _ => False) W0 w2 := (k1.trans kA).trans k2
  rw [enc_doc]
  have x0 : w2.cell? ⟨w.heap.size, 0, none⟩ = some (.slice ta ls.length tc) := (bx.chg k02 (fun e => e)).cell 0
  have x1 : w2.cell? ⟨w.heap.size, 1, none⟩ = some (.slice fa fs.length fc) := (bx.chg k02 (fun e => e)).cell 1
  have RE := rencode_any ta fa tc fc ls fs w2 (HT.out.new k02) (HF.out.new k02) HBL.out HBF.out
  obtain ⟨D, hD⟩ : ∃ D, docP ls fs = D := ⟨_, rfl⟩
  rw [hD] at RE ⊢
  obtain ⟨P, n⟩ := D
  have HRE : Hid (∀ (_ : Unit), Calls Try.prog 23 #[.agg #[.slice ta ls.length tc, .slice fa fs.length fc]] w2 fun e w' => e = .returned (.tuple #[.string P, .int .i64 n]) ∧ Chg (fun _ => False) w2 w') := fun _ => RE
  clear RE hD H1 H2 HT HF k1 k2 kA
  go_wp2_with fail
  refine (HRE.out ()).mono ?_
  rintro e w3 ⟨rfl, k3⟩
  clear x0 x1
  go_wp2
  go_ret
  exact ⟨by first | rfl | simp, (kb.trans k02).trans k3⟩
end Go.Proofs.Ytnfnbcbadakofaa

namespace Go.Proofs.Ytnfnbcbadakofaa
open Go.RowKit Go.ChangeShapes

theorem pick {α : Type} {P : Nat → α → Prop} : ∀ (n : Nat), (∀ i, i < n → ∃ x, P i x) → ∃ l : List α, l.length = n ∧ ∀ i (hi : i < l.length), P i l[i] := by
  intro n
  induction n with
  | zero => intro _; exact ⟨[], rfl, fun i hi => by simp at hi⟩
  | succ n ih =>
    intro h
    obtain ⟨l, hl, hp⟩ := ih (fun i hi => h i (by omega))
    obtain ⟨x, hx⟩ := h n (by omega)
    refine ⟨l ++ [x], by simp [hl], fun i hi => ?_⟩
    simp only [List.length_append, List.length_cons, List.length_nil] at hi
    by_cases hin : i < l.length
    · rw [List.getElem_append_left hin]; exact hp i hin
    · have : i = n := by omega
      subst this
      rw [List.getElem_append_right (by omega)]
      simp [hl]; exact hx

theorem bulk_one {H : Type} (d : DataW H) : 1 ≤ Rows.uptoBulk d := by
  cases d with
  | lit l => cases l <;> simp [Rows.uptoBulk]
  | nil => simp [Rows.uptoBulk]
  | ptr d => simp [Rows.uptoBulk]
  | slice elems spare => simp [Rows.uptoBulk]
  | agg parts => simp [Rows.uptoBulk]
  | iface t d => simp [Rows.uptoBulk]
  | map entries => simp [Rows.uptoBulk]
  | held h => simp [Rows.uptoBulk]
theorem bulk_part {H : Type} {d : DataW H} {l : List (DataW H)} (h : d ∈ l) : Rows.uptoBulk d ≤ Rows.uptoBulkAll l := by
  induction l with
  | nil => cases h
  | cons x r ih =>
    simp only [Rows.uptoBulkAll]
    cases List.mem_cons.1 h with
    | inl e => subst e; omega
    | inr e => have := ih e; omega
theorem bulk_len {H : Type} (l : List (DataW H)) : l.length ≤ Rows.uptoBulkAll l := by
  induction l with
  | nil => simp [Rows.uptoBulkAll]
  | cons x r ih => have := bulk_one x; simp only [Rows.uptoBulkAll, List.length_cons]; omega
theorem bulk_elems {H : Type} (elems spare : List (DataW H)) : Rows.uptoBulkAll elems + 1 ≤ Rows.uptoBulk (.slice elems spare) := by
  simp only [Rows.uptoBulk]
  omega
theorem bulk_agg {H : Type} (l : List (DataW H)) : Rows.uptoBulkAll l + 1 ≤ Rows.uptoBulk (.agg l) := by
  simp only [Rows.uptoBulk]; omega

section
variable {H : Type} {enc : TypeId × Value → H} {W : World}

theorem opn_ints {n : Nat} {cs : List Value} {x : DataW H × List MemPlace} (h : DataW.trod enc Try.prog W 0 (fun _ => true) true n 47 cs = some x) : ∃ v l, cs = [v] ∧ RdA W v l ∧ l.length ≤ Rows.uptoBulk x.1 := by
  rcases open_ints Try.underlying47 Try.underlying3 (by kernel_rfl) h with ⟨rfl, rfl⟩ | ⟨a, len, cap, zs, rfl, _, hle, hcap, hz, rfl, hc, _⟩
  · exact ⟨_, [], rfl, .inl ⟨rfl, rfl⟩, by simp⟩
  · simp only [if_true] at hz
    have hlt : (zs.take len).length = len := by rw [List.length_take]; omega
    refine ⟨_, zs.take len, rfl, .inr ⟨a, cap, by rw [hlt], by rw [hlt]; exact hle, hcap, fun j hj => ?_⟩, ?_⟩
    · rw [hlt] at hj
      rw [hc j (by omega), List.getD_eq_getElem?_getD, List.getD_eq_getElem?_getD, List.getElem?_take_of_lt hj]
    · have h1 := bulk_elems (lits .i64 (zs.take len)) (lits (H := H) .i64 (zs.drop len))
      have h2 := bulk_len (lits (H := H) .i64 (zs.take len))
      have h3 : (lits (H := H) .i64 (zs.take len)).length = (zs.take len).length := by simp [lits]
      simp only
      omega

theorem cells_n {a : Addr} {k : Nat} {cs : List Value} (h : W.cells? 0 a k = some cs) : cs.length = k ∧ ∀ i, i < k → W.cell? (a.add i) = cs[i]? := by
  unfold World.cells? at h
  rw [if_pos (Nat.zero_le _)] at h
  have hgen : ∀ (l : List Nat) (cs : List Value), l.mapM (fun i => W.cell? (a.add i)) = some cs → cs.length = l.length ∧ ∀ i, i < l.length → W.cell? (a.add (l.getD i 0)) = cs[i]? := by
    intro l
    induction l with
    | nil => intro cs h; simp at h; subst h; exact ⟨rfl, fun i hi => by simp at hi⟩
    | cons x l ih =>
      intro cs h
      rw [List.mapM_cons] at h
      cases hx : W.cell? (a.add x) with
      | none => rw [hx] at h; cases h
      | some v =>
        rw [hx] at h
        cases hr : l.mapM (fun i => W.cell? (a.add i)) with
        | none => rw [hr] at h; cases h
        | some r =>
          rw [hr] at h
          have : cs = v :: r := by simpa using h.symm
          subst this
          obtain ⟨h1, h2⟩ := ih r hr
          refine ⟨by simp [h1], fun i hi => ?_⟩
          cases i with
          | zero => simpa using hx
          | succ i => simpa using h2 i (by simpa using hi)
  obtain ⟨h1, h2⟩ := hgen _ _ h
  rw [List.length_range] at h1 h2
  refine ⟨h1, fun i hi => ?_⟩
  have := h2 i hi
  rw [List.getD_eq_getElem?_getD, List.getElem?_range hi] at this
  exact this
end
end Go.Proofs.Ytnfnbcbadakofaa

namespace Go.Proofs.Ytnfnbcbadakofaa
open Go.RowKit Go.ChangeShapes Go.Deep Go.Joins

section
variable {H : Type} {enc : TypeId × Value → H} {W : World}

theorem opn_types {n : Nat} {cs : List Value} {x : DataW H × List MemPlace} (h : DataW.trod enc Try.prog W 0 (fun _ => true) true n 25 cs = some x) :
    ∃ v ls, cs = [v] ∧ RdTs W v ls ∧ ls.length ≤ Rows.uptoBulk x.1 ∧ ∀ j, (ls.getD j []).length ≤ Rows.uptoBulk x.1 := by
  rcases open_slice1 Try.underlying25 (by kernel_rfl) h with ⟨rfl, rfl⟩ | ⟨a, len, cap, m, n', V, D, Pl, rfl, _, hle, hcap, hm, rfl, hx⟩
  · exact ⟨_, [], rfl, .inl ⟨rfl, rfl⟩, by simp, fun j => by simp⟩
  · simp only [if_true] at hm
    subst hm
    obtain ⟨ls, hl, hp⟩ := pick (P := fun i (l : List Int) => W.cell? (a.add i) = some (V i) ∧ RdA W (V i) l ∧ l.length ≤ Rows.uptoBulk (D i)) len (fun i hi => by
      obtain ⟨h1, h2⟩ := hx i (by omega)
      obtain ⟨v, l, e, h3, h4⟩ := opn_ints h2
      simp only [List.cons.injEq, and_true] at e
      subst e
      exact ⟨l, h1, h3, h4⟩)
    have h1 := bulk_elems ((List.range len).map D) ((List.range (m - len)).map fun j => D (len + j))
    have h2 := bulk_len ((List.range len).map D)
    rw [List.length_map, List.length_range] at h2
    have hD : ∀ i, i < len → Rows.uptoBulk (D i) ≤ Rows.uptoBulkAll ((List.range len).map D) := fun i hi => bulk_part (List.mem_map.2 ⟨i, List.mem_range.2 hi, rfl⟩)
    refine ⟨_, ls, rfl, .inr ⟨a, m, by rw [hl], by rw [hl]; exact hle, hcap, fun j hj => ?_⟩, ?_, fun j => ?_⟩
    · obtain ⟨q1, q2, _⟩ := hp j hj
      refine ⟨V j, q1, ?_⟩
      rw [List.getD_eq_getElem?_getD, List.getElem?_eq_getElem hj]; exact q2
    · simp only; omega
    · simp only
      rw [List.getD_eq_getElem?_getD]
      by_cases hj : j < ls.length
      · rw [List.getElem?_eq_getElem hj]
        have := (hp j hj).2.2
        have := hD j (by omega)
        simp only [Option.getD_some]; omega
      · rw [List.getElem?_eq_none (by omega)]; simp

theorem opn_int {n : Nat} {cs : List Value} {x : DataW H × List MemPlace} (h : DataW.trod enc Try.prog W 0 (fun _ => true) true n 3 cs = some x) : ∃ z, cs = [.int .i64 z] := by
  obtain ⟨z, h1, _⟩ := DataW.trod_int Try.underlying3 h
  exact ⟨z, h1⟩

theorem add_more {a : Addr} {k i : Nat} (hi : i ≠ 0) : (a.add k).add i = ⟨(a.add k).block, (a.add k).off + i, none⟩ := by
  generalize a.add k = b
  unfold Addr.add
  rw [if_neg hi]

theorem opn_code {n : Nat} {cs : List Value} {x : DataW H × List MemPlace} (h : DataW.trod enc Try.prog W 0 (fun _ => true) true n 90 cs = some x) :
    ∃ v k, cs = [v] ∧ RdIs W v k ∧ k.length ≤ Rows.uptoBulk x.1 := by
  rcases open_slice Try.underlying90 h with ⟨rfl, rfl⟩ | ⟨a, len, cap, m, n', D, Pl, rfl, _, hle, hcap, hm, rfl, hx⟩
  · exact ⟨_, [], rfl, .inl ⟨rfl, rfl⟩, by simp⟩
  · simp only [if_true] at hm
    subst hm
    have hc3 : Try.prog.cellsOf 99 = 3 := by kernel_rfl
    have hc1 : Try.prog.cellsOf 3 = 1 := by kernel_rfl
    rw [hc3] at hx
    obtain ⟨ks, hl, hp⟩ := pick (P := fun i (t : Int × Int × Int) => W.cell? (a.add (i * 3)) = some (.int .i64 t.1) ∧ W.cell? ⟨(a.add (i * 3)).block, (a.add (i * 3)).off + 1, none⟩ = some (.int .i64 t.2.1) ∧ W.cell? ⟨(a.add (i * 3)).block, (a.add (i * 3)).off + 2, none⟩ = some (.int .i64 t.2.2)) len (fun i hi => by
      obtain ⟨cs', h1, h2⟩ := hx i (by omega)
      obtain ⟨hl3, hcell⟩ := cells_n h1
      obtain ⟨y0, y1, y2, n2, _, _, t0, t1, t2⟩ := trod_struct3 Try.underlying99 h2
      simp only [hc1] at t0 t1 t2
      obtain ⟨z0, e0⟩ := opn_int t0
      obtain ⟨z1, e1⟩ := opn_int t1
      obtain ⟨z2, e2⟩ := opn_int t2
      match cs', hl3 with
      | [c0, c1, c2], _ =>
        simp at e0 e1 e2
        subst e0; subst e1; subst e2
        have g0 := hcell 0 (by omega)
        have g1 := hcell 1 (by omega)
        have g2 := hcell 2 (by omega)
        rw [add_more (by omega)] at g1 g2
        exact ⟨(z0, z1, z2), by simpa [Addr.add] using g0, by simpa using g1, by simpa using g2⟩)
    have h1 := bulk_elems ((List.range len).map D) ((List.range (m - len)).map fun j => D (len + j))
    have h2 := bulk_len ((List.range len).map D)
    rw [List.length_map, List.length_range] at h2
    exact ⟨_, ks, rfl, .inr ⟨a, m, by rw [hl], by rw [hl]; exact hle, hcap, fun j hj => hp j hj⟩, by simp only; omega⟩

theorem opn_funcs {n : Nat} {cs : List Value} {x : DataW H × List MemPlace} (h : DataW.trod enc Try.prog W 0 (fun _ => true) true n 26 cs = some x) :
    ∃ v fs, cs = [v] ∧ RdFs W v fs ∧ fs.length ≤ Rows.uptoBulk x.1 ∧ ∀ j (hj : j < fs.length), fs[j].locals.length ≤ Rows.uptoBulk x.1 ∧ fs[j].code.length ≤ Rows.uptoBulk x.1 := by
  rcases open_slice Try.underlying26 h with ⟨rfl, rfl⟩ | ⟨a, len, cap, m, n', D, Pl, rfl, _, hle, hcap, hm, rfl, hx⟩
  · exact ⟨_, [], rfl, .inl ⟨rfl, rfl⟩, by simp, fun j hj => by simp at hj⟩
  · simp only [if_true] at hm
    subst hm
    have hc4 : Try.prog.cellsOf 92 = 4 := by kernel_rfl
    have hc1 : Try.prog.cellsOf 3 = 1 := by kernel_rfl
    have hc2 : Try.prog.cellsOf 47 = 1 := by kernel_rfl
    have hc3 : Try.prog.cellsOf 90 = 1 := by kernel_rfl
    rw [hc4] at hx
    obtain ⟨fs, hl, hp⟩ := pick (P := fun i (f : Fn) => (∃ lv cv, W.cell? (a.add (i * 4)) = some (.int .i64 f.args) ∧ W.cell? ⟨(a.add (i * 4)).block, (a.add (i * 4)).off + 1, none⟩ = some lv ∧ W.cell? ⟨(a.add (i * 4)).block, (a.add (i * 4)).off + 2, none⟩ = some (.int .i64 f.result) ∧ W.cell? ⟨(a.add (i * 4)).block, (a.add (i * 4)).off + 3, none⟩ = some cv ∧ RdA W lv f.locals ∧ RdIs W cv f.code) ∧ f.locals.length ≤ Rows.uptoBulk (D i) ∧ f.code.length ≤ Rows.uptoBulk (D i)) len (fun i hi => by
      obtain ⟨cs', h1, h2⟩ := hx i (by omega)
      obtain ⟨hl4, hcell⟩ := cells_n h1
      obtain ⟨y0, y1, y2, y3, n2, ey, _, t0, t1, t2, t3⟩ := trod_struct4 Try.underlying92 h2
      simp only [hc1, hc2, hc3] at t0 t1 t2 t3
      obtain ⟨z0, e0⟩ := opn_int t0
      obtain ⟨lv, ll, e1, r1, b1⟩ := opn_ints t1
      obtain ⟨z2, e2⟩ := opn_int t2
      obtain ⟨cv, kk, e3, r3, b3⟩ := opn_code t3
      have hDi : D i = .agg [y0.1, y1.1, y2.1, y3.1] := by
        have := congrArg Prod.fst ey
        exact this
      have hb := bulk_agg [y0.1, y1.1, y2.1, y3.1]
      have p1 := bulk_part (d := y1.1) (l := [y0.1, y1.1, y2.1, y3.1]) (by simp)
      have p3 := bulk_part (d := y3.1) (l := [y0.1, y1.1, y2.1, y3.1]) (by simp)
      match cs', hl4 with
      | [c0, c1, c2, c3], _ =>
        simp at e0 e1 e2 e3
        subst e0; subst e1; subst e2; subst e3
        have g0 := hcell 0 (by omega)
        have g1 := hcell 1 (by omega)
        have g2 := hcell 2 (by omega)
        have g3 := hcell 3 (by omega)
        rw [add_more (by omega)] at g1 g2 g3
        refine ⟨⟨z0, ll, z2, kk⟩, ⟨c1, c3, by simpa [Addr.add] using g0, by simpa using g1, by simpa using g2, by simpa using g3, r1, r3⟩, ?_, ?_⟩
        · rw [hDi]; simp only; omega
        · rw [hDi]; simp only; omega)
    have h1 := bulk_elems ((List.range len).map D) ((List.range (m - len)).map fun j => D (len + j))
    have h2 := bulk_len ((List.range len).map D)
    rw [List.length_map, List.length_range] at h2
    have hD : ∀ i, i < len → Rows.uptoBulk (D i) ≤ Rows.uptoBulkAll ((List.range len).map D) := fun i hi => bulk_part (List.mem_map.2 ⟨i, List.mem_range.2 hi, rfl⟩)
    refine ⟨_, fs, rfl, .inr ⟨a, m, by rw [hl], by rw [hl]; exact hle, hcap, fun j hj => (hp j hj).1⟩, by simp only; omega, fun j hj => ?_⟩
    have q := hp j hj
    have := hD j (by omega)
    simp only
    omega
end
end Go.Proofs.Ytnfnbcbadakofaa
