import Derived.Test.YtnfnbcbadakofaaGiv
namespace Go.Proofs.Ytnfnbcbadakofaa
open Go.RowKit

set_option maxHeartbeats 400000 in
theorem num_any (n : Int) (w : World) : Calls Try.prog 16 #[.int .i64 n] w fun e w' => e = .returned (.int .i64 n) ∧ w' = w := by
  go_enter Try.func16, Try.ntmps16
  go_wp2
  go_ret
  exact ⟨rfl, rfl⟩

structure PgOk (p : Pg) : Prop where
  tl : p.types.length ≤ 10000
  ts : ∀ j, (p.types.getD j []).length ≤ 10000
  fl : p.funcs.length ≤ 10000
  fs : ∀ j (hj : j < p.funcs.length), p.funcs[j].locals.length ≤ 10000 ∧ p.funcs[j].code.length ≤ 10000

theorem tkF_ok (ns : List Int) (ls : List (List Int)) (fu : Int) (f : Bool) (s : Nat × Bool) : (tkF ns ls fu f s).1.locals.length ≤ 8 ∧ (tkF ns ls fu f s).1.code.length ≤ 64 := by
  simp only [tkF, tkL_len, tkC_len]
  have h0 : 0 ≤ (tk ns 0 (if f = true then 0 else 4) s).1 := (tk0 _ _ _ (by split <;> decide)).1
  have h1 := tk_rng ns (tk ns 0 (if f = true then 0 else 4) s).1 8 (tk ns 0 (if f = true then 0 else 4) s).2 h0 (by decide)
  refine ⟨by omega, ?_⟩
  have h2 := fun s => tk_rng ns 1 64 s (by decide) (by decide)
  have := h2 (tk ns 0 (if f = true then 0 else (ls.length : Int)) (tkL ns ls.length (tk ns (tk ns 0 (if f = true then 0 else 4) s).1 8 (tk ns 0 (if f = true then 0 else 4) s).2).1.toNat (tk ns (tk ns 0 (if f = true then 0 else 4) s).1 8 (tk ns 0 (if f = true then 0 else 4) s).2).2).2).2
  omega
theorem tkFs_ok (ns : List Int) (ls : List (List Int)) (fu : Int) (k : Nat) (s : Nat × Bool) : ∀ f ∈ (tkFs ns ls fu k s).1, f.locals.length ≤ 8 ∧ f.code.length ≤ 64 := by
  induction k with
  | zero => intro f hf; simp [tkFs] at hf
  | succ k ih =>
    intro f hf
    simp only [tkFs, List.mem_append, List.mem_singleton] at hf
    rcases hf with hf | rfl
    · exact ih f hf
    · exact tkF_ok _ _ _ _ _
theorem PgOk.nil : PgOk ⟨[], []⟩ := ⟨by simp, by simp, by simp, by intro j hj; simp at hj⟩
theorem opn_ok (s : ByteArray) : PgOk (opn s).2.2 := by
  unfold opn
  by_cases h : 800 < s.size
  · rw [if_pos h]; exact PgOk.nil
  · rw [if_neg h]
    have e2 : rdP (bl s) = if (tkP (bl s) (0, false)).2.2 = true ∨ (tkP (bl s) (0, false)).2.1 < (bl s).length then (2, ((tkP (bl s) (0, false)).2.1 : Int), ⟨[], []⟩) else (0, 0, (tkP (bl s) (0, false)).1) := rfl
    rw [e2]
    split
    · exact PgOk.nil
    · have h0 := tk0 (bl s) 6 (0, false) (by decide)
      have h2 := fun s' => tk_rng (bl s) 1 6 s' (by decide) (by decide)
      refine ⟨?_, ?_, ?_, ?_⟩
      · simp only [tkP, tkT_len]; omega
      · intro j
        have := tkT_small (bl s) (tk (bl s) 0 6 (0, false)).1 (tk (bl s) 0 6 (0, false)).1.toNat (tk (bl s) 0 6 (0, false)).2 j
        simp only [tkP]; omega
      · simp only [tkP, tkFs_len]
        have := h2 (tkT (bl s) (tk (bl s) 0 6 (0, false)).1 (tk (bl s) 0 6 (0, false)).1.toNat (tk (bl s) 0 6 (0, false)).2).2
        omega
      · intro j hj
        have := tkFs_ok (bl s) (tkP (bl s) (0, false)).1.types (tk (bl s) 1 6 (tkT (bl s) (tk (bl s) 0 6 (0, false)).1 (tk (bl s) 0 6 (0, false)).1.toNat (tk (bl s) 0 6 (0, false)).2).2).1 _ _ _ (List.getElem_mem hj)
        omega

set_option maxHeartbeats 2000000 in
set_option maxRecDepth 100000 in
theorem decodes_walk (s : ByteArray) (w : World) :
    Calls Try.prog 4 #[.string s] w fun e w' => e = .returned (.bool true) ∧ Chg (fun _ => False) w w' := by
  have hok := opn_ok s
  have hde := fun w => decode_any s w
  have hrd := fun w => rdecode_any s w
  rw [← opn_nxD s] at hrd
  generalize opn s = R at *
  have HDE : Hid _ := hde
  have HRD : Hid _ := hrd
  clear hde hrd
  go_enter Try.func4, Try.ntmps4
  go_wp2_with fail
  refine (HDE.out _).mono ?_
  rintro e w1 ⟨tv, fv, rfl, hty, hfv, hnil, hch⟩
  have HN : Hid (R.1 ≠ 0 → tv = .slice none 0 0 ∧ fv = .slice none 0 0) := hnil
  clear hnil
  obtain ⟨ta, tc, rfl⟩ := hty.slice
  obtain ⟨fa, fc, rfl⟩ := hfv.slice
  go_wp2_with fail
  have k1 : Chg (fun _ => False) w1 (w1.alloc (Obj.cells #[.slice ta R.2.2.types.length tc, .slice fa R.2.2.funcs.length fc] 35)) := (Chg.refl _ w1).alloc _
  have b1 := Blk.new w1 #[.slice ta R.2.2.types.length tc, .slice fa R.2.2.funcs.length fc] 35
  refine (HRD.out _).mono ?_
  rintro e w2 ⟨tv2, fv2, rfl, hty2, hfv2, hch2⟩
  have kA := k1.trans hch2
  have b1' := b1.chg hch2 (fun e => e)
  have hty' := hty.new kA
  have hfv' := hfv.chg kA (fun _ _ _ e => e) (fun _ _ _ e => e) (fun _ _ _ e => e)
  have kT := hch.trans kA
  have hs1 := hch.size
  have hs2 := k1.size
  clear hty hfv b1 k1 kA hch hch2
  obtain ⟨ta2, tc2, rfl⟩ := hty2.slice
  obtain ⟨fa2, fc2, rfl⟩ := hfv2.slice
  have hlt1 := b1'.lt
  have c0 : w2.cell? ⟨w1.heap.size, 0, none⟩ = some (.slice ta R.2.2.types.length tc) := b1'.cell 0
  have c1 : w2.cell? ⟨w1.heap.size, 1, none⟩ = some (.slice fa R.2.2.funcs.length fc) := b1'.cell 1
  by_cases h0 : R.1 = 0
  · have h0' : (R.1 != 0) = false := by simp [h0]
    clear h0 HN
    go_wp2_with (go_at_call 16; refine (num_any _ _).mono ?_; rintro e w' ⟨rfl, rfl⟩)
    have k3 : Chg (fun _ => False) w2 (w2.alloc (Obj.cells #[.slice ta2 R.2.2.types.length tc2, .slice fa2 R.2.2.funcs.length fc2] 28)) := (Chg.refl _ w2).alloc _
    have b3 := Blk.new w2 #[.slice ta2 R.2.2.types.length tc2, .slice fa2 R.2.2.funcs.length fc2] 28
    have hs3 : w.heap.size ≤ (w2.alloc (Obj.cells #[.slice ta2 R.2.2.types.length tc2, .slice fa2 R.2.2.funcs.length fc2] 28)).heap.size := by have := kT.size; simp; omega
    refine (given_core _ _ w.heap.size R.2.2 _ hs3 hok.tl hok.fl hok.fs (hty'.new k3) (hfv'.chg k3 (fun _ _ _ e => e) (fun _ _ _ e => e) (fun _ _ _ e => e))).mono ?_
    rintro e w4 ⟨tv4, fv4, rfl, hty4, hfv4, hch4⟩
    have kB := k3.trans hch4
    have b4 := b3.chg hch4 (fun e => e)
    have hty2' := hty2.new kB
    have hfv2' := hfv2.chg kB (fun _ _ _ e => e) (fun _ _ _ e => e) (fun _ _ _ e => e)
    have kT4 := kT.trans kB
    clear c0 c1 hlt1 b1' hty' hfv' hty2 hfv2 b3 k3 kB hch4 kT
    obtain ⟨ta4, tc4, rfl⟩ := hty4.slice
    obtain ⟨fa4, fc4, rfl⟩ := hfv4.slice
    have c0 : w4.cell? ⟨w2.heap.size, 0, none⟩ = some (.slice ta2 R.2.2.types.length tc2) := b4.cell 0
    have c1 : w4.cell? ⟨w2.heap.size, 1, none⟩ = some (.slice fa2 R.2.2.funcs.length fc2) := b4.cell 1
    have hlt4 := b4.lt
    go_wp2_with fail
    have k5 : Chg (fun _ => False) w4 (w4.alloc (Obj.cells #[.slice ta4 R.2.2.types.length tc4, .slice fa4 R.2.2.funcs.length fc4] 28)) := (Chg.refl _ w4).alloc _
    refine (same_core _ _ _ _ _ _ R.2.2 _ hok.tl hok.ts hok.fl hok.fs (hty4.new k5) (hty2'.new k5) (hfv4.chg k5 (fun _ _ _ e => e) (fun _ _ _ e => e) (fun _ _ _ e => e)) (hfv2'.chg k5 (fun _ _ _ e => e) (fun _ _ _ e => e) (fun _ _ _ e => e))).mono ?_
    rintro e w5 ⟨rfl, hch5⟩
    go_wp2
    go_ret
    exact ⟨rfl, (kT4.trans k5).trans hch5⟩
  · obtain ⟨hn1, hn2⟩ := HN.out h0
    simp only [Value.slice.injEq] at hn1 hn2
    obtain ⟨rfl, hn1, rfl⟩ := hn1
    obtain ⟨rfl, hn2, rfl⟩ := hn2
    have h0' : (R.1 != 0) = true := by simp [h0]
    clear h0 HN
    have e25 := fun wx : World => Lib.run_eql_slice_nil (P := Try.prog) wx 25 47 none 0 0 0 0 Try.underlying25
    have e33 := fun wx : World => Lib.run_eql_slice_nil (P := Try.prog) wx 33 96 none 0 0 0 0 Try.underlying33
    go_wp2_with (go_at_call 16; refine (num_any _ _).mono ?_; rintro e w' ⟨rfl, rfl⟩)
    go_ret
    exact ⟨rfl, kT.alloc _⟩
end Go.Proofs.Ytnfnbcbadakofaa
