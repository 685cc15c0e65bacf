import Derived.Test.YtnfnbcbadakofaaStk2
namespace Go.Proofs.Ytnfnbcbadakofaa
open Go.RowKit

def RsEnd (w : World) (P : Int × List Int) (e : Ending) (w' : World) : Prop :=
  ∃ a n c, e = .returned (.tuple #[.slice a n c, .int .i64 P.1]) ∧ (P.1 = 0 → IntsV w' w.heap.size (.slice a n c) P.2) ∧ Chg (fun _ => False) w w'

theorem RsEnd.no {w w' : World} {P : Int × List Int} {e : Ending} (n : Int) (hn : n ≠ 0) (hP : P = (n, [])) (he : e = .returned (.tuple #[.slice none 0 0, .int .i64 n])) (k : Chg (fun _ => False) w w') : RsEnd w P e w' := by
  subst hP; subst he
  exact ⟨_, _, _, rfl, fun h => absurd h hn, k⟩

theorem SS.cells4 {w0 w : World} {b0 sb gh go ch co : Nat} {xs : List (Option (List Int) × Value)} (h : SS w0 w b0 sb gh go ch co xs) (j : Nat) (hj : j < xs.length) :
    w.cell? ⟨sb, 0, none⟩ = some (.slice (some ⟨gh, 0, none⟩) xs.length ch) ∧ w.cell? ⟨sb, 1, none⟩ = some (.slice (some ⟨go, 0, none⟩) xs.length co) ∧ w.cell? ⟨gh, j, none⟩ = some (.bool xs[j].1.isSome) ∧ w.cell? ⟨go, j, none⟩ = some xs[j].2 := by
  have hadd : ∀ g, (⟨g, 0, none⟩ : Addr).add j = ⟨g, j, none⟩ := by intro g; unfold Addr.add; split <;> simp_all
  have a1 := World.ownsRow.cells (g := gh) h.has rfl j (.bool xs[j].1.isSome) (by simp [hj])
  have a2 := World.ownsRow.cells (g := go) h.of rfl j xs[j].2 (by simp [hj])
  rw [hadd] at a1 a2
  exact ⟨h.box.cell 0, h.box.cell 1, a1, a2⟩

set_option maxHeartbeats 2000000 in
set_option maxRecDepth 100000 in
theorem rstack_core (s : ByteArray) (f i : Int) (w : World) (O : Int × Int × Pg × List Spots)
    (hrc : ∀ w, Calls Try.prog 15 #[.string s] w fun e w' => ∃ tv fv, e = .returned (.tuple #[.agg #[tv, fv], .int .i64 O.1, .int .i64 O.2.1]) ∧ TypesV w' w.heap.size tv O.2.2.1.types ∧ FuncsV 92 99 w' w.heap.size fv O.2.2.1.funcs ∧ Chg (fun _ => False) w w')
    (hok : O.1 = 0 → PgWf O.2.2.1 ∧ O.2.2.2 = O.2.2.1.funcs.map (fun f => (fitF O.2.2.1 f).1) ∧ ∀ f ∈ O.2.2.1.funcs, (fitF O.2.2.1 f).2.2 = false) :
    Calls Try.prog 25 #[.string s, .int .i64 f, .int .i64 i] w (RsEnd w (stkP O f i)) := by
  have HRC : Hid _ := hrc
  have HOK : Hid (O.1 = 0 → PgWf O.2.2.1 ∧ O.2.2.2 = O.2.2.1.funcs.map (fun f => (fitF O.2.2.1 f).1) ∧ ∀ f ∈ O.2.2.1.funcs, (fitF O.2.2.1 f).2.2 = false) := hok
  clear hrc hok
  go_enter Try.func25, Try.ntmps25
  go_wp2_with fail
  refine (HRC.out _).mono ?_
  rintro e w1 ⟨tv, fv, rfl, hty, hfv, hch⟩
  obtain ⟨ta, tc, rfl⟩ := hty.slice
  obtain ⟨fa, fc, rfl⟩ := hfv.slice
  clear HRC
  have k2 : Chg (fun _ => False) w1 (w1.alloc (Obj.cells #[.slice ta O.2.2.1.types.length tc, .slice fa O.2.2.1.funcs.length fc] 28)) := (Chg.refl _ w1).alloc _
  by_cases hz : O.1 = 0
  · have hz' : (O.1 != 0) = false := by simp [hz]
    obtain ⟨hw, hsp, hfit⟩ := HOK.out hz
    have hf6 := hw.f6
    have hf1 := hw.f1
    by_cases hf : f < 0 ∨ (O.2.2.1.funcs.length : Int) ≤ f
    · have HP : Hid (stkP O f i = (4, [])) := by
        show stkP O f i = (4, [])
        unfold stkP; rw [if_neg (by simpa using hz), if_pos hf]
      have e1 : wB f 0 ((O.2.2.1.funcs.length : Int) - 1) = false := by unfold wB; simp; omega
      have E1 : Hid _ := e1
      clear hz e1 hf hsp hfit
      go_wp2_with fail
      refine (within_any _ _ _ _).mono ?_
      rw [E1.out]
      rintro e w' ⟨rfl, rfl⟩
      go_wp2
      go_ret2
      exact RsEnd.no 4 (by decide) HP.out rfl (hch.trans k2)
    · obtain ⟨k, rfl⟩ : ∃ k : Nat, f = (k : Int) := ⟨f.toNat, by omega⟩
      have hk : k < O.2.2.1.funcs.length := by omega
      have hk' : (k : Int) < (O.2.2.1.funcs.length : Int) := by omega
      have hfn : fnAt O.2.2.1.funcs (k : Int) = O.2.2.1.funcs[k] := by unfold fnAt; rw [dif_pos ⟨by omega, by simpa using hk⟩]; rfl
      have e1 : wB (k : Int) 0 ((O.2.2.1.funcs.length : Int) - 1) = true := by unfold wB; simp; omega
      have E1 : Hid (wB (k : Int) 0 ((O.2.2.1.funcs.length : Int) - 1) = true) := e1
      obtain ⟨g, cap, hfe, _, hcells⟩ := hfv.formS (by omega)
      simp only [Value.slice.injEq] at hfe
      obtain ⟨rfl, _, rfl⟩ := hfe
      obtain ⟨lv, cv, _, _, _, h3, _, hci⟩ := hcells k hk
      have hmem : O.2.2.1.funcs[k] ∈ O.2.2.1.funcs := List.getElem_mem hk
      obtain ⟨bb, hfo⟩ := hw.fn hmem
      have hc1 := hfo.c1
      have hc64 := hfo.c64
      obtain ⟨-, r2⟩ := fitF_rnds hw hmem
      have hR := r2 (hfit _ hmem)
      have hlen := (fitF_le O.2.2.1 O.2.2.1.funcs[k]).2
      have hspk : spP O.2.2.2 (k : Int) i = if i < 0 ∨ (O.2.2.1.funcs[k].code.length : Int) ≤ i then none else (fitF O.2.2.1 O.2.2.1.funcs[k]).1.getD i.toNat none := by
        have e3 : O.2.2.2.getD (k : Int).toNat [] = (fitF O.2.2.1 O.2.2.1.funcs[k]).1 := by
          rw [hsp, Int.toNat_natCast, List.getD_eq_getElem?_getD, List.getElem?_map, List.getElem?_eq_getElem hk]; rfl
        unfold spP
        rw [if_neg (by rw [hsp, List.length_map]; omega), e3, hlen]
      have hst : ¬ (i < 0 ∨ (O.2.2.1.funcs[k].code.length : Int) ≤ i) → stkP O (k : Int) i = spE ((fitF O.2.2.1 O.2.2.1.funcs[k]).1.getD i.toNat none) := by
        intro hi; unfold stkP; rw [if_neg (by simpa using hz), if_neg hf, if_neg (by rw [hfn]; exact hi), hspk, if_neg hi]
      have hsb : i < 0 ∨ (O.2.2.1.funcs[k].code.length : Int) ≤ i → stkP O (k : Int) i = (4, []) := by
        intro hi; unfold stkP; rw [if_neg (by simpa using hz), if_neg hf, if_pos (by rw [hfn]; exact hi)]
      have HST : Hid _ := hst
      have HSB : Hid _ := hsb
      have HR : Hid _ := hR
      have HLEN : Hid _ := hlen
      obtain ⟨ca, cc, rfl⟩ := hci.slice
      have hgl : g < w1.heap.size := World.block_lt_of_cell? w1 _ h3
      have hg28 : g ≠ w1.heap.size := by omega
      clear hcells hci hfn hf hz e1 hst hsb hR hlen hspk r2 hfo hsp hfit
      by_cases hi : i < 0 ∨ (O.2.2.1.funcs[k].code.length : Int) ≤ i
      · have HP : Hid (stkP O (k : Int) i = (4, [])) := HSB.out hi
        have e2 : wB i 0 ((O.2.2.1.funcs[k].code.length : Int) - 1) = false := by unfold wB; simp; omega
        have E2 : Hid _ := e2
        clear hi e2
        go_wp2_with fail
        refine (within_any _ _ _ _).mono ?_
        rw [E1.out]
        rintro e w' ⟨rfl, rfl⟩
        go_wp2_with fail
        refine (within_any _ _ _ _).mono ?_
        rw [E2.out]
        rintro e w' ⟨rfl, rfl⟩
        go_wp2
        go_ret2
        exact RsEnd.no 4 (by decide) HP.out rfl (hch.trans k2)
      · obtain ⟨j, rfl⟩ : ∃ j : Nat, i = (j : Int) := ⟨i.toNat, by omega⟩
        have HP : Hid _ := HST.out hi
        have hj : j < O.2.2.1.funcs[k].code.length := by omega
        have e2 : wB (j : Int) 0 ((O.2.2.1.funcs[k].code.length : Int) - 1) = true := by unfold wB; simp; omega
        have E2 : Hid (wB (j : Int) 0 ((O.2.2.1.funcs[k].code.length : Int) - 1) = true) := e2
        clear hi e2
        go_wp2_with fail
        refine (within_any _ _ _ _).mono ?_
        rw [E1.out]
        rintro e w' ⟨rfl, rfl⟩
        go_wp2_with fail
        refine (within_any _ _ _ _).mono ?_
        rw [E2.out]
        rintro e w' ⟨rfl, rfl⟩
        go_wp2_with fail
        refine (fit_core _ w.heap.size ta (some ⟨g, 0, none⟩) tc fc O.2.2.1.types O.2.2.1.funcs k hk (Nat.le_trans hch.size k2.size) (hty.new k2) (hfv.chg k2 (fun _ _ _ e => e) (fun _ _ _ e => e) (fun _ _ _ e => e)) (by have := hw.t6; omega) _ rfl (by omega) (by omega) hw.args (fun j hj => hw.code hmem _ (List.getElem_mem hj)) _ HR.out).mono ?_
        rintro e w5 ⟨pv, b, rfl, hch5, -, h1⟩
        obtain ⟨rfl, sb, gh, go, ch, co, xs, rfl, hxm, hS⟩ := h1 _ rfl
        have hxl : xs.length = O.2.2.1.funcs[k].code.length := by have := congrArg List.length hxm; rw [List.length_map] at this; rw [this]; exact HLEN.out
        have hjx : j < xs.length := by omega
        have hjx' : (j : Int) < (xs.length : Int) := by omega
        obtain ⟨y0, y1, y2, y3⟩ := hS.cells4 j hjx
        have hxj : (fitF O.2.2.1 O.2.2.1.funcs[k]).1.getD (j : Int).toNat none = xs[j].1 := by
          rw [← hxm, Int.toNat_natCast, List.getD_eq_getElem?_getD, List.getElem?_map, List.getElem?_eq_getElem hjx]; rfl
        have hP := HP.out
        rw [hxj] at hP
        have hstk := hS.stk xs[j] (List.getElem_mem hjx)
        have kT := (hch.trans k2).trans hch5
        clear hS hxj h1 HR HST HSB HP HLEN hch5 k2 hch hxm hmem
        rcases hx : xs[j].1 with _ | l
        · rw [hx] at hP y2
          have HP : Hid (stkP O (k : Int) (j : Int) = (6, [])) := hP
          clear hP hstk hx
          go_wp2
          go_ret2
          exact RsEnd.no 6 (by decide) HP.out rfl kT
        · rw [hx] at hP y2
          have HP : Hid (stkP O (k : Int) (j : Int) = (0, l)) := hP
          have hv := hstk l hx
          clear hP hstk hx
          generalize xs[j].2 = v at *
          obtain ⟨va, vc, rfl⟩ := hv.slice
          go_wp2
          go_ret2
          rw [HP.out]
          exact ⟨_, _, _, rfl, fun _ => hv, kT⟩
  · have hz' : (O.1 != 0) = true := by simp [hz]
    have HP : Hid (stkP O f i = (O.1, [])) := by
      show stkP O f i = (O.1, [])
      unfold stkP; rw [if_pos hz]
    have HZ : Hid (O.1 ≠ 0) := hz
    clear hz
    go_wp2
    go_ret2
    exact RsEnd.no _ HZ.out HP.out rfl (hch.trans k2)

set_option maxHeartbeats 2000000 in
set_option maxRecDepth 100000 in
theorem stacks_core (s : ByteArray) (f i : Int) (w : World) (P : Int × List Int) (h1 : ∀ w, Calls Try.prog 24 #[.string s, .int .i64 f, .int .i64 i] w (StEnd w P)) (h2 : ∀ w, Calls Try.prog 25 #[.string s, .int .i64 f, .int .i64 i] w (RsEnd w P)) (hl : P.2.length ≤ 10000) :
    Calls Try.prog 7 #[.string s, .int .i64 f, .int .i64 i] w fun e w' => e = .returned (.bool true) ∧ Chg (fun _ => False) w w' := by
  have H1 : Hid (∀ w, Calls Try.prog 24 #[.string s, .int .i64 f, .int .i64 i] w (StEnd w P)) := h1
  have H2 : Hid (∀ w, Calls Try.prog 25 #[.string s, .int .i64 f, .int .i64 i] w (RsEnd w P)) := h2
  clear h1 h2
  go_enter Try.func7, Try.ntmps7
  go_wp2_with fail
  refine (H1.out _).mono ?_
  rintro e w1 ⟨v, rfl, hv, hn, hch⟩
  have HN : Hid (P.1 ≠ 0 → v = .slice none 0 0) := hn
  clear hn
  obtain ⟨va, vc, rfl⟩ := hv.slice
  go_wp2_with fail
  refine (H2.out _).mono ?_
  rintro e w2 ⟨a, n, c, rfl, hm, hch2⟩
  have HM : Hid (P.1 = 0 → IntsV w2 w1.heap.size (.slice a n c) P.2) := hm
  have kT := hch.trans hch2
  have hv2 := hv.chg hch2 (fun _ _ _ e => e)
  clear hm hv hch hch2 H1 H2
  have e0 : (P.1 != P.1) = false := by simp
  by_cases hz : P.1 = 0
  · have hz' : (P.1 != 0) = false := by simp [hz]
    have hm := HM.out hz
    clear hz HM HN
    go_wp2_with (go_at_call 16; refine (num_any _ _).mono ?_; rintro e w3 ⟨rfl, rfl⟩)
    refine (sameInts_true _ _ _ _ P.2 _ hl hv2 hm).mono ?_
    rintro e w3 ⟨rfl, m, rfl⟩
    go_wp2
    go_ret
    exact ⟨rfl, kT.drewN _⟩
  · have hz' : (P.1 != 0) = true := by simp [hz]
    have hn := HN.out hz
    simp only [Value.slice.injEq] at hn
    obtain ⟨rfl, hn1, rfl⟩ := hn
    have e47 := fun wx : World => Lib.run_eql_slice_nil (P := Try.prog) wx 47 3 none 0 0 0 0 Try.underlying47
    clear hz HM HN
    go_wp2_with (go_at_call 16; refine (num_any _ _).mono ?_; rintro e w3 ⟨rfl, rfl⟩)
    go_ret
    exact ⟨rfl, kT⟩

theorem spP_len {s : ByteArray} (h : (opF s).1 = 0) (f i : Int) (l : List Int) (hl : spP (opF s).2.2.2 f i = some l) : l.length ≤ 10000 := by
  obtain ⟨_, _, hsp, _⟩ := opF_ok h
  unfold spP at hl
  split at hl
  · cases hl
  · split at hl
    · cases hl
    · rename_i hf hi
      have hk : f.toNat < (opF s).2.2.2.length := by omega
      have hkf : f.toNat < (opF s).2.2.1.funcs.length := by rw [hsp, List.length_map] at hk; exact hk
      have e3 : (opF s).2.2.2.getD f.toNat [] = (fitF (opF s).2.2.1 (opF s).2.2.1.funcs[f.toNat]).1 := by
        rw [hsp, List.getD_eq_getElem?_getD, List.getElem?_map, List.getElem?_eq_getElem hkf]; rfl
      rw [e3] at hl hi
      have hj : i.toNat < (fitF (opF s).2.2.1 (opF s).2.2.1.funcs[f.toNat]).1.length := by omega
      rw [List.getD_eq_getElem?_getD, List.getElem?_eq_getElem hj] at hl
      have := (fitF_le (opF s).2.2.1 (opF s).2.2.1.funcs[f.toNat]).1 _ (List.getElem_mem hj) l (by simpa using hl)
      omega

theorem opF_pg (s : ByteArray) : (opF s).1 ≠ 0 → (opF s).2.2.1 = ⟨[], []⟩ ∧ (opF s).2.2.2 = [] := by
  intro h
  by_cases h1 : (opn s).1 = 0
  · rcases hA : fitAll (opn s).2.2 (opn s).2.2.funcs 0 [] with k | sps
    · rw [opF_2 h1 k hA]; exact ⟨rfl, rfl⟩
    · rw [opF_3 h1 sps hA] at h; exact absurd rfl h
  · rw [opF_1 h1]; exact ⟨rfl, rfl⟩

theorem stack_any (s : ByteArray) (f i : Int) (w : World) : Calls Try.prog 24 #[.string s, .int .i64 f, .int .i64 i] w (StEnd w (stkP (opF s) f i)) := by
  refine stack_core s f i w (opF s) (fun w => openFit_any s w) ?_ ?_ ?_
  · by_cases h : (opF s).1 = 0
    · have := (opF_ok h).1.f6; omega
    · rw [(opF_pg s h).1]; simp
  · intro g hg
    by_cases h : (opF s).1 = 0
    · obtain ⟨b, hb⟩ := (opF_ok h).1.fn hg; have := hb.c64; omega
    · rw [(opF_pg s h).1] at hg; cases hg
  · intro l hl
    by_cases h : (opF s).1 = 0
    · exact spP_len h f i l hl
    · rw [(opF_pg s h).2] at hl
      unfold spP at hl
      split at hl
      · cases hl
      · split at hl
        · cases hl
        · simp at hl
theorem rstack_any (s : ByteArray) (f i : Int) (w : World) : Calls Try.prog 25 #[.string s, .int .i64 f, .int .i64 i] w (RsEnd w (stkP (opF s) f i)) :=
  rstack_core s f i w (opF s) (fun w => rcheck_any s w) (fun h => by obtain ⟨a, _, b, c⟩ := opF_ok h; exact ⟨a, b, c⟩)

theorem stkP_len (s : ByteArray) (f i : Int) : (stkP (opF s) f i).2.length ≤ 10000 := by
  unfold stkP
  split
  · simp
  · rename_i h
    split
    · simp
    · split
      · simp
      · rcases hs : spP (opF s).2.2.2 f i with _ | l
        · simp [spE]
        · exact spP_len (by simpa using h) f i l hs

theorem stacks_walk (s : ByteArray) (f i : Int) (w : World) :
    Calls Try.prog 7 #[.string s, .int .i64 f, .int .i64 i] w fun e w' => e = .returned (.bool true) ∧ Chg (fun _ => False) w w' :=
  stacks_core s f i w _ (fun w => stack_any s f i w) (fun w => rstack_any s f i w) (stkP_len s f i)
end Go.Proofs.Ytnfnbcbadakofaa
