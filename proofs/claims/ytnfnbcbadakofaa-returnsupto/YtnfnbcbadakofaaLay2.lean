import Derived.Test.YtnfnbcbadakofaaLay
namespace Go.Proofs.Ytnfnbcbadakofaa
open Go.RowKit

/-- the frames below -/
def frC (xs : List (Fr × Value × Value)) : List Value := xs.flatMap fun x => [.int .i64 x.1.fn, .int .i64 x.1.pc, x.2.1, x.2.2]
theorem frC_len (xs : List (Fr × Value × Value)) : (frC xs).length = xs.length * 4 := by
  induction xs with
  | nil => rfl
  | cons x c ih => simp [frC] at ih ⊢; omega
theorem frC_get (xs : List (Fr × Value × Value)) (j : Nat) (hj : j < xs.length) : (frC xs)[j * 4]? = some (.int .i64 xs[j].1.fn) ∧ (frC xs)[j * 4 + 1]? = some (.int .i64 xs[j].1.pc) ∧ (frC xs)[j * 4 + 2]? = some xs[j].2.1 ∧ (frC xs)[j * 4 + 3]? = some xs[j].2.2 := by
  induction xs generalizing j with
  | nil => simp at hj
  | cons x c ih =>
    have e : frC (x :: c) = .int .i64 x.1.fn :: .int .i64 x.1.pc :: x.2.1 :: x.2.2 :: frC c := by simp [frC]
    rcases j with _ | j
    · rw [e]; simp
    · have := ih j (by simpa using hj)
      rw [e, show (j + 1) * 4 = j * 4 + 4 by omega]
      simpa using this
def FramesV (w : World) (base : Nat) (v : Value) (fs : List Fr) : Prop :=
  ∃ xs : List (Fr × Value × Value), xs.map (·.1) = fs ∧ w.ownsRow base 123 4 v xs.length (frC xs) ∧ ∀ x ∈ xs, IntsV w base x.2.1 x.1.locals ∧ IntsV w base x.2.2 x.1.stack
theorem FramesV.nil (w : World) (base : Nat) : FramesV w base (.slice none 0 0) [] := ⟨[], rfl, World.ownsRow_nil _ _ _ _, fun x m => by cases m⟩
theorem FramesV.chg {S : Nat → Prop} {w w' : World} {base : Nat} {v : Value} {fs : List Fr} (h : FramesV w base v fs) (k : Chg S w w') (h3 : ∀ g cs, Blk w g cs 3 → ¬ S g) (h132 : ∀ g cs, Blk w g cs 123 → ¬ S g) : FramesV w' base v fs := by
  obtain ⟨xs, h1, h2, hx⟩ := h
  exact ⟨xs, h1, own_chg h2 k (fun g hg e => by obtain ⟨cs, hb⟩ := own_blk h2 hg; exact h132 g cs hb e), fun x m => ⟨(hx x m).1.chg k h3, (hx x m).2.chg k h3⟩⟩
theorem FramesV.slice {w : World} {base : Nat} {v : Value} {fs : List Fr} (h : FramesV w base v fs) : ∃ a cap, v = .slice a fs.length cap := by
  obtain ⟨xs, h1, h, _⟩ := h
  subst h1
  rw [List.length_map]
  rcases h.2 with ⟨h1, h2⟩ | ⟨g, cap, cur, rfl, _⟩
  · exact ⟨none, 0, by rw [h1, h2]⟩
  · exact ⟨_, _, rfl⟩
theorem FramesV.form {w : World} {base : Nat} {v : Value} {fs : List Fr} (h : FramesV w base v fs) (hl : 0 < fs.length) :
    ∃ g cap, v = .slice (some ⟨g, 0, none⟩) fs.length cap ∧ fs.length ≤ cap ∧ (∀ j (hj : j < fs.length), ∃ lv kv, w.cell? ⟨g, j * 4, none⟩ = some (.int .i64 fs[j].fn) ∧ w.cell? ⟨g, j * 4 + 1, none⟩ = some (.int .i64 fs[j].pc) ∧
      w.cell? ⟨g, j * 4 + 2, none⟩ = some lv ∧ w.cell? ⟨g, j * 4 + 3, none⟩ = some kv ∧ IntsV w base lv fs[j].locals ∧ IntsV w base kv fs[j].stack) := by
  obtain ⟨xs, h0, h, hx⟩ := h
  have hc := fun g => World.ownsRow.cells (g := g) h
  subst h0
  simp only [List.length_map] at *
  rcases h.2 with ⟨_, h0⟩ | ⟨g, cap, cur, rfl, hb, hgg, hle, hcap, _⟩
  · omega
  · refine ⟨g, cap, rfl, hle, fun j hj => ?_⟩
    have hadd : ∀ j, (⟨g, 0, none⟩ : Addr).add j = ⟨g, j, none⟩ := by intro j; unfold Addr.add; split <;> simp_all
    obtain ⟨k1, k2, k3, k4⟩ := frC_get xs j hj
    have a1 := hc g rfl _ _ k1
    have a2 := hc g rfl _ _ k2
    have a3 := hc g rfl _ _ k3
    have a4 := hc g rfl _ _ k4
    rw [hadd] at a1 a2 a3 a4
    have hm := hx xs[j] (List.getElem_mem hj)
    exact ⟨xs[j].2.1, xs[j].2.2, by simpa using a1, by simpa using a2, a3, a4, by simpa using hm.1, by simpa using hm.2⟩

/-- the plain function: layDown -/
def layP (ms : List Int) (h d st : Int) (ws : List Int) (below : List Fr) (top : Fr) : List Int :=
  if st ≠ 0 then ms ++ [h, d, st] else ms ++ [h, d, st] ++ [(ws.length : Int)] ++ ws ++ [(below.length : Int) + 1] ++ below.flatMap nums ++ nums top

theorem app_new {W0 wi wj w' : World} {v : Value} {l : List Int} (h : IntsV wi W0.heap.size v l) (k : Chg (fun _ => False) W0 wi) (hj : Chg (fun _ => False) wi wj) (hch : Chg (fun j => some j = v.ownBlock) wj w') : Chg (fun _ => False) W0 w' :=
  (k.trans hj).trans' hch (fun i hi e => by have := (h.lt i e.symm).1; omega)
theorem lit_rd {W : World} (l : List Int) (n : Nat) (hn : l.length = n) (hm : n ≤ maxLen) : RdI (W.alloc (.cells (ints l).toArray 3)) (.slice (some ⟨W.heap.size, 0, none⟩) n n) l :=
  (IntsV.lit (base := 0) l n hn rfl (Nat.zero_le _) hm).rdI
theorem nums_le {f : Fr} (h1 : f.locals.length ≤ 10000) (h2 : f.stack.length ≤ 10000) : (nums f).length ≤ 20001 := by simp [nums]; omega
theorem flat_le {fs : List Fr} (h : ∀ f ∈ fs, f.locals.length ≤ 10000 ∧ f.stack.length ≤ 10000) : (fs.flatMap nums).length ≤ fs.length * 20001 := by
  induction fs with
  | nil => simp
  | cons f fs ih =>
    have h1 := nums_le (h f (by simp)).1 (h f (by simp)).2
    have h2 := ih (fun g hg => h g (by simp [hg]))
    rw [List.flatMap_cons, List.length_append, List.length_cons]; omega
theorem flat_snoc {fs : List Fr} (k : Nat) (hk : k < fs.length) : (fs.take (k + 1)).flatMap nums = (fs.take k).flatMap nums ++ nums fs[k] := by
  rw [List.take_succ_eq_append_getElem hk, List.flatMap_append]; simp

set_option maxHeartbeats 2000000 in
set_option maxRecDepth 100000 in
theorem lay_end (s : ByteArray) (hs : s.size ≤ 800) (ta fa sa ia oa wa ba la ka : Option Addr) (tn tc fn fc sn sc inn ic on oc wc bc lc kc : Nat) (h d used : Int) (st : Int) (hst : (st != 0) = true) (ws : List Int) (below : List Fr) (top : Fr) (w : World) (b1 : Nat)
    (hw : IntsV w b1 (.slice wa ws.length wc) ws) (hb : FramesV w b1 (.slice ba below.length bc) below) (hl : IntsV w b1 (.slice la top.locals.length lc) top.locals) (hk : IntsV w b1 (.slice ka top.stack.length kc) top.stack)
    (_hwl : ws.length ≤ 10000) (_hbl : below.length ≤ 100) (_hbs : ∀ f ∈ below, f.locals.length ≤ 10000 ∧ f.stack.length ≤ 10000) (_htl : top.locals.length ≤ 10000) (_htk : top.stack.length ≤ 10000) :
    Calls Try.prog 62 #[.agg #[.string s, .slice ta tn tc, .slice fa fn fc, .slice sa sn sc, .int .i64 h, .int .i64 d, .int .i64 st, .slice wa ws.length wc, .slice ba below.length bc, .int .i64 top.fn, .int .i64 top.pc, .slice la top.locals.length lc, .slice ka top.stack.length kc, .slice ia inn ic, .int .i64 used, .slice oa on oc]] w fun e w' => ∃ v, e = .returned v ∧ IntsV w' w.heap.size v (mksP s ++ [h, d, st]) ∧ Chg (fun _ => False) w w' := by
  have kb : Chg (fun _ => False) w (w.alloc (Obj.cells #[.string s, .slice ta tn tc, .slice fa fn fc, .slice sa sn sc, .int .i64 h, .int .i64 d, .int .i64 st, .slice wa ws.length wc, .slice ba below.length bc, .int .i64 top.fn, .int .i64 top.pc, .slice la top.locals.length lc, .slice ka top.stack.length kc, .slice ia inn ic, .int .i64 used, .slice oa on oc] 125)) := (Chg.refl _ w).alloc _
  have bx : Blk (w.alloc (Obj.cells #[.string s, .slice ta tn tc, .slice fa fn fc, .slice sa sn sc, .int .i64 h, .int .i64 d, .int .i64 st, .slice wa ws.length wc, .slice ba below.length bc, .int .i64 top.fn, .int .i64 top.pc, .slice la top.locals.length lc, .slice ka top.stack.length kc, .slice ia inn ic, .int .i64 used, .slice oa on oc] 125)) w.heap.size #[.string s, .slice ta tn tc, .slice fa fn fc, .slice sa sn sc, .int .i64 h, .int .i64 d, .int .i64 st, .slice wa ws.length wc, .slice ba below.length bc, .int .i64 top.fn, .int .i64 top.pc, .slice la top.locals.length lc, .slice ka top.stack.length kc, .slice ia inn ic, .int .i64 used, .slice oa on oc] 125 := Blk.new w _ 125
  have HB := hb.chg kb (fun _ _ _ e => e) (fun _ _ _ e => e)
  have HW := hw.chg kb (fun _ _ _ e => e)
  have HL := hl.chg kb (fun _ _ _ e => e)
  have HK := hk.chg kb (fun _ _ _ e => e)
  clear hw hb hl hk
  have hml : (mksP s).length = 3 := rfl
  go_enter Try.func62, Try.ntmps62
  go_wp2_with fail
  generalize (w.alloc (Obj.cells #[.string s, .slice ta tn tc, .slice fa fn fc, .slice sa sn sc, .int .i64 h, .int .i64 d, .int .i64 st, .slice wa ws.length wc, .slice ba below.length bc, .int .i64 top.fn, .int .i64 top.pc, .slice la top.locals.length lc, .slice ka top.stack.length kc, .slice ia inn ic, .int .i64 used, .slice oa on oc] 125)) = W0 at *
  refine (marksOf_any s _ hs).mono ?_
  rintro e w1 ⟨v1, rfl, hI1, k1⟩
  obtain ⟨a1, c1, rfl⟩ := hI1.slice
  have x4 : w1.cell? ⟨w.heap.size, 4, none⟩ = some (.int .i64 h) := (bx.chg k1 (fun e => e)).cell 4
  have x5 : w1.cell? ⟨w.heap.size, 5, none⟩ = some (.int .i64 d) := (bx.chg k1 (fun e => e)).cell 5
  have x6 : w1.cell? ⟨w.heap.size, 6, none⟩ = some (.int .i64 st) := (bx.chg k1 (fun e => e)).cell 6
  have hlt := (bx.chg k1 (fun e => e)).lt
  have hs1 := k1.size
  have j1 : Chg (fun _ => False) w1 (w1.alloc (Obj.cells #[.int .i64 h, .int .i64 d, .int .i64 st] 3)) := (Chg.refl _ w1).alloc _
  go_wp2_with (at_builtin; refine wp_app rfl _ _ rfl W0.heap.size (.slice a1 (mksP s).length c1) (.slice (some ⟨w1.heap.size, 0, none⟩) 3 3) (mksP s) [h, d, st] rfl rfl ?h1 ?h2 ?h3 ?h4 ?_)
  case h1 => exact hI1.chg j1 (fun _ _ _ e => e)
  case h2 => exact lit_rd [h, d, st] 3 rfl (by unfold maxLen; omega)
  case h3 => simp; omega
  case h4 => exact Nat.le_trans hs1 j1.size
  intro a2 n2 c2 w2 hn2 hI2 hch2
  have k2 := app_new hI1 k1 j1 hch2
  clear hI1 k1 j1 hch2 x4 x5 x6 hlt hs1
  have hB2 : n2 ≤ 6 := by first | omega | (rw [hn2, hml]; simp)
  clear hn2
  have x6 : w2.cell? ⟨w.heap.size, 6, none⟩ = some (.int .i64 st) := (bx.chg k2 (fun e => e)).cell 6
  go_wp2
  go_ret
  exact ⟨_, rfl, own_mono hI2 kb.size, kb.trans k2⟩

set_option maxHeartbeats 2000000 in
set_option maxRecDepth 100000 in
theorem lay_run (s : ByteArray) (hs : s.size ≤ 800) (ta fa sa ia oa wa ba la ka : Option Addr) (tn tc fn fc sn sc inn ic on oc wc bc lc kc : Nat) (h d used : Int) (ws : List Int) (below : List Fr) (top : Fr) (w : World) (b1 : Nat)
    (hw : IntsV w b1 (.slice wa ws.length wc) ws) (hb : FramesV w b1 (.slice ba below.length bc) below) (hl : IntsV w b1 (.slice la top.locals.length lc) top.locals) (hk : IntsV w b1 (.slice ka top.stack.length kc) top.stack)
    (hwl : ws.length ≤ 10000) (hbl : below.length ≤ 100) (hbs : ∀ f ∈ below, f.locals.length ≤ 10000 ∧ f.stack.length ≤ 10000) (htl : top.locals.length ≤ 10000) (htk : top.stack.length ≤ 10000) :
    Calls Try.prog 62 #[.agg #[.string s, .slice ta tn tc, .slice fa fn fc, .slice sa sn sc, .int .i64 h, .int .i64 d, .int .i64 0, .slice wa ws.length wc, .slice ba below.length bc, .int .i64 top.fn, .int .i64 top.pc, .slice la top.locals.length lc, .slice ka top.stack.length kc, .slice ia inn ic, .int .i64 used, .slice oa on oc]] w fun e w' => ∃ v, e = .returned v ∧ IntsV w' w.heap.size v (mksP s ++ [h, d, 0] ++ [(ws.length : Int)] ++ ws ++ [(below.length : Int) + 1] ++ below.flatMap nums ++ nums top) ∧ Chg (fun _ => False) w w' := by
  have kb : Chg (fun _ => False) w (w.alloc (Obj.cells #[.string s, .slice ta tn tc, .slice fa fn fc, .slice sa sn sc, .int .i64 h, .int .i64 d, .int .i64 0, .slice wa ws.length wc, .slice ba below.length bc, .int .i64 top.fn, .int .i64 top.pc, .slice la top.locals.length lc, .slice ka top.stack.length kc, .slice ia inn ic, .int .i64 used, .slice oa on oc] 125)) := (Chg.refl _ w).alloc _
  have bx : Blk (w.alloc (Obj.cells #[.string s, .slice ta tn tc, .slice fa fn fc, .slice sa sn sc, .int .i64 h, .int .i64 d, .int .i64 0, .slice wa ws.length wc, .slice ba below.length bc, .int .i64 top.fn, .int .i64 top.pc, .slice la top.locals.length lc, .slice ka top.stack.length kc, .slice ia inn ic, .int .i64 used, .slice oa on oc] 125)) w.heap.size #[.string s, .slice ta tn tc, .slice fa fn fc, .slice sa sn sc, .int .i64 h, .int .i64 d, .int .i64 0, .slice wa ws.length wc, .slice ba below.length bc, .int .i64 top.fn, .int .i64 top.pc, .slice la top.locals.length lc, .slice ka top.stack.length kc, .slice ia inn ic, .int .i64 used, .slice oa on oc] 125 := Blk.new w _ 125
  have HB := hb.chg kb (fun _ _ _ e => e) (fun _ _ _ e => e)
  have HW := hw.chg kb (fun _ _ _ e => e)
  have HL := hl.chg kb (fun _ _ _ e => e)
  have HK := hk.chg kb (fun _ _ _ e => e)
  clear hw hb hl hk
  have hml : (mksP s).length = 3 := rfl
  go_enter Try.func62, Try.ntmps62
  go_wp2_with fail
  generalize (w.alloc (Obj.cells #[.string s, .slice ta tn tc, .slice fa fn fc, .slice sa sn sc, .int .i64 h, .int .i64 d, .int .i64 0, .slice wa ws.length wc, .slice ba below.length bc, .int .i64 top.fn, .int .i64 top.pc, .slice la top.locals.length lc, .slice ka top.stack.length kc, .slice ia inn ic, .int .i64 used, .slice oa on oc] 125)) = W0 at *
  refine (marksOf_any s _ hs).mono ?_
  rintro e w1 ⟨v1, rfl, hI1, k1⟩
  obtain ⟨a1, c1, rfl⟩ := hI1.slice
  have x4 : w1.cell? ⟨w.heap.size, 4, none⟩ = some (.int .i64 h) := (bx.chg k1 (fun e => e)).cell 4
  have x5 : w1.cell? ⟨w.heap.size, 5, none⟩ = some (.int .i64 d) := (bx.chg k1 (fun e => e)).cell 5
  have x6 : w1.cell? ⟨w.heap.size, 6, none⟩ = some (.int .i64 0) := (bx.chg k1 (fun e => e)).cell 6
  have hlt := (bx.chg k1 (fun e => e)).lt
  have hs1 := k1.size
  have j1 : Chg (fun _ => False) w1 (w1.alloc (Obj.cells #[.int .i64 h, .int .i64 d, .int .i64 0] 3)) := (Chg.refl _ w1).alloc _
  go_wp2_with (at_builtin; refine wp_app rfl _ _ rfl W0.heap.size (.slice a1 (mksP s).length c1) (.slice (some ⟨w1.heap.size, 0, none⟩) 3 3) (mksP s) [h, d, 0] rfl rfl ?h1 ?h2 ?h3 ?h4 ?_)
  case h1 => exact hI1.chg j1 (fun _ _ _ e => e)
  case h2 => exact lit_rd [h, d, 0] 3 rfl (by unfold maxLen; omega)
  case h3 => simp; omega
  case h4 => exact Nat.le_trans hs1 j1.size
  intro a2 n2 c2 w2 hn2 hI2 hch2
  have k2 := app_new hI1 k1 j1 hch2
  clear hI1 k1 j1 hch2 x4 x5 x6 hlt hs1
  have hB2 : n2 ≤ 6 := by first | omega | (rw [hn2, hml]; simp)
  obtain ⟨L2, hE2⟩ : ∃ L, mksP s ++ [h, d, 0] = L := ⟨_, rfl⟩
  rw [hE2] at hI2
  have hM2 : L2.length = n2 := by
    have hh := congrArg List.length hE2
    rw [List.length_append] at hh
    first | omega | (simp at hh hn2; omega)
  have HM2 : Hid (L2.length = n2) := hM2
  clear hM2
  clear hn2
  have E2 : Hid (mksP s ++ [h, d, 0] = L2) := hE2
  clear hE2
  have x6 : w2.cell? ⟨w.heap.size, 6, none⟩ = some (.int .i64 0) := (bx.chg k2 (fun e => e)).cell 6
  have x7 : w2.cell? ⟨w.heap.size, 7, none⟩ = some (.slice wa ws.length wc) := (bx.chg k2 (fun e => e)).cell 7
  have hlt2 := (bx.chg k2 (fun e => e)).lt
  have j2 : Chg (fun _ => False) w2 (w2.alloc (Obj.cells #[.int .i64 ((ws.length : Int))] 3)) := (Chg.refl _ w2).alloc _
  have hs2 := k2.size
  go_wp2_with (at_builtin; refine wp_app rfl _ _ rfl W0.heap.size (.slice a2 n2 c2) (.slice (some ⟨w2.heap.size, 0, none⟩) 1 1) L2 [(ws.length : Int)] rfl rfl ?h1 ?h2 ?h3 ?h4 ?_)
  case h1 => exact hI2.chg j2 (fun _ _ _ e => e)
  case h2 => exact lit_rd [(ws.length : Int)] 1 rfl (by unfold maxLen; omega)
  case h3 => rw [HM2.out]; simp; omega
  case h4 => exact Nat.le_trans hs2 j2.size
  intro a3 n3 c3 w3 hn3 hI3 hch
  have k3 := app_new hI2 k2 j2 hch
  clear hI2 k2 j2 hch x6 x7 hlt2 hs2
  obtain ⟨L3, hE3⟩ : ∃ L, L2 ++ [(ws.length : Int)] = L := ⟨_, rfl⟩
  rw [hE3] at hI3
  have hM3 : L3.length = n3 := by
    have hh := congrArg List.length hE3
    rw [List.length_append] at hh
    first | omega | (simp at hh hn3; omega)
  have HM3 : Hid (L3.length = n3) := hM3
  clear hM3
  have hB3 : n3 ≤ 7 := by rw [hn3, HM2.out]; first | omega | (simp; omega)
  clear hn3
  have E3 : Hid (L2 ++ [(ws.length : Int)] = L3) := hE3
  clear hE3
  have x7 : w3.cell? ⟨w.heap.size, 7, none⟩ = some (.slice wa ws.length wc) := (bx.chg k3 (fun e => e)).cell 7
  have hs3 := k3.size
  go_wp2_with (at_builtin; refine wp_app rfl _ _ rfl W0.heap.size (.slice a3 n3 c3) (.slice wa ws.length wc) L3 ws rfl rfl ?h1 ?h2 ?h3 ?h4 ?_)
  case h1 => exact hI3
  case h2 => exact (HW.chg k3 (fun _ _ _ e => e)).rdI
  case h3 => rw [HM3.out]; omega
  case h4 => exact hs3
  intro a4 n4 c4 w4 hn4 hI4 hch
  have k4 := app_new hI3 k3 (Chg.refl _ _) hch
  clear hI3 k3 hch x7 hs3
  obtain ⟨L4, hE4⟩ : ∃ L, L3 ++ ws = L := ⟨_, rfl⟩
  rw [hE4] at hI4
  have hM4 : L4.length = n4 := by
    have hh := congrArg List.length hE4
    rw [List.length_append] at hh
    first | omega | (simp at hh hn4; omega)
  have HM4 : Hid (L4.length = n4) := hM4
  clear hM4
  have hB4 : n4 ≤ 10007 := by rw [hn4, HM3.out]; first | omega | (simp; omega)
  clear hn4
  have E4 : Hid (L3 ++ ws = L4) := hE4
  clear hE4
  have x8 : w4.cell? ⟨w.heap.size, 8, none⟩ = some (.slice ba below.length bc) := (bx.chg k4 (fun e => e)).cell 8
  have hlt4 := (bx.chg k4 (fun e => e)).lt
  have j4 : Chg (fun _ => False) w4 (w4.alloc (Obj.cells #[.int .i64 ((below.length : Int) + 1)] 3)) := (Chg.refl _ w4).alloc _
  have hs4 := k4.size
  go_wp2_with (at_builtin; refine wp_app rfl _ _ rfl W0.heap.size (.slice a4 n4 c4) (.slice (some ⟨w4.heap.size, 0, none⟩) 1 1) L4 [(below.length : Int) + 1] rfl rfl ?h1 ?h2 ?h3 ?h4 ?_)
  case h1 => exact hI4.chg j4 (fun _ _ _ e => e)
  case h2 => exact lit_rd [(below.length : Int) + 1] 1 rfl (by unfold maxLen; omega)
  case h3 => rw [HM4.out]; simp; omega
  case h4 => exact Nat.le_trans hs4 j4.size
  intro a5 n5 c5 w5 hn5 hI5 hch
  have k5 := app_new hI4 k4 j4 hch
  clear hI4 k4 j4 hch x8 hlt4 hs4
  obtain ⟨L5, hE5⟩ : ∃ L, L4 ++ [(below.length : Int) + 1] = L := ⟨_, rfl⟩
  rw [hE5] at hI5
  have hM5 : L5.length = n5 := by
    have hh := congrArg List.length hE5
    rw [List.length_append] at hh
    first | omega | (simp at hh hn5; omega)
  have HM5 : Hid (L5.length = n5) := hM5
  clear hM5
  have hB5 : n5 ≤ 10008 := by rw [hn5, HM4.out]; first | omega | (simp; omega)
  clear hn5
  have E5 : Hid (L4 ++ [(below.length : Int) + 1] = L5) := hE5
  clear hE5
  have x8 : w5.cell? ⟨w.heap.size, 8, none⟩ = some (.slice ba below.length bc) := (bx.chg k5 (fun e => e)).cell 8
  go_wp2_with fail
  clear x8
  go_loopw [3, 42] (fun v iv wr => ∃ (k n : Nat) (a : Option Addr) (c : Nat), k ≤ below.length ∧ iv = .int .i64 (k : Int) ∧ v = .slice a n c ∧ IntsV wr W0.heap.size (.slice a n c) (L5 ++ (below.take k).flatMap nums) ∧ Chg (fun _ => False) W0 wr) (fun _ iv _ => below.length - (intOf iv).toNat)
  case atStart => exact ⟨0, n5, a5, c5, Nat.zero_le _, rfl, rfl, by simpa using hI5, k5⟩
  case round =>
    clear hI5 k5
    obtain ⟨k, n, a, c, hk, rfl, rfl, hI, kk⟩ := hrel
    have hfl : ((below.take k).flatMap nums).length ≤ k * 20001 := by
      have := flat_le (fs := below.take k) (fun f hf => hbs f (List.mem_of_mem_take hf))
      rw [List.length_take] at this
      have h2 : min k below.length = k := by omega
      rw [h2] at this; exact this
    have hLl : (L5 ++ (below.take k).flatMap nums).length ≤ 10008 + k * 20001 := by rw [List.length_append, HM5.out]; omega
    have HLL : Hid ((L5 ++ (below.take k).flatMap nums).length ≤ 10008 + k * 20001) := hLl
    clear hfl hLl
    by_cases hlt : k < below.length
    · have hlt' : (k : Int) < (below.length : Int) := by omega
      obtain ⟨g, cap, hbe, _, hcells⟩ := (HB.chg kk (fun _ _ _ e => e) (fun _ _ _ e => e)).form (by omega)
      simp only [Value.slice.injEq] at hbe
      obtain ⟨rfl, _, rfl⟩ := hbe
      obtain ⟨flv, fkv, h0, h1, h2, h3, hfl, hfk⟩ := hcells k hlt
      have hfb := hbs _ (List.getElem_mem hlt)
      have HSN : Hid ((below.take (k + 1)).flatMap nums = (below.take k).flatMap nums ++ nums below[k]) := flat_snoc k hlt
      clear hcells
      obtain ⟨f, hf⟩ : ∃ f, below[k] = f := ⟨_, rfl⟩
      rw [hf] at h0 h1 hfl hfk hfb
      have HF : Hid (below[k] = f) := hf
      clear hf
      obtain ⟨fla, flc, rfl⟩ := hfl.slice
      obtain ⟨fka, fkc, rfl⟩ := hfk.slice
      have hgl := World.block_lt_of_cell? wr _ h0
      have jf : Chg (fun _ => False) wr (wr.alloc (Obj.cells #[.int .i64 f.fn, .int .i64 f.pc, .slice fla f.locals.length flc, .slice fka f.stack.length fkc] 123)) := (Chg.refl _ wr).alloc _
      go_wp2_with fail
      refine (nums_any f _ _ _ b1 (hfl.chg jf (fun _ _ _ e => e)) (hfk.chg jf (fun _ _ _ e => e)) hfb.1 hfb.2).mono ?_
      rintro e w6 ⟨nv, rfl, hN, kn⟩
      obtain ⟨na, nc, rfl⟩ := hN.slice
      have j6 := jf.trans kn
      have hs6 := (kk.trans j6).size
      have HNL : Hid ((nums f).length ≤ 20001) := nums_le hfb.1 hfb.2
      clear h0 h1 h2 h3 hfl hfk hgl jf kn
      go_wp2_with (at_builtin; refine wp_app rfl _ _ rfl W0.heap.size (.slice a n c) (.slice na (nums f).length nc) (L5 ++ (below.take k).flatMap nums) (nums f) rfl rfl ?h1 ?h2 ?h3 ?h4 ?_)
      case h1 => exact hI.chg j6 (fun _ _ _ e => e)
      case h2 => exact hN.rdI
      case h3 => have h1 := HLL.out; have h2 := HNL.out; omega
      case h4 => exact hs6
      intro a7 n7 c7 w7 hn7 hI7 hch
      have k7 := app_new hI kk j6 hch
      clear hn7 hch
      go_wp2
      refine ⟨⟨k + 1, n7, a7, c7, by omega, rfl, rfl, ?_, k7⟩, by simp [intOf]; omega⟩
      have hsn := HSN.out
      rw [HF.out] at hsn
      rw [hsn]; first | exact hI7 | (rw [← List.append_assoc]; exact hI7)
    · have hkk : k = below.length := by omega
      have hlt' : (below.length : Int) ≤ (k : Int) := by omega
      subst hkk
      rw [List.take_length] at hI HLL
      have x9 : wr.cell? ⟨w.heap.size, 9, none⟩ = some (.int .i64 top.fn) := (bx.chg kk (fun e => e)).cell 9
      have x10 : wr.cell? ⟨w.heap.size, 10, none⟩ = some (.int .i64 top.pc) := (bx.chg kk (fun e => e)).cell 10
      have x11 : wr.cell? ⟨w.heap.size, 11, none⟩ = some (.slice la top.locals.length lc) := (bx.chg kk (fun e => e)).cell 11
      have x12 : wr.cell? ⟨w.heap.size, 12, none⟩ = some (.slice ka top.stack.length kc) := (bx.chg kk (fun e => e)).cell 12
      have HNL : Hid ((nums top).length ≤ 20001) := nums_le htl htk
      go_wp2_with fail
      refine (nums_any top _ _ _ b1 (HL.chg kk (fun _ _ _ e => e)) (HK.chg kk (fun _ _ _ e => e)) htl htk).mono ?_
      rintro e w6 ⟨nv, rfl, hN, kn⟩
      obtain ⟨na, nc, rfl⟩ := hN.slice
      have hs6 := (kk.trans kn).size
      clear x9 x10 x11 x12
      go_wp2_with (at_builtin; refine wp_app rfl _ _ rfl W0.heap.size (.slice a n c) (.slice na (nums top).length nc) (L5 ++ below.flatMap nums) (nums top) rfl rfl ?h1 ?h2 ?h3 ?h4 ?_)
      case h1 => exact hI.chg kn (fun _ _ _ e => e)
      case h2 => exact hN.rdI
      case h3 => have h1 := HLL.out; have h2 := HNL.out; omega
      case h4 => exact hs6
      intro a7 n7 c7 w7 hn7 hI7 hch
      have k7 := app_new hI kk kn hch
      clear hn7 hch
      go_wp2
      go_ret
      refine ⟨_, rfl, ?_, kb.trans k7⟩
      rw [E2.out, E3.out, E4.out, E5.out]
      first | exact own_mono hI7 kb.size | (rw [List.append_assoc]; exact own_mono hI7 kb.size)

theorem layDown_any (s : ByteArray) (hs : s.size ≤ 800) (ta fa sa ia oa wa ba la ka : Option Addr) (tn tc fn fc sn sc inn ic on oc wc bc lc kc : Nat) (h d st used : Int) (ws : List Int) (below : List Fr) (top : Fr) (w : World) (b1 : Nat)
    (hw : IntsV w b1 (.slice wa ws.length wc) ws) (hb : FramesV w b1 (.slice ba below.length bc) below) (hl : IntsV w b1 (.slice la top.locals.length lc) top.locals) (hk : IntsV w b1 (.slice ka top.stack.length kc) top.stack)
    (hwl : ws.length ≤ 10000) (hbl : below.length ≤ 100) (hbs : ∀ f ∈ below, f.locals.length ≤ 10000 ∧ f.stack.length ≤ 10000) (htl : top.locals.length ≤ 10000) (htk : top.stack.length ≤ 10000) :
    Calls Try.prog 62 #[.agg #[.string s, .slice ta tn tc, .slice fa fn fc, .slice sa sn sc, .int .i64 h, .int .i64 d, .int .i64 st, .slice wa ws.length wc, .slice ba below.length bc, .int .i64 top.fn, .int .i64 top.pc, .slice la top.locals.length lc, .slice ka top.stack.length kc, .slice ia inn ic, .int .i64 used, .slice oa on oc]] w fun e w' => ∃ v, e = .returned v ∧ IntsV w' w.heap.size v (layP (mksP s) h d st ws below top) ∧ Chg (fun _ => False) w w' := by
  unfold layP
  by_cases hst : st = 0
  · subst hst
    rw [if_neg (by simp)]
    exact lay_run s hs ta fa sa ia oa wa ba la ka tn tc fn fc sn sc inn ic on oc wc bc lc kc h d used ws below top w b1 hw hb hl hk hwl hbl hbs htl htk
  · rw [if_pos hst]
    exact lay_end s hs ta fa sa ia oa wa ba la ka tn tc fn fc sn sc inn ic on oc wc bc lc kc h d used st (by simpa using hst) ws below top w b1 hw hb hl hk hwl hbl hbs htl htk
end Go.Proofs.Ytnfnbcbadakofaa
