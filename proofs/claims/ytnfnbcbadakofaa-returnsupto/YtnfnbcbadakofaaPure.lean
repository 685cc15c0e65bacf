import Derived.Test.YtnfnbcbadakofaaRdec2
namespace Go.Proofs.Ytnfnbcbadakofaa

def Agree {α : Type} (p q : α × (Nat × Bool)) : Prop := p.2 = q.2 ∧ (q.2.2 = false → p.1 = q.1)

theorem Agree.bind {α β : Type} {p q : α × (Nat × Bool)} {F G : α → Nat × Bool → β × (Nat × Bool)} (h : Agree p q) (hF : ∀ x s, s.2 = true → (F x s).2 = s) (hG : ∀ x s, s.2 = true → (G x s).2 = s)
    (hFG : ∀ x s, s.2 = false → Agree (F x s) (G x s)) : Agree (F p.1 p.2) (G q.1 q.2) := by
  obtain ⟨h1, h2⟩ := h
  cases hb : q.2.2 with
  | true =>
    have a := hF p.1 p.2 (by rw [h1]; exact hb)
    have b := hG q.1 q.2 hb
    refine ⟨by rw [a, b, h1], fun e => ?_⟩
    rw [b, hb] at e; cases e
  | false =>
    rw [h1, h2 hb]; exact hFG _ _ hb

theorem notor {s : Nat × Bool} {n : Nat} (h0 : s.2 = false) (h : s.1 < n) : ¬ (s.2 = true ∨ n ≤ s.1) := by
  rintro (h1 | h1)
  · rw [h0] at h1; cases h1
  · omega
theorem tk_stop (ns : List Int) (lo hi : Int) (s : Nat × Bool) (h : s.2 = true) : tk ns lo hi s = (0, s) := by
  unfold tk; rw [if_pos (.inl h)]; obtain ⟨a, b⟩ := s; simp at h; rw [h]
theorem tk_nx (ns : List Int) (lo hi : Int) (s : Nat × Bool) : Agree (tk ns lo hi s) (nx ns lo hi s) := by
  rcases nx_cases ns lo hi s with ⟨h0, e⟩ | ⟨h0, h1, e⟩ | ⟨h0, h1, h2, h3, e⟩
  · rw [e, tk_stop ns lo hi s h0]; exact ⟨rfl, fun h => by rw [h0] at h; cases h⟩
  · rw [e]
    unfold tk
    rcases h1 with h1 | h1
    · rw [if_pos (.inr h1)]; exact ⟨rfl, fun h => by cases h⟩
    · by_cases hl : ns.length ≤ s.1
      · rw [if_pos (.inr hl)]; exact ⟨rfl, fun h => by cases h⟩
      · rw [if_neg (notor h0 (by omega)), if_pos h1]; exact ⟨rfl, fun h => by cases h⟩
  · rw [e]
    unfold tk
    rw [if_neg (notor h0 h1), if_neg (by omega)]; exact ⟨rfl, fun _ => rfl⟩
theorem tk_nx255 (ns : List Int) (hns : ∀ j, 0 ≤ ns.getD j 0 ∧ ns.getD j 0 ≤ 255) (lo hi : Int) (s : Nat × Bool) : Agree (tk ns lo hi s) ((nx ns 0 255 s).1, fixS (nx ns 0 255 s).2 (wB (nx ns 0 255 s).1 lo hi)) := by
  rcases nx_cases ns 0 255 s with ⟨h0, e⟩ | ⟨h0, h1, e⟩ | ⟨h0, h1, h2, h3, e⟩
  · rw [e, tk_stop ns lo hi s h0]
    have : fixS s (wB 0 lo hi) = s := by simp [fixS, h0]
    simp only [this]
    exact ⟨rfl, fun _ => rfl⟩
  · have := hns s.1
    have hl : ns.length ≤ s.1 := by omega
    rw [e]
    unfold tk
    rw [if_pos (.inr hl)]
    exact ⟨by simp [fixS], fun h => by simp [fixS] at h⟩
  · rw [e]
    unfold tk
    rw [if_neg (notor h0 (by omega))]
    by_cases hb : ns.getD s.1 0 < lo ∨ hi < ns.getD s.1 0
    · rw [if_pos hb]
      have : wB (ns.getD s.1 0) lo hi = false := by simp only [wB]; rw [Bool.and_eq_false_iff]; simp only [decide_eq_false_iff_not]; omega
      simp only [this]
      exact ⟨by simp [fixS], fun h => by simp [fixS] at h⟩
    · rw [if_neg hb]
      have : wB (ns.getD s.1 0) lo hi = true := by simp only [wB]; rw [Bool.and_eq_true_iff]; simp only [decide_eq_true_eq]; omega
      simp only [this]
      exact ⟨by simp [fixS], fun h => by simp⟩

theorem tkL_stop (ns : List Int) (hi : Int) (k : Nat) (s : Nat × Bool) (h : s.2 = true) : (tkL ns hi k s).2 = s := by
  induction k with
  | zero => rfl
  | succ k ih => simp only [tkL, ih]; rw [tk_stop ns 0 hi s h]
theorem nxL_stop (ns : List Int) (hi : Int) (k : Nat) (s : Nat × Bool) (h : s.2 = true) : (nxL ns hi k s).2 = s := by
  induction k with
  | zero => rfl
  | succ k ih => simp only [nxL, ih]; rw [nx_stop ns 0 hi s h]
theorem tkL_nxL (ns : List Int) (hi : Int) (k : Nat) (s : Nat × Bool) : Agree (tkL ns hi k s) (nxL ns hi k s) := by
  induction k with
  | zero => exact ⟨rfl, fun _ => rfl⟩
  | succ k ih =>
    refine Agree.bind (F := fun l s => (l ++ [(tk ns 0 hi s).1], (tk ns 0 hi s).2)) (G := fun l s => (l ++ [(nx ns 0 hi s).1], (nx ns 0 hi s).2)) ih (fun x s h => by simp only [tk_stop ns 0 hi s h]) (fun x s h => by simp only [nx_stop ns 0 hi s h]) (fun x s _ => ?_)
    have := tk_nx ns 0 hi s
    exact ⟨this.1, fun h => by simp only [this.2 h]⟩

section
variable (ns : List Int) (ls : List (List Int)) (fu lo co : Int)
theorem tkI_stop (s : Nat × Bool) (h : s.2 = true) : (tkI ns ls fu lo co s).2 = s := by
  simp only [tkI, tk_stop ns _ _ s h]
theorem fixS_stop (s : Nat × Bool) (g : Bool) (h : s.2 = true) : fixS s g = s := by simp [fixS, h]
theorem nxI_stop (s : Nat × Bool) (h : s.2 = true) : (nxI ns ls fu lo co s).2 = s := by
  simp only [nxI, nx_stop ns _ _ s h, fixS_stop s _ h]
theorem tkI_nxI (hns : ∀ j, 0 ≤ ns.getD j 0 ∧ ns.getD j 0 ≤ 255) (s : Nat × Bool) : Agree (tkI ns ls fu lo co s) (nxI ns ls fu lo co s) := by
  refine Agree.bind
    (F := fun op s => let r2 := tk ns (bA ls.length fu lo co op).1 (bA ls.length fu lo co op).2 s; let r3 := tk ns 0 (gB ls op r2.1) r2.2; ((op, r2.1, r3.1), r3.2))
    (G := fun op s => let q2 := nx ns 0 255 s; let q3 := nx ns 0 255 (fixS q2.2 (wB q2.1 (bA ls.length fu lo co op).1 (bA ls.length fu lo co op).2)); ((op, q2.1, q3.1), fixS q3.2 (wB q3.1 0 (gB ls op q2.1))))
    (tk_nx ns 0 18 s) (fun x s h => by simp only [tk_stop ns _ _ s h]) (fun x s h => by simp only [nx_stop ns _ _ s h, fixS_stop s _ h]) (fun op s _ => ?_)
  refine Agree.bind (p := tk ns (bA ls.length fu lo co op).1 (bA ls.length fu lo co op).2 s) (q := ((nx ns 0 255 s).1, fixS (nx ns 0 255 s).2 (wB (nx ns 0 255 s).1 (bA ls.length fu lo co op).1 (bA ls.length fu lo co op).2)))
    (F := fun a s => let r3 := tk ns 0 (gB ls op a) s; ((op, a, r3.1), r3.2))
    (G := fun a s => let q3 := nx ns 0 255 s; ((op, a, q3.1), fixS q3.2 (wB q3.1 0 (gB ls op a))))
    (tk_nx255 ns hns _ _ s) (fun x s h => by simp only [tk_stop ns _ _ s h]) (fun x s h => by simp only [nx_stop ns _ _ s h, fixS_stop s _ h]) (fun a s _ => ?_)
  have := tk_nx255 ns hns 0 (gB ls op a) s
  exact ⟨this.1, fun h => by simp only [this.2 h]⟩
theorem tkC_stop (k : Nat) (s : Nat × Bool) (h : s.2 = true) : (tkC ns ls fu lo co k s).2 = s := by
  induction k with
  | zero => rfl
  | succ k ih => simp only [tkC, ih]; exact tkI_stop ns ls fu lo co s h
theorem nxC_stop0 (k : Nat) (s : Nat × Bool) (h : s.2 = true) : (nxC ns ls fu lo co k s).2 = s := by
  induction k with
  | zero => rfl
  | succ k ih => rw [nxC, if_pos (by rw [ih]; exact h)]; exact ih
theorem tkC_nxC (hns : ∀ j, 0 ≤ ns.getD j 0 ∧ ns.getD j 0 ≤ 255) (k : Nat) (s : Nat × Bool) : Agree (tkC ns ls fu lo co k s) (nxC ns ls fu lo co k s) := by
  induction k with
  | zero => exact ⟨rfl, fun _ => rfl⟩
  | succ k ih =>
    refine Agree.bind (F := fun l s => (l ++ [(tkI ns ls fu lo co s).1], (tkI ns ls fu lo co s).2)) (G := fun l s => if s.2 = true then (l, s) else (l ++ [(nxI ns ls fu lo co s).1], (nxI ns ls fu lo co s).2)) ih
      (fun x s h => tkI_stop ns ls fu lo co s h) (fun x s h => by simp only [h, if_true]) (fun x s h => ?_)
    have := tkI_nxI ns ls fu lo co hns s
    rw [if_neg (by simp [h])]
    exact ⟨this.1, fun h => by simp only [this.2 h]⟩
theorem tkF_stop (f : Bool) (s : Nat × Bool) (h : s.2 = true) : (tkF ns ls fu f s).2 = s := by
  simp only [tkF, tk_stop ns _ _ s h, tkL_stop ns _ _ s h, tkC_stop ns _ _ _ _ _ s h]
theorem nxF_stop (f : Bool) (s : Nat × Bool) (h : s.2 = true) : (nxF ns ls fu f s).2 = s := by
  simp only [nxF, nx_stop ns _ _ s h, nxL_stop ns _ _ s h, nxC_stop0 ns _ _ _ _ _ s h]
theorem tkF_nxF (hns : ∀ j, 0 ≤ ns.getD j 0 ∧ ns.getD j 0 ≤ 255) (f : Bool) (s : Nat × Bool) : Agree (tkF ns ls fu f s) (nxF ns ls fu f s) := by
  refine Agree.bind
    (F := fun a s => let r2 := tk ns a 8 s; let r3 := tkL ns ls.length r2.1.toNat r2.2; let r4 := tk ns 0 (if f then 0 else ls.length) r3.2; let r5 := tk ns 1 64 r4.2; let r6 := tkC ns ls fu r2.1 r5.1 r5.1.toNat r5.2; (Fn.mk a r3.1 r4.1 r6.1, r6.2))
    (G := fun a s => let r2 := nx ns a 8 s; let r3 := nxL ns ls.length r2.1.toNat r2.2; let r4 := nx ns 0 (if f then 0 else ls.length) r3.2; let r5 := nx ns 1 64 r4.2; let r6 := nxC ns ls fu r2.1 r5.1 r5.1.toNat r5.2; (Fn.mk a r3.1 r4.1 r6.1, r6.2))
    (tk_nx ns 0 _ s) (fun x s h => by simp only [tk_stop ns _ _ s h, tkL_stop ns _ _ s h, tkC_stop ns _ _ _ _ _ s h]) (fun x s h => by simp only [nx_stop ns _ _ s h, nxL_stop ns _ _ s h, nxC_stop0 ns _ _ _ _ _ s h]) (fun a s _ => ?_)
  refine Agree.bind
    (F := fun n s => let r3 := tkL ns ls.length n.toNat s; let r4 := tk ns 0 (if f then 0 else ls.length) r3.2; let r5 := tk ns 1 64 r4.2; let r6 := tkC ns ls fu n r5.1 r5.1.toNat r5.2; (Fn.mk a r3.1 r4.1 r6.1, r6.2))
    (G := fun n s => let r3 := nxL ns ls.length n.toNat s; let r4 := nx ns 0 (if f then 0 else ls.length) r3.2; let r5 := nx ns 1 64 r4.2; let r6 := nxC ns ls fu n r5.1 r5.1.toNat r5.2; (Fn.mk a r3.1 r4.1 r6.1, r6.2))
    (tk_nx ns a 8 s) (fun x s h => by simp only [tk_stop ns _ _ s h, tkL_stop ns _ _ s h, tkC_stop ns _ _ _ _ _ s h]) (fun x s h => by simp only [nx_stop ns _ _ s h, nxL_stop ns _ _ s h, nxC_stop0 ns _ _ _ _ _ s h]) (fun n s _ => ?_)
  refine Agree.bind
    (F := fun l s => let r4 := tk ns 0 (if f then 0 else ls.length) s; let r5 := tk ns 1 64 r4.2; let r6 := tkC ns ls fu n r5.1 r5.1.toNat r5.2; (Fn.mk a l r4.1 r6.1, r6.2))
    (G := fun l s => let r4 := nx ns 0 (if f then 0 else ls.length) s; let r5 := nx ns 1 64 r4.2; let r6 := nxC ns ls fu n r5.1 r5.1.toNat r5.2; (Fn.mk a l r4.1 r6.1, r6.2))
    (tkL_nxL ns _ _ s) (fun x s h => by simp only [tk_stop ns _ _ s h, tkC_stop ns _ _ _ _ _ s h]) (fun x s h => by simp only [nx_stop ns _ _ s h, nxC_stop0 ns _ _ _ _ _ s h]) (fun l s _ => ?_)
  refine Agree.bind
    (F := fun r s => let r5 := tk ns 1 64 s; let r6 := tkC ns ls fu n r5.1 r5.1.toNat r5.2; (Fn.mk a l r r6.1, r6.2))
    (G := fun r s => let r5 := nx ns 1 64 s; let r6 := nxC ns ls fu n r5.1 r5.1.toNat r5.2; (Fn.mk a l r r6.1, r6.2))
    (tk_nx ns 0 _ s) (fun x s h => by simp only [tk_stop ns _ _ s h, tkC_stop ns _ _ _ _ _ s h]) (fun x s h => by simp only [nx_stop ns _ _ s h, nxC_stop0 ns _ _ _ _ _ s h]) (fun r s _ => ?_)
  refine Agree.bind
    (F := fun c s => let r6 := tkC ns ls fu n c c.toNat s; (Fn.mk a l r r6.1, r6.2))
    (G := fun c s => let r6 := nxC ns ls fu n c c.toNat s; (Fn.mk a l r r6.1, r6.2))
    (tk_nx ns 1 64 s) (fun x s h => by simp only [tkC_stop ns _ _ _ _ _ s h]) (fun x s h => by simp only [nxC_stop0 ns _ _ _ _ _ s h]) (fun c s _ => ?_)
  have := tkC_nxC ns ls fu n c hns c.toNat s
  exact ⟨this.1, fun h => by simp only [this.2 h]⟩
theorem tkFs_stop (k : Nat) (s : Nat × Bool) (h : s.2 = true) : (tkFs ns ls fu k s).2 = s := by
  induction k with
  | zero => rfl
  | succ k ih => simp only [tkFs, ih]; exact tkF_stop ns ls fu _ s h
theorem nxFs_stop0 (k : Nat) (s : Nat × Bool) (h : s.2 = true) : (nxFs ns ls fu k s).2 = s := by
  induction k with
  | zero => rfl
  | succ k ih => simp only [nxFs]; rw [if_pos (by rw [ih]; exact h)]; exact ih
theorem tkFs_nxFs (hns : ∀ j, 0 ≤ ns.getD j 0 ∧ ns.getD j 0 ≤ 255) (k : Nat) (s : Nat × Bool) : Agree (tkFs ns ls fu k s) (nxFs ns ls fu k s) := by
  induction k with
  | zero => exact ⟨rfl, fun _ => rfl⟩
  | succ k ih =>
    refine Agree.bind (F := fun l s => (l ++ [(tkF ns ls fu (k == 0) s).1], (tkF ns ls fu (k == 0) s).2)) (G := fun l s => if s.2 = true then (l, s) else (l ++ [(nxF ns ls fu (k == 0) s).1], (nxF ns ls fu (k == 0) s).2)) ih
      (fun x s h => tkF_stop ns ls fu _ s h) (fun x s h => by simp only [h, if_true]) (fun x s h => ?_)
    have := tkF_nxF ns ls fu hns (k == 0) s
    rw [if_neg (by simp [h])]
    exact ⟨this.1, fun h => by simp only [this.2 h]⟩
end
theorem tkT_stop (ns : List Int) (n : Int) (k : Nat) (s : Nat × Bool) (h : s.2 = true) : (tkT ns n k s).2 = s := by
  induction k with
  | zero => rfl
  | succ k ih => simp only [tkT, ih, tk_stop ns _ _ s h, tkL_stop ns _ _ s h]
theorem nxT_stop (ns : List Int) (n : Int) (k : Nat) (s : Nat × Bool) (h : s.2 = true) : (nxT ns n k s).2 = s := by
  induction k with
  | zero => rfl
  | succ k ih => simp only [nxT, ih, nx_stop ns _ _ s h, nxL_stop ns _ _ s h]
theorem tkT_nxT (ns : List Int) (n : Int) (k : Nat) (s : Nat × Bool) : Agree (tkT ns n k s) (nxT ns n k s) := by
  induction k with
  | zero => exact ⟨rfl, fun _ => rfl⟩
  | succ k ih =>
    refine Agree.bind (F := fun l s => let c := tk ns 0 5 s; let m := tkL ns n c.1.toNat c.2; (l ++ [m.1], m.2)) (G := fun l s => let c := nx ns 0 5 s; let m := nxL ns n c.1.toNat c.2; (l ++ [m.1], m.2)) ih
      (fun x s h => by simp only [tk_stop ns _ _ s h, tkL_stop ns _ _ s h]) (fun x s h => by simp only [nx_stop ns _ _ s h, nxL_stop ns _ _ s h]) (fun l s _ => ?_)
    refine Agree.bind (F := fun c s => let m := tkL ns n c.toNat s; (l ++ [m.1], m.2)) (G := fun c s => let m := nxL ns n c.toNat s; (l ++ [m.1], m.2)) (tk_nx ns 0 5 s)
      (fun x s h => by simp only [tkL_stop ns _ _ s h]) (fun x s h => by simp only [nxL_stop ns _ _ s h]) (fun c s _ => ?_)
    have := tkL_nxL ns n c.toNat s
    exact ⟨this.1, fun h => by simp only [this.2 h]⟩

def nxPg (ns : List Int) (s : Nat × Bool) : Pg × (Nat × Bool) :=
  let r0 := nx ns 0 6 s
  let r1 := nxT ns r0.1 r0.1.toNat r0.2
  let r2 := nx ns 1 6 r1.2
  let r3 := nxFs ns r1.1 r2.1 r2.1.toNat r2.2
  (⟨r1.1, r3.1⟩, r3.2)
theorem tkP_nxPg (ns : List Int) (hns : ∀ j, 0 ≤ ns.getD j 0 ∧ ns.getD j 0 ≤ 255) (s : Nat × Bool) : Agree (tkP ns s) (nxPg ns s) := by
  refine Agree.bind
    (F := fun n s => let r1 := tkT ns n n.toNat s; let r2 := tk ns 1 6 r1.2; let r3 := tkFs ns r1.1 r2.1 r2.1.toNat r2.2; (Pg.mk r1.1 r3.1, r3.2))
    (G := fun n s => let r1 := nxT ns n n.toNat s; let r2 := nx ns 1 6 r1.2; let r3 := nxFs ns r1.1 r2.1 r2.1.toNat r2.2; (Pg.mk r1.1 r3.1, r3.2))
    (tk_nx ns 0 6 s) (fun x s h => by simp only [tkT_stop ns _ _ s h, tk_stop ns _ _ s h, tkFs_stop ns _ _ _ s h]) (fun x s h => by simp only [nxT_stop ns _ _ s h, nx_stop ns _ _ s h, nxFs_stop0 ns _ _ _ s h]) (fun n s _ => ?_)
  refine Agree.bind
    (F := fun ls s => let r2 := tk ns 1 6 s; let r3 := tkFs ns ls r2.1 r2.1.toNat r2.2; (Pg.mk ls r3.1, r3.2))
    (G := fun ls s => let r2 := nx ns 1 6 s; let r3 := nxFs ns ls r2.1 r2.1.toNat r2.2; (Pg.mk ls r3.1, r3.2))
    (tkT_nxT ns n _ s) (fun x s h => by simp only [tk_stop ns _ _ s h, tkFs_stop ns _ _ _ s h]) (fun x s h => by simp only [nx_stop ns _ _ s h, nxFs_stop0 ns _ _ _ s h]) (fun ls s _ => ?_)
  refine Agree.bind
    (F := fun c s => let r3 := tkFs ns ls c c.toNat s; (Pg.mk ls r3.1, r3.2))
    (G := fun c s => let r3 := nxFs ns ls c c.toNat s; (Pg.mk ls r3.1, r3.2))
    (tk_nx ns 1 6 s) (fun x s h => by simp only [tkFs_stop ns _ _ _ s h]) (fun x s h => by simp only [nxFs_stop0 ns _ _ _ s h]) (fun c s _ => ?_)
  have := tkFs_nxFs ns ls c hns c.toNat s
  exact ⟨this.1, fun h => by simp only [this.2 h]⟩

theorem bl_byte (s : ByteArray) (j : Nat) : 0 ≤ (bl s).getD j 0 ∧ (bl s).getD j 0 ≤ 255 := by
  by_cases h : j < s.size
  · rw [bl_get s j h]; have := s[j].toNat_lt; omega
  · rw [List.getD_eq_getElem?_getD, List.getElem?_eq_none (by rw [bl_len]; omega)]; decide

theorem opn_nxD (s : ByteArray) : opn s = nxD s := by
  unfold opn nxD
  by_cases h : 800 < s.size
  · rw [if_pos h, if_pos h]
  · rw [if_neg h, if_neg h]
    obtain ⟨h1, h2⟩ := tkP_nxPg (bl s) (bl_byte s) (0, false)
    have e : nxP s = if (nxPg (bl s) (0, false)).2.2 = true ∨ (nxPg (bl s) (0, false)).2.1 < s.size then (2, ((nxPg (bl s) (0, false)).2.1 : Int), ⟨[], []⟩) else (0, 0, (nxPg (bl s) (0, false)).1) := rfl
    have e2 : rdP (bl s) = if (tkP (bl s) (0, false)).2.2 = true ∨ (tkP (bl s) (0, false)).2.1 < (bl s).length then (2, ((tkP (bl s) (0, false)).2.1 : Int), ⟨[], []⟩) else (0, 0, (tkP (bl s) (0, false)).1) := rfl
    rw [e, e2, h1, bl_len]
    by_cases hc : (nxPg (bl s) (0, false)).2.2 = true ∨ (nxPg (bl s) (0, false)).2.1 < s.size
    · rw [if_pos hc, if_pos hc]
    · rw [if_neg hc, if_neg hc, h2 (by cases hb : (nxPg (bl s) (0, false)).2.2 with | true => exact absurd (.inl hb) hc | false => rfl)]
end Go.Proofs.Ytnfnbcbadakofaa
