import Derived.Test.YtnfnbcbadakofaaRaft
namespace Go.Proofs.Ytnfnbcbadakofaa
open Go.RowKit

/-- an instruction with a stack with which it is come to -/
inductive Reach (n : Nat) (aft : Nat → List Int → Option (List Int)) (wy : Nat → List Int) : Nat → List Int → Prop
  | zero : Reach n aft wy 0 []
  | step {i : Nat} {s t : List Int} {k : Int} : Reach n aft wy i s → aft i s = some t → k ∈ wy i → 0 ≤ k → k < (n : Int) → Reach n aft wy k.toNat t

abbrev Spots := List (Option (List Int))

/-- what an instruction that has a stack hands on is there -/
def Clo (n : Nat) (aft : Nat → List Int → Option (List Int)) (wy : Nat → List Int) (sp : Spots) (i : Nat) : Prop :=
  ∀ s, sp[i]? = some (some s) → ∃ t, aft i s = some t ∧ ∀ k ∈ wy i, 0 ≤ k ∧ k < (n : Int) ∧ sp[k.toNat]? = some (some t)

structure Sol (n : Nat) (aft : Nat → List Int → Option (List Int)) (wy : Nat → List Int) (sp : Spots) : Prop where
  len : sp.length = n
  zero : sp[0]? = some (some [])
  clo : ∀ i, Clo n aft wy sp i

def Snd (n : Nat) (aft : Nat → List Int → Option (List Int)) (wy : Nat → List Int) (sp : Spots) : Prop := ∀ i s, sp[i]? = some (some s) → Reach n aft wy i s

theorem Sol.of {n : Nat} {aft : Nat → List Int → Option (List Int)} {wy : Nat → List Int} {sp : Spots} (h : Sol n aft wy sp) {i : Nat} {s : List Int} (hr : Reach n aft wy i s) : sp[i]? = some (some s) := by
  induction hr with
  | zero => exact h.zero
  | step _ ha hk _ _ ih =>
    obtain ⟨t', h1, h2⟩ := h.clo _ _ ih
    rw [ha] at h1
    cases h1
    exact (h2 _ hk).2.2

theorem Sol.one {n : Nat} {aft : Nat → List Int → Option (List Int)} {wy : Nat → List Int} {sp sp' : Spots} (h : Sol n aft wy sp) (hs : Snd n aft wy sp) (h' : Sol n aft wy sp') (hs' : Snd n aft wy sp') : sp = sp' := by
  apply List.ext_getElem?
  intro i
  rcases Nat.lt_or_ge i n with hi | hi
  · have l1 : i < sp.length := by rw [h.len]; exact hi
    have l2 : i < sp'.length := by rw [h'.len]; exact hi
    have e1 := List.getElem?_eq_getElem l1
    have e2 := List.getElem?_eq_getElem l2
    rcases h1 : sp[i]'l1 with _ | s
    · rcases h2 : sp'[i]'l2 with _ | s
      · rw [e1, e2, h1, h2]
      · rw [h2] at e2
        rw [h.of (hs' _ _ e2), e2]
    · rw [h1] at e1
      rw [e1, h'.of (hs _ _ e1)]
  · rw [List.getElem?_eq_none (by rw [h.len]; exact hi), List.getElem?_eq_none (by rw [h'.len]; exact hi)]

/-- something that is come to does not fit -/
def Bad (n : Nat) (aft : Nat → List Int → Option (List Int)) (wy : Nat → List Int) : Prop :=
  ∃ i s, Reach n aft wy i s ∧ (aft i s = none ∨ ∃ t k, aft i s = some t ∧ k ∈ wy i ∧ (k < 0 ∨ (n : Int) ≤ k ∨ ∃ u, u ≠ t ∧ Reach n aft wy k.toNat u))

theorem Bad.no {n : Nat} {aft : Nat → List Int → Option (List Int)} {wy : Nat → List Int} (h : Bad n aft wy) {sp : Spots} (hs : Sol n aft wy sp) : False := by
  obtain ⟨i, s, hr, h⟩ := h
  obtain ⟨t', h1, h2⟩ := hs.clo i s (hs.of hr)
  rcases h with h | ⟨t, k, ha, hk, h⟩
  · rw [h] at h1; cases h1
  · rw [ha] at h1; cases h1
    obtain ⟨a, b, c⟩ := h2 k hk
    rcases h with h | h | ⟨u, hu, hr'⟩
    · omega
    · omega
    · have := hs.of hr'
      rw [c] at this
      simp only [Option.some.injEq] at this
      exact hu this.symm

def cnt (sp : Spots) : Nat := sp.countP Option.isSome

theorem cnt_set {sp : Spots} {k : Nat} (t : List Int) (h : sp[k]? = some none) : cnt (sp.set k (some t)) = cnt sp + 1 := by
  unfold cnt
  induction sp generalizing k with
  | nil => simp at h
  | cons x c ih =>
    rcases k with _ | k
    · simp at h; subst h; simp
    · have := ih (k := k) (by simpa using h)
      simp only [List.set_cons_succ, List.countP_cons, this]; omega

theorem set_self {sp : Spots} {k : Nat} {t : List Int} (h : sp[k]? = some (some t)) : sp.set k (some t) = sp := by
  apply List.ext_getElem?
  intro i
  rw [List.getElem?_set]
  split
  · subst_vars
    split
    · exact h.symm
    · rename_i h1; rw [List.getElem?_eq_none (by omega)] at h; cases h
  · rfl

/-- a stack is handed to instructions: the document -/
def put (n : Nat) (t : List Int) : Spots → List Int → Option Spots
  | sp, [] => some sp
  | sp, k :: ks => if (n : Int) ≤ k then none else
    match sp.getD k.toNat none with
    | some u => if u == t then put n t (sp.set k.toNat (some t)) ks else none
    | none => put n t (sp.set k.toNat (some t)) ks

theorem getD_some {sp : Spots} {k : Nat} (hk : k < sp.length) {x : Option (List Int)} (h : sp.getD k none = x) : sp[k]? = some x := by
  rw [List.getD_eq_getElem?_getD, List.getElem?_eq_getElem hk] at h
  rw [List.getElem?_eq_getElem hk]
  simpa using h

theorem put_ok {n : Nat} {t : List Int} {ks : List Int} (h0 : ∀ k ∈ ks, 0 ≤ k) : ∀ {sp sp' : Spots}, sp.length = n → put n t sp ks = some sp' →
    sp'.length = n ∧ (∀ (i : Nat) s, sp[i]? = some (some s) → sp'[i]? = some (some s)) ∧ (∀ k ∈ ks, k < (n : Int) ∧ sp'[k.toNat]? = some (some t)) ∧
    (∀ (i : Nat) s, sp'[i]? = some (some s) → sp[i]? = some (some s) ∨ (s = t ∧ ∃ k ∈ ks, k < (n : Int) ∧ k.toNat = i)) ∧ cnt sp ≤ cnt sp' ∧ (cnt sp' ≤ cnt sp → sp' = sp) := by
  induction ks with
  | nil =>
    intro sp sp' hl h
    simp only [put, Option.some.injEq] at h
    subst h
    exact ⟨hl, fun _ _ h => h, fun k hk => by simp at hk, fun _ _ h => .inl h, Nat.le_refl _, fun _ => rfl⟩
  | cons k ks ih =>
    intro sp sp' hl h
    have hk0 := h0 k (by simp)
    have ih := @ih (fun k hk => h0 k (by simp [hk]))
    unfold put at h
    by_cases hn : (n : Int) ≤ k
    · rw [if_pos hn] at h; cases h
    rw [if_neg hn] at h
    have hkl : k.toNat < sp.length := by omega
    rcases hg : sp.getD k.toNat none with _ | u
    · rw [hg] at h
      have e := getD_some hkl hg
      obtain ⟨a1, a2, a3, a4, a5, a6⟩ := ih (by simpa using hl) h
      have c1 := cnt_set t e
      refine ⟨a1, fun i s hs => a2 i s ?_, ?_, fun i s hs => ?_, by omega, fun hc => by omega⟩
      · rw [List.getElem?_set]
        split
        · subst_vars; rw [e] at hs; cases hs
        · exact hs
      · intro j hj
        rcases List.mem_cons.1 hj with rfl | hj
        · exact ⟨by omega, a2 _ _ (by rw [List.getElem?_set]; simp [hkl])⟩
        · exact a3 j hj
      · rcases a4 i s hs with hh | ⟨hh, j, hj, hjn, hji⟩
        · rw [List.getElem?_set] at hh
          split at hh
          · subst_vars
            simp only [Option.some.injEq] at hh
            exact .inr ⟨hh.symm, k, by simp, by omega, rfl⟩
          · exact .inl hh
        · exact .inr ⟨hh, j, by simp [hj], hjn, hji⟩
    · rw [hg] at h
      have e := getD_some hkl hg
      by_cases hut : (u == t) = true
      · simp only [hut, if_true] at h
        have hut' : u = t := by simpa using hut
        subst hut'
        rw [set_self e] at h
        obtain ⟨a1, a2, a3, a4, a5, a6⟩ := ih hl h
        refine ⟨a1, a2, ?_, fun i s hs => ?_, a5, a6⟩
        · intro j hj
          rcases List.mem_cons.1 hj with rfl | hj
          · exact ⟨by omega, a2 _ _ e⟩
          · exact a3 j hj
        · rcases a4 i s hs with hh | ⟨hh, j, hj, hjn, hji⟩
          · exact .inl hh
          · exact .inr ⟨hh, j, by simp [hj], hjn, hji⟩
      · simp only [hut] at h
        simp at h

theorem put_bad {n : Nat} {t : List Int} {ks : List Int} (h0 : ∀ k ∈ ks, 0 ≤ k) : ∀ {sp : Spots}, sp.length = n → put n t sp ks = none →
    ∃ k ∈ ks, (n : Int) ≤ k ∨ ∃ u, u ≠ t ∧ sp[k.toNat]? = some (some u) := by
  induction ks with
  | nil => intro sp _ h; simp [put] at h
  | cons k ks ih =>
    intro sp hl h
    have hk0 := h0 k (by simp)
    have ih := @ih (fun k hk => h0 k (by simp [hk]))
    unfold put at h
    by_cases hn : (n : Int) ≤ k
    · exact ⟨k, by simp, .inl hn⟩
    rw [if_neg hn] at h
    have hkl : k.toNat < sp.length := by omega
    have next : put n t (sp.set k.toNat (some t)) ks = none → ∃ k' ∈ k :: ks, (n : Int) ≤ k' ∨ ∃ u, u ≠ t ∧ sp[k'.toNat]? = some (some u) := by
      intro h
      obtain ⟨j, hj, hh⟩ := ih (by simpa using hl) h
      refine ⟨j, by simp [hj], ?_⟩
      rcases hh with hh | ⟨u, hu, hh⟩
      · exact .inl hh
      · refine .inr ⟨u, hu, ?_⟩
        rw [List.getElem?_set] at hh
        split at hh
        · simp only [Option.some.injEq] at hh; exact absurd hh.symm hu
        · exact hh
    rcases hg : sp.getD k.toNat none with _ | u
    · rw [hg] at h; exact next h
    · rw [hg] at h
      have e := getD_some hkl hg
      by_cases hut : (u == t) = true
      · simp only [hut, if_true] at h; exact next h
      · exact ⟨k, by simp, .inr ⟨u, by simpa using hut, e⟩⟩

/-- a round of the document's, from instruction i on -/
def rnd (n : Nat) (aft : Nat → List Int → Option (List Int)) (wy : Nat → List Int) : Nat → Nat → Spots → Option Spots
  | 0, _, sp => some sp
  | c + 1, i, sp =>
    match sp.getD i none with
    | none => rnd n aft wy c (i + 1) sp
    | some s => match aft i s with
      | none => none
      | some t => match put n t sp (wy i) with
        | none => none
        | some sp' => rnd n aft wy c (i + 1) sp'

def rnds (n : Nat) (aft : Nat → List Int → Option (List Int)) (wy : Nat → List Int) : Nat → Spots → Option Spots
  | 0, sp => some sp
  | c + 1, sp => match rnd n aft wy n 0 sp with
    | none => none
    | some sp' => rnds n aft wy c sp'

theorem rnd_ok {n : Nat} {aft : Nat → List Int → Option (List Int)} {wy : Nat → List Int} (h0 : ∀ i, ∀ k ∈ wy i, 0 ≤ k) : ∀ (c i : Nat) {sp sp' : Spots}, sp.length = n → i + c = n → Snd n aft wy sp → rnd n aft wy c i sp = some sp' →
    sp'.length = n ∧ (∀ (j : Nat) s, sp[j]? = some (some s) → sp'[j]? = some (some s)) ∧ Snd n aft wy sp' ∧ cnt sp ≤ cnt sp' ∧ (cnt sp' ≤ cnt sp → sp' = sp ∧ ∀ j, i ≤ j → Clo n aft wy sp j) := by
  intro c
  induction c with
  | zero =>
    intro i sp sp' hl hi hs h
    simp only [rnd, Option.some.injEq] at h
    subst h
    refine ⟨hl, fun _ _ h => h, hs, Nat.le_refl _, fun _ => ⟨rfl, fun j hj s hjs => ?_⟩⟩
    rw [List.getElem?_eq_none (by omega)] at hjs; cases hjs
  | succ c ih =>
    intro i sp sp' hl hi hs h
    have hil : i < sp.length := by omega
    unfold rnd at h
    rcases hg : sp.getD i none with _ | s
    · rw [hg] at h
      obtain ⟨a1, a2, a3, a4, a5⟩ := ih (i + 1) hl (by omega) hs h
      refine ⟨a1, a2, a3, a4, fun hc => ⟨(a5 hc).1, fun j hj => ?_⟩⟩
      rcases Nat.lt_or_ge i j with hij | hij
      · exact (a5 hc).2 j hij
      · have : j = i := by omega
        subst this
        intro s hjs
        rw [getD_some hil hg] at hjs; cases hjs
    · rw [hg] at h
      have e := getD_some hil hg
      rcases ha : aft i s with _ | t
      · simp only [ha] at h; cases h
      · simp only [ha] at h
        rcases hp : put n t sp (wy i) with _ | sp1
        · simp only [hp] at h; cases h
        · simp only [hp] at h
          obtain ⟨p1, p2, p3, p4, p5, p6⟩ := put_ok (h0 i) hl hp
          have hs1 : Snd n aft wy sp1 := by
            intro j u hj
            rcases p4 j u hj with hj | ⟨rfl, k, hk, hkn, rfl⟩
            · exact hs j u hj
            · exact .step (hs i s e) ha hk (h0 i k hk) hkn
          obtain ⟨a1, a2, a3, a4, a5⟩ := ih (i + 1) p1 (by omega) hs1 h
          refine ⟨a1, fun j u hj => a2 j u (p2 j u hj), a3, by omega, fun hc => ?_⟩
          have e1 := p6 (by omega)
          obtain ⟨b1, b2⟩ := a5 (by omega)
          subst e1
          refine ⟨b1, fun j hj => ?_⟩
          rcases Nat.lt_or_ge i j with hij | hij
          · exact b2 j hij
          · have : j = i := by omega
            subst this
            intro u hju
            rw [e] at hju
            simp only [Option.some.injEq] at hju
            subst hju
            exact ⟨t, ha, fun k hk => ⟨h0 j k hk, (p3 k hk).1, (p3 k hk).2⟩⟩

theorem rnd_bad {n : Nat} {aft : Nat → List Int → Option (List Int)} {wy : Nat → List Int} (h0 : ∀ i, ∀ k ∈ wy i, 0 ≤ k) : ∀ (c i : Nat) {sp : Spots}, sp.length = n → i + c = n → Snd n aft wy sp → rnd n aft wy c i sp = none → Bad n aft wy := by
  intro c
  induction c with
  | zero => intro i sp _ _ _ h; simp [rnd] at h
  | succ c ih =>
    intro i sp hl hi hs h
    have hil : i < sp.length := by omega
    unfold rnd at h
    rcases hg : sp.getD i none with _ | s
    · rw [hg] at h
      exact ih (i + 1) hl (by omega) hs h
    · rw [hg] at h
      have e := getD_some hil hg
      rcases ha : aft i s with _ | t
      · exact ⟨i, s, hs i s e, .inl ha⟩
      · simp only [ha] at h
        rcases hp : put n t sp (wy i) with _ | sp1
        · obtain ⟨k, hk, hh⟩ := put_bad (h0 i) hl hp
          refine ⟨i, s, hs i s e, .inr ⟨t, k, ha, hk, ?_⟩⟩
          rcases hh with hh | ⟨u, hu, hh⟩
          · exact .inr (.inl hh)
          · exact .inr (.inr ⟨u, hu, hs _ _ hh⟩)
        · simp only [hp] at h
          obtain ⟨p1, p2, p3, p4, p5, p6⟩ := put_ok (h0 i) hl hp
          have hs1 : Snd n aft wy sp1 := by
            intro j u hj
            rcases p4 j u hj with hj | ⟨rfl, k, hk, hkn, rfl⟩
            · exact hs j u hj
            · exact .step (hs i s e) ha hk (h0 i k hk) hkn
          exact ih (i + 1) p1 (by omega) hs1 h

theorem rnds_bad {n : Nat} {aft : Nat → List Int → Option (List Int)} {wy : Nat → List Int} (h0 : ∀ i, ∀ k ∈ wy i, 0 ≤ k) : ∀ (c : Nat) {sp : Spots}, sp.length = n → Snd n aft wy sp → rnds n aft wy c sp = none → Bad n aft wy := by
  intro c
  induction c with
  | zero => intro sp _ _ h; simp [rnds] at h
  | succ c ih =>
    intro sp hl hs h
    unfold rnds at h
    rcases hr : rnd n aft wy n 0 sp with _ | sp1
    · exact rnd_bad h0 n 0 hl (by omega) hs hr
    · simp only [hr] at h
      obtain ⟨a1, _, a3, _⟩ := rnd_ok h0 n 0 hl (by omega) hs hr
      exact ih a1 a3 h

theorem put_id {n : Nat} {t : List Int} {ks : List Int} {sp : Spots} (_hl : sp.length = n) (h : ∀ k ∈ ks, 0 ≤ k ∧ k < (n : Int) ∧ sp[k.toNat]? = some (some t)) : put n t sp ks = some sp := by
  induction ks with
  | nil => rfl
  | cons k ks ih =>
    obtain ⟨a, b, c⟩ := h k (by simp)
    unfold put
    rw [if_neg (by omega)]
    have : sp.getD k.toNat none = some t := by rw [List.getD_eq_getElem?_getD, c]; rfl
    rw [this]
    simp only [beq_self_eq_true, if_true]
    rw [set_self c]
    exact ih (fun k hk => h k (by simp [hk]))

theorem rnd_id {n : Nat} {aft : Nat → List Int → Option (List Int)} {wy : Nat → List Int} {sp : Spots} (hl : sp.length = n) (h : ∀ j, Clo n aft wy sp j) : ∀ (c i : Nat), i + c = n → rnd n aft wy c i sp = some sp := by
  intro c
  induction c with
  | zero => intro i _; rfl
  | succ c ih =>
    intro i hi
    unfold rnd
    rcases hg : sp.getD i none with _ | s
    · exact ih (i + 1) (by omega)
    · have e := getD_some (by omega) hg
      obtain ⟨t, ha, hk⟩ := h i s e
      simp only [ha, put_id hl hk]
      exact ih (i + 1) (by omega)

theorem rnds_id {n : Nat} {aft : Nat → List Int → Option (List Int)} {wy : Nat → List Int} {sp : Spots} (hl : sp.length = n) (h : ∀ j, Clo n aft wy sp j) : ∀ (c : Nat), rnds n aft wy c sp = some sp := by
  intro c
  induction c with
  | zero => rfl
  | succ c ih => unfold rnds; rw [rnd_id hl h n 0 (by omega)]; exact ih

theorem rnds_ok {n : Nat} {aft : Nat → List Int → Option (List Int)} {wy : Nat → List Int} (h0 : ∀ i, ∀ k ∈ wy i, 0 ≤ k) : ∀ (c : Nat) {sp sp' : Spots}, sp.length = n → Snd n aft wy sp → rnds n aft wy c sp = some sp' →
    sp'.length = n ∧ (∀ (j : Nat) s, sp[j]? = some (some s) → sp'[j]? = some (some s)) ∧ Snd n aft wy sp' ∧ ((∀ j, Clo n aft wy sp' j) ∨ cnt sp + c ≤ cnt sp') := by
  intro c
  induction c with
  | zero =>
    intro sp sp' hl hs h
    simp only [rnds, Option.some.injEq] at h
    subst h
    exact ⟨hl, fun _ _ h => h, hs, .inr (Nat.le_refl _)⟩
  | succ c ih =>
    intro sp sp' hl hs h
    unfold rnds at h
    rcases hr : rnd n aft wy n 0 sp with _ | sp1
    · simp only [hr] at h; cases h
    · simp only [hr] at h
      obtain ⟨a1, a2, a3, a4, a5⟩ := rnd_ok h0 n 0 hl (by omega) hs hr
      obtain ⟨b1, b2, b3, b4⟩ := ih a1 a3 h
      refine ⟨b1, fun j s hj => b2 j s (a2 j s hj), b3, ?_⟩
      by_cases hc : cnt sp1 ≤ cnt sp
      · obtain ⟨rfl, hcl⟩ := a5 hc
        have hcl : ∀ j, Clo n aft wy sp1 j := fun j => hcl j (Nat.zero_le _)
        rw [rnds_id hl hcl c] at h
        simp only [Option.some.injEq] at h
        subst h
        exact .inl hcl
      · rcases b4 with b4 | b4
        · exact .inl b4
        · exact .inr (by omega)

/-- the document's: a solution, or none there is -/
theorem doc_fit {n : Nat} {aft : Nat → List Int → Option (List Int)} {wy : Nat → List Int} (h0 : ∀ i, ∀ k ∈ wy i, 0 ≤ k) (hn : 0 < n) :
    (∀ sp, rnds n aft wy (n + 1) ((List.replicate n none).set 0 (some [])) = some sp → Sol n aft wy sp ∧ Snd n aft wy sp) ∧ (rnds n aft wy (n + 1) ((List.replicate n none).set 0 (some [])) = none → Bad n aft wy) := by
  have hl : ((List.replicate n (none : Option (List Int))).set 0 (some [])).length = n := by simp
  have hz : ((List.replicate n (none : Option (List Int))).set 0 (some []))[0]? = some (some []) := by rw [List.getElem?_set]; simp [hn]
  have hs : Snd n aft wy ((List.replicate n (none : Option (List Int))).set 0 (some [])) := by
    intro i s h
    rw [List.getElem?_set] at h
    split at h
    · subst_vars
      split at h
      · simp only [Option.some.injEq] at h; subst h; exact .zero
      · cases h
    · rw [List.getElem?_replicate] at h; split at h <;> simp at h
  refine ⟨fun sp h => ?_, fun h => rnds_bad h0 _ hl hs h⟩
  obtain ⟨a1, a2, a3, a4⟩ := rnds_ok h0 _ hl hs h
  have hc : cnt sp ≤ n := by rw [← a1]; exact List.countP_le_length
  rcases a4 with a4 | a4
  · exact ⟨⟨a1, a2 0 [] hz, a4⟩, a3⟩
  · omega

end Go.Proofs.Ytnfnbcbadakofaa
