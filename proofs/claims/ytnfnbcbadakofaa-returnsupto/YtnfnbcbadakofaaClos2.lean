import Derived.Test.YtnfnbcbadakofaaClos
namespace Go.Proofs.Ytnfnbcbadakofaa
open Go.RowKit

abbrev Fits := Spots × List Int × Bool

def gos (t : List Int) (st : Fits) (ks : List Int) : Fits := ks.foldl (fun st k => goP st.1 st.2.1 st.2.2 k t) st

/-- the queue holds the instructions that have a stack -/
structure QI (sp : Spots) (q : List Int) : Prop where
  len : q.length = cnt sp
  mem : ∀ (i : Nat) s, sp[i]? = some (some s) → (i : Int) ∈ q
  has : ∀ j ∈ q, 0 ≤ j ∧ ∃ s, sp[j.toNat]? = some (some s)

theorem goP_wr (sp : Spots) (q : List Int) (k : Int) (t : List Int) : (goP sp q true k t).2.2 = true := by
  unfold goP; repeat' split
  all_goals rfl
theorem gos_wr (t : List Int) (ks : List Int) : ∀ (st : Fits), st.2.2 = true → (gos t st ks).2.2 = true := by
  induction ks with
  | nil => intro st h; exact h
  | cons k ks ih =>
    intro st h
    obtain ⟨sp, q, wr⟩ := st
    simp only at h; subst h
    exact ih _ (goP_wr sp q k t)

theorem QI.push {sp : Spots} {q : List Int} (h : QI sp q) {k : Int} (hk : 0 ≤ k) (t : List Int) (e : sp[k.toNat]? = some none) : QI (sp.set k.toNat (some t)) (q ++ [k]) := by
  have hkl : k.toNat < sp.length := by
    rcases Nat.lt_or_ge k.toNat sp.length with h | h
    · exact h
    · rw [List.getElem?_eq_none h] at e; cases e
  refine ⟨by rw [cnt_set t e, List.length_append, h.len]; rfl, fun i s hs => ?_, fun j hj => ?_⟩
  · rw [List.getElem?_set] at hs
    split at hs
    · rename_i hki
      rw [List.mem_append]; right; simp; omega
    · rw [List.mem_append]; exact .inl (h.mem i s hs)
  · rcases List.mem_append.1 hj with hj | hj
    · obtain ⟨a, s, b⟩ := h.has j hj
      refine ⟨a, s, ?_⟩
      rw [List.getElem?_set]
      split
      · rename_i hh; rw [← hh, e] at b; cases b
      · exact b
    · simp at hj; subst hj
      exact ⟨hk, t, by rw [List.getElem?_set]; simp [hkl]⟩

theorem gos_put {n : Nat} {t : List Int} {ks : List Int} (h0 : ∀ k ∈ ks, 0 ≤ k) : ∀ {sp : Spots} {q : List Int}, sp.length = n → QI sp q →
    (∀ sp', put n t sp ks = some sp' → ∃ e, gos t (sp, q, false) ks = (sp', q ++ e, false) ∧ QI sp' (q ++ e)) ∧ (put n t sp ks = none → (gos t (sp, q, false) ks).2.2 = true) := by
  induction ks with
  | nil =>
    intro sp q hl hq
    refine ⟨fun sp' h => ?_, fun h => by simp [put] at h⟩
    simp only [put, Option.some.injEq] at h
    subst h
    exact ⟨[], by simp [gos], by simpa using hq⟩
  | cons k ks ih =>
    intro sp q hl hq
    have hk0 := h0 k (by simp)
    have ih := @ih (fun k hk => h0 k (by simp [hk]))
    have eg : gos t (sp, q, false) (k :: ks) = gos t (goP sp q false k t) ks := rfl
    rw [eg]
    unfold put
    by_cases hn : (n : Int) ≤ k
    · rw [if_pos hn]
      refine ⟨fun sp' h => (by cases h), fun _ => gos_wr _ _ _ ?_⟩
      unfold goP; rw [if_pos (.inr (by omega))]
    rw [if_neg hn]
    have hkl : k.toNat < sp.length := by omega
    have gp : goP sp q false k t = match sp.getD k.toNat none with
      | none => (sp.set k.toNat (some t), q ++ [k], false)
      | some s => if s == t then (sp, q, false) else (sp, q, true) := by
      unfold goP; rw [if_neg (by omega)]; rfl
    rw [gp]
    rcases hg : sp.getD k.toNat none with _ | u
    · have e := getD_some hkl hg
      obtain ⟨a, b⟩ := ih (by simpa using hl) (hq.push hk0 t e)
      refine ⟨fun sp' h => ?_, b⟩
      obtain ⟨e', h1, h2⟩ := a sp' h
      exact ⟨k :: e', by simpa using h1, by simpa using h2⟩
    · have e := getD_some hkl hg
      by_cases hut : (u == t) = true
      · simp only [hut, if_true]
        have hut' : u = t := by simpa using hut
        subst hut'
        rw [set_self e]
        exact ih hl hq
      · simp only [hut]
        refine ⟨fun sp' h => by simp at h, fun _ => gos_wr _ _ _ rfl⟩

/-- instruction i is looked at -/
def passA (aft : Nat → List Int → Option (List Int)) (wy : Nat → List Int) (i : Nat) (st : Fits) : Fits :=
  match st.1.getD i none with
  | none => st
  | some s => match aft i s with
    | none => (st.1, st.2.1, true)
    | some t => gos t st (wy i)

def fitL (aft : Nat → List Int → Option (List Int)) (wy : Nat → List Int) : Nat → Nat → Fits → Fits
  | 0, _, st => st
  | c + 1, k, st => if st.2.2 = true ∨ st.2.1.length ≤ k then st else fitL aft wy c (k + 1) (passA aft wy (st.2.1.getD k 0).toNat st)

structure FI (n : Nat) (aft : Nat → List Int → Option (List Int)) (wy : Nat → List Int) (sp : Spots) (q : List Int) (k : Nat) : Prop where
  len : sp.length = n
  zero : sp[0]? = some (some [])
  snd : Snd n aft wy sp
  qi : QI sp q
  clo : ∀ j x, j < k → q[j]? = some x → Clo n aft wy sp x.toNat

theorem Clo.ext {n : Nat} {aft : Nat → List Int → Option (List Int)} {wy : Nat → List Int} {sp sp' : Spots} {i : Nat} (h : Clo n aft wy sp i) (hi : ∃ s, sp[i]? = some (some s)) (hx : ∀ (j : Nat) s, sp[j]? = some (some s) → sp'[j]? = some (some s)) : Clo n aft wy sp' i := by
  intro u hu
  obtain ⟨s, hs⟩ := hi
  have := hx i s hs
  rw [this] at hu
  simp only [Option.some.injEq] at hu
  subst hu
  obtain ⟨t, ha, hk⟩ := h s hs
  exact ⟨t, ha, fun k hk' => ⟨(hk k hk').1, (hk k hk').2.1, hx _ _ (hk k hk').2.2⟩⟩

theorem FI.sol {n : Nat} {aft : Nat → List Int → Option (List Int)} {wy : Nat → List Int} {sp : Spots} {q : List Int} {k : Nat} (h : FI n aft wy sp q k) (hk : q.length ≤ k) : Sol n aft wy sp := by
  refine ⟨h.len, h.zero, fun i s hs => ?_⟩
  have hm := h.qi.mem i s hs
  obtain ⟨j, hj, e⟩ := List.mem_iff_getElem.1 hm
  have := h.clo j (i : Int) (by omega) (by rw [List.getElem?_eq_getElem hj, e])
  exact this s (by simpa using hs)

theorem fitL_ok {n : Nat} {aft : Nat → List Int → Option (List Int)} {wy : Nat → List Int} (h0 : ∀ i, ∀ k ∈ wy i, 0 ≤ k) : ∀ (c k : Nat) (sp : Spots) (q : List Int), k + c = n → FI n aft wy sp q k →
    ((fitL aft wy c k (sp, q, false)).2.2 = true → Bad n aft wy) ∧ ((fitL aft wy c k (sp, q, false)).2.2 = false → Sol n aft wy (fitL aft wy c k (sp, q, false)).1 ∧ Snd n aft wy (fitL aft wy c k (sp, q, false)).1) := by
  intro c
  induction c with
  | zero =>
    intro k sp q hk h
    have hc : q.length ≤ n := by rw [h.qi.len, ← h.len]; exact List.countP_le_length
    exact ⟨fun e => by simp [fitL] at e, fun _ => ⟨h.sol (by omega), h.snd⟩⟩
  | succ c ih =>
    intro k sp q hk h
    unfold fitL
    by_cases hq : q.length ≤ k
    · rw [if_pos (.inr hq)]
      exact ⟨fun e => by simp at e, fun _ => ⟨h.sol hq, h.snd⟩⟩
    rw [if_neg (by simp; omega)]
    have hkq : k < q.length := by omega
    have ex : q[k]? = some q[k] := List.getElem?_eq_getElem hkq
    have ed : q.getD k 0 = q[k] := by rw [List.getD_eq_getElem?_getD, ex]; rfl
    obtain ⟨x0, s, hs⟩ := h.qi.has q[k] (List.getElem_mem hkq)
    simp only [ed]
    generalize q[k] = x at *
    unfold passA
    have eg : sp.getD x.toNat none = some s := by rw [List.getD_eq_getElem?_getD, hs]; rfl
    simp only [eg]
    have hr := h.snd _ _ hs
    rcases ha : aft x.toNat s with _ | t
    · have hb : Bad n aft wy := ⟨_, s, hr, .inl ha⟩
      have hw : ∀ c k, (fitL aft wy c k (sp, q, true)).2.2 = true := by
        intro c k
        cases c with
        | zero => rfl
        | succ c => unfold fitL; rw [if_pos (.inl rfl)]
      refine ⟨fun _ => hb, fun e => ?_⟩
      simp only [hw] at e; cases e
    · simp only
      obtain ⟨g1, g2⟩ := gos_put (t := t) (h0 x.toNat) h.len h.qi
      rcases hp : put n t sp (wy x.toNat) with _ | sp1
      · obtain ⟨j, hj, hh⟩ := put_bad (h0 x.toNat) h.len hp
        have hb : Bad n aft wy := by
          refine ⟨_, s, hr, .inr ⟨t, j, ha, hj, ?_⟩⟩
          rcases hh with hh | ⟨u, hu, hh⟩
          · exact .inr (.inl hh)
          · exact .inr (.inr ⟨u, hu, h.snd _ _ hh⟩)
        have hw := g2 hp
        generalize gos t (sp, q, false) (wy x.toNat) = st at *
        have hw' : ∀ c k, (fitL aft wy c k st).2.2 = true := by
          intro c k
          cases c with
          | zero => exact hw
          | succ c => unfold fitL; rw [if_pos (.inl hw)]; exact hw
        refine ⟨fun _ => hb, fun e => ?_⟩
        rw [hw'] at e; cases e
      · obtain ⟨e, g3, g4⟩ := g1 sp1 hp
        rw [g3]
        obtain ⟨p1, p2, p3, p4, p5, p6⟩ := put_ok (h0 x.toNat) h.len hp
        refine ih (k + 1) sp1 (q ++ e) (by omega) ⟨p1, p2 _ _ h.zero, ?_, g4, ?_⟩
        · intro j u hj
          rcases p4 j u hj with hj | ⟨rfl, i, hi, hin, rfl⟩
          · exact h.snd j u hj
          · exact .step hr ha hi (h0 _ _ hi) hin
        · intro j y hj hy
          rw [List.getElem?_append_left (by omega)] at hy
          rcases Nat.lt_or_ge j k with hjk | hjk
          · exact (h.clo j y hjk hy).ext (h.qi.has y (List.mem_of_getElem? hy)).2 p2
          · have : j = k := by omega
            subst this
            rw [ex] at hy
            simp only [Option.some.injEq] at hy
            subst hy
            intro u hu
            rw [p2 _ _ hs] at hu
            simp only [Option.some.injEq] at hu
            subst hu
            exact ⟨t, ha, fun i hi => ⟨h0 _ _ hi, (p3 i hi).1, (p3 i hi).2⟩⟩

/-- both come to one -/
theorem fit_same {n : Nat} {aft : Nat → List Int → Option (List Int)} {wy : Nat → List Int} (h0 : ∀ i, ∀ k ∈ wy i, 0 ≤ k) (hn : 0 < n) :
    ((fitL aft wy n 0 (goP (List.replicate n none) [] false 0 [])).2.2 = true → rnds n aft wy (n + 1) ((List.replicate n none).set 0 (some [])) = none) ∧
    ((fitL aft wy n 0 (goP (List.replicate n none) [] false 0 [])).2.2 = false → rnds n aft wy (n + 1) ((List.replicate n none).set 0 (some [])) = some (fitL aft wy n 0 (goP (List.replicate n none) [] false 0 [])).1) := by
  have e0 : goP (List.replicate n none) [] false 0 [] = ((List.replicate n none).set 0 (some []), [0], false) := by
    unfold goP; rw [if_neg (by simp; omega)]
    have : (List.replicate n (none : Option (List Int))).getD (0 : Int).toNat none = none := by
      rw [List.getD_eq_getElem?_getD, List.getElem?_replicate]; split <;> rfl
    rw [this]; rfl
  rw [e0]
  have hz : (List.replicate n (none : Option (List Int)))[0]? = some none := by rw [List.getElem?_replicate, if_pos hn]
  have hl : ((List.replicate n (none : Option (List Int))).set 0 (some [])).length = n := by simp
  have hc0 : cnt (List.replicate n none) = 0 := by unfold cnt; rw [List.countP_replicate]; rfl
  have hone : ∀ (i : Nat) s, ((List.replicate n (none : Option (List Int))).set 0 (some []))[i]? = some (some s) → i = 0 ∧ s = [] := by
    intro i s h
    rw [List.getElem?_set] at h
    split at h
    · subst_vars
      split at h
      · simp only [Option.some.injEq] at h; exact ⟨rfl, h.symm⟩
      · cases h
    · rw [List.getElem?_replicate] at h; split at h <;> simp at h
  have hz' : ((List.replicate n (none : Option (List Int))).set 0 (some []))[0]? = some (some []) := by rw [List.getElem?_set]; simp [hn]
  have hfi : FI n aft wy ((List.replicate n none).set 0 (some [])) [0] 0 := by
    refine ⟨hl, hz', fun i s h => ?_, ⟨?_, fun i s h => ?_, fun j hj => ?_⟩, fun j x hj => by omega⟩
    · obtain ⟨rfl, rfl⟩ := hone i s h; exact .zero
    · rw [cnt_set [] hz, hc0]; rfl
    · obtain ⟨rfl, rfl⟩ := hone i s h; simp
    · simp at hj; subst hj; exact ⟨Int.le_refl _, [], hz'⟩
  obtain ⟨a, b⟩ := fitL_ok h0 n 0 _ _ (by omega) hfi
  obtain ⟨c, d⟩ := doc_fit (n := n) (aft := aft) (wy := wy) h0 hn
  refine ⟨fun h => ?_, fun h => ?_⟩
  · rcases hr : rnds n aft wy (n + 1) ((List.replicate n none).set 0 (some [])) with _ | sp
    · rfl
    · exact ((a h).no (c sp hr).1).elim
  · obtain ⟨s1, s2⟩ := b h
    rcases hr : rnds n aft wy (n + 1) ((List.replicate n none).set 0 (some [])) with _ | sp
    · exact ((d hr).no s1).elim
    · obtain ⟨t1, t2⟩ := c sp hr
      rw [t1.one t2 s1 s2]

/-- what pass computes -/
theorem passP_gos (ls : List (List Int)) (fs : List Fn) (f : Fn) (k : Nat) (op A B : Int) (s : List Int) (sp : Spots) (q : List Int) :
    passP ls fs f k (op, A, B) s sp q false = match afterP ls fs f op A B s with
      | none => (sp, q, true)
      | some t => gos t (sp, q, false) (waysP op A k) := by
  unfold passP afterP
  simp only
  generalize ahead ls fs f op A B = N
  generalize hG : behind ls fs f op A B = G
  by_cases h1 : s.length < N.length
  · rw [if_pos (.inl h1), if_pos (.inl h1)]
  by_cases h2 : (s.drop (s.length - N.length) == N) = false
  · rw [if_pos (.inr h2)]
    by_cases h3 : op = 16 ∧ N.length < s.length
    · rw [if_pos (.inr h3)]
    · rw [if_neg (by omega), if_pos h2]
  rw [if_neg (fun e => e.elim h1 h2)]
  by_cases h16 : op = 16
  · subst h16
    rw [if_pos rfl]
    by_cases h3 : N.length < s.length
    · rw [if_pos h3, if_pos (.inr ⟨rfl, h3⟩)]
    · have hr : s.length - N.length = 0 := by omega
      have hG0 : G = [] := by rw [← hG]; simp [behind]
      rw [if_neg h3, if_neg (by omega), if_neg h2, hr, hG0, if_neg (by simp)]
      simp [gos, waysP]
  · have hno : ¬ (s.length < N.length ∨ op = 16 ∧ N.length < s.length) := by omega
    rw [if_neg h16, if_neg hno, if_neg h2]
    by_cases h8 : 8 < (s.take (s.length - N.length) ++ G).length
    · rw [if_pos h8, if_pos h8]
    · rw [if_neg h8, if_neg h8]
      generalize s.take (s.length - N.length) ++ G = L
      simp only
      by_cases h13 : op = 13
      · subst h13; simp [gos, waysP]
      · by_cases h14 : op = 14
        · subst h14; simp [gos, waysP]
        · simp [gos, waysP, h13, h14, h16]

/-- the two plain functions of an instruction list -/
def aftC (ls : List (List Int)) (fs : List Fn) (f : Fn) (i : Nat) (s : List Int) : Option (List Int) := afterP ls fs f (f.code.getD i (0, 0, 0)).1 (f.code.getD i (0, 0, 0)).2.1 (f.code.getD i (0, 0, 0)).2.2 s
def wayC (f : Fn) (i : Nat) : List Int := waysP (f.code.getD i (0, 0, 0)).1 (f.code.getD i (0, 0, 0)).2.1 i

theorem passA_passP (ls : List (List Int)) (fs : List Fn) (f : Fn) (i : Nat) (s : List Int) (sp : Spots) (q : List Int) (h : sp.getD i none = some s) :
    passA (aftC ls fs f) (wayC f) i (sp, q, false) = passP ls fs f i (f.code.getD i (0, 0, 0)) s sp q false := by
  unfold passA
  simp only [h]
  rw [show f.code.getD i (0, 0, 0) = ((f.code.getD i (0, 0, 0)).1, (f.code.getD i (0, 0, 0)).2.1, (f.code.getD i (0, 0, 0)).2.2) from rfl, passP_gos]
  rfl

end Go.Proofs.Ytnfnbcbadakofaa
