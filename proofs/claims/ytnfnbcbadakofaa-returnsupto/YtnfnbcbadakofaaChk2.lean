import Derived.Test.YtnfnbcbadakofaaChk
import Derived.Deep.RegionWith
namespace Go.Proofs.Ytnfnbcbadakofaa
open Go.RowKit

def tyAt (l : List Int) (k : Int) : Int := if k < 0 ∨ (l.length : Int) ≤ k then 0 else l.getD k.toNat 0

set_option maxHeartbeats 400000 in
set_option maxRecDepth 100000 in
theorem typeAt_no (a : Option Addr) (n c : Nat) (k : Int) (w : World) (h : k < 0 ∨ (n : Int) ≤ k) :
    Calls Try.prog 108 #[.slice a n c, .int .i64 k] w fun e w' => e = .returned (.int .i64 0) ∧ w' = w := by
  by_cases h1 : k < 0
  · clear h
    go_enter Try.func108, Try.ntmps108
    go_wp2
    go_ret
    exact ⟨rfl, rfl⟩
  · have h2 : (n : Int) ≤ k := by omega
    clear h
    go_enter Try.func108, Try.ntmps108
    go_wp2
    go_ret
    exact ⟨rfl, rfl⟩

set_option maxHeartbeats 400000 in
set_option maxRecDepth 100000 in
theorem typeAt_yes (g n c j : Nat) (x : Int) (w : World) (h : j < n) (hc : w.cell? ⟨g, j, none⟩ = some (.int .i64 x)) :
    Calls Try.prog 108 #[.slice (some ⟨g, 0, none⟩) n c, .int .i64 (j : Int)] w fun e w' => e = .returned (.int .i64 x) ∧ w' = w := by
  have h' : (j : Int) < n := by omega
  go_enter Try.func108, Try.ntmps108
  go_wp2
  go_ret
  exact ⟨rfl, rfl⟩

theorem typeAt_any (v : Value) (l : List Int) (k : Int) (w : World) (base : Nat) (h : IntsV w base v l) :
    Calls Try.prog 108 #[v, .int .i64 k] w fun e w' => e = .returned (.int .i64 (tyAt l k)) ∧ w' = w := by
  by_cases hk : k < 0 ∨ (l.length : Int) ≤ k
  · obtain ⟨a, c, rfl⟩ := h.slice
    unfold tyAt; rw [if_pos hk]
    exact typeAt_no a _ c k w hk
  · obtain ⟨j, rfl⟩ : ∃ j : Nat, k = (j : Int) := ⟨k.toNat, by omega⟩
    obtain ⟨g, c, rfl, _, _, _, hc⟩ := h.form (by omega)
    unfold tyAt; rw [if_neg hk]
    exact typeAt_yes g _ c j _ w (by omega) (hc j (by omega))

def argsF (fs : List Fn) (f : Int) : List Int :=
  if h : 0 ≤ f ∧ f.toNat < fs.length then (if (fs[f.toNat]'h.2).args < 0 ∨ ((fs[f.toNat]'h.2).locals.length : Int) < (fs[f.toNat]'h.2).args then [] else (fs[f.toNat]'h.2).locals.take (fs[f.toNat]'h.2).args.toNat) else []
def resF (fs : List Fn) (f : Int) : Int := if h : 0 ≤ f ∧ f.toNat < fs.length then (fs[f.toNat]'h.2).result else 0

theorem FuncsV.formS {eF eI : TypeId} {w : World} {base : Nat} {v : Value} {fs : List Fn} (h : FuncsV eF eI w base v fs) (hl : 0 < fs.length) :
    ∃ g cap, v = .slice (some ⟨g, 0, none⟩) fs.length cap ∧ fs.length ≤ cap ∧ (∀ j (hj : j < fs.length), ∃ lv cv, w.cell? ⟨g, j * 4, none⟩ = some (.int .i64 fs[j].args) ∧ w.cell? ⟨g, j * 4 + 1, none⟩ = some lv ∧
      w.cell? ⟨g, j * 4 + 2, none⟩ = some (.int .i64 fs[j].result) ∧ w.cell? ⟨g, j * 4 + 3, none⟩ = some cv ∧ IntsV w base lv fs[j].locals ∧ InsV eI w base cv fs[j].code) := by
  obtain ⟨xs, h0, h, hx⟩ := h
  have hc := fun g => World.ownsRow.cells (g := g) h
  subst h0
  simp only [List.length_map] at *
  rcases h.2 with ⟨_, h0⟩ | ⟨g, cap, cur, rfl, hb, hgg, hle, hcap, _⟩
  · omega
  · refine ⟨g, cap, rfl, hle, fun j hj => ?_⟩
    have hadd : ∀ j, (⟨g, 0, none⟩ : Addr).add j = ⟨g, j, none⟩ := by intro j; unfold Addr.add; split <;> simp_all
    have key : ∀ (c : List (Fn × Value × Value)) (j : Nat) (hj : j < c.length), (fnC c)[j * 4]? = some (.int .i64 c[j].1.args) ∧ (fnC c)[j * 4 + 1]? = some c[j].2.1 ∧ (fnC c)[j * 4 + 2]? = some (.int .i64 c[j].1.result) ∧ (fnC c)[j * 4 + 3]? = some c[j].2.2 := by
      intro c
      induction c with
      | nil => intro j hj; simp at hj
      | cons x c ih =>
        intro j hj
        have e : fnC (x :: c) = .int .i64 x.1.args :: x.2.1 :: .int .i64 x.1.result :: x.2.2 :: fnC c := by simp [fnC]
        rcases j with _ | j
        · rw [e]; simp
        · have := ih j (by simpa using hj)
          rw [e, show (j + 1) * 4 = j * 4 + 4 by omega]
          simpa using this
    obtain ⟨k1, k2, k3, k4⟩ := key xs j hj
    have a1 := hc g rfl _ _ k1
    have a2 := hc g rfl _ _ k2
    have a3 := hc g rfl _ _ k3
    have a4 := hc g rfl _ _ k4
    rw [hadd] at a1 a2 a3 a4
    have hm := hx xs[j] (List.getElem_mem hj)
    exact ⟨xs[j].2.1, xs[j].2.2, by simpa using a1, a2, by simpa using a3, a4, by simpa using hm.1, by simpa using hm.2⟩

theorem IntsV.take {w : World} {base : Nat} {a : Option Addr} {n cap : Nat} {l : List Int} (h : IntsV w base (.slice a n cap) l) (k : Nat) (hk : k ≤ l.length) (hn : a = none → k = 0 ∧ cap = 0) : IntsV w base (.slice a k cap) (l.take k) := by
  have hlen : (l.take k).length = k := by rw [List.length_take]; omega
  unfold IntsV
  rw [hlen]
  refine ⟨by simp; omega, ?_⟩
  rcases h.2 with ⟨hv, _⟩ | ⟨g, cap', cur, hv, hb, hgg, hle, hcap, hcs, htk⟩
  · simp only [Value.slice.injEq] at hv
    obtain ⟨rfl, _, rfl⟩ := hv
    obtain ⟨rfl, _⟩ := hn rfl
    exact .inl ⟨rfl, rfl⟩
  · simp only [Value.slice.injEq] at hv
    obtain ⟨rfl, _, rfl⟩ := hv
    refine .inr ⟨g, cap, cur, rfl, hb, hgg, by omega, hcap, hcs, ?_⟩
    have e := congrArg (List.take k) htk
    simp only [Nat.mul_one, List.take_take] at e ⊢
    rw [Nat.min_eq_left (by omega)] at e
    rw [e]; simp [ints, List.map_take]


/-- the function at a place; one without code where there is none -/
def fnAt (fs : List Fn) (k : Int) : Fn := if h : 0 ≤ k ∧ k.toNat < fs.length then fs[k.toNat]'h.2 else ⟨0, [], 0, []⟩
def frontP (l : List Int) (k : Int) : List Int := if k < 0 ∨ (l.length : Int) < k then [] else l.take k.toNat

theorem argsF_eq (fs : List Fn) (k : Int) : argsF fs k = frontP (fnAt fs k).locals (fnAt fs k).args := by
  unfold argsF fnAt frontP
  by_cases hk : 0 ≤ k ∧ k.toNat < fs.length
  · simp only [dif_pos hk]
  · simp [dif_neg hk]
theorem resF_eq (fs : List Fn) (k : Int) : resF fs k = (fnAt fs k).result := by
  unfold resF fnAt
  by_cases hk : 0 ≤ k ∧ k.toNat < fs.length
  · simp only [dif_pos hk]
  · simp only [dif_neg hk]

set_option maxHeartbeats 400000 in
set_option maxRecDepth 100000 in
theorem front_no (a : Option Addr) (n c : Nat) (k : Int) (w : World) (h : k < 0 ∨ (n : Int) < k) :
    Calls Try.prog 125 #[.slice a n c, .int .i64 k] w fun e w' => e = .returned (.slice none 0 0) ∧ w' = w := by
  by_cases h1 : k < 0
  · clear h
    go_enter Try.func125, Try.ntmps125
    go_wp2
    go_ret
    exact ⟨rfl, rfl⟩
  · have h2 : (n : Int) < k := by omega
    clear h
    go_enter Try.func125, Try.ntmps125
    go_wp2
    go_ret
    exact ⟨rfl, rfl⟩

set_option maxHeartbeats 400000 in
set_option maxRecDepth 100000 in
theorem front_yes (a : Option Addr) (n c x : Nat) (w : World) (hx : x ≤ n) (hm : n ≤ c) (_hla : a = none → x = 0 ∧ c = 0) :
    Calls Try.prog 125 #[.slice a n c, .int .i64 (x : Int)] w fun e w' => e = .returned (.slice a x c) ∧ w' = w := by
  have h2 : (x : Int) ≤ n := by omega
  have h3 : (x : Int) ≤ c := by omega
  go_enter Try.func125, Try.ntmps125
  go_wp2
  go_ret
  exact ⟨rfl, rfl⟩

theorem front_any (v : Value) (l : List Int) (k : Int) (w : World) (base : Nat) (h : IntsV w base v l) :
    Calls Try.prog 125 #[v, .int .i64 k] w fun e w' => ∃ u, e = .returned u ∧ IntsV w base u (frontP l k) ∧ w' = w := by
  by_cases hk : k < 0 ∨ (l.length : Int) < k
  · obtain ⟨a, c, rfl⟩ := h.slice
    have e1 : frontP l k = [] := if_pos hk
    rw [e1]
    refine (front_no a _ c k w hk).mono ?_
    rintro e w' ⟨rfl, rfl⟩
    exact ⟨_, rfl, World.ownsRow_nil _ _ _ _, rfl⟩
  · obtain ⟨x, rfl⟩ : ∃ x : Nat, k = (x : Int) := ⟨k.toNat, by omega⟩
    have e1 : frontP l (x : Int) = l.take x := if_neg hk
    rw [e1]
    obtain ⟨a, c, rfl⟩ := h.slice
    have hm : l.length ≤ c ∧ (a = none → x = 0 ∧ c = 0) := by
      rcases h.2 with ⟨hv, h0⟩ | ⟨g', cap', cur, hv, _, _, hle, _⟩
      · simp only [Value.slice.injEq] at hv
        obtain ⟨rfl, h3, rfl⟩ := hv
        exact ⟨by omega, fun _ => ⟨by omega, rfl⟩⟩
      · simp only [Value.slice.injEq] at hv
        obtain ⟨rfl, _, rfl⟩ := hv
        exact ⟨hle, fun e => by cases e⟩
    refine (front_yes a _ c x w (by omega) hm.1 hm.2).mono ?_
    rintro e w' ⟨rfl, rfl⟩
    exact ⟨_, rfl, h.take _ (by omega) hm.2, rfl⟩

set_option maxHeartbeats 400000 in
set_option maxRecDepth 100000 in
theorem argsOf_any (lv : Value) (f : Fn) (ca : Option Addr) (cn cc : Nat) (w : World) (base : Nat) (h : IntsV w base lv f.locals) :
    Calls Try.prog 128 #[.agg #[.int .i64 f.args, lv, .int .i64 f.result, .slice ca cn cc]] w fun e w' => ∃ u, e = .returned u ∧ IntsV w' base u (frontP f.locals f.args) ∧ Chg (fun _ => False) w w' := by
  have kb : Chg (fun _ => False) w (w.alloc (Obj.cells #[.int .i64 f.args, lv, .int .i64 f.result, .slice ca cn cc] 96)) := (Chg.refl (fun _ => False) w).alloc _
  have h1 := h.chg kb (fun _ _ _ e => e)
  obtain ⟨la, lc, rfl⟩ := h.slice
  go_enter Try.func128, Try.ntmps128
  go_wp2_with fail
  refine (front_any _ f.locals f.args _ base h1).mono ?_
  rintro e w1 ⟨u, rfl, hu, rfl⟩
  obtain ⟨ua, uc, rfl⟩ := hu.slice
  go_wp2
  go_ret
  exact ⟨_, rfl, hu, kb⟩

set_option maxHeartbeats 400000 in
set_option maxRecDepth 100000 in
theorem funcAt_no (a : Option Addr) (n c : Nat) (k : Int) (w : World) (h : k < 0 ∨ (n : Int) ≤ k) :
    Calls Try.prog 80 #[.slice a n c, .int .i64 k] w fun e w' => e = .returned (.agg #[.int .i64 0, .slice none 0 0, .int .i64 0, .slice none 0 0]) ∧ Chg (fun _ => False) w w' := by
  have ka : Chg (fun _ => False) w (w.alloc (Obj.cells #[.int .i64 0, .slice none 0 0, .int .i64 0, .slice none 0 0] 96)) := (Chg.refl _ w).alloc _
  by_cases h1 : k < 0
  · clear h
    go_enter Try.func80, Try.ntmps80
    go_wp2
    exact bodyPost_ret (v := .agg #[.int .i64 0, .slice none 0 0, .int .i64 0, .slice none 0 0]) (by simp [results, Try.results80, go_sem]) rfl ⟨rfl, ka⟩
  · have h2 : (n : Int) ≤ k := by omega
    clear h
    go_enter Try.func80, Try.ntmps80
    go_wp2
    exact bodyPost_ret (v := .agg #[.int .i64 0, .slice none 0 0, .int .i64 0, .slice none 0 0]) (by simp [results, Try.results80, go_sem]) rfl ⟨rfl, ka⟩

set_option maxHeartbeats 400000 in
set_option maxRecDepth 100000 in
theorem funcAt_yes (g n c j ln lc cn cc : Nat) (la ca : Option Addr) (x r : Int) (w : World) (h : j < n) (hg : g < w.heap.size) (hc0 : w.cell? ⟨g, j * 4, none⟩ = some (.int .i64 x)) (hc1 : w.cell? ⟨g, j * 4 + 1, none⟩ = some (.slice la ln lc))
    (hc2 : w.cell? ⟨g, j * 4 + 2, none⟩ = some (.int .i64 r)) (hc3 : w.cell? ⟨g, j * 4 + 3, none⟩ = some (.slice ca cn cc)) :
    Calls Try.prog 80 #[.slice (some ⟨g, 0, none⟩) n c, .int .i64 (j : Int)] w fun e w' => e = .returned (.agg #[.int .i64 x, .slice la ln lc, .int .i64 r, .slice ca cn cc]) ∧ Chg (fun _ => False) w w' := by
  have h' : (j : Int) < n := by omega
  have d0 : (w.alloc (Obj.cells #[.int .i64 0, .slice none 0 0, .int .i64 0, .slice none 0 0] 96)).cell? ⟨g, j * 4, none⟩ = some (.int .i64 x) := (World.cell?_of_block (Below.heap_alloc _ _ _ hg)).trans hc0
  have d1 : (w.alloc (Obj.cells #[.int .i64 0, .slice none 0 0, .int .i64 0, .slice none 0 0] 96)).cell? ⟨g, j * 4 + 1, none⟩ = some (.slice la ln lc) := (World.cell?_of_block (Below.heap_alloc _ _ _ hg)).trans hc1
  have d2 : (w.alloc (Obj.cells #[.int .i64 0, .slice none 0 0, .int .i64 0, .slice none 0 0] 96)).cell? ⟨g, j * 4 + 2, none⟩ = some (.int .i64 r) := (World.cell?_of_block (Below.heap_alloc _ _ _ hg)).trans hc2
  have d3 : (w.alloc (Obj.cells #[.int .i64 0, .slice none 0 0, .int .i64 0, .slice none 0 0] 96)).cell? ⟨g, j * 4 + 3, none⟩ = some (.slice ca cn cc) := (World.cell?_of_block (Below.heap_alloc _ _ _ hg)).trans hc3
  clear hc0 hc1 hc2 hc3
  go_enter Try.func80, Try.ntmps80
  go_wp2
  exact bodyPost_ret (v := .agg #[.int .i64 x, .slice la ln lc, .int .i64 r, .slice ca cn cc]) (by simp [results, Try.results80, go_sem]) rfl ⟨rfl, (Chg.refl _ w).alloc _⟩

theorem funcAt_any (v : Value) (fs : List Fn) (k : Int) (w : World) (base : Nat) (h : FuncsV 96 98 w base v fs) :
    Calls Try.prog 80 #[v, .int .i64 k] w fun e w' => ∃ lv cv, e = .returned (.agg #[.int .i64 (fnAt fs k).args, lv, .int .i64 (fnAt fs k).result, cv]) ∧ IntsV w' base lv (fnAt fs k).locals ∧ InsV 98 w' base cv (fnAt fs k).code ∧ Chg (fun _ => False) w w' := by
  by_cases hk : 0 ≤ k ∧ k.toNat < fs.length
  · obtain ⟨j, rfl⟩ : ∃ j : Nat, k = (j : Int) := ⟨k.toNat, by omega⟩
    obtain ⟨g, c, rfl, _, hc⟩ := h.formS (by omega)
    have hj : j < fs.length := by omega
    have e1 : fnAt fs (j : Int) = fs[j] := by unfold fnAt; rw [dif_pos hk]; rfl
    rw [e1]
    obtain ⟨lv, cv, h0, h1, h2, h3, hl, hi⟩ := hc j hj
    obtain ⟨la, lc, rfl⟩ := hl.slice
    obtain ⟨ca, cc, rfl⟩ := hi.slice
    refine (funcAt_yes g _ c j _ lc _ cc la ca _ _ w hj (World.block_lt_of_cell? w _ h0) h0 h1 h2 h3).mono ?_
    rintro e w' ⟨rfl, hch⟩
    exact ⟨_, _, rfl, hl.chg hch (fun _ _ _ e => e), hi.chg hch (fun _ _ _ e => e), hch⟩
  · obtain ⟨a, c, rfl⟩ := h.slice
    have e1 : fnAt fs k = ⟨0, [], 0, []⟩ := by unfold fnAt; rw [dif_neg hk]
    rw [e1]
    refine (funcAt_no a _ c k w (by omega)).mono ?_
    rintro e w' ⟨rfl, hch⟩
    exact ⟨_, _, rfl, World.ownsRow_nil _ _ _ _, World.ownsRow_nil _ _ _ _, hch⟩
end Go.Proofs.Ytnfnbcbadakofaa
