import Derived.Test.YtnfnbcbadakofaaRchk2
import Derived.Test.YtnfnbcbadakofaaPass
namespace Go.Proofs.Ytnfnbcbadakofaa
open Go.RowKit

/-- the plain function: after -/
def afterP (ls : List (List Int)) (fs : List Fn) (f : Fn) (op A B : Int) (s : List Int) : Option (List Int) :=
  if s.length < (ahead ls fs f op A B).length ∨ (op = 16 ∧ (ahead ls fs f op A B).length < s.length) then none
  else if (s.drop (s.length - (ahead ls fs f op A B).length) == ahead ls fs f op A B) = false then none
  else if 8 < (s.take (s.length - (ahead ls fs f op A B).length) ++ behind ls fs f op A B).length then none
  else some (s.take (s.length - (ahead ls fs f op A B).length) ++ behind ls fs f op A B)

/-- what after gives -/
def AfPost (w w' : World) (base : Nat) (v : Value) (b : Bool) (R : Option (List Int)) : Prop :=
  Chg (fun _ => False) w w' ∧ (∃ a n c, v = .slice a n c) ∧ (R = none → b = false) ∧ ∀ l, R = some l → b = true ∧ IntsV w' base v l

theorem AfPost.no {w w' : World} {base : Nat} {R : Option (List Int)} (k : Chg (fun _ => False) w w') (h : R = none) : AfPost w w' base (.slice none 0 0) false R :=
  ⟨k, ⟨_, _, _, rfl⟩, fun _ => rfl, fun l e => by rw [h] at e; cases e⟩
theorem AfPost.fin {w w' : World} {base m : Nat} {v : Value} {R : Option (List Int)} (L : List Int) (k : Chg (fun _ => False) w w') (hv : IntsV w' base v L) (hm : m = L.length) (h : R = if 8 < L.length then none else some L) : AfPost w w' base v (decide ((m : Int) ≤ 8)) R := by
  obtain ⟨a, c, rfl⟩ := hv.slice
  subst hm
  refine ⟨k, ⟨_, _, _, rfl⟩, fun e => ?_, fun l e => ?_⟩
  · rw [e] at h; split at h
    · exact decide_eq_false (by omega)
    · cases h
  · rw [e] at h; split at h
    · cases h
    · simp only [Option.some.injEq] at h; subst h
      exact ⟨decide_eq_true (by omega), hv⟩
theorem af_then {ls : List (List Int)} {fs : List Fn} {f : Fn} {op A B : Int} {s N : List Int} {R : Option (List Int)} {r : Nat} (HP : afterP ls fs f op A B s = R) (HN : ahead ls fs f op A B = N) (hr : s.length = r + N.length) :
    (op = 16 → 0 < r → R = none) ∧ (¬ (op = 16 ∧ 0 < r) → ((s.drop r == N) = false → R = none) ∧ ((s.drop r == N) = true → R = if 8 < (s.take r ++ behind ls fs f op A B).length then none else some (s.take r ++ behind ls fs f op A B))) := by
  have er : s.length - N.length = r := by omega
  subst HP
  unfold afterP
  simp only [HN, er]
  refine ⟨fun h1 h2 => by rw [if_pos (.inr ⟨h1, by omega⟩)], fun h => ⟨fun hb => ?_, fun hb => ?_⟩⟩
  · rw [if_neg (by omega), if_pos hb]
  · rw [if_neg (by omega), if_neg (by rw [hb]; decide)]

theorem own_base {w : World} {b b' : Nat} {v : Value} {l : List Int} (h : IntsV w b v l) (hb : b' ≤ b) : IntsV w b' v l := by
  refine ⟨h.1, ?_⟩
  rcases h.2 with h | ⟨g, cap, cur, hv, hg, hr⟩
  · exact .inl h
  · exact .inr ⟨g, cap, cur, hv, Nat.le_trans hb hg, hr⟩

set_option maxHeartbeats 2000000 in
set_option maxRecDepth 100000 in
theorem after_core (ta fa sa : Option Addr) (tc fc sc : Nat) (ls : List (List Int)) (fs : List Fn) (fi : Nat) (hfi : fi < fs.length) (op A B : Int) (s : List Int) (w : World) (base : Nat) (hbase : base ≤ w.heap.size) (ht : TypesV w base (.slice ta ls.length tc) ls) (hf : FuncsV 92 99 w base (.slice fa fs.length fc) fs)
    (hs : IntsV w base (.slice sa s.length sc) s) (hsl : s.length ≤ 10000) (hNl : (ahead ls fs fs[fi] op A B).length ≤ 10000) (hGl : (behind ls fs fs[fi] op A B).length ≤ 10000) (hn : ls.length ≤ 10000) (h1 : 0 ≤ op) (h2 : op ≤ 18) (hok : OkI ls fs fs[fi] op A B) (hargs : ∀ f ∈ fs, 0 ≤ f.args ∧ f.args ≤ (f.locals.length : Int)) (R : Option (List Int)) (HR : Hid (afterP ls fs fs[fi] op A B s = R)) :
    Calls Try.prog 88 #[.agg #[.slice ta ls.length tc, .slice fa fs.length fc], .int .i64 (fi : Int), .agg #[.int .i64 op, .int .i64 A, .int .i64 B], .slice sa s.length sc] w fun e w' =>
      ∃ v b, e = .returned (.tuple #[v, .bool b]) ∧ AfPost w w' base v b R := by
  obtain ⟨i, hi1, hi2, hi3, hi4⟩ := info3
  have Hi1 : Hid (Try.prog.info? 3 = some i) := hi1
  have Hi2 : Hid (i.zero = some (.int .i64 0)) := hi2
  have Hi3 : Hid (i.size = 1) := hi3
  have Hi4 : Hid (i.bytes = 8) := hi4
  clear hi1 hi2 hi3 hi4
  have kb : Chg (fun _ => False) w ((w.alloc (Obj.cells #[.slice ta ls.length tc, .slice fa fs.length fc] 28)).alloc (Obj.cells #[.int .i64 op, .int .i64 A, .int .i64 B] 99)) := ((Chg.refl (fun _ => False) w).alloc _).alloc _
  have b0 : Blk ((w.alloc (Obj.cells #[.slice ta ls.length tc, .slice fa fs.length fc] 28)).alloc (Obj.cells #[.int .i64 op, .int .i64 A, .int .i64 B] 99)) w.heap.size #[.slice ta ls.length tc, .slice fa fs.length fc] 28 := (Blk.new' rfl _ 28).alloc _
  have b1 : Blk ((w.alloc (Obj.cells #[.slice ta ls.length tc, .slice fa fs.length fc] 28)).alloc (Obj.cells #[.int .i64 op, .int .i64 A, .int .i64 B] 99)) (w.heap.size + 1) #[.int .i64 op, .int .i64 A, .int .i64 B] 99 := Blk.new' (by simp) _ 99
  have HOK : Hid (OkI ls fs fs[fi] op A B) := hok
  have HARG : Hid (∀ f ∈ fs, 0 ≤ f.args ∧ f.args ≤ (f.locals.length : Int)) := hargs
  clear hok hargs
  go_enter Try.func88, Try.ntmps88
  go_wp2_with fail
  refine (takes_any _ _ ls fs fi hfi op A B _ base (Nat.le_trans hbase kb.size) (ht.new kb) (hf.chg kb (fun _ _ _ e => e) (fun _ _ _ e => e) (fun _ _ _ e => e)) hn h1 h2 HOK.out HARG.out).mono ?_
  rintro e w1 ⟨nv, rfl, hnv, hch1⟩
  have k1 := kb.trans hch1
  have c0 := b0.chg hch1 (fun e => e)
  have c1 := b1.chg hch1 (fun e => e)
  clear kb b0 b1 hch1
  obtain ⟨na, nc, rfl⟩ := hnv.slice
  generalize hN : ahead ls fs fs[fi] op A B = N at *
  have HN : Hid (ahead ls fs fs[fi] op A B = N) := hN
  clear hN
  have m0 : w1.cell? ⟨w.heap.size + 1, 0, none⟩ = some (.int .i64 op) := c1.cell 0
  by_cases hlt : s.length < N.length
  · have hR : R = none := by rw [← HR.out]; unfold afterP; simp only [HN.out]; rw [if_pos (.inl hlt)]
    have HRR : Hid (R = none) := hR
    clear hR HR
    have hlt' : (s.length : Int) < (N.length : Int) := by omega
    go_wp2
    exact bodyPost_ret (v := .tuple #[.slice none 0 0, .bool false]) (by simp [results, Try.results88, go_sem]) rfl ⟨_, _, rfl, AfPost.no k1 HRR.out⟩
  · obtain ⟨r, hr⟩ : ∃ r : Nat, s.length = r + N.length := ⟨s.length - N.length, by omega⟩
    have HQ : Hid _ := af_then HR.out HN.out hr
    have hr1 : (s.length : Int) - (N.length : Int) = (r : Int) := by omega
    have hr2 : r ≤ s.length := by omega
    have hr3 : (r : Int) ≤ (s.length : Int) := by omega
    have HRN : Hid (s.length = r + N.length) := hr
    have hle : N.length ≤ s.length := by omega
    clear hr hlt HR
    by_cases hno : op = 16 ∧ 0 < r
    · have HRR : Hid (R = none) := HQ.out.1 hno.1 hno.2
      have h16' : (op == 16) = true := by simp [hno.1]
      have hr0 : (0 : Int) < (r : Int) := by omega
      clear HQ hno
      go_wp2
      exact bodyPost_ret (v := .tuple #[.slice none 0 0, .bool false]) (by simp [results, Try.results88, go_sem]) rfl ⟨_, _, rfl, AfPost.no k1 HRR.out⟩
    · have HQ2 : Hid _ := HQ.out.2 hno
      clear HQ
      have hs1 := IntsV.chg hs k1 (fun _ _ _ e => e)
      have hnR : RdI w1 (.slice na N.length nc) N := hnv.rdI
      have hsf : (sa = none ∧ s = [] ∧ sc = 0) ∨ ∃ gs, sa = some ⟨gs, 0, none⟩ := by
        rcases hs1.2 with ⟨hv, h0⟩ | ⟨gs, cap, cur, hv, _⟩
        · simp only [Value.slice.injEq] at hv
          exact .inl ⟨hv.1, List.eq_nil_of_length_eq_zero h0, hv.2.2⟩
        · simp only [Value.slice.injEq] at hv
          exact .inr ⟨gs, hv.1⟩
      have hdl : (s.drop r).length ≤ 10000 := by simp; omega
      have cases3 : (sa = none ∧ s.length = 0 ∧ sc = 0 ∧ r = 0) ∨ (∃ gs, sa = some ⟨gs, 0, none⟩ ∧ r = sc ∧ RdI w1 (.slice (some ⟨gs, 0, none⟩) (s.length - r) 0) (s.drop r)) ∨ (∃ gs, sa = some ⟨gs, 0, none⟩ ∧ r < sc ∧ RdI w1 (.slice (some ⟨gs, r, none⟩) (s.length - r) (sc - r)) (s.drop r)) := by
        rcases hsf with ⟨h1, h2, h3⟩ | ⟨gs, rfl⟩
        · exact .inl ⟨h1, by rw [h2]; rfl, h3, by rw [h2] at hr2; simpa using hr2⟩
        · obtain ⟨hcap, hrd⟩ := hs1.dropR r hr2
          by_cases hc : sc = r
          · refine .inr (.inl ⟨gs, rfl, hc.symm, ?_⟩)
            have h0 : s.drop r = [] := List.drop_eq_nil_of_le (by omega)
            rw [h0, show s.length - r = 0 by omega]
            exact .inr ⟨gs, 0, 0, rfl, Nat.le_refl _, Nat.zero_le _, fun j hj => by simp at hj⟩
          · exact .inr (.inr ⟨gs, rfl, by omega, hrd⟩)
      have TK : IntsV w1 base (.slice sa r sc) (s.take r) := hs1.take r hr2 (fun e => by
        rcases hsf with ⟨h1, h2, h3⟩ | ⟨gs, h1⟩
        · exact ⟨by rw [h2] at hr2; simpa using hr2, h3⟩
        · rw [h1] at e; cases e)
      clear hsf
      by_cases h16 : op = 16
      · have hr0 : r = 0 := by omega
        subst hr0
        have h16' : (op == 16) = true := by simp [h16]
        clear hno h16
        rcases cases3 with ⟨rfl, h01, rfl, _⟩ | ⟨gs, rfl, rfl, RD⟩ | ⟨gs, rfl, hrc, RD⟩
        · have hs0 : s = [] := List.eq_nil_of_length_eq_zero h01
          subst hs0
          have hN0 : N = [] := List.eq_nil_of_length_eq_zero (by simpa using hle)
          subst hN0
          have HQ3 : Hid (R = if 8 < (([] : List Int) ++ behind ls fs fs[fi] op A B).length then none else some (([] : List Int) ++ behind ls fs fs[fi] op A B)) := HQ2.out.2 rfl
          clear HQ2 hr1 hr3 h01 TK
          go_wp2_with fail
          refine (rsame_any _ _ ([] : List Int) [] w1 (by simp) (.inl ⟨rfl, rfl⟩) hnR).mono ?_
          rintro e w2 ⟨rfl, n2, rfl⟩
          have k3 := k1.drewN n2
          have e0 := c0.drewN n2
          have e1 := c1.drewN n2
          clear m0 hs1 hnR hnv c0 c1 k1
          generalize w1.drewN n2 = w3 at *
          have hO : IntsV w3 w.heap.size (.slice none 0 0) [] := World.ownsRow_nil _ _ _ _
          have HTL := True.intro
          have d0 : w3.cell? ⟨w.heap.size, 0, none⟩ = some (.slice ta ls.length tc) := e0.cell 0
          have d1 : w3.cell? ⟨w.heap.size, 1, none⟩ = some (.slice fa fs.length fc) := e0.cell 1
          have m0 : w3.cell? ⟨w.heap.size + 1, 0, none⟩ = some (.int .i64 op) := e1.cell 0
          have m1 : w3.cell? ⟨w.heap.size + 1, 1, none⟩ = some (.int .i64 A) := e1.cell 1
          have m2 : w3.cell? ⟨w.heap.size + 1, 2, none⟩ = some (.int .i64 B) := e1.cell 2
          clear e0 e1
          go_wp2_with (first | (at_builtin; refine wpList_append_own_none rfl _ _ 47 rfl w.heap.size 3 i 1 Try.underlying47 Hi1.out _ _ _ rfl hO rfl ?_))
          go_wp2_with fail
          refine (leaves_any _ _ ls fs fi hfi op A B _ base (Nat.le_trans hbase k3.size) (ht.new k3) (hf.chg k3 (fun _ _ _ e => e) (fun _ _ _ e => e) (fun _ _ _ e => e)) hn h1 h2 HOK.out HARG.out).mono ?_
          rintro e w4 ⟨gv, rfl, hgv, hch4⟩
          have k4 := k3.trans hch4
          have hO4 : IntsV w4 w.heap.size (.slice none 0 0) ([] : List Int) := IntsV.chg hO hch4 (fun _ _ _ e => e)
          have hgr := hgv.rdI
          have hsz4 := k4.size
          clear hO hch4 k3 d0 d1 m0 m1 m2
          generalize behind ls fs fs[fi] op A B = G at *
          rcases hgr with ⟨rfl, rfl⟩ | ⟨g2, o2, c2, rfl, hle2, hcap2, kk2⟩
          · clear hgv
            go_wp2_with (first | (at_builtin; refine wpList_append_own_none rfl _ _ 47 rfl w.heap.size 3 i 1 Try.underlying47 Hi1.out _ _ _ rfl hO4 rfl ?_))
            exact bodyPost_ret (v := .tuple #[(.slice none 0 0), .bool (decide (((([] : List Int)).length : Int) ≤ 8))]) (by simp [results, Try.results88, go_sem]) rfl ⟨_, _, rfl, AfPost.fin ([] : List Int) k4 (own_base hO4 hbase) rfl (by have := HQ3.out; rw [List.append_nil] at this; exact this)⟩
          · have HN2 : Hid (∀ j u, (ints G)[j]? = some u → w4.cell? ((⟨g2, o2, none⟩ : Addr).add j) = some u) := RdI.news kk2
            clear kk2 hgv
            go_wp2_with (first | (at_builtin; refine wpList_append_own _ rfl _ _ 47 rfl w.heap.size 3 i (.int .i64 0) 1 8 Try.underlying47 Hi1.out Hi2.out Hi3.out Hi4.out rfl (by decide) _ _ _ rfl hO4 ⟨g2, o2, none⟩ G.length c2 (ints G) rfl ?c0 HN2.out ?c2 ?c3 ?c4 ?c5 ?_))
            case c0 => simp [ints]
            case c2 => intro u hu; simp [ints] at hu; obtain ⟨x, _, rfl⟩ := hu; rfl
            case c3 => unfold maxLen; simp; omega
            case c4 => simp; omega
            case c5 => omega
            · intro v5 w5 hown5 hgrow5 hzz
              clear hzz
              have k5 := k4.grown hgrow5 (fun k hk => .inr (hO4.lt k hk).1)
              have hO5 : IntsV w5 w.heap.size v5 (([] : List Int) ++ G) := by unfold IntsV; simpa [ints] using hown5
              clear hown5 hgrow5 HN2
              generalize ([] : List Int) ++ G = L at *
              obtain ⟨a5, c5, rfl⟩ := hO5.slice
              go_wp2
              exact bodyPost_ret (v := .tuple #[.slice a5 L.length c5, .bool (decide ((L.length : Int) ≤ 8))]) (by simp [results, Try.results88, go_sem]) rfl ⟨_, _, rfl, AfPost.fin L k5 (own_base hO5 hbase) rfl HQ3.out⟩
        · have hTL : (s.take (0)).length = 0 := by rw [List.length_take]; omega
          go_wp2_with fail
          refine (rsame_any _ _ (s.drop (0)) N _ hdl RD hnR).mono ?_
          rintro e w2 ⟨rfl, n2, rfl⟩
          have k2 := k1.drewN n2
          have TK2 : IntsV (w1.drewN n2) base (.slice (some ⟨gs, 0, none⟩) (0) 0) (s.take (0)) := own_drewN TK n2
          have e0 := c0.drewN n2
          have e1 := c1.drewN n2
          clear m0 hs1 RD hnR hnv TK c0 c1 k1
          generalize w1.drewN n2 = w2 at *
          cases hb : (s.drop (0) == N) with
          | false =>
            have HRR : Hid (R = none) := HQ2.out.1 hb
            clear HQ2 hb
            go_wp2
            exact bodyPost_ret (v := .tuple #[.slice none 0 0, .bool false]) (by simp [results, Try.results88, go_sem]) rfl ⟨_, _, rfl, AfPost.no k2 HRR.out⟩
          | true =>
            have HQ3 : Hid (R = if 8 < (s.take (0) ++ behind ls fs fs[fi] op A B).length then none else some (s.take (0) ++ behind ls fs fs[fi] op A B)) := HQ2.out.2 hb
            clear HQ2 hb
            generalize s.take (0) = T at *
            have HTL : Hid (T.length = 0) := hTL
            clear hTL
            have HN1 : Hid (∀ j u, (ints T)[j]? = some u → w2.cell? ((⟨gs, 0, none⟩ : Addr).add j) = some u) := fun j u => World.ownsRow.cells (g := gs) TK2 rfl j u
            have hsz2 := k2.size
            clear TK2
            have h0 : w2.ownsRow w.heap.size 3 1 (.slice none 0 0) 0 [] := World.ownsRow_nil _ _ _ _
            go_wp2_with (first | (at_builtin; refine wpList_append_own _ rfl _ _ 47 rfl w.heap.size 3 i (.int .i64 0) 1 8 Try.underlying47 Hi1.out Hi2.out Hi3.out Hi4.out rfl (by decide) _ _ _ rfl h0 ⟨gs, 0, none⟩ (0) 0 (ints T) rfl ?c0 HN1.out ?c2 ?c3 ?c4 ?c5 ?_))
            case c0 => have := HTL.out; simp [ints, this]
            case c2 => intro u hu; simp [ints] at hu; obtain ⟨x, _, rfl⟩ := hu; rfl
            case c3 => unfold maxLen; omega
            case c4 => omega
            case c5 => omega
            · intro v' w3 hown hgrow hzz
              clear hzz
              have k3 := k2.grown hgrow (fun k hk => by cases hk)
              have e0 := e0.grown hgrow (fun e => by cases e)
              have e1 := e1.grown hgrow (fun e => by cases e)
              have hO : IntsV w3 w.heap.size v' T := by unfold IntsV; rw [HTL.out]; simpa using hown
              clear hown hgrow h0 HN1 k2
              obtain ⟨oa, oc, rfl⟩ := hO.slice
              have d0 : w3.cell? ⟨w.heap.size, 0, none⟩ = some (.slice ta ls.length tc) := e0.cell 0
              have d1 : w3.cell? ⟨w.heap.size, 1, none⟩ = some (.slice fa fs.length fc) := e0.cell 1
              have m0 : w3.cell? ⟨w.heap.size + 1, 0, none⟩ = some (.int .i64 op) := e1.cell 0
              have m1 : w3.cell? ⟨w.heap.size + 1, 1, none⟩ = some (.int .i64 A) := e1.cell 1
              have m2 : w3.cell? ⟨w.heap.size + 1, 2, none⟩ = some (.int .i64 B) := e1.cell 2
              clear e0 e1
              go_wp2_with fail
              refine (leaves_any _ _ ls fs fi hfi op A B _ base (Nat.le_trans hbase k3.size) (ht.new k3) (hf.chg k3 (fun _ _ _ e => e) (fun _ _ _ e => e) (fun _ _ _ e => e)) hn h1 h2 HOK.out HARG.out).mono ?_
              rintro e w4 ⟨gv, rfl, hgv, hch4⟩
              have k4 := k3.trans hch4
              have hO4 : IntsV w4 w.heap.size (.slice oa T.length oc) T := IntsV.chg hO hch4 (fun _ _ _ e => e)
              have hgr := hgv.rdI
              have hsz4 := k4.size
              clear hO hch4 k3 d0 d1 m0 m1 m2
              generalize behind ls fs fs[fi] op A B = G at *
              rcases hgr with ⟨rfl, rfl⟩ | ⟨g2, o2, c2, rfl, hle2, hcap2, kk2⟩
              · clear hgv
                go_wp2_with (first | (at_builtin; refine wpList_append_own_none rfl _ _ 47 rfl w.heap.size 3 i 1 Try.underlying47 Hi1.out _ _ _ rfl hO4 rfl ?_))
                exact bodyPost_ret (v := .tuple #[(.slice oa T.length oc), .bool (decide (((T).length : Int) ≤ 8))]) (by simp [results, Try.results88, go_sem]) rfl ⟨_, _, rfl, AfPost.fin T k4 (own_base hO4 hbase) rfl (by have := HQ3.out; rw [List.append_nil] at this; exact this)⟩
              · have HN2 : Hid (∀ j u, (ints G)[j]? = some u → w4.cell? ((⟨g2, o2, none⟩ : Addr).add j) = some u) := RdI.news kk2
                clear kk2 hgv
                go_wp2_with (first | (at_builtin; refine wpList_append_own _ rfl _ _ 47 rfl w.heap.size 3 i (.int .i64 0) 1 8 Try.underlying47 Hi1.out Hi2.out Hi3.out Hi4.out rfl (by decide) _ _ _ rfl hO4 ⟨g2, o2, none⟩ G.length c2 (ints G) rfl ?c0 HN2.out ?c2 ?c3 ?c4 ?c5 ?_))
                case c0 => simp [ints]
                case c2 => intro u hu; simp [ints] at hu; obtain ⟨x, _, rfl⟩ := hu; rfl
                case c3 => have := HTL.out; unfold maxLen; simp; omega
                case c4 => have := HTL.out; omega
                case c5 => omega
                · intro v5 w5 hown5 hgrow5 hzz
                  clear hzz
                  have k5 := k4.grown hgrow5 (fun k hk => .inr (hO4.lt k hk).1)
                  have hO5 : IntsV w5 w.heap.size v5 (T ++ G) := by unfold IntsV; simpa [ints] using hown5
                  clear hown5 hgrow5 HN2
                  generalize T ++ G = L at *
                  obtain ⟨a5, c5, rfl⟩ := hO5.slice
                  go_wp2
                  exact bodyPost_ret (v := .tuple #[.slice a5 L.length c5, .bool (decide ((L.length : Int) ≤ 8))]) (by simp [results, Try.results88, go_sem]) rfl ⟨_, _, rfl, AfPost.fin L k5 (own_base hO5 hbase) rfl HQ3.out⟩
        · have hcp : (0 : Nat) ≤ sc := by omega
          have hTL : (s.take (0)).length = 0 := by rw [List.length_take]; omega
          go_wp2_with fail
          refine (rsame_any _ _ (s.drop (0)) N _ hdl RD hnR).mono ?_
          rintro e w2 ⟨rfl, n2, rfl⟩
          have k2 := k1.drewN n2
          have TK2 : IntsV (w1.drewN n2) base (.slice (some ⟨gs, 0, none⟩) (0) sc) (s.take (0)) := own_drewN TK n2
          have e0 := c0.drewN n2
          have e1 := c1.drewN n2
          clear m0 hs1 RD hnR hnv TK c0 c1 k1
          generalize w1.drewN n2 = w2 at *
          cases hb : (s.drop (0) == N) with
          | false =>
            have HRR : Hid (R = none) := HQ2.out.1 hb
            clear HQ2 hb
            go_wp2
            exact bodyPost_ret (v := .tuple #[.slice none 0 0, .bool false]) (by simp [results, Try.results88, go_sem]) rfl ⟨_, _, rfl, AfPost.no k2 HRR.out⟩
          | true =>
            have HQ3 : Hid (R = if 8 < (s.take (0) ++ behind ls fs fs[fi] op A B).length then none else some (s.take (0) ++ behind ls fs fs[fi] op A B)) := HQ2.out.2 hb
            clear HQ2 hb
            generalize s.take (0) = T at *
            have HTL : Hid (T.length = 0) := hTL
            clear hTL
            have HN1 : Hid (∀ j u, (ints T)[j]? = some u → w2.cell? ((⟨gs, 0, none⟩ : Addr).add j) = some u) := fun j u => World.ownsRow.cells (g := gs) TK2 rfl j u
            have hsz2 := k2.size
            clear TK2
            have h0 : w2.ownsRow w.heap.size 3 1 (.slice none 0 0) 0 [] := World.ownsRow_nil _ _ _ _
            go_wp2_with (first | (at_builtin; refine wpList_append_own _ rfl _ _ 47 rfl w.heap.size 3 i (.int .i64 0) 1 8 Try.underlying47 Hi1.out Hi2.out Hi3.out Hi4.out rfl (by decide) _ _ _ rfl h0 ⟨gs, 0, none⟩ (0) sc (ints T) rfl ?c0 HN1.out ?c2 ?c3 ?c4 ?c5 ?_))
            case c0 => have := HTL.out; simp [ints, this]
            case c2 => intro u hu; simp [ints] at hu; obtain ⟨x, _, rfl⟩ := hu; rfl
            case c3 => unfold maxLen; omega
            case c4 => omega
            case c5 => omega
            · intro v' w3 hown hgrow hzz
              clear hzz
              have k3 := k2.grown hgrow (fun k hk => by cases hk)
              have e0 := e0.grown hgrow (fun e => by cases e)
              have e1 := e1.grown hgrow (fun e => by cases e)
              have hO : IntsV w3 w.heap.size v' T := by unfold IntsV; rw [HTL.out]; simpa using hown
              clear hown hgrow h0 HN1 k2
              obtain ⟨oa, oc, rfl⟩ := hO.slice
              have d0 : w3.cell? ⟨w.heap.size, 0, none⟩ = some (.slice ta ls.length tc) := e0.cell 0
              have d1 : w3.cell? ⟨w.heap.size, 1, none⟩ = some (.slice fa fs.length fc) := e0.cell 1
              have m0 : w3.cell? ⟨w.heap.size + 1, 0, none⟩ = some (.int .i64 op) := e1.cell 0
              have m1 : w3.cell? ⟨w.heap.size + 1, 1, none⟩ = some (.int .i64 A) := e1.cell 1
              have m2 : w3.cell? ⟨w.heap.size + 1, 2, none⟩ = some (.int .i64 B) := e1.cell 2
              clear e0 e1
              go_wp2_with fail
              refine (leaves_any _ _ ls fs fi hfi op A B _ base (Nat.le_trans hbase k3.size) (ht.new k3) (hf.chg k3 (fun _ _ _ e => e) (fun _ _ _ e => e) (fun _ _ _ e => e)) hn h1 h2 HOK.out HARG.out).mono ?_
              rintro e w4 ⟨gv, rfl, hgv, hch4⟩
              have k4 := k3.trans hch4
              have hO4 : IntsV w4 w.heap.size (.slice oa T.length oc) T := IntsV.chg hO hch4 (fun _ _ _ e => e)
              have hgr := hgv.rdI
              have hsz4 := k4.size
              clear hO hch4 k3 d0 d1 m0 m1 m2
              generalize behind ls fs fs[fi] op A B = G at *
              rcases hgr with ⟨rfl, rfl⟩ | ⟨g2, o2, c2, rfl, hle2, hcap2, kk2⟩
              · clear hgv
                go_wp2_with (first | (at_builtin; refine wpList_append_own_none rfl _ _ 47 rfl w.heap.size 3 i 1 Try.underlying47 Hi1.out _ _ _ rfl hO4 rfl ?_))
                exact bodyPost_ret (v := .tuple #[(.slice oa T.length oc), .bool (decide (((T).length : Int) ≤ 8))]) (by simp [results, Try.results88, go_sem]) rfl ⟨_, _, rfl, AfPost.fin T k4 (own_base hO4 hbase) rfl (by have := HQ3.out; rw [List.append_nil] at this; exact this)⟩
              · have HN2 : Hid (∀ j u, (ints G)[j]? = some u → w4.cell? ((⟨g2, o2, none⟩ : Addr).add j) = some u) := RdI.news kk2
                clear kk2 hgv
                go_wp2_with (first | (at_builtin; refine wpList_append_own _ rfl _ _ 47 rfl w.heap.size 3 i (.int .i64 0) 1 8 Try.underlying47 Hi1.out Hi2.out Hi3.out Hi4.out rfl (by decide) _ _ _ rfl hO4 ⟨g2, o2, none⟩ G.length c2 (ints G) rfl ?c0 HN2.out ?c2 ?c3 ?c4 ?c5 ?_))
                case c0 => simp [ints]
                case c2 => intro u hu; simp [ints] at hu; obtain ⟨x, _, rfl⟩ := hu; rfl
                case c3 => have := HTL.out; unfold maxLen; simp; omega
                case c4 => have := HTL.out; omega
                case c5 => omega
                · intro v5 w5 hown5 hgrow5 hzz
                  clear hzz
                  have k5 := k4.grown hgrow5 (fun k hk => .inr (hO4.lt k hk).1)
                  have hO5 : IntsV w5 w.heap.size v5 (T ++ G) := by unfold IntsV; simpa [ints] using hown5
                  clear hown5 hgrow5 HN2
                  generalize T ++ G = L at *
                  obtain ⟨a5, c5, rfl⟩ := hO5.slice
                  go_wp2
                  exact bodyPost_ret (v := .tuple #[.slice a5 L.length c5, .bool (decide ((L.length : Int) ≤ 8))]) (by simp [results, Try.results88, go_sem]) rfl ⟨_, _, rfl, AfPost.fin L k5 (own_base hO5 hbase) rfl HQ3.out⟩
      · have h16' : (op == 16) = false := by simp [h16]
        clear hno h16
        rcases cases3 with ⟨rfl, h01, rfl, rfl⟩ | ⟨gs, rfl, rfl, RD⟩ | ⟨gs, rfl, hrc, RD⟩
        · have hs0 : s = [] := List.eq_nil_of_length_eq_zero h01
          subst hs0
          have hN0 : N = [] := List.eq_nil_of_length_eq_zero (by simpa using hle)
          subst hN0
          have HQ3 : Hid (R = if 8 < (([] : List Int) ++ behind ls fs fs[fi] op A B).length then none else some (([] : List Int) ++ behind ls fs fs[fi] op A B)) := HQ2.out.2 rfl
          clear HQ2 hr1 hr3 h01 TK
          go_wp2_with fail
          refine (rsame_any _ _ ([] : List Int) [] w1 (by simp) (.inl ⟨rfl, rfl⟩) hnR).mono ?_
          rintro e w2 ⟨rfl, n2, rfl⟩
          have k3 := k1.drewN n2
          have e0 := c0.drewN n2
          have e1 := c1.drewN n2
          clear m0 hs1 hnR hnv c0 c1 k1
          generalize w1.drewN n2 = w3 at *
          have hO : IntsV w3 w.heap.size (.slice none 0 0) [] := World.ownsRow_nil _ _ _ _
          have HTL := True.intro
          have d0 : w3.cell? ⟨w.heap.size, 0, none⟩ = some (.slice ta ls.length tc) := e0.cell 0
          have d1 : w3.cell? ⟨w.heap.size, 1, none⟩ = some (.slice fa fs.length fc) := e0.cell 1
          have m0 : w3.cell? ⟨w.heap.size + 1, 0, none⟩ = some (.int .i64 op) := e1.cell 0
          have m1 : w3.cell? ⟨w.heap.size + 1, 1, none⟩ = some (.int .i64 A) := e1.cell 1
          have m2 : w3.cell? ⟨w.heap.size + 1, 2, none⟩ = some (.int .i64 B) := e1.cell 2
          clear e0 e1
          go_wp2_with (first | (at_builtin; refine wpList_append_own_none rfl _ _ 47 rfl w.heap.size 3 i 1 Try.underlying47 Hi1.out _ _ _ rfl hO rfl ?_))
          go_wp2_with fail
          refine (leaves_any _ _ ls fs fi hfi op A B _ base (Nat.le_trans hbase k3.size) (ht.new k3) (hf.chg k3 (fun _ _ _ e => e) (fun _ _ _ e => e) (fun _ _ _ e => e)) hn h1 h2 HOK.out HARG.out).mono ?_
          rintro e w4 ⟨gv, rfl, hgv, hch4⟩
          have k4 := k3.trans hch4
          have hO4 : IntsV w4 w.heap.size (.slice none 0 0) ([] : List Int) := IntsV.chg hO hch4 (fun _ _ _ e => e)
          have hgr := hgv.rdI
          have hsz4 := k4.size
          clear hO hch4 k3 d0 d1 m0 m1 m2
          generalize behind ls fs fs[fi] op A B = G at *
          rcases hgr with ⟨rfl, rfl⟩ | ⟨g2, o2, c2, rfl, hle2, hcap2, kk2⟩
          · clear hgv
            go_wp2_with (first | (at_builtin; refine wpList_append_own_none rfl _ _ 47 rfl w.heap.size 3 i 1 Try.underlying47 Hi1.out _ _ _ rfl hO4 rfl ?_))
            exact bodyPost_ret (v := .tuple #[(.slice none 0 0), .bool (decide (((([] : List Int)).length : Int) ≤ 8))]) (by simp [results, Try.results88, go_sem]) rfl ⟨_, _, rfl, AfPost.fin ([] : List Int) k4 (own_base hO4 hbase) rfl (by have := HQ3.out; rw [List.append_nil] at this; exact this)⟩
          · have HN2 : Hid (∀ j u, (ints G)[j]? = some u → w4.cell? ((⟨g2, o2, none⟩ : Addr).add j) = some u) := RdI.news kk2
            clear kk2 hgv
            go_wp2_with (first | (at_builtin; refine wpList_append_own _ rfl _ _ 47 rfl w.heap.size 3 i (.int .i64 0) 1 8 Try.underlying47 Hi1.out Hi2.out Hi3.out Hi4.out rfl (by decide) _ _ _ rfl hO4 ⟨g2, o2, none⟩ G.length c2 (ints G) rfl ?c0 HN2.out ?c2 ?c3 ?c4 ?c5 ?_))
            case c0 => simp [ints]
            case c2 => intro u hu; simp [ints] at hu; obtain ⟨x, _, rfl⟩ := hu; rfl
            case c3 => unfold maxLen; simp; omega
            case c4 => simp; omega
            case c5 => omega
            · intro v5 w5 hown5 hgrow5 hzz
              clear hzz
              have k5 := k4.grown hgrow5 (fun k hk => .inr (hO4.lt k hk).1)
              have hO5 : IntsV w5 w.heap.size v5 (([] : List Int) ++ G) := by unfold IntsV; simpa [ints] using hown5
              clear hown5 hgrow5 HN2
              generalize ([] : List Int) ++ G = L at *
              obtain ⟨a5, c5, rfl⟩ := hO5.slice
              go_wp2
              exact bodyPost_ret (v := .tuple #[.slice a5 L.length c5, .bool (decide ((L.length : Int) ≤ 8))]) (by simp [results, Try.results88, go_sem]) rfl ⟨_, _, rfl, AfPost.fin L k5 (own_base hO5 hbase) rfl HQ3.out⟩
        · have hTL : (s.take (r)).length = r := by rw [List.length_take]; omega
          go_wp2_with fail
          refine (rsame_any _ _ (s.drop (r)) N _ hdl RD hnR).mono ?_
          rintro e w2 ⟨rfl, n2, rfl⟩
          have k2 := k1.drewN n2
          have TK2 : IntsV (w1.drewN n2) base (.slice (some ⟨gs, 0, none⟩) (r) r) (s.take (r)) := own_drewN TK n2
          have e0 := c0.drewN n2
          have e1 := c1.drewN n2
          clear m0 hs1 RD hnR hnv TK c0 c1 k1
          generalize w1.drewN n2 = w2 at *
          cases hb : (s.drop (r) == N) with
          | false =>
            have HRR : Hid (R = none) := HQ2.out.1 hb
            clear HQ2 hb
            go_wp2
            exact bodyPost_ret (v := .tuple #[.slice none 0 0, .bool false]) (by simp [results, Try.results88, go_sem]) rfl ⟨_, _, rfl, AfPost.no k2 HRR.out⟩
          | true =>
            have HQ3 : Hid (R = if 8 < (s.take (r) ++ behind ls fs fs[fi] op A B).length then none else some (s.take (r) ++ behind ls fs fs[fi] op A B)) := HQ2.out.2 hb
            clear HQ2 hb
            generalize s.take (r) = T at *
            have HTL : Hid (T.length = r) := hTL
            clear hTL
            have HN1 : Hid (∀ j u, (ints T)[j]? = some u → w2.cell? ((⟨gs, 0, none⟩ : Addr).add j) = some u) := fun j u => World.ownsRow.cells (g := gs) TK2 rfl j u
            have hsz2 := k2.size
            clear TK2
            have h0 : w2.ownsRow w.heap.size 3 1 (.slice none 0 0) 0 [] := World.ownsRow_nil _ _ _ _
            go_wp2_with (first | (at_builtin; refine wpList_append_own _ rfl _ _ 47 rfl w.heap.size 3 i (.int .i64 0) 1 8 Try.underlying47 Hi1.out Hi2.out Hi3.out Hi4.out rfl (by decide) _ _ _ rfl h0 ⟨gs, 0, none⟩ (r) r (ints T) rfl ?c0 HN1.out ?c2 ?c3 ?c4 ?c5 ?_))
            case c0 => have := HTL.out; simp [ints, this]
            case c2 => intro u hu; simp [ints] at hu; obtain ⟨x, _, rfl⟩ := hu; rfl
            case c3 => unfold maxLen; omega
            case c4 => omega
            case c5 => omega
            · intro v' w3 hown hgrow hzz
              clear hzz
              have k3 := k2.grown hgrow (fun k hk => by cases hk)
              have e0 := e0.grown hgrow (fun e => by cases e)
              have e1 := e1.grown hgrow (fun e => by cases e)
              have hO : IntsV w3 w.heap.size v' T := by unfold IntsV; rw [HTL.out]; simpa using hown
              clear hown hgrow h0 HN1 k2
              obtain ⟨oa, oc, rfl⟩ := hO.slice
              have d0 : w3.cell? ⟨w.heap.size, 0, none⟩ = some (.slice ta ls.length tc) := e0.cell 0
              have d1 : w3.cell? ⟨w.heap.size, 1, none⟩ = some (.slice fa fs.length fc) := e0.cell 1
              have m0 : w3.cell? ⟨w.heap.size + 1, 0, none⟩ = some (.int .i64 op) := e1.cell 0
              have m1 : w3.cell? ⟨w.heap.size + 1, 1, none⟩ = some (.int .i64 A) := e1.cell 1
              have m2 : w3.cell? ⟨w.heap.size + 1, 2, none⟩ = some (.int .i64 B) := e1.cell 2
              clear e0 e1
              go_wp2_with fail
              refine (leaves_any _ _ ls fs fi hfi op A B _ base (Nat.le_trans hbase k3.size) (ht.new k3) (hf.chg k3 (fun _ _ _ e => e) (fun _ _ _ e => e) (fun _ _ _ e => e)) hn h1 h2 HOK.out HARG.out).mono ?_
              rintro e w4 ⟨gv, rfl, hgv, hch4⟩
              have k4 := k3.trans hch4
              have hO4 : IntsV w4 w.heap.size (.slice oa T.length oc) T := IntsV.chg hO hch4 (fun _ _ _ e => e)
              have hgr := hgv.rdI
              have hsz4 := k4.size
              clear hO hch4 k3 d0 d1 m0 m1 m2
              generalize behind ls fs fs[fi] op A B = G at *
              rcases hgr with ⟨rfl, rfl⟩ | ⟨g2, o2, c2, rfl, hle2, hcap2, kk2⟩
              · clear hgv
                go_wp2_with (first | (at_builtin; refine wpList_append_own_none rfl _ _ 47 rfl w.heap.size 3 i 1 Try.underlying47 Hi1.out _ _ _ rfl hO4 rfl ?_))
                exact bodyPost_ret (v := .tuple #[(.slice oa T.length oc), .bool (decide (((T).length : Int) ≤ 8))]) (by simp [results, Try.results88, go_sem]) rfl ⟨_, _, rfl, AfPost.fin T k4 (own_base hO4 hbase) rfl (by have := HQ3.out; rw [List.append_nil] at this; exact this)⟩
              · have HN2 : Hid (∀ j u, (ints G)[j]? = some u → w4.cell? ((⟨g2, o2, none⟩ : Addr).add j) = some u) := RdI.news kk2
                clear kk2 hgv
                go_wp2_with (first | (at_builtin; refine wpList_append_own _ rfl _ _ 47 rfl w.heap.size 3 i (.int .i64 0) 1 8 Try.underlying47 Hi1.out Hi2.out Hi3.out Hi4.out rfl (by decide) _ _ _ rfl hO4 ⟨g2, o2, none⟩ G.length c2 (ints G) rfl ?c0 HN2.out ?c2 ?c3 ?c4 ?c5 ?_))
                case c0 => simp [ints]
                case c2 => intro u hu; simp [ints] at hu; obtain ⟨x, _, rfl⟩ := hu; rfl
                case c3 => have := HTL.out; unfold maxLen; simp; omega
                case c4 => have := HTL.out; omega
                case c5 => omega
                · intro v5 w5 hown5 hgrow5 hzz
                  clear hzz
                  have k5 := k4.grown hgrow5 (fun k hk => .inr (hO4.lt k hk).1)
                  have hO5 : IntsV w5 w.heap.size v5 (T ++ G) := by unfold IntsV; simpa [ints] using hown5
                  clear hown5 hgrow5 HN2
                  generalize T ++ G = L at *
                  obtain ⟨a5, c5, rfl⟩ := hO5.slice
                  go_wp2
                  exact bodyPost_ret (v := .tuple #[.slice a5 L.length c5, .bool (decide ((L.length : Int) ≤ 8))]) (by simp [results, Try.results88, go_sem]) rfl ⟨_, _, rfl, AfPost.fin L k5 (own_base hO5 hbase) rfl HQ3.out⟩
        · have hcp : (r : Int) ≤ (sc : Int) := by omega
          have hTL : (s.take (r)).length = r := by rw [List.length_take]; omega
          go_wp2_with fail
          refine (rsame_any _ _ (s.drop (r)) N _ hdl RD hnR).mono ?_
          rintro e w2 ⟨rfl, n2, rfl⟩
          have k2 := k1.drewN n2
          have TK2 : IntsV (w1.drewN n2) base (.slice (some ⟨gs, 0, none⟩) (r) sc) (s.take (r)) := own_drewN TK n2
          have e0 := c0.drewN n2
          have e1 := c1.drewN n2
          clear m0 hs1 RD hnR hnv TK c0 c1 k1
          generalize w1.drewN n2 = w2 at *
          cases hb : (s.drop (r) == N) with
          | false =>
            have HRR : Hid (R = none) := HQ2.out.1 hb
            clear HQ2 hb
            go_wp2
            exact bodyPost_ret (v := .tuple #[.slice none 0 0, .bool false]) (by simp [results, Try.results88, go_sem]) rfl ⟨_, _, rfl, AfPost.no k2 HRR.out⟩
          | true =>
            have HQ3 : Hid (R = if 8 < (s.take (r) ++ behind ls fs fs[fi] op A B).length then none else some (s.take (r) ++ behind ls fs fs[fi] op A B)) := HQ2.out.2 hb
            clear HQ2 hb
            generalize s.take (r) = T at *
            have HTL : Hid (T.length = r) := hTL
            clear hTL
            have HN1 : Hid (∀ j u, (ints T)[j]? = some u → w2.cell? ((⟨gs, 0, none⟩ : Addr).add j) = some u) := fun j u => World.ownsRow.cells (g := gs) TK2 rfl j u
            have hsz2 := k2.size
            clear TK2
            have h0 : w2.ownsRow w.heap.size 3 1 (.slice none 0 0) 0 [] := World.ownsRow_nil _ _ _ _
            go_wp2_with (first | (at_builtin; refine wpList_append_own _ rfl _ _ 47 rfl w.heap.size 3 i (.int .i64 0) 1 8 Try.underlying47 Hi1.out Hi2.out Hi3.out Hi4.out rfl (by decide) _ _ _ rfl h0 ⟨gs, 0, none⟩ (r) sc (ints T) rfl ?c0 HN1.out ?c2 ?c3 ?c4 ?c5 ?_))
            case c0 => have := HTL.out; simp [ints, this]
            case c2 => intro u hu; simp [ints] at hu; obtain ⟨x, _, rfl⟩ := hu; rfl
            case c3 => unfold maxLen; omega
            case c4 => omega
            case c5 => omega
            · intro v' w3 hown hgrow hzz
              clear hzz
              have k3 := k2.grown hgrow (fun k hk => by cases hk)
              have e0 := e0.grown hgrow (fun e => by cases e)
              have e1 := e1.grown hgrow (fun e => by cases e)
              have hO : IntsV w3 w.heap.size v' T := by unfold IntsV; rw [HTL.out]; simpa using hown
              clear hown hgrow h0 HN1 k2
              obtain ⟨oa, oc, rfl⟩ := hO.slice
              have d0 : w3.cell? ⟨w.heap.size, 0, none⟩ = some (.slice ta ls.length tc) := e0.cell 0
              have d1 : w3.cell? ⟨w.heap.size, 1, none⟩ = some (.slice fa fs.length fc) := e0.cell 1
              have m0 : w3.cell? ⟨w.heap.size + 1, 0, none⟩ = some (.int .i64 op) := e1.cell 0
              have m1 : w3.cell? ⟨w.heap.size + 1, 1, none⟩ = some (.int .i64 A) := e1.cell 1
              have m2 : w3.cell? ⟨w.heap.size + 1, 2, none⟩ = some (.int .i64 B) := e1.cell 2
              clear e0 e1
              go_wp2_with fail
              refine (leaves_any _ _ ls fs fi hfi op A B _ base (Nat.le_trans hbase k3.size) (ht.new k3) (hf.chg k3 (fun _ _ _ e => e) (fun _ _ _ e => e) (fun _ _ _ e => e)) hn h1 h2 HOK.out HARG.out).mono ?_
              rintro e w4 ⟨gv, rfl, hgv, hch4⟩
              have k4 := k3.trans hch4
              have hO4 : IntsV w4 w.heap.size (.slice oa T.length oc) T := IntsV.chg hO hch4 (fun _ _ _ e => e)
              have hgr := hgv.rdI
              have hsz4 := k4.size
              clear hO hch4 k3 d0 d1 m0 m1 m2
              generalize behind ls fs fs[fi] op A B = G at *
              rcases hgr with ⟨rfl, rfl⟩ | ⟨g2, o2, c2, rfl, hle2, hcap2, kk2⟩
              · clear hgv
                go_wp2_with (first | (at_builtin; refine wpList_append_own_none rfl _ _ 47 rfl w.heap.size 3 i 1 Try.underlying47 Hi1.out _ _ _ rfl hO4 rfl ?_))
                exact bodyPost_ret (v := .tuple #[(.slice oa T.length oc), .bool (decide (((T).length : Int) ≤ 8))]) (by simp [results, Try.results88, go_sem]) rfl ⟨_, _, rfl, AfPost.fin T k4 (own_base hO4 hbase) rfl (by have := HQ3.out; rw [List.append_nil] at this; exact this)⟩
              · have HN2 : Hid (∀ j u, (ints G)[j]? = some u → w4.cell? ((⟨g2, o2, none⟩ : Addr).add j) = some u) := RdI.news kk2
                clear kk2 hgv
                go_wp2_with (first | (at_builtin; refine wpList_append_own _ rfl _ _ 47 rfl w.heap.size 3 i (.int .i64 0) 1 8 Try.underlying47 Hi1.out Hi2.out Hi3.out Hi4.out rfl (by decide) _ _ _ rfl hO4 ⟨g2, o2, none⟩ G.length c2 (ints G) rfl ?c0 HN2.out ?c2 ?c3 ?c4 ?c5 ?_))
                case c0 => simp [ints]
                case c2 => intro u hu; simp [ints] at hu; obtain ⟨x, _, rfl⟩ := hu; rfl
                case c3 => have := HTL.out; unfold maxLen; simp; omega
                case c4 => have := HTL.out; omega
                case c5 => omega
                · intro v5 w5 hown5 hgrow5 hzz
                  clear hzz
                  have k5 := k4.grown hgrow5 (fun k hk => .inr (hO4.lt k hk).1)
                  have hO5 : IntsV w5 w.heap.size v5 (T ++ G) := by unfold IntsV; simpa [ints] using hown5
                  clear hown5 hgrow5 HN2
                  generalize T ++ G = L at *
                  obtain ⟨a5, c5, rfl⟩ := hO5.slice
                  go_wp2
                  exact bodyPost_ret (v := .tuple #[.slice a5 L.length c5, .bool (decide ((L.length : Int) ≤ 8))]) (by simp [results, Try.results88, go_sem]) rfl ⟨_, _, rfl, AfPost.fin L k5 (own_base hO5 hbase) rfl HQ3.out⟩
end Go.Proofs.Ytnfnbcbadakofaa
