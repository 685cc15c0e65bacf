import Derived.Test.YtnfnbcbadakofaaChk3
namespace Go.Proofs.Ytnfnbcbadakofaa
open Go.RowKit

/-- the plain function: markOf, as far as byte k -/
def mkP (s : ByteArray) (q : Int) : Nat → Int
  | 0 => s.size
  | k + 1 => (mkP s q k * q + (bl s).getD k 0) % 65521
theorem mk_byte (s : ByteArray) (k : Nat) (h : k < s.size) : (bl s).getD k 0 = (s[k].toNat : Int) := by
  have hk : k < (bl s).length := by rw [bl_len]; exact h
  rw [List.getD_eq_getElem?_getD, List.getElem?_eq_getElem hk]
  simp [bl]; rfl
theorem mk_rng (s : ByteArray) (k : Nat) : 0 ≤ (bl s).getD k 0 ∧ (bl s).getD k 0 ≤ 255 := by
  rcases Nat.lt_or_ge k s.size with h | h
  · rw [mk_byte s k h]; have := s[k].toNat_lt; omega
  · rw [List.getD_eq_getElem?_getD, List.getElem?_eq_none (by rw [bl_len]; exact h)]; simp
theorem mkP_rng (s : ByteArray) (q : Int) (hs : s.size ≤ 800) (_hq : 0 ≤ q) (k : Nat) : 0 ≤ mkP s q k ∧ mkP s q k ≤ 65520 := by
  cases k with
  | zero => unfold mkP; omega
  | succ k => unfold mkP; omega

set_option maxHeartbeats 400000 in
set_option maxRecDepth 100000 in
theorem markOf_any (s : ByteArray) (q : Int) (w : World) (hs : s.size ≤ 800) (hq : 0 ≤ q) (hq2 : q ≤ 300) :
    Calls Try.prog 110 #[.string s, .int .i64 q] w fun e w' => e = .returned (.int .i64 (mkP s q s.size)) ∧ w' = w := by
  go_enter Try.func110, Try.ntmps110
  go_wp2
  go_loopw [5, 6] (fun m i wr => ∃ k : Nat, k ≤ s.size ∧ i = .int .i64 k ∧ m = .int .i64 (mkP s q k) ∧ wr = w) (fun _ i _ => s.size - (intOf i).toNat)
  case atStart => exact ⟨0, Nat.zero_le _, rfl, rfl, rfl⟩
  case round =>
    obtain ⟨k, hk, rfl, rfl, rfl⟩ := hrel
    by_cases hlt : k < s.size
    · have hr := mkP_rng s q hs hq k
      have hb := mk_rng s k
      have HN : Hid (mkP s q (k + 1) = (mkP s q k * q + (bl s).getD k 0) % 65521) := rfl
      rw [mk_byte s k hlt] at hb HN
      have hm : 0 ≤ mkP s q k * q := Int.mul_nonneg hr.1 hq
      have hm2 : mkP s q k * q ≤ 65520 * 300 := Int.mul_le_mul hr.2 hq2 hq (by omega)
      generalize mkP s q k = m at *
      go_wp2
      exact ⟨⟨k + 1, by omega, rfl, by rw [HN.out], trivial⟩, by simp [intOf]; omega⟩
    · have e1 : k = s.size := by omega
      subst e1
      go_wp2
      go_ret
      exact ⟨rfl, rfl⟩

def mksP (s : ByteArray) : List Int := [mkP s 257 s.size, mkP s 263 s.size, mkP s 269 s.size]

set_option maxHeartbeats 400000 in
set_option maxRecDepth 100000 in
theorem marksOf_any (s : ByteArray) (w : World) (hs : s.size ≤ 800) :
    Calls Try.prog 82 #[.string s] w fun e w' => ∃ v, e = .returned v ∧ IntsV w' w.heap.size v (mksP s) ∧ Chg (fun _ => False) w w' := by
  go_enter Try.func82, Try.ntmps82
  go_wp2_with fail
  refine (markOf_any s 257 _ hs (by decide) (by decide)).mono ?_
  rintro e w1 ⟨rfl, rfl⟩
  go_wp2_with fail
  refine (markOf_any s 263 _ hs (by decide) (by decide)).mono ?_
  rintro e w1 ⟨rfl, rfl⟩
  go_wp2_with fail
  refine (markOf_any s 269 _ hs (by decide) (by decide)).mono ?_
  rintro e w1 ⟨rfl, rfl⟩
  go_wp2
  go_ret
  exact ⟨_, rfl, IntsV.lit (mksP s) 3 rfl rfl (Nat.le_refl _) (by unfold maxLen; omega), (Chg.refl _ _).alloc _⟩

/-- a frame -/
structure Fr where
  fn : Int
  pc : Int
  locals : List Int
  stack : List Int
def nums (f : Fr) : List Int := f.pc :: (f.locals ++ f.stack)

theorem RdI.cells {w : World} {g o c : Nat} {l : List Int} (h : RdI w (.slice (some ⟨g, o, none⟩) l.length c) l) : l.length ≤ c ∧ ∀ j u, (ints l)[j]? = some u → w.cell? ((⟨g, o, none⟩ : Addr).add j) = some u := by
  rcases h with ⟨h, _⟩ | ⟨g', o', c', h, hle, _, kk⟩
  · cases h
  · simp only [Value.slice.injEq, Option.some.injEq, Addr.mk.injEq] at h
    obtain ⟨⟨rfl, rfl, _⟩, _, rfl⟩ := h
    exact ⟨hle, RdI.news kk⟩
theorem IntsV.two {w : World} {base : Nat} {v : Value} {l : List Int} (h : IntsV w base v l) : (v = .slice none 0 0 ∧ l = []) ∨ ∃ g c, v = .slice (some ⟨g, 0, none⟩) l.length c := by
  rcases h.2 with ⟨h1, h2⟩ | ⟨g, cap, cur, rfl, _⟩
  · exact .inl ⟨h1, List.eq_nil_of_length_eq_zero h2⟩
  · exact .inr ⟨_, _, rfl⟩
theorem ints_fit {l : List Int} : ∀ u ∈ ints l, u.cells = #[u] := by
  intro u hu; simp only [ints, List.mem_map] at hu; obtain ⟨x, _, rfl⟩ := hu; rfl
end Go.Proofs.Ytnfnbcbadakofaa
