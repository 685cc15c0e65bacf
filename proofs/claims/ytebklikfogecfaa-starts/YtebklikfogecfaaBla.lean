import Derived.Test.YtebklikfogecfaaChk3
namespace Go.Proofs.Ytebklikfogecfaa
open Go.RowKit

/-- values of the document's machine -/
def vlC (l : List (Int × Bool)) : List Value := l.flatMap fun x => [.int .i64 x.1, .bool x.2]
theorem vlC_snoc (l : List (Int × Bool)) (x : Int × Bool) : vlC (l ++ [x]) = vlC l ++ [.int .i64 x.1, .bool x.2] := by simp [vlC]
def ValsV (w : World) (base : Nat) (v : Value) (l : List (Int × Bool)) : Prop := w.ownsRow base 155 2 v l.length (vlC l)
theorem ValsV.slice {w : World} {base : Nat} {v : Value} {l : List (Int × Bool)} (h : ValsV w base v l) : ∃ a cap, v = .slice a l.length cap := by
  rcases h.2 with ⟨h1, h2⟩ | ⟨g, cap, cur, rfl, _⟩
  · exact ⟨none, 0, by rw [h1, h2]⟩
  · exact ⟨_, _, rfl⟩
theorem info155 : ∃ i : TypeInfo, Try.prog.info? 155 = some i ∧ i.zero = some (.agg #[.int .i64 0, .bool false]) ∧ i.size = 2 ∧ i.bytes = 16 := info_of (by kernel_rfl)

/-- the plain function: blank -/
def blankP (l : List Int) (k : Nat) : List (Int × Bool) := (l.drop k).map fun t => (0, decide (0 < t))
theorem blank_snoc (l : List Int) (k j : Nat) (h : k + j < l.length) : ((l.drop k).take (j + 1)).map (fun t => ((0 : Int), decide (0 < t))) = ((l.drop k).take j).map (fun t => ((0 : Int), decide (0 < t))) ++ [(0, decide (0 < l.getD (k + j) 0))] := by
  have hj : j < (l.drop k).length := by rw [List.length_drop]; omega
  rw [List.take_succ_eq_append_getElem hj, List.map_append]
  simp [List.getD_eq_getElem?_getD, List.getElem?_eq_getElem h]

set_option maxHeartbeats 1000000 in
set_option maxRecDepth 100000 in
theorem blank_any (v : Value) (l : List Int) (k : Nat) (w : World) (b1 : Nat) (hv : IntsV w b1 v l) (hk : k ≤ l.length) (hl : l.length ≤ 10000) :
    Calls Try.prog 72 #[v, .int .i64 (k : Int)] w fun e w' => ∃ u, e = .returned u ∧ ValsV w' w.heap.size u (blankP l k) ∧ Chg (fun _ => False) w w' := by
  obtain ⟨va, vc, rfl⟩ := hv.slice
  obtain ⟨i, hi1, hi2, hi3, hi4⟩ := info155
  have Hi1 : Hid (Try.prog.info? 155 = some i) := hi1
  have Hi2 : Hid (i.zero = some (.agg #[.int .i64 0, .bool false])) := hi2
  have Hi3 : Hid (i.size = 2) := hi3
  have Hi4 : Hid (i.bytes = 16) := hi4
  clear hi1 hi2 hi3 hi4
  have HV : Hid (IntsV w b1 (.slice va l.length vc) l) := hv
  clear hv
  go_enter Try.func72, Try.ntmps72
  go_wp2
  go_loopw [5, 6] (fun u iv wr => ∃ (j : Nat) (L : List (Int × Bool)), iv = .int .i64 ((k + j : Nat) : Int) ∧ k + j ≤ l.length ∧ L = ((l.drop k).take j).map (fun t => ((0 : Int), decide (0 < t))) ∧ ValsV wr w.heap.size u L ∧ Chg (fun _ => False) w wr) (fun _ iv _ => l.length - (intOf iv).toNat)
  case atStart => exact ⟨0, [], by simp, by omega, by simp, World.ownsRow_nil _ _ _ _, Chg.refl _ _⟩
  case round =>
    obtain ⟨j, L, rfl, hj, hL, hu, kk⟩ := hrel
    have HL : Hid (L = ((l.drop k).take j).map (fun t => ((0 : Int), decide (0 < t)))) := hL
    clear hL
    obtain ⟨ua, uc, rfl⟩ := hu.slice
    by_cases hlt : k + j < l.length
    · have hlt' : ((k + j : Nat) : Int) < (l.length : Int) := by omega
      obtain ⟨g, c', hve, _, _, _, hc⟩ := (IntsV.chg HV.out kk (fun _ _ _ e => e)).form (by omega)
      simp only [Value.slice.injEq] at hve
      obtain ⟨rfl, _, rfl⟩ := hve
      have y := hc (k + j) hlt
      have HS : Hid _ := blank_snoc l k j hlt
      have hLl : L.length ≤ 10000 := by rw [HL.out, List.length_map, List.length_take, List.length_drop]; omega
      have hsz := kk.size
      have hgl : g < wr.heap.size := World.block_lt_of_cell? wr _ y
      clear hc
      generalize l.getD (k + j) 0 = t at *
      go_wp2_with (at_builtin; refine wpList_append_lies _ rfl _ _ 125 rfl w.heap.size 155 i (.agg #[.int .i64 0, .bool false]) 2 16 Try.underlying125 Hi1.out Hi2.out Hi3.out Hi4.out rfl (by decide) _ _ _ rfl (World.ownsRow.alloc hu _) ⟨wr.heap.size, 0, none⟩ 1 1 [.int .i64 0, .bool (decide (0 < t))] rfl rfl ?c1 ?c2 (by decide) ?c3 ?c4 ?c5 _ rfl ?_)
      case c1 => exact World.news_of_block (B := wr.heap.size) (cs := #[.int .i64 0, .bool (decide (0 < t))]) (Blk.new' rfl _ 155)
      case c2 => intro u hu; simp at hu; rcases hu with rfl | rfl <;> rfl
      case c3 => unfold maxLen; omega
      case c4 => omega
      case c5 => simp; omega
      · intro g2 cap2 w2 hown2 hgrow hat hlt2
        have hch2 : Chg (fun _ => False) w w2 := ((kk.alloc _).grown hgrow (fun k hk => .inr (hu.lt k hk).1))
        clear hgrow hat
        go_wp2
        refine ⟨⟨j + 1, L ++ [(0, decide (0 < t))], by simp; omega, by omega, ?_, ?_, hch2⟩, by simp [intOf]; omega⟩
        · rw [HS.out, HL.out]
        · unfold ValsV
          rw [vlC_snoc, List.length_append]
          exact hown2
    · have hlt' : (l.length : Int) ≤ ((k + j : Nat) : Int) := by omega
      have hE : L = blankP l k := by
        rw [HL.out]; unfold blankP
        rw [List.take_of_length_le (by rw [List.length_drop]; omega)]
      have HE : Hid (L = blankP l k) := hE
      clear hE
      go_wp2
      go_ret
      exact ⟨_, rfl, by rw [← HE.out]; exact hu, kk⟩
end Go.Proofs.Ytebklikfogecfaa
