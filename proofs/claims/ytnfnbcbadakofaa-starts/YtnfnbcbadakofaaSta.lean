import Derived.Test.YtnfnbcbadakofaaLay2
namespace Go.Proofs.Ytnfnbcbadakofaa
open Go.RowKit

/-- the plain function: entered -/
def entP (f : Int) (fun_ : Fn) (args : List Int) : Fr := ⟨f, 0, args ++ List.replicate (fun_.locals.length - args.length) 0, []⟩

set_option maxHeartbeats 2000000 in
set_option maxRecDepth 100000 in
theorem entered_any (f : Int) (fn : Fn) (lv : Value) (ca : Option Addr) (cn cc : Nat) (av : Value) (args : List Int) (w : World) (b1 : Nat) (hl : IntsV w b1 lv fn.locals) (ha : RdI w av args) (hll : fn.locals.length ≤ 10000) (hal : args.length ≤ 10000) :
    Calls Try.prog 81 #[.int .i64 f, .agg #[.int .i64 fn.args, lv, .int .i64 fn.result, .slice ca cn cc], av] w fun e w' => ∃ v, e = .returned (.agg #[.int .i64 f, .int .i64 0, v, .slice none 0 0]) ∧ IntsV w' w.heap.size v (entP f fn args).locals ∧ Chg (fun _ => False) w w' := by
  obtain ⟨la, lc, rfl⟩ := hl.slice
  obtain ⟨aa, ac, rfl⟩ : ∃ a c, av = .slice a args.length c := by
    rcases ha with ⟨rfl, rfl⟩ | ⟨g, o, c, rfl, _⟩
    · exact ⟨none, 0, rfl⟩
    · exact ⟨_, _, rfl⟩
  have kb : Chg (fun _ => False) w ((w.alloc (Obj.cells #[.int .i64 fn.args, .slice la fn.locals.length lc, .int .i64 fn.result, .slice ca cn cc] 96)).alloc (Obj.cells #[.int .i64 0, .int .i64 0, .slice none 0 0, .slice none 0 0] 123)) := ((Chg.refl _ w).alloc _).alloc _
  have bx : Blk ((w.alloc (Obj.cells #[.int .i64 fn.args, .slice la fn.locals.length lc, .int .i64 fn.result, .slice ca cn cc] 96)).alloc (Obj.cells #[.int .i64 0, .int .i64 0, .slice none 0 0, .slice none 0 0] 123)) w.heap.size #[.int .i64 fn.args, .slice la fn.locals.length lc, .int .i64 fn.result, .slice ca cn cc] 96 := (Blk.new w _ 96).alloc _
  have br : Blk ((w.alloc (Obj.cells #[.int .i64 fn.args, .slice la fn.locals.length lc, .int .i64 fn.result, .slice ca cn cc] 96)).alloc (Obj.cells #[.int .i64 0, .int .i64 0, .slice none 0 0, .slice none 0 0] 123)) (w.heap.size + 1) #[.int .i64 0, .int .i64 0, .slice none 0 0, .slice none 0 0] 123 := Blk.new' (w := w.alloc (Obj.cells #[.int .i64 fn.args, .slice la fn.locals.length lc, .int .i64 fn.result, .slice ca cn cc] 96)) (by simp) _ 123
  have HA : Hid (RdI ((w.alloc (Obj.cells #[.int .i64 fn.args, .slice la fn.locals.length lc, .int .i64 fn.result, .slice ca cn cc] 96)).alloc (Obj.cells #[.int .i64 0, .int .i64 0, .slice none 0 0, .slice none 0 0] 123)) (.slice aa args.length ac) args) := ha.new kb
  have HLN : Hid ((entP f fn args).locals = args ++ List.replicate (fn.locals.length - args.length) 0) := rfl
  clear ha hl
  go_enter Try.func81, Try.ntmps81
  go_wp2_with fail
  generalize ((w.alloc (Obj.cells #[.int .i64 fn.args, .slice la fn.locals.length lc, .int .i64 fn.result, .slice ca cn cc] 96)).alloc (Obj.cells #[.int .i64 0, .int .i64 0, .slice none 0 0, .slice none 0 0] 123)) = W0 at *
  refine (joined_any _ (.slice none 0 0) args [] _ hal (by simp) HA.out (.inl ⟨rfl, rfl⟩)).mono ?_
  rintro e w1 ⟨u, rfl, hu, k1⟩
  rw [List.append_nil] at hu
  obtain ⟨ua, uc, rfl⟩ := hu.slice
  have hws : W0.heap.size ≤ W0.heap.size := Nat.le_refl _
  have hbl := bx.lt
  have hrl := br.lt
  go_wp2_with fail
  go_loopw [7, 8] (fun v iv wr => ∃ (k n : Nat) (a : Option Addr) (c : Nat), iv = .int .i64 ((args.length + k : Nat) : Int) ∧ (k = 0 ∨ args.length + k ≤ fn.locals.length) ∧ v = .slice a n c ∧ IntsV wr W0.heap.size (.slice a n c) (args ++ List.replicate k 0) ∧ Chg (fun _ => False) W0 wr) (fun _ iv _ => fn.locals.length - (intOf iv).toNat)
  case atStart => exact ⟨0, args.length, ua, uc, by simp, .inl rfl, rfl, by simpa using hu, k1⟩
  case round =>
    clear hu k1 HA
    obtain ⟨k, n, a, c, rfl, hk, rfl, hI, kk⟩ := hrel
    have x1 : wr.cell? ⟨w.heap.size, 1, none⟩ = some (.slice la fn.locals.length lc) := (bx.chg kk (fun e => e)).cell 1
    have hsz := kk.size
    have HK : Hid (k = 0 ∨ args.length + k ≤ fn.locals.length) := hk
    clear hk
    by_cases hlt : args.length + k < fn.locals.length
    · have hlt' : ((args.length + k : Nat) : Int) < (fn.locals.length : Int) := by omega
      have j1 : Chg (fun _ => False) wr (wr.alloc (Obj.cells #[.int .i64 0] 3)) := (Chg.refl _ wr).alloc _
      go_wp2_with (at_builtin; refine wp_app rfl _ _ rfl W0.heap.size (.slice a n c) (.slice (some ⟨wr.heap.size, 0, none⟩) 1 1) (args ++ List.replicate k 0) [0] rfl rfl ?h1 ?h2 ?h3 ?h4 ?_)
      case h1 => exact hI.chg j1 (fun _ _ _ e => e)
      case h2 => exact lit_rd [0] 1 rfl (by unfold maxLen; omega)
      case h3 => simp; omega
      case h4 => exact Nat.le_trans hsz j1.size
      intro a7 n7 c7 w7 hn7 hI7 hch
      have k7 := app_new hI kk j1 hch
      clear hn7 hch
      go_wp2
      refine ⟨⟨k + 1, n7, a7, c7, by simp; omega, .inr (by omega), rfl, ?_, k7⟩, by simp [intOf]; omega⟩
      rw [List.replicate_succ']; first | exact hI7 | (rw [← List.append_assoc]; exact hI7)
    · have hlt' : (fn.locals.length : Int) ≤ ((args.length + k : Nat) : Int) := by omega
      have hk : k = fn.locals.length - args.length := by have := HK.out; omega
      have EK : Hid (k = fn.locals.length - args.length) := hk
      have hB := br.chg kk (fun e => e)
      have o0 : wr.cell? ⟨w.heap.size + 1, 0, none⟩ = some (.int .i64 0) := hB.cell 0
      have o1 : wr.cell? ⟨w.heap.size + 1, 1, none⟩ = some (.int .i64 0) := hB.cell 1
      have o2 : wr.cell? ⟨w.heap.size + 1, 2, none⟩ = some (.slice none 0 0) := hB.cell 2
      have o3 : wr.cell? ⟨w.heap.size + 1, 3, none⟩ = some (.slice none 0 0) := hB.cell 3
      have z0 := hB.frozen 0
      have z1 := hB.frozen 1
      have z2 := hB.frozen 2
      have z3 := hB.frozen 3
      clear hk hlt
      go_wp2
      have b3 := ((((hB.set 0 (.int .i64 f)).set 1 (.int .i64 0)).set 2 (.slice a n c)).set 3 (.slice none 0 0))
      have hkk := chg_set4 wr (w.heap.size + 1) (.int .i64 f) (.int .i64 0) (.slice a n c) (.slice none 0 0)
      have hD := (kb.trans kk).trans' hkk (fun i hi e => by omega)
      have hI' := hI.chg hkk (fun g cs hb e => hb.ne hB (by decide) e)
      generalize ((((wr.setCell ⟨w.heap.size + 1, 0, none⟩ (.int .i64 f)).setCell ⟨w.heap.size + 1, 1, none⟩ (.int .i64 0)).setCell ⟨w.heap.size + 1, 2, none⟩ (.slice a n c)).setCell ⟨w.heap.size + 1, 3, none⟩ (.slice none 0 0)) = wf at *
      clear o0 o1 o2 o3 z0 z1 z2 z3
      have q0 : wf.cell? ⟨w.heap.size + 1, 0, none⟩ = some (.int .i64 f) := b3.cell 0
      have q1 : wf.cell? ⟨w.heap.size + 1, 1, none⟩ = some (.int .i64 0) := b3.cell 1
      have q2 : wf.cell? ⟨w.heap.size + 1, 2, none⟩ = some (.slice a n c) := b3.cell 2
      have q3 : wf.cell? ⟨w.heap.size + 1, 3, none⟩ = some (.slice none 0 0) := b3.cell 3
      have hek := EK.out
      subst hek
      exact bodyPost_ret (v := .agg #[.int .i64 f, .int .i64 0, .slice a n c, .slice none 0 0]) (by simp [results, Try.results81, go_sem, q0, q1, q2, q3]) rfl ⟨_, rfl, by rw [HLN.out]; exact own_mono hI' kb.size, hD⟩
end Go.Proofs.Ytnfnbcbadakofaa
