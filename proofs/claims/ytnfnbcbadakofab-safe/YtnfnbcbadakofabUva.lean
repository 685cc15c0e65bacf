import Derived.Test.YtnfnbcbadakofabLate
namespace Go.Proofs.Ytnfnbcbadakofab
open Go.RowKit
set_option maxHeartbeats 2000000
set_option maxRecDepth 100000
section
variable {W1 w:World} {rb:Nat} {s:ByteArray} {tv fv sv iv:Value} {R:Rn} {V:RV}
theorem RI.drew (h:RI W1 w rb s tv fv sv iv R V):RI W1 w.drew rb s tv fv sv iv R V:=h.new (Chg.refl _ w).drew
theorem RI.base (h:RI W1 w rb s tv fv sv iv R V):W1.heap.size<=w.heap.size:=h.ch.size
theorem RI.push (h:RI W1 w rb s tv fv sv iv R V) (v:Int) (hl:R.top.stack.length<=100000):Calls Try.prog 80 #[.pointer (some ⟨rb,9,none⟩),v] w (RunEnd W1 w rb s tv fv sv iv { R with top:=pushF R.top v }):=by
 refine (push_any rb 9 _ 65 V.kv R.top.stack v W1.heap.size w h.bx rfl (by decide) h.kk hl h.base).mono ?_
 rintro ex w' ⟨rfl,⟨⟨kv',h1,h2,h3⟩,h4⟩⟩
 exact ⟨rfl,KR.of h4 h.bx h.kk (fun j q=>q),_,h.stk (fun j q=>q) h4 h1 h2 h3⟩
def PopEnd (W1 w:World) (rb:Nat) (s:ByteArray) (tv fv sv iv:Value) (R:Rn) (ex:Ending) (w':World):Prop:=ex=.returned (.int .i64 (popV R.top.stack))/\KR w w'/\∃ V,RI W1 w' rb s tv fv sv iv { R with top:=popF R.top } V
theorem RI.pop (h:RI W1 w rb s tv fv sv iv R V) (hl:R.top.stack.length<=10000):Calls Try.prog 58 #[.pointer (some ⟨rb,9,none⟩)] w (PopEnd W1 w rb s tv fv sv iv R):=by
 refine (pop_any rb 9 _ 65 V.kv R.top.stack W1.heap.size w h.bx rfl (by decide) h.kk hl).mono ?_
 rintro ex w' ⟨rfl,⟨⟨kv',h1,h2,h3⟩,h4⟩⟩
 exact ⟨rfl,KR.of h4 h.bx h.kk (fun j q=>.inl q),_,h.stk (fun j q=>.inl q) h4 h1 h2 h3⟩
theorem popF_len (f:Fr):(popF f).stack.length<=f.stack.length:=by unfold popF;simp
theorem uv_push (h:RI W1 w rb s tv fv sv iv R V) (A B:Int) (hl:R.top.stack.length<=1000):Calls Try.prog 62 #[.pointer rb,.agg #[oO,A,B]] w (RunEnd W1 w rb s tv fv sv iv (uvP (0,A,B) R)):=by
 have e:uvP (0,A,B) R = { R with top:=pushF R.top A }:=rfl
 rw [e]
 clear e
 have kb:Chg () w (w.alloc (Obj.cells #[oO,A,B] 93)):=(Chg.refl _ w).alloc _
 have nb:Blk (w.alloc (Obj.cells #[oO,A,B] 93)) w.heap.size #[oO,A,B] 93:=Blk.new w _ 93
 have H:=hid (h.new kb)
 have KB:=KR.new kb
 clear h kb
 go_enter Try.func62,Try.ntmps62
 go_wp2
 go_region_with (go_at_call 80;refine (H.out.drew.push A (by omega)).mono ?_;rintro ex w2 ⟨rfl,k2,V2,h2⟩)
 exact bodyPost_end (v:=.tuple #[]) (by simp [results,Try.results62]) rfl ⟨rfl,KB.trans ((KR.new (Chg.refl _ _).drew).trans k2),V2,h2⟩
theorem uv_num (h:RI W1 w rb s tv fv sv iv R V) (op A B:Int) (hop:op=1 \/ op=2 \/ op=3 \/ op=4 \/ op=12) (hl:R.top.stack.length<=1000) (h1:0<=popV R.top.stack/\popV R.top.stack<=65535) (h2:0<=popV R.top.stack.dropLast/\popV R.top.stack.dropLast<=65535) :
 Calls Try.prog 62 #[.pointer rb,.agg #[op,A,B]] w (RunEnd W1 w rb s tv fv sv iv (uvP (op,A,B) R)):=by
 have e:uvP (op,A,B) R = { R with top:=pushF (popF (popF R.top)) (recP op (popV R.top.stack.dropLast) (popV R.top.stack)) }:=by
  unfold uvP;simp only;rw [if_neg (by omega),if_pos hop]
 rw [e]
 clear e
 have kb:Chg () w (w.alloc (Obj.cells #[op,A,B] 93)):=(Chg.refl _ w).alloc _
 have nb:Blk (w.alloc (Obj.cells #[op,A,B] 93)) w.heap.size #[op,A,B] 93:=Blk.new w _ 93
 have H:=hid (h.new kb)
 have KB:=KR.new kb
 have HOP:=hid hop
 clear h kb
 obtain ⟨ha,ha'⟩:=h1
 obtain ⟨hb,hb'⟩:=h2
 have p1:=popF_len R.top
 have p2:=popF_len (popF R.top)
 rcases hop with rfl | rfl | rfl | rfl | rfl
 ·go_enter Try.func62,Try.ntmps62
  go_wp2_with fail
  refine (H.out.pop (by omega)).mono ?_
  rintro ex w2 ⟨rfl,k2,V2,g2⟩
  have nb2:=k2.keep _ _ _ nb (by decide) (by decide) (by decide)
  have G2:=hid g2
  clear g2
  go_wp2_with fail
  refine (G2.out.pop (by show (popF R.top).stack.length<=10000;omega)).mono ?_
  rintro ex w3 ⟨rfl,k3,V3,g3⟩
  have nb3:=k3.keep _ _ _ nb2 (by decide) (by decide) (by decide)
  have G3:=hid g3
  clear g3
  have x0:w3.cell? ⟨w.heap.size,0,none⟩=some (.int .i64 1):=nb3.cell 0
  go_wp2
  go_region_with (first
   | (go_at_call 83;refine (reckoned_any 1 (popV R.top.stack.dropLast) (popV R.top.stack) (by simp) hb hb' ha ha' _).mono ?_;rintro ex w4 ⟨rfl,rfl⟩)
   | (go_at_call 80;refine (G3.out.drew.push (recP 1 (popV R.top.stack.dropLast) (popV R.top.stack)) (by show (popF (popF R.top)).stack.length<=100000;omega)).mono ?_;rintro ex w5 ⟨rfl,k5,V5,g5⟩))
  exact bodyPost_end (v:=.tuple #[]) (by simp [results,Try.results62]) rfl ⟨rfl,(KB.trans k2).trans (k3.trans ((KR.new (Chg.refl _ _).drew).trans k5)),V5,g5⟩
 ·go_enter Try.func62,Try.ntmps62
  go_wp2_with fail
  refine (H.out.pop (by omega)).mono ?_
  rintro ex w2 ⟨rfl,k2,V2,g2⟩
  have nb2:=k2.keep _ _ _ nb (by decide) (by decide) (by decide)
  have G2:=hid g2
  clear g2
  go_wp2_with fail
  refine (G2.out.pop (by show (popF R.top).stack.length<=10000;omega)).mono ?_
  rintro ex w3 ⟨rfl,k3,V3,g3⟩
  have nb3:=k3.keep _ _ _ nb2 (by decide) (by decide) (by decide)
  have G3:=hid g3
  clear g3
  have x0:w3.cell? ⟨w.heap.size,0,none⟩=some (.int .i64 2):=nb3.cell 0
  go_wp2
  go_region_with (first
   | (go_at_call 83;refine (reckoned_any 2 (popV R.top.stack.dropLast) (popV R.top.stack) (by simp) hb hb' ha ha' _).mono ?_;rintro ex w4 ⟨rfl,rfl⟩)
   | (go_at_call 80;refine (G3.out.drew.push (recP 2 (popV R.top.stack.dropLast) (popV R.top.stack)) (by show (popF (popF R.top)).stack.length<=100000;omega)).mono ?_;rintro ex w5 ⟨rfl,k5,V5,g5⟩))
  exact bodyPost_end (v:=.tuple #[]) (by simp [results,Try.results62]) rfl ⟨rfl,(KB.trans k2).trans (k3.trans ((KR.new (Chg.refl _ _).drew).trans k5)),V5,g5⟩
 ·go_enter Try.func62,Try.ntmps62
  go_wp2_with fail
  refine (H.out.pop (by omega)).mono ?_
  rintro ex w2 ⟨rfl,k2,V2,g2⟩
  have nb2:=k2.keep _ _ _ nb (by decide) (by decide) (by decide)
  have G2:=hid g2
  clear g2
  go_wp2_with fail
  refine (G2.out.pop (by show (popF R.top).stack.length<=10000;omega)).mono ?_
  rintro ex w3 ⟨rfl,k3,V3,g3⟩
  have nb3:=k3.keep _ _ _ nb2 (by decide) (by decide) (by decide)
  have G3:=hid g3
  clear g3
  have x0:w3.cell? ⟨w.heap.size,0,none⟩=some (.int .i64 3):=nb3.cell 0
  go_wp2
  go_region_with (first
   | (go_at_call 83;refine (reckoned_any 3 (popV R.top.stack.dropLast) (popV R.top.stack) (by simp) hb hb' ha ha' _).mono ?_;rintro ex w4 ⟨rfl,rfl⟩)
   | (go_at_call 80;refine (G3.out.drew.push (recP 3 (popV R.top.stack.dropLast) (popV R.top.stack)) (by show (popF (popF R.top)).stack.length<=100000;omega)).mono ?_;rintro ex w5 ⟨rfl,k5,V5,g5⟩))
  exact bodyPost_end (v:=.tuple #[]) (by simp [results,Try.results62]) rfl ⟨rfl,(KB.trans k2).trans (k3.trans ((KR.new (Chg.refl _ _).drew).trans k5)),V5,g5⟩
 ·go_enter Try.func62,Try.ntmps62
  go_wp2_with fail
  refine (H.out.pop (by omega)).mono ?_
  rintro ex w2 ⟨rfl,k2,V2,g2⟩
  have nb2:=k2.keep _ _ _ nb (by decide) (by decide) (by decide)
  have G2:=hid g2
  clear g2
  go_wp2_with fail
  refine (G2.out.pop (by show (popF R.top).stack.length<=10000;omega)).mono ?_
  rintro ex w3 ⟨rfl,k3,V3,g3⟩
  have nb3:=k3.keep _ _ _ nb2 (by decide) (by decide) (by decide)
  have G3:=hid g3
  clear g3
  have x0:w3.cell? ⟨w.heap.size,0,none⟩=some (.int .i64 4):=nb3.cell 0
  go_wp2
  go_region_with (first
   | (go_at_call 83;refine (reckoned_any 4 (popV R.top.stack.dropLast) (popV R.top.stack) (by simp) hb hb' ha ha' _).mono ?_;rintro ex w4 ⟨rfl,rfl⟩)
   | (go_at_call 80;refine (G3.out.drew.push (recP 4 (popV R.top.stack.dropLast) (popV R.top.stack)) (by show (popF (popF R.top)).stack.length<=100000;omega)).mono ?_;rintro ex w5 ⟨rfl,k5,V5,g5⟩))
  exact bodyPost_end (v:=.tuple #[]) (by simp [results,Try.results62]) rfl ⟨rfl,(KB.trans k2).trans (k3.trans ((KR.new (Chg.refl _ _).drew).trans k5)),V5,g5⟩
 ·go_enter Try.func62,Try.ntmps62
  go_wp2_with fail
  refine (H.out.pop (by omega)).mono ?_
  rintro ex w2 ⟨rfl,k2,V2,g2⟩
  have nb2:=k2.keep _ _ _ nb (by decide) (by decide) (by decide)
  have G2:=hid g2
  clear g2
  go_wp2_with fail
  refine (G2.out.pop (by show (popF R.top).stack.length<=10000;omega)).mono ?_
  rintro ex w3 ⟨rfl,k3,V3,g3⟩
  have nb3:=k3.keep _ _ _ nb2 (by decide) (by decide) (by decide)
  have G3:=hid g3
  clear g3
  have x0:w3.cell? ⟨w.heap.size,0,none⟩=some (.int .i64 12):=nb3.cell 0
  go_wp2
  go_region_with (first
   | (go_at_call 83;refine (reckoned_any 12 (popV R.top.stack.dropLast) (popV R.top.stack) (by simp) hb hb' ha ha' _).mono ?_;rintro ex w4 ⟨rfl,rfl⟩)
   | (go_at_call 80;refine (G3.out.drew.push (recP 12 (popV R.top.stack.dropLast) (popV R.top.stack)) (by show (popF (popF R.top)).stack.length<=100000;omega)).mono ?_;rintro ex w5 ⟨rfl,k5,V5,g5⟩))
  exact bodyPost_end (v:=.tuple #[]) (by simp [results,Try.results62]) rfl ⟨rfl,(KB.trans k2).trans (k3.trans ((KR.new (Chg.refl _ _).drew).trans k5)),V5,g5⟩
end
end Go.Proofs.Ytnfnbcbadakofab
