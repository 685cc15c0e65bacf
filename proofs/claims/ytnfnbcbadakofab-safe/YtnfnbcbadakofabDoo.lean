import Derived.Test.YtnfnbcbadakofabUvd
import Derived.Test.YtnfnbcbadakofabCal
import Derived.Test.YtnfnbcbadakofabGbk
import Derived.Test.YtnfnbcbadakofabStr
namespace Go.Proofs.Ytnfnbcbadakofab
open Go.RowKit
section
variable {W1 w w':World} {rb:Nat} {s:ByteArray} {tv fv sv iv:Value} {R:Rn} {V:RV}
set_option maxHeartbeats 1000000 in
set_option maxRecDepth 100000 in
theorem uv_store (h:RI W1 w rb s tv fv sv iv R V) (A B:Int) (hl:R.top.stack.length<=1000) (hA:0<=A) (hA2:A < (R.top.locals.length:Int)):Calls Try.prog 62 #[.pointer rb,.agg #[(6:Int),A,B]] w (RunEnd W1 w rb s tv fv sv iv (uvP (6,A,B) R)):=by
 have e:uvP (6,A,B) R = { R with top:={ popF R.top with locals:=R.top.locals.set A.toNat (popV R.top.stack) } }:=by
  unfold uvP;simp only;rw [if_neg (by decide),if_neg (by decide),if_neg (by decide),if_pos trivial,if_pos ⟨hA,hA2⟩]
 rw [e]
 clear e
 have kb:Chg () w (w.alloc (Obj.cells #[(6:Int),A,B] 93)):=(Chg.refl _ w).alloc _
 have nb:Blk (w.alloc (Obj.cells #[(6:Int),A,B] 93)) w.heap.size #[(6:Int),A,B] 93:=Blk.new w _ 93
 have H:=hid (h.new kb)
 have KB:=KR.new kb
 clear h kb
 go_enter Try.func62,Try.ntmps62
 go_wp2_with fail
 refine (H.out.pop (by omega)).mono ?_
 rintro ex w2 ⟨rfl,k2,V2,g2⟩
 have nb2:=k2.keep _ _ _ nb (by decide) (by decide) (by decide)
 have p1:=popF_len R.top
 have G2:=hid g2
 clear g2
 have x11:w2.cell? ⟨rb,11,none⟩=some V2.lv:=G2.out.bx.cell 11
 have hpos:0 < R.top.locals.length:=by omega
 obtain ⟨g,lc,hlv,hbg,_,_,_⟩:=G2.out.ll.form (by show 0 < R.top.locals.length;exact hpos)
 change V2.lv=.slice g R.top.locals.length lc at hlv
 rw [hlv] at x11
 have hrb:=G2.out.bx.lt
 have y1:w2.cell? ⟨w.heap.size,1,none⟩=some (.int .i64 A):=nb2.cell 1
 have hLL:IntsV w2 W1.heap.size (.slice g R.top.locals.length lc) R.top.locals:=by rw [<-hlv];exact G2.out.ll
 have hgl:=(hLL.lt g rfl).2
 obtain ⟨gcs,hgb⟩:=own_blk hLL (g:=g) rfl
 obtain ⟨k,rfl⟩:∃ k:Nat,A=(k:Int):=⟨A.toNat,by omega⟩
 have hkl:k < R.top.locals.length:=by omega
 have z1:∃ u,w2.cell? ⟨g,k,none⟩=some u:=by
  obtain ⟨g',c',q,_,_,_,hc⟩:=hLL.form hpos
  simp only [Value.slice.injEq,Option.some.injEq,Addr.mk.injEq] at q
  obtain ⟨⟨rfl,_⟩,_,_⟩:=q
  exact ⟨_,hc k hkl⟩
 obtain ⟨u,z1⟩:=z1
 have fz:=hgb.frozen k
 have hkd:decide ((k:Int) < (R.top.locals.length:Int))=true:=by simp;omega
 clear hLL hl p1
 go_wp2
 go_quiet (fail)
 go_wp2
 go_region
 have g3:=(G2.out.new ((Chg.refl () w2).drewN nq).drew).setLoc hlv (by show k < R.top.locals.length;exact hkl) (popV R.top.stack)
 refine bodyPost_end (v:=.tuple #[]) (by simp [results,Try.results62]) rfl ⟨rfl,(KB.trans k2).trans ((KR.new ((Chg.refl () w2).drewN nq).drew).trans g3.2),V2,?_⟩
 rw [Int.toNat_natCast]
 exact g3.1
end
end Go.Proofs.Ytnfnbcbadakofab
namespace Go.Proofs.Ytnfnbcbadakofab
open Go.RowKit
section
variable {W1 w w':World} {rb:Nat} {s:ByteArray} {tv fv sv iv:Value} {R:Rn} {V:RV}
set_option maxHeartbeats 1000000 in
set_option maxRecDepth 100000 in
theorem uv_load (h:RI W1 w rb s tv fv sv iv R V) (A B:Int) (hl:R.top.stack.length<=1000):Calls Try.prog 62 #[.pointer rb,.agg #[(5:Int),A,B]] w (RunEnd W1 w rb s tv fv sv iv (uvP (5,A,B) R)):=by
 have e:uvP (5,A,B) R = { R with top:=pushF R.top (tyAt R.top.locals A) }:=rfl
 rw [e]
 clear e
 have kb:Chg () w (w.alloc (Obj.cells #[(5:Int),A,B] 93)):=(Chg.refl _ w).alloc _
 have nb:Blk (w.alloc (Obj.cells #[(5:Int),A,B] 93)) w.heap.size #[(5:Int),A,B] 93:=Blk.new w _ 93
 have H:=hid (h.new kb)
 have KB:=KR.new kb
 have x11:(w.alloc (Obj.cells #[(5:Int),A,B] 93)).cell? ⟨rb,11,none⟩=some V.lv:=H.out.bx.cell 11
 obtain ⟨la,lc,hlv⟩:=H.out.ll.slice
 rw [hlv] at x11
 have hrb:=H.out.bx.lt
 have HL:Hid (IntsV (w.alloc (Obj.cells #[(5:Int),A,B] 93)) W1.heap.size (.slice la R.top.locals.length lc) R.top.locals):=by
  show IntsV _ _ _ _
  rw [<-hlv];exact H.out.ll
 have hq:∀ n,Calls Try.prog 65 #[.slice la R.top.locals.length lc,A] ((w.alloc (Obj.cells #[(5:Int),A,B] 93)).drewN n) fun e w'=>e=.returned (.int .i64 (tyAt R.top.locals A))/\w'=(w.alloc (Obj.cells #[(5:Int),A,B] 93)).drewN n:=fun n=>typeAt_any _ R.top.locals A _ W1.heap.size (own_drewN HL.out n)
 clear h kb
 go_enter Try.func62,Try.ntmps62
 go_wp2
 go_quiet ((go_at_call 65;exact Calls.quiet_of_same (hq _)))
 go_wp2_with fail
 have dn:=(Chg.refl () (w.alloc (Obj.cells #[(5:Int),A,B] 93))).drewN nq
 refine ((H.out.new dn).push (tyAt R.top.locals A) (by omega)).mono ?_
 rintro ex w2 ⟨rfl,k2,V2,h2⟩
 go_wp2
 exact bodyPost_end (v:=.tuple #[]) (by simp [results,Try.results62]) rfl ⟨rfl,KB.trans ((KR.new dn).trans k2),V2,h2⟩
end
end Go.Proofs.Ytnfnbcbadakofab
namespace Go.Proofs.Ytnfnbcbadakofab
open Go.RowKit
set_option maxHeartbeats 1000000
set_option maxRecDepth 100000
theorem uv_pc (x:Int × Int × Int) (R:Rn):(uvP x R).top.pc=R.top.pc:=by
 unfold uvP;repeat' split
 all_goals rfl
theorem mr2_pc (c:Cx) (t:Int) (R:Rn):(mr2P c t R).top.pc=R.top.pc:=by
 unfold mr2P;split <;> rfl
theorem mr_pc (c:Cx) (t:Int) (R:Rn):(mrP c t R).top.pc=R.top.pc:=by
 unfold mrP;rw [mr2_pc];split <;> rfl
theorem ur_pc (c:Cx) (x:Int × Int × Int) (R:Rn):(urP c x R).top.pc=R.top.pc:=by
 unfold urP
 split
 ·exact mr_pc _ _ _
 ·split
  ·split <;> rfl
  ·split <;> rfl
section
variable {W1 w:World} {rb:Nat} {s:ByteArray} {tv fv sv iv:Value} {R:Rn} {V:RV} {c:Cx}
theorem RI.place (h:RI W1 w rb s tv fv sv iv R V):w.cell? ⟨rb,10,none⟩=some (.int .i64 R.top.pc)/\w.frozen? ⟨rb,10,none⟩=false:=⟨h.bx.cell 10,h.bx.frozen 10⟩
theorem do_jump (h:RI W1 w rb s tv fv sv iv R V) (A B:Int):Calls Try.prog 40 #[.pointer rb,.agg #[(13:Int),A,B]] w (RunEnd W1 w rb s tv fv sv iv (doP c (13,A,B) R)):=by
 have HM:Hid (doP c (13,A,B) R = { R with top:={ R.top with pc:=A } }):=rfl
 have kb:Chg () w (w.alloc (Obj.cells #[(13:Int),A,B] 93)):=(Chg.refl _ w).alloc _
 have nb:Blk (w.alloc (Obj.cells #[(13:Int),A,B] 93)) w.heap.size #[(13:Int),A,B] 93:=Blk.new w _ 93
 have H:=hid (h.new kb)
 have KB:=KR.new kb
 clear h kb
 obtain ⟨x10,q10⟩:=H.out.place
 have hrb:=H.out.bx.lt
 have GG:Hid _:=H.out.pcs A
 have hne:rb ≠ w.heap.size:=H.out.bx.ne nb (by decide)
 go_enter Try.func40,Try.ntmps40
 go_wp2
 exact bodyPost_end (v:=.tuple #[]) (by simp [results,Try.results40]) rfl ⟨rfl,KB.trans GG.out.2,V,by rw [HM.out];exact GG.out.1⟩
theorem do_zero_y (h:RI W1 w rb s tv fv sv iv R V) (A B:Int) (hl:R.top.stack.length<=1000) (hp0:0<=R.top.pc) (hp1:R.top.pc<=1000) (hz:popV R.top.stack=0):Calls Try.prog 40 #[.pointer rb,.agg #[(14:Int),A,B]] w (RunEnd W1 w rb s tv fv sv iv (doP c (14,A,B) R)):=by
 have HM:Hid (doP c (14,A,B) R = { R with top:={ popF R.top with pc:=A } }):=by
  show doP c (14,A,B) R=_
  simp [doP,hz]
 have kb:Chg () w (w.alloc (Obj.cells #[(14:Int),A,B] 93)):=(Chg.refl _ w).alloc _
 have nb:Blk (w.alloc (Obj.cells #[(14:Int),A,B] 93)) w.heap.size #[(14:Int),A,B] 93:=Blk.new w _ 93
 have H:=hid (h.new kb)
 have KB:=KR.new kb
 clear h kb
 go_enter Try.func40,Try.ntmps40
 go_wp2_with fail
 refine (H.out.pop (by omega)).mono ?_
 rintro ex w2 ⟨rfl,k2,V2,g2⟩
 have nb2:=k2.keep _ _ _ nb (by decide) (by decide) (by decide)
 have y1:w2.cell? ⟨w.heap.size,1,none⟩=some (.int .i64 A):=nb2.cell 1
 have hne:rb ≠ w.heap.size:=g2.bx.ne nb2 (by decide)
 have hne':=hne.symm
 have x10:w2.cell? ⟨rb,10,none⟩=some (.int .i64 R.top.pc):=g2.bx.cell 10
 have q10:=g2.bx.frozen 10
 have g3:=g2.pcs (R.top.pc+1)
 have g4:=g3.1.pcs A
 have GG:Hid _:=g4.1
 have KK:=(KB.trans k2).trans (g3.2.trans g4.2)
 rw [hz]
 clear g2 g3 g4 nb nb2 hz
 go_wp2
 exact bodyPost_end (v:=.tuple #[]) (by simp [results,Try.results40]) rfl ⟨rfl,KK,V2,by rw [HM.out];exact GG.out⟩
theorem do_zero_n (h:RI W1 w rb s tv fv sv iv R V) (A B:Int) (hl:R.top.stack.length<=1000) (hp0:0<=R.top.pc) (hp1:R.top.pc<=1000) (hz:¬ popV R.top.stack=0):Calls Try.prog 40 #[.pointer rb,.agg #[(14:Int),A,B]] w (RunEnd W1 w rb s tv fv sv iv (doP c (14,A,B) R)):=by
 have HM:Hid (doP c (14,A,B) R = { R with top:={ popF R.top with pc:=R.top.pc+1 } }):=by
  show doP c (14,A,B) R=_
  simp [doP,hz]
 have kb:Chg () w (w.alloc (Obj.cells #[(14:Int),A,B] 93)):=(Chg.refl _ w).alloc _
 have nb:Blk (w.alloc (Obj.cells #[(14:Int),A,B] 93)) w.heap.size #[(14:Int),A,B] 93:=Blk.new w _ 93
 have H:=hid (h.new kb)
 have KB:=KR.new kb
 clear h kb
 go_enter Try.func40,Try.ntmps40
 go_wp2_with fail
 refine (H.out.pop (by omega)).mono ?_
 rintro ex w2 ⟨rfl,k2,V2,g2⟩
 have nb2:=k2.keep _ _ _ nb (by decide) (by decide) (by decide)
 have y1:w2.cell? ⟨w.heap.size,1,none⟩=some (.int .i64 A):=nb2.cell 1
 have hne:rb ≠ w.heap.size:=g2.bx.ne nb2 (by decide)
 have hne':=hne.symm
 have x10:w2.cell? ⟨rb,10,none⟩=some (.int .i64 R.top.pc):=g2.bx.cell 10
 have q10:=g2.bx.frozen 10
 have g3:=g2.pcs (R.top.pc+1)
 have GG:Hid _:=g3.1
 have KK:=(KB.trans k2).trans g3.2
 clear g2 g3 nb nb2
 go_wp2
 exact bodyPost_end (v:=.tuple #[]) (by simp [results,Try.results40]) rfl ⟨rfl,KK,V2,by rw [HM.out];exact GG.out⟩
theorem do_call (h:RI W1 w rb s tv fv sv iv R V) (A B:Int) (hnw:W1.heap.size<=rb) (ro:∀ w,Chg (fun j=>j=rb) W1 w->Ro w tv fv sv c) (hbl:R.below.length<=1000) (hkl:R.top.stack.length<=1000) (hfl:(fnAt c.fs A).locals.length<=1000):Calls Try.prog 40 #[.pointer rb,.agg #[(15:Int),A,B]] w (RunEnd W1 w rb s tv fv sv iv (doP c (15,A,B) R)):=by
 have HM:Hid (doP c (15,A,B) R=clP c A R):=rfl
 have kb:Chg () w (w.alloc (Obj.cells #[(15:Int),A,B] 93)):=(Chg.refl _ w).alloc _
 have nb:Blk (w.alloc (Obj.cells #[(15:Int),A,B] 93)) w.heap.size #[(15:Int),A,B] 93:=Blk.new w _ 93
 have H:=hid (h.new kb)
 have KB:=KR.new kb
 clear h kb
 have RO:=hid ro
 clear ro
 go_enter Try.func40,Try.ntmps40
 go_wp2_with fail
 refine (call_any H.out hnw RO.out A hbl hkl hfl).mono ?_
 rintro ex w2 ⟨rfl,k2,V2,g2⟩
 go_wp2
 exact bodyPost_end (v:=.tuple #[]) (by simp [results,Try.results40]) rfl ⟨rfl,KB.trans k2,V2,by rw [HM.out];exact g2⟩
theorem do_ret (h:RI W1 w rb s tv fv sv iv R V) (A B:Int) (hkl:R.top.stack.length<=1000) (ho:R.out.length<=1000000) (hbl:R.below.length<=1000) (hfb:∀ f ∈ R.below,f.stack.length<=1000/\0<=f.pc/\f.pc<=1000):Calls Try.prog 40 #[.pointer rb,.agg #[(16:Int),A,B]] w (RunEnd W1 w rb s tv fv sv iv (doP c (16,A,B) R)):=by
 have HM:Hid (doP c (16,A,B) R=gbP R):=rfl
 have kb:Chg () w (w.alloc (Obj.cells #[(16:Int),A,B] 93)):=(Chg.refl _ w).alloc _
 have nb:Blk (w.alloc (Obj.cells #[(16:Int),A,B] 93)) w.heap.size #[(16:Int),A,B] 93:=Blk.new w _ 93
 have H:=hid (h.new kb)
 have KB:=KR.new kb
 clear h kb
 have HF:=hid hfb
 clear hfb
 go_enter Try.func40,Try.ntmps40
 go_wp2_with fail
 refine (gb_any H.out hkl ho hbl HF.out).mono ?_
 rintro ex w2 ⟨rfl,k2,V2,g2⟩
 go_wp2
 exact bodyPost_end (v:=.tuple #[]) (by simp [results,Try.results40]) rfl ⟨rfl,KB.trans k2,V2,by rw [HM.out];exact g2⟩
theorem do_uv (h:RI W1 w rb s tv fv sv iv R V) (op A B:Int) (hn:(op == 13)=false/\(op == 14)=false/\(op == 15)=false/\(op == 16)=false/\(op == 7)=false/\(op == 8)=false/\(op == 9)=false) (hp0:0<=R.top.pc) (hp1:R.top.pc<=1000) (huv:∀ w V,RI W1 w rb s tv fv sv iv R V->Calls Try.prog 62 #[.pointer rb,.agg #[op,A,B]] w (RunEnd W1 w rb s tv fv sv iv (uvP (op,A,B) R))):Calls Try.prog 40 #[.pointer rb,.agg #[op,A,B]] w (RunEnd W1 w rb s tv fv sv iv (doP c (op,A,B) R)):=by
 have HM:Hid (doP c (op,A,B) R=incR (uvP (op,A,B) R)):=by
  show doP c (op,A,B) R=_
  simp only [beq_eq_false_iff_ne,ne_eq] at hn
  obtain ⟨h1,h2,h3,h4,h5,h6,h7⟩:=hn
  simp [doP,h1,h2,h3,h4,h5,h6,h7]
 have kb:Chg () w (w.alloc (Obj.cells #[op,A,B] 93)):=(Chg.refl _ w).alloc _
 have nb:Blk (w.alloc (Obj.cells #[op,A,B] 93)) w.heap.size #[op,A,B] 93:=Blk.new w _ 93
 have H:=hid (h.new kb)
 have KB:=KR.new kb
 clear h kb
 have HUV:Hid _:=huv
 clear huv
 obtain ⟨n1,n2,n3,n4,n5,n6,n7⟩:=hn
 go_enter Try.func40,Try.ntmps40
 go_wp2_with fail
 refine (HUV.out _ _ H.out).mono ?_
 rintro ex w2 ⟨rfl,k2,V2,g2⟩
 have x10:w2.cell? ⟨rb,10,none⟩=some (.int .i64 (uvP (op,A,B) R).top.pc):=g2.bx.cell 10
 have q10:=g2.bx.frozen 10
 rw [uv_pc] at x10
 have g3:=g2.pcs (R.top.pc+1)
 have GG:Hid _:=g3.1
 have KK:=(KB.trans k2).trans g3.2
 clear g2 g3 nb
 go_wp2
 refine bodyPost_end (v:=.tuple #[]) (by simp [results,Try.results40]) rfl ⟨rfl,KK,V2,?_⟩
 rw [HM.out]
 show RI _ _ _ _ _ _ _ _ { uvP (op,A,B) R with top:={ (uvP (op,A,B) R).top with pc:=(uvP (op,A,B) R).top.pc+1 } } _
 rw [uv_pc]
 exact GG.out
theorem do_ur7 (h:RI W1 w rb s tv fv sv iv R V) (A B:Int) (hp0:0<=R.top.pc) (hp1:R.top.pc<=1000) (huv:∀ w V,RI W1 w rb s tv fv sv iv R V->Calls Try.prog 61 #[.pointer rb,.agg #[(7:Int),A,B]] w (RunEnd W1 w rb s tv fv sv iv (urP c (7,A,B) R))):Calls Try.prog 40 #[.pointer rb,.agg #[(7:Int),A,B]] w (RunEnd W1 w rb s tv fv sv iv (doP c (7,A,B) R)):=by
 have HM:Hid (doP c (7,A,B) R=incR (urP c (7,A,B) R)):=rfl
 have kb:Chg () w (w.alloc (Obj.cells #[(7:Int),A,B] 93)):=(Chg.refl _ w).alloc _
 have nb:Blk (w.alloc (Obj.cells #[(7:Int),A,B] 93)) w.heap.size #[(7:Int),A,B] 93:=Blk.new w _ 93
 have H:=hid (h.new kb)
 have KB:=KR.new kb
 clear h kb
 have HUV:Hid _:=huv
 clear huv
 go_enter Try.func40,Try.ntmps40
 go_wp2_with fail
 refine (HUV.out _ _ H.out).mono ?_
 rintro ex w2 ⟨rfl,k2,V2,g2⟩
 have x10:w2.cell? ⟨rb,10,none⟩=some (.int .i64 (urP c (7,A,B) R).top.pc):=g2.bx.cell 10
 have q10:=g2.bx.frozen 10
 rw [ur_pc] at x10
 have g3:=g2.pcs (R.top.pc+1)
 have GG:Hid _:=g3.1
 have KK:=(KB.trans k2).trans g3.2
 clear g2 g3 nb
 go_wp2
 refine bodyPost_end (v:=.tuple #[]) (by simp [results,Try.results40]) rfl ⟨rfl,KK,V2,?_⟩
 rw [HM.out]
 show RI _ _ _ _ _ _ _ _ { urP c (7,A,B) R with top:={ (urP c (7,A,B) R).top with pc:=(urP c (7,A,B) R).top.pc+1 } } _
 rw [ur_pc]
 exact GG.out
theorem do_ur8 (h:RI W1 w rb s tv fv sv iv R V) (A B:Int) (hp0:0<=R.top.pc) (hp1:R.top.pc<=1000) (huv:∀ w V,RI W1 w rb s tv fv sv iv R V->Calls Try.prog 61 #[.pointer rb,.agg #[(8:Int),A,B]] w (RunEnd W1 w rb s tv fv sv iv (urP c (8,A,B) R))):Calls Try.prog 40 #[.pointer rb,.agg #[(8:Int),A,B]] w (RunEnd W1 w rb s tv fv sv iv (doP c (8,A,B) R)):=by
 have HM:Hid (doP c (8,A,B) R=incR (urP c (8,A,B) R)):=rfl
 have kb:Chg () w (w.alloc (Obj.cells #[(8:Int),A,B] 93)):=(Chg.refl _ w).alloc _
 have nb:Blk (w.alloc (Obj.cells #[(8:Int),A,B] 93)) w.heap.size #[(8:Int),A,B] 93:=Blk.new w _ 93
 have H:=hid (h.new kb)
 have KB:=KR.new kb
 clear h kb
 have HUV:Hid _:=huv
 clear huv
 go_enter Try.func40,Try.ntmps40
 go_wp2_with fail
 refine (HUV.out _ _ H.out).mono ?_
 rintro ex w2 ⟨rfl,k2,V2,g2⟩
 have x10:w2.cell? ⟨rb,10,none⟩=some (.int .i64 (urP c (8,A,B) R).top.pc):=g2.bx.cell 10
 have q10:=g2.bx.frozen 10
 rw [ur_pc] at x10
 have g3:=g2.pcs (R.top.pc+1)
 have GG:Hid _:=g3.1
 have KK:=(KB.trans k2).trans g3.2
 clear g2 g3 nb
 go_wp2
 refine bodyPost_end (v:=.tuple #[]) (by simp [results,Try.results40]) rfl ⟨rfl,KK,V2,?_⟩
 rw [HM.out]
 show RI _ _ _ _ _ _ _ _ { urP c (8,A,B) R with top:={ (urP c (8,A,B) R).top with pc:=(urP c (8,A,B) R).top.pc+1 } } _
 rw [ur_pc]
 exact GG.out
theorem do_ur9 (h:RI W1 w rb s tv fv sv iv R V) (A B:Int) (hp0:0<=R.top.pc) (hp1:R.top.pc<=1000) (huv:∀ w V,RI W1 w rb s tv fv sv iv R V->Calls Try.prog 61 #[.pointer rb,.agg #[(9:Int),A,B]] w (RunEnd W1 w rb s tv fv sv iv (urP c (9,A,B) R))):Calls Try.prog 40 #[.pointer rb,.agg #[(9:Int),A,B]] w (RunEnd W1 w rb s tv fv sv iv (doP c (9,A,B) R)):=by
 have HM:Hid (doP c (9,A,B) R=incR (urP c (9,A,B) R)):=rfl
 have kb:Chg () w (w.alloc (Obj.cells #[(9:Int),A,B] 93)):=(Chg.refl _ w).alloc _
 have nb:Blk (w.alloc (Obj.cells #[(9:Int),A,B] 93)) w.heap.size #[(9:Int),A,B] 93:=Blk.new w _ 93
 have H:=hid (h.new kb)
 have KB:=KR.new kb
 clear h kb
 have HUV:Hid _:=huv
 clear huv
 go_enter Try.func40,Try.ntmps40
 go_wp2_with fail
 refine (HUV.out _ _ H.out).mono ?_
 rintro ex w2 ⟨rfl,k2,V2,g2⟩
 have x10:w2.cell? ⟨rb,10,none⟩=some (.int .i64 (urP c (9,A,B) R).top.pc):=g2.bx.cell 10
 have q10:=g2.bx.frozen 10
 rw [ur_pc] at x10
 have g3:=g2.pcs (R.top.pc+1)
 have GG:Hid _:=g3.1
 have KK:=(KB.trans k2).trans g3.2
 clear g2 g3 nb
 go_wp2
 refine bodyPost_end (v:=.tuple #[]) (by simp [results,Try.results40]) rfl ⟨rfl,KK,V2,?_⟩
 rw [HM.out]
 show RI _ _ _ _ _ _ _ _ { urP c (9,A,B) R with top:={ (urP c (9,A,B) R).top with pc:=(urP c (9,A,B) R).top.pc+1 } } _
 rw [ur_pc]
 exact GG.out
theorem do_any (h:RI W1 w rb s tv fv sv iv R V) (hnw:W1.heap.size<=rb) (ro:∀ w,Chg (fun j=>j=rb) W1 w->Ro w tv fv sv c) (hin:∀ w,Chg (fun j=>j=rb) W1 w->RdA w iv R.inp) (x:Int × Int × Int) (hd:DoH c x R) (ho:R.out.length<=1000000) (hu:R.used<=1000000) (hr:x.1=18->R.used < R.inp.length) :
 Calls Try.prog 40 #[.pointer rb,.agg #[x.1,x.2.1,x.2.2]] w (RunEnd W1 w rb s tv fv sv iv (doP c x R)):=by
 obtain ⟨op,A,B⟩:=x
 have hop:=hd.op
 have hkl:=hd.rb.tb.kl
 have hp:=hd.pc
 have hb1:=hd.rb.bl
 simp only at hop hr ⊢
 have hc:op=0 \/ (op=1 \/ op=2 \/ op=3 \/ op=4 \/ op=12) \/ op=5 \/ op=6 \/ op=7 \/ op=8 \/ op=9 \/ op=10 \/ op=11 \/ op=13 \/ op=14 \/ op=15 \/ op=16 \/ op=17 \/ op=18:=by omega
 rcases hc with rfl | q | rfl | rfl | rfl | rfl | rfl | rfl | rfl | rfl | rfl | rfl | rfl | rfl | rfl
 ·exact do_uv h _ _ _ (by decide) hp.1 hp.2 (fun w V g=>uv_push g A B hkl)
 ·refine do_uv h _ _ _ (by simp only [beq_eq_false_iff_ne,ne_eq];omega) hp.1 hp.2 (fun w V g=>uv_num g op A B q hkl (popV_bd hd.rb.tb.kv) (popV_bd (drop_bd hd.rb.tb.kv)))
 ·exact do_uv h _ _ _ (by decide) hp.1 hp.2 (fun w V g=>uv_load g A B hkl)
 ·exact do_uv h _ _ _ (by decide) hp.1 hp.2 (fun w V g=>uv_store g A B hkl (hd.sto rfl).1 (hd.sto rfl).2)
 ·exact do_ur7 h _ _ hp.1 hp.2 (fun w V g=>ur_new g ro hd.rb A B)
 ·exact do_ur8 h _ _ hp.1 hp.2 (fun w V g=>ur_get g hd.rb.tb A B (hd.fld (.inl rfl)).1 (hd.fld (.inl rfl)).2)
 ·exact do_ur9 h _ _ hp.1 hp.2 (fun w V g=>ur_set g hd.rb.tb A B (hd.fld (.inr rfl)).1 (hd.fld (.inr rfl)).2 (hd.set rfl))
 ·exact do_uv h _ _ _ (by decide) hp.1 hp.2 (fun w V g=>uv_null g A B hkl)
 ·exact do_uv h _ _ _ (by decide) hp.1 hp.2 (fun w V g=>uv_is g A B hkl)
 ·exact do_jump h A B
 ·by_cases hz:popV R.top.stack=0
  ·exact do_zero_y h A B hkl hp.1 hp.2 hz
  ·exact do_zero_n h A B hkl hp.1 hp.2 hz
 ·exact do_call h A B hnw ro hb1 hkl (hd.fnl A)
 ·exact do_ret h A B hkl ho hb1 (fun f hf=>⟨(hd.rb.fb f hf).kl,(hd.bpc f hf).1,(hd.bpc f hf).2⟩)
 ·exact do_uv h _ _ _ (by decide) hp.1 hp.2 (fun w V g=>uv_print g A B hkl ho)
 ·exact do_uv h _ _ _ (by decide) hp.1 hp.2 (fun w V g=>uv_read g A B hkl hu hin (hr rfl))
end
end Go.Proofs.Ytnfnbcbadakofab
