import Derived.Test.YtnfnbcbadakofabCla
import Derived.Test.YtnfnbcbadakofabUva
namespace Go.Proofs.Ytnfnbcbadakofab
open Go.RowKit
section
variable {W1 w w' w4:World} {rb:Nat} {s:ByteArray} {tv fv sv iv:Value} {R:Rn} {V:RV} {c:Cx}
def PallEnd (W1 w:World) (rb:Nat) (s:ByteArray) (tv fv sv iv:Value) (R:Rn) (n:Nat) (ex:Ending) (w':World):Prop:=
 ∃ u V',ex=.returned u/\IntsV w' w.heap.size u (popN R.top.stack n)/\Sep V'.wv u/\KR w w'/\RI W1 w' rb s tv fv sv iv { R with top:={ R.top with stack:=resN R.top.stack n } } V'
theorem RI.popAll (h:RI W1 w rb s tv fv sv iv R V) (n:Nat) (hl:R.top.stack.length<=10000) (hn:n<=10000):Calls Try.prog 78 #[.pointer (some ⟨rb,9,none⟩),n] w (PallEnd W1 w rb s tv fv sv iv R n):=by
 refine (popAll_any rb 9 _ 65 V.kv R.top.stack n W1.heap.size w h.bx rfl (by decide) h.kk hl hn).mono ?_
 rintro ex w' ⟨u,rfl,hu,⟨⟨kv',h1,h2,h3⟩,h4⟩⟩
 exact ⟨u,{ V with kv:=kv' },rfl,hu,Sep.new hu h.ww.lts,KR.of h4 h.bx h.kk (fun j q=>.inl q),h.stk (fun j q=>.inl q) h4 h1 h2 h3⟩
theorem RI.wapp (h:RI W1 w rb s tv fv sv iv R V) {v':Value} {l':List Int} (hI:IntsV w4 W1.heap.size v' l') (hch:Chg (fun j=>some j=V.wv.ownBlock) w w4) (hl:Lies w V.wv v') :
 Blk w4 rb (rcs s tv fv sv iv R V) 65/\RI W1 (w4.setCell ⟨rb,7,none⟩ v') rb s tv fv sv iv { R with words:=l' } { V with wv:=v' } /\ KR w (w4.setCell ⟨rb,7,none⟩ v'):=by
 have hbk:Blk w4 rb (rcs s tv fv sv iv R V) 65:=h.bx.chg hch (fun q=>own_ne h.ww h.bx (by decide) q.symm)
 have kk:Chg (fun j=>j=rb \/ some j=V.wv.ownBlock) w (w4.setCell ⟨rb,7,none⟩ v'):=(Chg.mono hch (fun _ _ q=>.inr q)).setCell _ _ (.inl (.inl rfl))
 exact ⟨hbk,h.wrd (fun j q=>q) kk (hbk.set 7 _) hl (own_set hI _ _ (own_ne hI hbk (by decide))),KR.of kk h.bx h.ww (fun j q=>q)⟩
theorem RI.oapp (h:RI W1 w rb s tv fv sv iv R V) {v':Value} {l':List Int} (hI:IntsV w4 W1.heap.size v' l') (hch:Chg (fun j=>some j=V.ov.ownBlock) w w4) (hl:Lies w V.ov v') :
 Blk w4 rb (rcs s tv fv sv iv R V) 65/\RI W1 (w4.setCell ⟨rb,15,none⟩ v') rb s tv fv sv iv { R with out:=l' } { V with ov:=v' } /\ KR w (w4.setCell ⟨rb,15,none⟩ v'):=by
 have hbk:Blk w4 rb (rcs s tv fv sv iv R V) 65:=h.bx.chg hch (fun q=>own_ne h.oo h.bx (by decide) q.symm)
 have kk:Chg (fun j=>j=rb \/ some j=V.ov.ownBlock) w (w4.setCell ⟨rb,15,none⟩ v'):=(Chg.mono hch (fun _ _ q=>.inr q)).setCell _ _ (.inl (.inl rfl))
 exact ⟨hbk,h.put (fun j q=>q) kk (hbk.set 15 _) hl (own_set hI _ _ (own_ne hI hbk (by decide))),KR.of kk h.bx h.oo (fun j q=>q)⟩
theorem RI.wrap (h:RI W1 w rb s tv fv sv iv R V):w.cell? ⟨rb,7,none⟩=some V.wv/\w.cell? ⟨rb,4,none⟩=some (.int .i64 R.heap)/\w.cell? ⟨rb,6,none⟩=some (.int .i64 R.status)/\w.frozen? ⟨rb,6,none⟩=false:=⟨h.bx.cell 7,h.bx.cell 4,h.bx.cell 6,h.bx.frozen 6⟩
theorem RI.stat (h:RI W1 w rb s tv fv sv iv R V) (x:Int):RI W1 (w.setCell ⟨rb,6,none⟩ x) rb s tv fv sv iv { R with status:=x } V/\KR w (w.setCell ⟨rb,6,none⟩ x):=
 ⟨h.num (by simp [rcs]) rfl rfl rfl rfl rfl,KR.of ((Chg.refl (fun j=>j=rb) w).setCell ⟨rb,6,none⟩ _ (.inl rfl)) h.bx h.kk (fun j q=>.inl q)⟩
theorem mvW_bd {ls:List (List Int)} {frm:List Int} (hfv:∀ v ∈ frm,0<=v/\v<=65535) (hl:frm.length<=4000) (h5:∀ t,(flds ls t).length<=5):∀ (n k:Nat) (ks:List Int) (left:Nat) (m:Mv),MB frm m->MB frm (mvW ls frm n k ks left m):=by
 intro n
 induction n with
 | zero=>intro k ks left m h;exact h
 | succ n ih =>
  intro k ks left m h
  unfold mvW
  split
  ·split
   ·exact ih _ _ _ _ h
   ·split
    ·have hb:=h.mv (ls:=ls) hfv hl h5 (m.to.getD k 0)
     exact ih _ _ _ _ (hb.1.set k hb.2.1 hb.2.2)
    ·exact ih _ _ _ _ h
  ·exact h
theorem mvFrs_bd {c:Cx} {frm:List Int} (hfv:∀ v ∈ frm,0<=v/\v<=65535) (hl:frm.length<=4000) (h5:∀ t,(flds c.ls t).length<=5) (fs:List Fr):∀ (m:Mv),MB frm m->MB frm (mvFrs c frm fs m).2:=by
 induction fs with
 | nil=>intro m h;exact h
 | cons f fs ih=>intro m h;exact ih _ (mvFr_bd hfv hl h5 f m h)
theorem clr_bd (hb:RB c R):(clrP c R).words.length<=24000/\(clrP c R).top.stack.length<=1000:=by
 have b1:=mvFrs_bd hb.wv hb.wl hb.s5 R.below _ (MB.start R.words)
 have b2:=mvFr_bd hb.wv hb.wl hb.s5 R.top _ b1
 have b3:=mvW_bd hb.wv hb.wl hb.s5 (6 * R.words.length) 0 [] 0 _ b2
 have hw:=hb.wl
 constructor
 ·have:=b3.le
  show (mvW _ _ _ _ _ _ _).to.length<=24000
  exact Nat.le_trans this (by omega)
 ·show (mvL _ _ _ _ _ _).1.length<=1000
  rw [(mvL_bd (ls:=c.ls) (ks:=_) hb.wv hb.wl hb.s5 R.top.stack 0 _ (mvL_bd hb.wv hb.wl hb.s5 R.top.locals 0 _ b1).1).2]
  exact hb.tb.kl
end
end Go.Proofs.Ytnfnbcbadakofab
namespace Go.Proofs.Ytnfnbcbadakofab
open Go.RowKit
section
variable {W1 w:World} {rb:Nat} {s:ByteArray} {tv fv sv iv:Value} {R:Rn} {V:RV} {c:Cx}
set_option maxHeartbeats 4000000 in
set_option maxRecDepth 100000 in
theorem makeRecord_any (h:RI W1 w rb s tv fv sv iv R V) (ro:∀ w,Chg (fun j=>j=rb) W1 w->Ro w tv fv sv c) (hb:RB c R) (t:Int):Calls Try.prog 81 #[.pointer rb,t] w (RunEnd W1 w rb s tv fv sv iv (mrP c t R)):=by
 have x1:w.cell? ⟨rb,1,none⟩=some tv:=h.bx.cell 1
 obtain ⟨x7,x4,x6,q6⟩:=h.wrap
 obtain ⟨wa,wc,hwv⟩:=h.ww.slice
 rw [hwv] at x7
 have hro:=ro w h.ch
 obtain ⟨ta,tc,htv⟩:=hro.ty.slice
 obtain ⟨u,hu,hq⟩:=fieldsOf_val tv c.ls t w 0 hro.ty hb.ls
 generalize c.ls.length=tn at htv
 subst htv
 obtain ⟨ua,uc,rfl⟩:=hu.slice
 have hq0:Calls Try.prog 56 #[.slice ta tn tc,t] w fun e w'=>e=.returned (.slice ua (flds c.ls t).length uc)/\w'=w:=hq 0
 clear hq
 have hl:=hb.wl
 have h5:=hb.s5 t
 have hsl:=hb.tb.kl
 have H:=hid h
 have RO:=hid ro
 have HRB:=hid hb
 have CB:=clr_bd hb
 clear h ro hb hu hro
 by_cases hfull:R.heap < (R.words.length:Int)+((flds c.ls t).length:Int)+1
 ·have eR:mrP c t R=mr2P c t (clrP c R):=by unfold mrP;rw [if_pos hfull]
  rw [eR]
  clear eR
  go_enter Try.func81,Try.ntmps81
  go_wp2_with fail
  refine hq0.mono ?_
  rintro e w1 ⟨rfl,hw1⟩
  have hw1:=hw1.symm
  subst hw1
  clear hq0
  go_wp2_with fail
  go_quiet (fail)
  have G1:=H.out.new ((Chg.refl _ w).drewN nq)
  have K0:KR w (w.drewN nq):=KR.new ((Chg.refl _ w).drewN nq)
  clear x1 x4 x6 q6 x7 hwv
  generalize w.drewN nq=wd at *
  have GD:=hid G1
  clear G1
  go_wp2_with fail
  refine (clear_any GD.out (RO.out _ GD.out.ch) HRB.out).mono ?_
  rintro ex W ⟨rfl,k1,V1,g1⟩
  have K1:=K0.trans k1
  clear k1 K0 hfull hl hsl HRB GD
  generalize clrP c R=R1 at *
  obtain ⟨HLW,HLS⟩:=CB
  have G:=hid g1
  clear g1
  obtain ⟨x7,x4,x6,q6⟩:=G.out.wrap
  obtain ⟨wa,wc,hwv⟩:=G.out.ww.slice
  rw [hwv] at x7
  by_cases hf2:R1.heap < (R1.words.length:Int)+((flds c.ls t).length:Int)+1
  ·have HM:Hid (mr2P c t R1 = { R1 with status:=4 }):=by show _=_;unfold mr2P;rw [if_pos hf2]
   go_wp2_with fail
   go_quiet (fail)
   have G2:=G.out.new ((Chg.refl _ W).drewN nq)
   have K2:KR w (W.drewN nq):=K1.trans (KR.new ((Chg.refl _ W).drewN nq))
   have x6':(W.drewN nq).cell? ⟨rb,6,none⟩=some (.int .i64 R1.status):=x6
   have q6':(W.drewN nq).frozen? ⟨rb,6,none⟩=false:=q6
   clear x6 q6 x7 x4
   generalize W.drewN nq=W' at *
   have G3:=G2.stat 4
   clear G2
   have GG:Hid _:=G3
   clear G3
   go_wp2
   exact bodyPost_ret (v:=.tuple #[]) (by simp [results,Try.results81]) rfl ⟨rfl,K2.trans GG.out.2,V1,by rw [HM.out];exact GG.out.1⟩
  ·go_wp2_with fail
   go_quiet (fail)
   have G2:=G.out.new ((Chg.refl _ W).drewN nq)
   have K2:KR w (W.drewN nq):=K1.trans (KR.new ((Chg.refl _ W).drewN nq))
   clear x6 q6 x7 x4 K1 G
   generalize W.drewN nq=W' at *
   have G:=hid G2
   have K1:=K2
   clear G2 K2
   have HB4:R1.words.length<=24000:=HLW
   have HS4:R1.top.stack.length<=1000:=HLS
   go_wp2_with fail
   refine (G.out.popAll (flds c.ls t).length (by omega) (by omega)).mono ?_
   rintro ex w2 ⟨u,V2,rfl,hu,hsu,k2,g2⟩
   obtain ⟨ua,uc,rfl⟩:=hu.slice
   have G2:=hid g2
   have HU:=hid hu
   have HSU:=hid hsu
   obtain ⟨wa2,wc2,hwv2⟩:=g2.ww.slice
   have y7:w2.cell? ⟨rb,7,none⟩=some V2.wv:=g2.bx.cell 7
   rw [hwv2] at y7
   have hpl:(popN R1.top.stack (flds c.ls t).length).length<=1000:=by
    unfold popN;split
    ·simp
    ·rw [List.length_drop];omega
   have hrl:(resN R1.top.stack (flds c.ls t).length).length<=1000:=by
    unfold resN;split
    ·exact HS4
    ·rw [List.length_take];omega
   have HM2:Hid (mr2P c t R1 = { R1 with words:=R1.words++t::popN R1.top.stack (flds c.ls t).length,top:={ R1.top with stack:=resN R1.top.stack (flds c.ls t).length++[(R1.words.length:Int)+1] } }):=by
    show mr2P c t R1=_
    unfold mr2P;rw [if_neg (by omega)]
   clear g2 hu hsu
   generalize hPN:popN R1.top.stack (flds c.ls t).length=PN at *
   generalize hRN:resN R1.top.stack (flds c.ls t).length=RN at *
   go_wp2_with fail
   refine (refTo_any ((R1.words.length:Nat):Int) (by omega) (by omega) _).mono ?_
   rintro ex w3 ⟨rfl,hw3⟩
   have hw3:=hw3.symm
   subst hw3
   have j1:Chg () w2 (w2.alloc (Obj.cells #[t] 3)):=(Chg.refl _ w2).alloc _
   have G3:=hid (G2.out.new j1)
   have HW3:Hid (IntsV (w2.alloc (Obj.cells #[t] 3)) W1.heap.size (.slice wa2 R1.words.length wc2) R1.words):=by
    show IntsV _ _ _ _
    rw [<-hwv2];exact G3.out.ww
   have hbs:=G3.out.base
   go_wp2_with (at_builtin;refine wp_appL rfl _ _ rfl W1.heap.size (.slice wa2 R1.words.length wc2) (.slice w2.heap.size 1 1) R1.words [t] rfl rfl ?h1 ?h2 ?h3 ?h4 ?_)
   case h1=>exact HW3.out
   case h2=>exact lit_rd [t] 1 rfl (by unfold maxLen;omega)
   case h3=>simp;omega
   case h4=>exact hbs
   intro a4 n4 c4 w4 hn4 hI4 hch4 hl4
   have hch4':Chg (fun j=>some j=V2.wv.ownBlock) (w2.alloc (Obj.cells #[t] 3)) w4:=by rw [hwv2];exact hch4
   have hl4':Lies (w2.alloc (Obj.cells #[t] 3)) V2.wv (.slice a4 n4 c4):=by rw [hwv2];exact hl4
   obtain ⟨L,hL⟩:∃ L,R1.words++[t]=L:=⟨_,rfl⟩
   have hLl:L.length<=24001:=by rw [<-hL];simp;omega
   have HL:=hid hL
   rw [hL] at hI4
   clear hL
   obtain ⟨hbk,g5,k5⟩:=G3.out.wapp hI4 hch4' hl4'
   have f7:=hbk.frozen 7
   have x74:w4.cell? ⟨rb,7,none⟩=some (.slice wa2 R1.words.length wc2):=by rw [<-hwv2];exact hbk.cell 7
   have HU4:IntsV w4 W'.heap.size (.slice ua PN.length uc) PN:=own_chg (HU.out.chg j1 (fun _ _ _ q=>q)) hch4' (fun g hg q=>HSU.out g q.symm hg)
   have HU5:Hid (IntsV (w4.setCell ⟨rb,7,none⟩ (.slice a4 n4 c4)) W'.heap.size (.slice ua PN.length uc) PN):=own_set HU4 _ _ (own_ne HU4 hbk (by decide))
   have HN4:=hid hn4
   have hn4b:n4<=24001:=by rw [hn4];simp;omega
   have G5:=hid g5
   clear hn4 y7 HU4 g5 hl4 hch4 hl4' hch4'
   have K5:=k2.trans ((KR.new j1).trans k5)
   have z7:(w4.setCell ⟨rb,7,none⟩ (.slice a4 n4 c4)).cell? ⟨rb,7,none⟩=some (.slice a4 n4 c4):=G5.out.bx.cell 7
   have hbs5:=G5.out.base
   have HW5:Hid (IntsV (w4.setCell ⟨rb,7,none⟩ (.slice a4 n4 c4)) W1.heap.size (.slice a4 n4 c4) L):=G5.out.ww
   go_wp2_with (at_builtin;refine wp_appL rfl _ _ rfl W1.heap.size (.slice a4 n4 c4) (.slice ua PN.length uc) L PN rfl rfl ?h1 ?h2 ?h3 ?h4 ?_)
   case h1=>exact HW5.out
   case h2=>exact HU5.out.rdI
   case h3=>omega
   case h4=>simpa using hbs5
   intro a6 n6 c6 w6 hn6 hI6 hch6 hl6
   obtain ⟨hbk6,g7,k7⟩:=G5.out.wapp hI6 hch6 hl6
   have f76:=hbk6.frozen 7
   have x76:w6.cell? ⟨rb,7,none⟩=some (.slice a4 n4 c4):=hbk6.cell 7
   have HN6:=hid hn6
   have G7:=hid g7
   have K7:=K5.trans k7
   clear hn6 g7 z7
   go_wp2_with fail
   refine (G7.out.push ((R1.words.length:Int)+1) (by show RN.length<=100000;omega)).mono ?_
   rintro ex w8 ⟨rfl,k8,V8,g8⟩
   go_wp2
   refine bodyPost_end (v:=.tuple #[]) (by simp [results,Try.results81]) rfl ⟨rfl,K1.trans (K7.trans k8),V8,?_⟩
   rw [HM2.out]
   have e:R1.words++t::PN=L++PN:=by rw [<-HL.out];simp
   rw [e]
   exact g8
 ·have eR:mrP c t R=mr2P c t R:=by unfold mrP;rw [if_neg hfull]
  rw [eR]
  clear eR
  have HLW:R.words.length<=24000:=by omega
  have HLS:=hsl
  have hf2:=hfull
  go_enter Try.func81,Try.ntmps81
  go_wp2_with fail
  refine hq0.mono ?_
  rintro e w1 ⟨rfl,hw1⟩
  have hw1:=hw1.symm
  subst hw1
  clear hq0
  go_wp2_with fail
  go_quiet (fail)
  have y7:(w.drewN nq).cell? ⟨rb,7,none⟩=some (.slice wa R.words.length wc):=x7
  have y4:(w.drewN nq).cell? ⟨rb,4,none⟩=some (.int .i64 R.heap):=x4
  have G1:=H.out.new ((Chg.refl _ w).drewN nq)
  have K0:KR w (w.drewN nq):=KR.new ((Chg.refl _ w).drewN nq)
  clear x1 x4 x6 q6 x7 hwv
  generalize w.drewN nq=wd at *
  go_wp2_with fail
  go_quiet (fail)
  have G2:=G1.new ((Chg.refl _ wd).drewN nq)
  have K1:KR w (wd.drewN nq):=K0.trans (KR.new ((Chg.refl _ wd).drewN nq))
  clear y7 y4 K0 G1
  generalize wd.drewN nq=W' at *
  have G:=hid G2
  clear G2
  have HB4:R.words.length<=24000:=HLW
  have HS4:R.top.stack.length<=1000:=HLS
  go_wp2_with fail
  refine (G.out.popAll (flds c.ls t).length (by omega) (by omega)).mono ?_
  rintro ex w2 ⟨u,V2,rfl,hu,hsu,k2,g2⟩
  obtain ⟨ua,uc,rfl⟩:=hu.slice
  have G2:=hid g2
  have HU:=hid hu
  have HSU:=hid hsu
  obtain ⟨wa2,wc2,hwv2⟩:=g2.ww.slice
  have y7:w2.cell? ⟨rb,7,none⟩=some V2.wv:=g2.bx.cell 7
  rw [hwv2] at y7
  have hpl:(popN R.top.stack (flds c.ls t).length).length<=1000:=by
   unfold popN;split
   ·simp
   ·rw [List.length_drop];omega
  have hrl:(resN R.top.stack (flds c.ls t).length).length<=1000:=by
   unfold resN;split
   ·exact HS4
   ·rw [List.length_take];omega
  have HM2:Hid (mr2P c t R = { R with words:=R.words++t::popN R.top.stack (flds c.ls t).length,top:={ R.top with stack:=resN R.top.stack (flds c.ls t).length++[(R.words.length:Int)+1] } }):=by
   show mr2P c t R=_
   unfold mr2P;rw [if_neg (by omega)]
  clear g2 hu hsu
  generalize hPN:popN R.top.stack (flds c.ls t).length=PN at *
  generalize hRN:resN R.top.stack (flds c.ls t).length=RN at *
  go_wp2_with fail
  refine (refTo_any ((R.words.length:Nat):Int) (by omega) (by omega) _).mono ?_
  rintro ex w3 ⟨rfl,hw3⟩
  have hw3:=hw3.symm
  subst hw3
  have j1:Chg () w2 (w2.alloc (Obj.cells #[t] 3)):=(Chg.refl _ w2).alloc _
  have G3:=hid (G2.out.new j1)
  have HW3:Hid (IntsV (w2.alloc (Obj.cells #[t] 3)) W1.heap.size (.slice wa2 R.words.length wc2) R.words):=by
   show IntsV _ _ _ _
   rw [<-hwv2];exact G3.out.ww
  have hbs:=G3.out.base
  go_wp2_with (at_builtin;refine wp_appL rfl _ _ rfl W1.heap.size (.slice wa2 R.words.length wc2) (.slice w2.heap.size 1 1) R.words [t] rfl rfl ?h1 ?h2 ?h3 ?h4 ?_)
  case h1=>exact HW3.out
  case h2=>exact lit_rd [t] 1 rfl (by unfold maxLen;omega)
  case h3=>simp;omega
  case h4=>exact hbs
  intro a4 n4 c4 w4 hn4 hI4 hch4 hl4
  have hch4':Chg (fun j=>some j=V2.wv.ownBlock) (w2.alloc (Obj.cells #[t] 3)) w4:=by rw [hwv2];exact hch4
  have hl4':Lies (w2.alloc (Obj.cells #[t] 3)) V2.wv (.slice a4 n4 c4):=by rw [hwv2];exact hl4
  obtain ⟨L,hL⟩:∃ L,R.words++[t]=L:=⟨_,rfl⟩
  have hLl:L.length<=24001:=by rw [<-hL];simp;omega
  have HL:=hid hL
  rw [hL] at hI4
  clear hL
  obtain ⟨hbk,g5,k5⟩:=G3.out.wapp hI4 hch4' hl4'
  have f7:=hbk.frozen 7
  have x74:w4.cell? ⟨rb,7,none⟩=some (.slice wa2 R.words.length wc2):=by rw [<-hwv2];exact hbk.cell 7
  have HU4:IntsV w4 W'.heap.size (.slice ua PN.length uc) PN:=own_chg (HU.out.chg j1 (fun _ _ _ q=>q)) hch4' (fun g hg q=>HSU.out g q.symm hg)
  have HU5:Hid (IntsV (w4.setCell ⟨rb,7,none⟩ (.slice a4 n4 c4)) W'.heap.size (.slice ua PN.length uc) PN):=own_set HU4 _ _ (own_ne HU4 hbk (by decide))
  have HN4:=hid hn4
  have hn4b:n4<=24001:=by rw [hn4];simp;omega
  have G5:=hid g5
  clear hn4 y7 HU4 g5 hl4 hch4 hl4' hch4'
  have K5:=k2.trans ((KR.new j1).trans k5)
  have z7:(w4.setCell ⟨rb,7,none⟩ (.slice a4 n4 c4)).cell? ⟨rb,7,none⟩=some (.slice a4 n4 c4):=G5.out.bx.cell 7
  have hbs5:=G5.out.base
  have HW5:Hid (IntsV (w4.setCell ⟨rb,7,none⟩ (.slice a4 n4 c4)) W1.heap.size (.slice a4 n4 c4) L):=G5.out.ww
  go_wp2_with (at_builtin;refine wp_appL rfl _ _ rfl W1.heap.size (.slice a4 n4 c4) (.slice ua PN.length uc) L PN rfl rfl ?h1 ?h2 ?h3 ?h4 ?_)
  case h1=>exact HW5.out
  case h2=>exact HU5.out.rdI
  case h3=>omega
  case h4=>simpa using hbs5
  intro a6 n6 c6 w6 hn6 hI6 hch6 hl6
  obtain ⟨hbk6,g7,k7⟩:=G5.out.wapp hI6 hch6 hl6
  have f76:=hbk6.frozen 7
  have x76:w6.cell? ⟨rb,7,none⟩=some (.slice a4 n4 c4):=hbk6.cell 7
  have HN6:=hid hn6
  have G7:=hid g7
  have K7:=K5.trans k7
  clear hn6 g7 z7
  go_wp2_with fail
  refine (G7.out.push ((R.words.length:Int)+1) (by show RN.length<=100000;omega)).mono ?_
  rintro ex w8 ⟨rfl,k8,V8,g8⟩
  go_wp2
  refine bodyPost_end (v:=.tuple #[]) (by simp [results,Try.results81]) rfl ⟨rfl,K1.trans (K7.trans k8),V8,?_⟩
  rw [HM2.out]
  have e:R.words++t::PN=L++PN:=by rw [<-HL.out];simp
  rw [e]
  exact g8
end
end Go.Proofs.Ytnfnbcbadakofab
namespace Go.Proofs.Ytnfnbcbadakofab
open Go.RowKit
set_option maxHeartbeats 2000000
set_option maxRecDepth 100000
theorem popV_bd {s:List Int} (h:∀ v ∈ s,0<=v/\v<=65535):0<=popV s/\popV s<=65535:=by
 unfold popV
 rw [List.getLastD_eq_getLast?]
 cases e:s.getLast? with
 | none=>simp
 | some x=>exact h x (List.mem_of_getLast? e)
theorem drop_bd {s:List Int} (h:∀ v ∈ s,0<=v/\v<=65535):∀ v ∈ s.dropLast,0<=v/\v<=65535:=fun v hv=>h v ((List.dropLast_sublist s).subset hv)
section
variable {W1 w:World} {rb:Nat} {s:ByteArray} {tv fv sv iv:Value} {R:Rn} {V:RV} {c:Cx}
theorem ur_new (h:RI W1 w rb s tv fv sv iv R V) (ro:∀ w,Chg (fun j=>j=rb) W1 w->Ro w tv fv sv c) (hb:RB c R) (A B:Int):Calls Try.prog 61 #[.pointer rb,.agg #[(7:Int),A,B]] w (RunEnd W1 w rb s tv fv sv iv (urP c (7,A,B) R)):=by
 have e:urP c (7,A,B) R=mrP c A R:=rfl
 rw [e]
 clear e
 have kb:Chg () w (w.alloc (Obj.cells #[(7:Int),A,B] 93)):=(Chg.refl _ w).alloc _
 have nb:Blk (w.alloc (Obj.cells #[(7:Int),A,B] 93)) w.heap.size #[(7:Int),A,B] 93:=Blk.new w _ 93
 have H:=hid (h.new kb)
 have RO:=hid ro
 have HRB:=hid hb
 have KB:=KR.new kb
 clear h kb ro hb
 go_enter Try.func61,Try.ntmps61
 go_wp2_with fail
 refine (makeRecord_any H.out RO.out HRB.out A).mono ?_
 rintro ex w2 ⟨rfl,k2,V2,h2⟩
 go_wp2
 exact bodyPost_ret (v:=.tuple #[]) (by simp [results,Try.results61]) rfl ⟨rfl,KB.trans k2,V2,h2⟩
theorem ur_get (h:RI W1 w rb s tv fv sv iv R V) (hf:FrB R.top) (A B:Int) (hB:0<=B) (hB2:B<=1000):Calls Try.prog 61 #[.pointer rb,.agg #[(8:Int),A,B]] w (RunEnd W1 w rb s tv fv sv iv (urP c (8,A,B) R)):=by
 have kb:Chg () w (w.alloc (Obj.cells #[(8:Int),A,B] 93)):=(Chg.refl _ w).alloc _
 have nb:Blk (w.alloc (Obj.cells #[(8:Int),A,B] 93)) w.heap.size #[(8:Int),A,B] 93:=Blk.new w _ 93
 have H:=hid (h.new kb)
 have KB:=KR.new kb
 have hkl:=hf.kl
 obtain ⟨hp0,hp1⟩:=popV_bd hf.kv
 have p1:=popF_len R.top
 clear h kb hf
 by_cases hz:popV R.top.stack=0
 ·have HM:Hid (urP c (8,A,B) R = { R with top:=popF R.top,status:=3 }):=by
   show urP c (8,A,B) R=_
   simp [urP,hz]
  go_enter Try.func61,Try.ntmps61
  go_wp2_with fail
  refine (H.out.pop (by omega)).mono ?_
  rintro ex w2 ⟨rfl,k2,V2,g2⟩
  rw [hz]
  obtain ⟨_,_,x6,q6⟩:=g2.wrap
  have G3:=g2.stat 3
  have GG:Hid _:=G3
  clear G3 g2 nb
  go_wp2
  exact bodyPost_ret (v:=.tuple #[]) (by simp [results,Try.results61]) rfl ⟨rfl,(KB.trans k2).trans GG.out.2,V2,by rw [HM.out];exact GG.out.1⟩
 ·have HM:Hid (urP c (8,A,B) R = { R with top:=pushF (popF R.top) (tyAt R.words (popV R.top.stack+B)) }):=by
   show urP c (8,A,B) R=_
   simp [urP,hz]
  go_enter Try.func61,Try.ntmps61
  go_wp2_with fail
  refine (H.out.pop (by omega)).mono ?_
  rintro ex w2 ⟨rfl,k2,V2,g2⟩
  have nb2:=k2.keep _ _ _ nb (by decide) (by decide) (by decide)
  have G2:=hid g2
  clear g2 nb
  obtain ⟨x7,_,_,_⟩:=G2.out.wrap
  obtain ⟨wa,wc,hwv⟩:=G2.out.ww.slice
  rw [hwv] at x7
  have y0:w2.cell? ⟨w.heap.size,0,none⟩=some (.int .i64 8):=nb2.cell 0
  have y2:w2.cell? ⟨w.heap.size,2,none⟩=some (.int .i64 B):=nb2.cell 2
  generalize hpv:popV R.top.stack=pv at *
  go_wp2_with fail
  refine (fieldPlace_any pv B hp0 (by omega) hB (by omega) _).mono ?_
  rintro ex w3 ⟨rfl,hw3⟩
  have hw3:=hw3.symm
  subst hw3
  have K3:KR w w2:=KB.trans k2
  have G:Hid (RI W1 w2 rb s tv fv sv iv { R with top:=popF R.top } V2):=G2.out
  clear y2 nb2 G2
  have HW:Hid (IntsV w2 W1.heap.size (.slice wa R.words.length wc) R.words):=by
   show IntsV _ _ _ _
   rw [<-hwv];exact G.out.ww
  go_wp2_with fail
  refine (typeAt_any _ R.words (pv+B) _ W1.heap.size HW.out).mono ?_
  rintro ex w4 ⟨rfl,hw4⟩
  have hw4:=hw4.symm
  subst hw4
  clear x7 y0 HW
  go_wp2_with fail
  refine (G.out.push (tyAt R.words (pv+B)) (by show (popF R.top).stack.length<=100000;omega)).mono ?_
  rintro ex w5 ⟨rfl,k5,V5,g5⟩
  go_wp2
  exact bodyPost_ret (v:=.tuple #[]) (by simp [results,Try.results61]) rfl ⟨rfl,K3.trans k5,V5,by rw [HM.out];exact g5⟩
theorem ur_set (h:RI W1 w rb s tv fv sv iv R V) (hf:FrB R.top) (A B:Int) (hB:0<=B) (hB2:B<=1000) (hin:popV R.top.stack.dropLast ≠ 0->popV R.top.stack.dropLast+B < (R.words.length:Int)):Calls Try.prog 61 #[.pointer rb,.agg #[(9:Int),A,B]] w (RunEnd W1 w rb s tv fv sv iv (urP c (9,A,B) R)):=by
 have kb:Chg () w (w.alloc (Obj.cells #[(9:Int),A,B] 93)):=(Chg.refl _ w).alloc _
 have nb:Blk (w.alloc (Obj.cells #[(9:Int),A,B] 93)) w.heap.size #[(9:Int),A,B] 93:=Blk.new w _ 93
 have H:=hid (h.new kb)
 have KB:=KR.new kb
 have hkl:=hf.kl
 obtain ⟨hp0,hp1⟩:=popV_bd hf.kv
 obtain ⟨hr0,hr1⟩:=popV_bd (drop_bd hf.kv)
 have p1:=popF_len R.top
 clear h kb hf
 by_cases hz:popV R.top.stack.dropLast=0
 ·have HM:Hid (urP c (9,A,B) R = { R with top:=popF (popF R.top),status:=3 }):=by
   show urP c (9,A,B) R=_
   simp [urP,hz]
  clear hin
  go_enter Try.func61,Try.ntmps61
  go_wp2_with fail
  refine (H.out.pop (by omega)).mono ?_
  rintro ex w2 ⟨rfl,k2,V2,g2⟩
  have G2:=hid g2
  clear g2 nb
  go_wp2_with fail
  refine (G2.out.pop (by show (popF R.top).stack.length<=10000;omega)).mono ?_
  rintro ex w3 ⟨rfl,k3,V3,g3⟩
  have e0:popV (popF R.top).stack=0:=hz
  simp only [e0]
  obtain ⟨_,_,x6,q6⟩:=g3.wrap
  have G3:=g3.stat 3
  have GG:Hid _:=G3
  clear G3 g3
  go_wp2
  exact bodyPost_ret (v:=.tuple #[]) (by simp [results,Try.results61]) rfl ⟨rfl,((KB.trans k2).trans k3).trans GG.out.2,V3,by rw [HM.out];exact GG.out.1⟩
 ·have hlt:=hin hz
  have HM:Hid (urP c (9,A,B) R = { R with top:=popF (popF R.top),words:=R.words.set (popV R.top.stack.dropLast+B).toNat (popV R.top.stack) }):=by
   show urP c (9,A,B) R=_
   have:0<=popV R.top.stack.dropLast+B/\popV R.top.stack.dropLast+B < (R.words.length:Int):=by omega
   simp [urP,hz,this]
  clear hin
  go_enter Try.func61,Try.ntmps61
  go_wp2_with fail
  refine (H.out.pop (by omega)).mono ?_
  rintro ex w2 ⟨rfl,k2,V2,g2⟩
  have nb2:=k2.keep _ _ _ nb (by decide) (by decide) (by decide)
  have G2:=hid g2
  clear g2 nb
  go_wp2_with fail
  refine (G2.out.pop (by show (popF R.top).stack.length<=10000;omega)).mono ?_
  rintro ex w3 ⟨rfl,k3,V3,g3⟩
  have nb3:=k3.keep _ _ _ nb2 (by decide) (by decide) (by decide)
  have e0:popV (popF R.top).stack=popV R.top.stack.dropLast:=rfl
  simp only [e0]
  have G3:=hid g3
  clear g3 nb2 e0
  have y0:w3.cell? ⟨w.heap.size,0,none⟩=some (.int .i64 9):=nb3.cell 0
  have y2:w3.cell? ⟨w.heap.size,2,none⟩=some (.int .i64 B):=nb3.cell 2
  obtain ⟨x7,_,_,_⟩:=G3.out.wrap
  generalize hpv:popV R.top.stack.dropLast=pv at *
  generalize hvv:popV R.top.stack=vv at *
  go_wp2_with fail
  refine (fieldPlace_any pv B hr0 (by omega) hB (by omega) _).mono ?_
  rintro ex w4 ⟨rfl,hw4⟩
  have hw4:=hw4.symm
  subst hw4
  have K4:KR w w3:=(KB.trans k2).trans k3
  have G:Hid (RI W1 w3 rb s tv fv sv iv { R with top:=popF (popF R.top) } V3):=G3.out
  clear x7 y2 nb3 G3
  obtain ⟨x7,_,_,_⟩:=G.out.wrap
  obtain ⟨k,hk⟩:∃ k:Nat,pv+B=(k:Int):=⟨(pv+B).toNat,by omega⟩
  have hkl:k < R.words.length:=by omega
  have hkp:pv+B < (R.words.length:Int):=hlt
  have hk0:0<=pv+B:=by omega
  obtain ⟨g,lc,hwv,hbg,_,_,_⟩:=G.out.ww.form (by show 0 < R.words.length;omega)
  change V3.wv=.slice g R.words.length lc at hwv
  rw [hwv] at x7
  have hLL:IntsV w3 W1.heap.size (.slice g R.words.length lc) R.words:=by rw [<-hwv];exact G.out.ww
  obtain ⟨gcs,hgb⟩:=own_blk hLL (g:=g) rfl
  have z1:∃ u,w3.cell? ⟨g,k,none⟩=some u:=by
   obtain ⟨g',c',q,_,_,_,hc⟩:=hLL.form (by omega)
   simp only [Value.slice.injEq,Option.some.injEq,Addr.mk.injEq] at q
   obtain ⟨⟨rfl,_⟩,_,_⟩:=q
   exact ⟨_,hc k hkl⟩
  obtain ⟨u,z1⟩:=z1
  have fz:=hgb.frozen k
  have HK:Hid ((pv+B).toNat=k):=by show (pv+B).toNat=k;omega
  rw [hk] at hkp hk0 ⊢
  clear hLL hgb hbg hlt hk
  have hkd:decide ((k:Int) < (R.words.length:Int))=true:=by simp;omega
  have g3:=G.out.setWrd hwv (by show k < R.words.length;exact hkl) vv
  have GG:Hid _:=g3
  clear g3
  go_wp2
  refine bodyPost_end (v:=.tuple #[]) (by simp [results,Try.results61]) rfl ⟨rfl,K4.trans GG.out.2,V3,?_⟩
  rw [HM.out,HK.out]
  exact GG.out.1
end
end Go.Proofs.Ytnfnbcbadakofab
