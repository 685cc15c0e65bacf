import Derived.Test.YtnfnbcbadakofaaGreatRos
import Derived.Deep.RegionHeld3
import Derived.Test.YtnfnbcbadakofaaGreatStk
import Derived.Test.YtnfnbcbadakofaaGreatUve
namespace Go.Proofs.YtnfnbcbadakofaaGreat
open Go.RowKit
section
variable {S:Nat->Prop} {W2 w:World} {mb rb:Nat} {tv fv sv wv tov rv:Value} {m:Mv} {c:Cx} {frm:List Int}
def qj (S:Nat->Prop) (W2 w:World) (mb:Nat) (tv wv tov rv:Value) (r:Fr × Mv) (ex:Ending) (w':World):Prop:=
 ∃ lu ku tov',ex=.returned (.agg #[r.1.fn,r.1.pc,lu,ku])/\ad w' w.heap.size lu r.1.locals/\ad w' w.heap.size ku r.1.stack/\Sep lu ku/\Sep lu tov'/\Sep ku tov'/\MI S W2 w' mb tv wv tov' rv r.2/\bD w tov tov'/\Chg (MS mb tov rv) w w'
theorem aL {w:World} {b:Nat} {v0 v1 v2 v3:Value} {e:TypeId} (h:Blk w b #[v0,v1,v2,v3] e):w.cell? ⟨b,0,none⟩=some v0/\w.cell? ⟨b,1,none⟩=some v1/\w.cell? ⟨b,2,none⟩=some v2/\w.cell? ⟨b,3,none⟩=some v3/\w.frozen? ⟨b,0,none⟩=false/\w.frozen? ⟨b,1,none⟩=false/\w.frozen? ⟨b,2,none⟩=false/\w.frozen? ⟨b,3,none⟩=false:=
 ⟨h.cell 0,h.cell 1,h.cell 2,h.cell 3,h.frozen 0,h.frozen 1,h.frozen 2,h.frozen 3⟩
theorem tJ {w:World} {b:Nat} {v0 v1:Value} {e:TypeId} (h:Blk w b #[v0,v1] e):w.cell? ⟨b,0,none⟩=some v0/\w.cell? ⟨b,1,none⟩=some v1/\w.frozen? ⟨b,0,none⟩=false/\w.frozen? ⟨b,1,none⟩=false:=
 ⟨h.cell 0,h.cell 1,h.frozen 0,h.frozen 1⟩
theorem lC {W0 w1:World} {b:Nat} {a0 a1 a2 a3:Value} {e:TypeId} (hb:Blk w1 b #[a0,a1,a2,a3] e) (k:Chg () W0 w1) (hn:W0.heap.size<=b) (v0 v1 v2 v3:Value) :
 Blk ((((w1.setCell ⟨b,0,none⟩ v0).setCell ⟨b,1,none⟩ v1).setCell ⟨b,2,none⟩ v2).setCell ⟨b,3,none⟩ v3) b #[v0,v1,v2,v3] e/\Chg () W0 ((((w1.setCell ⟨b,0,none⟩ v0).setCell ⟨b,1,none⟩ v1).setCell ⟨b,2,none⟩ v2).setCell ⟨b,3,none⟩ v3):=
 ⟨(((hb.set 0 v0).set 1 v1).set 2 v2).set 3 v3,(((k.setCell _ _ (.inr hn)).setCell _ _ (.inr hn)).setCell _ _ (.inr hn)).setCell _ _ (.inr hn)⟩
theorem lF {W0 w1:World} {b:Nat} {a0 a1:Value} {e:TypeId} (hb:Blk w1 b #[a0,a1] e) (k:Chg () W0 w1) (hn:W0.heap.size<=b) (v0 v1:Value) :
 Blk ((w1.setCell ⟨b,0,none⟩ v0).setCell ⟨b,1,none⟩ v1) b #[v0,v1] e/\Chg () W0 ((w1.setCell ⟨b,0,none⟩ v0).setCell ⟨b,1,none⟩ v1):=
 ⟨(hb.set 0 v0).set 1 v1,(k.setCell _ _ (.inr hn)).setCell _ _ (.inr hn)⟩
theorem MI.blk {w':World} {b:Nat} {cs:Array Value} {e:TypeId} (h:MI S W2 w mb tv wv tov rv m) (k:Chg (MS mb tov rv) w w') (hb:Blk w b cs e) (h1:e ≠ 100) (h2:e ≠ 3):Blk w' b cs e:=
 hb.chg k (fun q=>by
  rcases q with q | q | q
  ·subst q;exact hb.ne h.bx h1 rfl
  ·obtain ⟨cs',hb'⟩:=ay h.tt q.symm;exact hb.ne hb' h2 rfl
  ·obtain ⟨cs',hb'⟩:=ay h.rr q.symm;exact hb.ne hb' h2 rfl)
theorem MI.off {w':World} {b:Nat} {cs:Array Value} {e:TypeId} (h:MI S W2 w mb tv wv tov rv m) (hb:Blk w b cs e) (h1:e ≠ 100) (h2:3 ≠ e) (hn:W2.heap.size<=b) (k:Chg (fun j=>j=b) w w'):MI S W2 w' mb tv wv tov rv m:=by
 refine ⟨h.ch.trans' k (fun i hi q=>by omega),h.bx.chg k (fun q=>by subst q;exact hb.ne h.bx h1 rfl),h.nw,af h.tt k (fun g hg q=>ao h.tt hb h2 (by rw [hg,q])),af h.rr k (fun g hg q=>ao h.rr hb h2 (by rw [hg,q])),h.sp⟩
theorem Chg.set4 {w:World} {b:Nat} (v0 v1 v2 v3:Value):Chg (fun j=>j=b) w ((((w.setCell ⟨b,0,none⟩ v0).setCell ⟨b,1,none⟩ v1).setCell ⟨b,2,none⟩ v2).setCell ⟨b,3,none⟩ v3):=
 ((((Chg.refl (fun j=>j=b) w).setCell ⟨b,0,none⟩ v0 (.inl rfl)).setCell ⟨b,1,none⟩ v1 (.inl rfl)).setCell ⟨b,2,none⟩ v2 (.inl rfl)).setCell ⟨b,3,none⟩ v3 (.inl rfl)
theorem MI.keepL {w':World} {u:Value} {l:List Int} {base:Nat} (h:MI S W2 w mb tv wv tov rv m) (k:Chg (MS mb tov rv) w w') (hu:ad w base u l) (h1:Sep u tov) (h2:Sep u rv):ad w' base u l:=
 af hu k (fun g hg q=>by
  rcases q with q | q | q
  ·exact ao hu h.bx (by decide) (by rw [hg,q])
  ·exact h1 g hg q.symm
  ·exact h2 g hg q.symm)
theorem eD {ls:List (List Int)} {frm ks:List Int} (hfv:∀ v ∈ frm,0<=v/\v<=65535) (hl:frm.length<=4000) (h5:∀ t,(flds ls t).length<=5) (vs:List Int):∀ (k:Nat) (m:Mv),MB frm m->MB frm (mvL ls frm ks k vs m).2/\(mvL ls frm ks k vs m).1.length=vs.length:=by
 induction vs with
 | nil=>intro k m h;exact ⟨h,rfl⟩
 | cons v vs ih =>
  intro k m h
  rw [jT]
  have h1:MB frm (mv1 ls frm (aU ks k) v m).2:=by
   unfold mv1;split
   ·exact (h.mv hfv hl h5 v).1
   ·exact h
  obtain ⟨a,b⟩:=ih (k+1) _ h1
  exact ⟨a,by simp [b]⟩
set_option maxHeartbeats 2000000 in
set_option maxRecDepth 100000 in
theorem eS (h:MI S W2 w mb tv wv tov rv m) (ro:MRo S W2 tv wv c.ls frm) (hS:cT S W2) (hb:MB frm m) (hfv:∀ v ∈ frm,0<=v/\v<=65535) (hl:frm.length<=4000) (hls:c.ls.length<=10000) (h5:∀ t,(flds c.ls t).length<=5)
 (hfu:aj 111 135 W2 0 fv c.fs) (hspt:bw W2 0 sv c.sps) (rc:Array Value) (hrb:Blk w rb rc 62) (hr2:rc[2]?=some fv) (hr3:rc[3]?=some sv)
 (f:Fr) (la ka:Option Addr) (lc kc:Nat) (hlo:ad W2 0 (.slice la f.locals.length lc) f.locals) (hst:ad W2 0 (.slice ka f.stack.length kc) f.stack) (hlb:∀ v ∈ f.locals,0<=v/\v<=65535) (hsb:∀ v ∈ f.stack,0<=v/\v<=65535) (hll:f.locals.length<=1000) (hsl:f.stack.length<=1000) :
 Calls Tryz.prog 31 #[.pointer rb,.pointer mb,.agg #[f.fn,f.pc,.slice la f.locals.length lc,.slice ka f.stack.length kc]] w (qj S W2 w mb tv wv tov rv (cK c frm f m)):=by
 obtain ⟨fa,fc,hfa⟩:=hfu.slice
 obtain ⟨sa,sc,hsa⟩:=hspt.slice
 generalize c.fs.length=fn at hfa
 generalize c.sps.length=sn at hsa
 subst hfa;subst hsa
 obtain ⟨xla,xlc,xca,xcc,hxl,_,hq1⟩:=dr hS _ c.fs f.fn 0 hfu
 obtain ⟨yla,ylc,hyl,hq2⟩:=gq hS _ c.sps f.fn f.pc 0 hspt
 have ML1:=fun (w':World) (h':MI S W2 w' mb tv wv tov rv m)=>fX h' ro hS hb hfv hl hls h5 la xla lc xlc f.locals (aq c.fs f.fn).locals hlo hxl hlb hll
 have hbd:=eD (ls:=c.ls) (ks:=(aq c.fs f.fn).locals) hfv hl h5 f.locals 0 m hb
 have ML2:=fun (w':World) (tov':Value) (h':MI S W2 w' mb tv wv tov' rv (mvL c.ls frm (aq c.fs f.fn).locals 0 f.locals m).2)=>fX h' ro hS hbd.1 hfv hl hls h5 ka yla kc ylc f.stack (skP c.sps f.fn f.pc) hst hyl hsb hsl
 have kb:Chg () w ((w.alloc (Obj.cells #[f.fn,f.pc,.slice la f.locals.length lc,.slice ka f.stack.length kc] 60)).alloc (Obj.cells #[oO,oO,(),()] 60)):=((Chg.refl _ w).alloc _).alloc _
 have bx:Blk ((w.alloc (Obj.cells #[f.fn,f.pc,.slice la f.locals.length lc,.slice ka f.stack.length kc] 60)).alloc (Obj.cells #[oO,oO,(),()] 60)) w.heap.size #[f.fn,f.pc,.slice la f.locals.length lc,.slice ka f.stack.length kc] 60:=(Blk.new w _ 60).alloc _
 have br:Blk ((w.alloc (Obj.cells #[f.fn,f.pc,.slice la f.locals.length lc,.slice ka f.stack.length kc] 60)).alloc (Obj.cells #[oO,oO,(),()] 60)) (w.heap.size+1) #[oO,oO,(),()] 60:=Blk.new' (w:=w.alloc (Obj.cells #[f.fn,f.pc,.slice la f.locals.length lc,.slice ka f.stack.length kc] 60)) (by simp) _ 60
 have H0:=hid (h.new kb)
 have hrb0:=hrb.chg kb (fun q=>q)
 have HW:=hid h
 obtain ⟨RL,hRL⟩:∃ r,mvL c.ls frm (aq c.fs f.fn).locals 0 f.locals m=r:=⟨_,rfl⟩
 have eR:cK c frm f m=(⟨f.fn,f.pc,RL.1,(mvL c.ls frm (skP c.sps f.fn f.pc) 0 f.stack RL.2).1⟩,(mvL c.ls frm (skP c.sps f.fn f.pc) 0 f.stack RL.2).2):=by unfold cK;rw [hRL]
 rw [eR]
 rw [hRL] at ML2
 have ML1':∀ (w':World),MI S W2 w' mb tv wv tov rv m->Calls Tryz.prog 52 #[.pointer mb,.slice la f.locals.length lc,.slice xla (aq c.fs f.fn).locals.length xlc] w' (sq S W2 w' mb tv wv tov rv RL):=by rw [<-hRL];exact ML1
 obtain ⟨RK,hRK⟩:∃ r,mvL c.ls frm (skP c.sps f.fn f.pc) 0 f.stack RL.2=r:=⟨_,rfl⟩
 rw [hRK] at ML2 ⊢
 have HQ1:Hid _:=hq1
 have HQ2:Hid _:=hq2
 have HM1:Hid _:=ML1'
 have HM2:Hid _:=ML2
 clear hq1 hq2 ML1 ML2 ML1' eR hbd ro hfv h5 hfu hspt hlo hst hlb hsb h hb hS hrb hRL hRK hxl hyl
 generalize (aq c.fs f.fn).locals.length=xln at *
 generalize (aq c.fs f.fn).code.length=xcn at *
 generalize (aq c.fs f.fn).args=xar at *
 generalize (aq c.fs f.fn).result=xre at *
 generalize (skP c.sps f.fn f.pc).length=yln at *
 generalize (spP c.sps f.fn f.pc).isSome=ysm at *
 go_enter Tryz.func31,Tryz.ntmps31
 go_wp2
 generalize hW0:((w.alloc (Obj.cells #[f.fn,f.pc,.slice la f.locals.length lc,.slice ka f.stack.length kc] 60)).alloc (Obj.cells #[oO,oO,(),()] 60))=W0 at *
 clear hW0
 have kA:Chg () W0 (W0.alloc (Obj.cells #[oO,(),oO,()] 111)).drew:=((Chg.refl _ W0).alloc _).drew
 have HA:=hid (H0.out.new kA)
 have bA:=bx.chg kA (fun q=>q)
 have nbA:Blk (W0.alloc (Obj.cells #[oO,(),oO,()] 111)).drew W0.heap.size #[oO,(),oO,()] 111:=(Blk.new W0 _ 111).drew
 have rA:=hrb0.chg kA (fun q=>q)
 have x2:W0.cell? ⟨rb,2,none⟩=some (.slice fa fn fc):=(hrb0.cell 2).trans hr2
 have b0:W0.cell? ⟨w.heap.size,0,none⟩=some (.int .i64 f.fn):=bx.cell 0
 have fA:∀ (w1:World),Chg () (W0.alloc (Obj.cells #[oO,(),oO,()] 111)).drew w1->w1.cell? ⟨rb,2,none⟩=some (.slice fa fn fc)/\w1.cell? ⟨w.heap.size,0,none⟩=some (.int .i64 f.fn):=fun w1 k1=>⟨((rA.chg k1 (fun q=>q)).cell 2).trans hr2,(bA.chg k1 (fun q=>q)).cell 0⟩
 have fB:∀ (w1:World),Chg () W0.drew w1->w1.cell? ⟨rb,2,none⟩=some (.slice fa fn fc)/\w1.cell? ⟨w.heap.size,0,none⟩=some (.int .i64 f.fn):=fun w1 k1=>⟨((hrb0.drew.chg k1 (fun q=>q)).cell 2).trans hr2,(bx.drew.chg k1 (fun q=>q)).cell 0⟩
 have n1:rb ≠ W0.heap.size:=Nat.ne_of_lt hrb0.lt
 have n2:w.heap.size ≠ W0.heap.size:=Nat.ne_of_lt bx.lt
 have n1':W0.heap.size ≠ rb:=n1.symm
 have n2':W0.heap.size ≠ w.heap.size:=n2.symm
 go_region_held3 (fun w'=>w'.cell? ⟨rb,2,none⟩=some (.slice fa fn fc)/\w'.cell? ⟨w.heap.size,0,none⟩=some (.int .i64 f.fn)) (go_keep) (first | (go_at_call 37;first | (refine (HQ1.out _ HA.out.ch).mono ?_;rintro e w1 ⟨rfl,k1⟩;have q2:=(fA w1 k1).1;have q0:=(fA w1 k1).2;obtain ⟨o0,o1,o2,o3,z0,z1,z2,z3⟩:=aL (nbA.chg k1 (fun q=>q))) | (refine (HQ1.out _ H0.out.drew.ch).mono ?_;rintro e w1 ⟨rfl,k1⟩;have q2:=(fB w1 k1).1;have q0:=(fB w1 k1).2)))
 all_goals
  first
  | (obtain ⟨nX,kX⟩:=lC (nbA.chg k1 (fun q=>q)) (kA.trans k1) (Nat.le_refl _) (.int .i64 xar) (.slice xla xln xlc) (.int .i64 xre) (.slice xca xcn xcc)
     generalize ((((w1.setCell ⟨W0.heap.size,0,none⟩ xar).setCell ⟨W0.heap.size,1,none⟩ (.slice xla xln xlc)).setCell ⟨W0.heap.size,2,none⟩ xre).setCell ⟨W0.heap.size,3,none⟩ (.slice xca xcn xcc))=wX at nX kX ⊢
     generalize hfb:W0.heap.size=fb at nX ⊢
     clear hfb o0 o1 o2 o3 z0 z1 z2 z3)
  | (have nX:=Blk.new w1 #[.int .i64 xar,.slice xla xln xlc,.int .i64 xre,.slice xca xcn xcc] 111
     have kX:Chg () W0 _:=(((Chg.refl _ W0).drew).trans k1).alloc (Obj.cells #[xar,.slice xla xln xlc,xre,.slice xca xcn xcc] 111)
     generalize w1.alloc (Obj.cells #[xar,.slice xla xln xlc,xre,.slice xca xcn xcc] 111)=wX at nX kX ⊢
     generalize hfb:w1.heap.size=fb at nX ⊢
     clear hfb)
  clear q0 q2 k1 fA fB nbA bA rA HA kA x2 b0 n1 n2 n1' n2' HQ1
  have x3:wX.cell? ⟨rb,3,none⟩=some (.slice sa sn sc):=((hrb0.chg kX (fun q=>q)).cell 3).trans hr3
  have b0:wX.cell? ⟨w.heap.size,0,none⟩=some (.int .i64 f.fn):=(bx.chg kX (fun q=>q)).cell 0
  have b1:wX.cell? ⟨w.heap.size,1,none⟩=some (.int .i64 f.pc):=(bx.chg kX (fun q=>q)).cell 1
  have kA:Chg () W0 (wX.alloc (Obj.cells #[.bool false,()] 138)).drew:=(kX.alloc _).drew
  have HA:=hid (H0.out.new kA)
  have HB:=hid (H0.out.new kX.drew)
  have nbA:Blk (wX.alloc (Obj.cells #[.bool false,()] 138)).drew wX.heap.size #[.bool false,()] 138:=(Blk.new wX _ 138).drew
  have fA:∀ (w1:World),Chg () (wX.alloc (Obj.cells #[.bool false,()] 138)).drew w1->w1.cell? ⟨rb,3,none⟩=some (.slice sa sn sc)/\w1.cell? ⟨w.heap.size,0,none⟩=some (.int .i64 f.fn)/\w1.cell? ⟨w.heap.size,1,none⟩=some (.int .i64 f.pc):=fun w1 k1=>⟨((hrb0.chg (kA.trans k1) (fun q=>q)).cell 3).trans hr3,(bx.chg (kA.trans k1) (fun q=>q)).cell 0,(bx.chg (kA.trans k1) (fun q=>q)).cell 1⟩
  have fB:∀ (w1:World),Chg () wX.drew w1->w1.cell? ⟨rb,3,none⟩=some (.slice sa sn sc)/\w1.cell? ⟨w.heap.size,0,none⟩=some (.int .i64 f.fn)/\w1.cell? ⟨w.heap.size,1,none⟩=some (.int .i64 f.pc):=fun w1 k1=>⟨((hrb0.chg (kX.drew.trans k1) (fun q=>q)).cell 3).trans hr3,(bx.chg (kX.drew.trans k1) (fun q=>q)).cell 0,(bx.chg (kX.drew.trans k1) (fun q=>q)).cell 1⟩
  have n1:rb ≠ wX.heap.size:=Nat.ne_of_lt (hrb0.chg kX (fun q=>q)).lt
  have n2:w.heap.size ≠ wX.heap.size:=Nat.ne_of_lt (bx.chg kX (fun q=>q)).lt
  have n1':wX.heap.size ≠ rb:=n1.symm
  have n2':wX.heap.size ≠ w.heap.size:=n2.symm
  go_wp2
  go_region_held3 (fun w'=>w'.cell? ⟨rb,3,none⟩=some (.slice sa sn sc)/\w'.cell? ⟨w.heap.size,0,none⟩=some (.int .i64 f.fn)/\w'.cell? ⟨w.heap.size,1,none⟩=some (.int .i64 f.pc)) (go_keep) (first | (go_at_call 51;first | (refine (HQ2.out _ HA.out.ch).mono ?_;rintro e w1 ⟨rfl,k1⟩;obtain ⟨q3,q0,q1⟩:=fA w1 k1;obtain ⟨o0,o1,z0,z1⟩:=tJ (nbA.chg k1 (fun q=>q))) | (refine (HQ2.out _ HB.out.ch).mono ?_;rintro e w1 ⟨rfl,k1⟩;obtain ⟨q3,q0,q1⟩:=fB w1 k1)))
 all_goals
  first
  | (obtain ⟨nY,kY⟩:=lF (nbA.chg k1 (fun q=>q)) (kA.trans k1) kX.size (.bool ysm) (.slice yla yln ylc)
     have kZ:Chg () wX _:=(lF (nbA.chg k1 (fun q=>q)) ((((Chg.refl _ wX).alloc _).drew).trans k1) (Nat.le_refl _) (.bool ysm) (.slice yla yln ylc)).2
     generalize ((w1.setCell ⟨wX.heap.size,0,none⟩ (.bool ysm)).setCell ⟨wX.heap.size,1,none⟩ (.slice yla yln ylc))=wY at nY kY kZ ⊢
     generalize hsb:wX.heap.size=sb at nY ⊢
     clear hsb o0 o1 z0 z1)
  | (have nY:=Blk.new w1 #[.bool ysm,.slice yla yln ylc] 138
     have kZ:Chg () wX _:=(((Chg.refl _ wX).drew).trans k1).alloc (Obj.cells #[.bool ysm,.slice yla yln ylc] 138)
     have kY:=kX.trans kZ
     generalize w1.alloc (Obj.cells #[.bool ysm,.slice yla yln ylc] 138)=wY at nY kY kZ ⊢
     generalize hsb:w1.heap.size=sb at nY ⊢
     clear hsb)
  have nX:=nX.chg kZ (fun q=>q)
  clear q0 q1 q3 k1 fA fB nbA HA HB kA x3 b0 b1 n1 n2 n1' n2' HQ2 kX kZ
  have b2:wY.cell? ⟨w.heap.size,2,none⟩=some (.slice la f.locals.length lc):=(bx.chg kY (fun q=>q)).cell 2
  have u1:wY.cell? ⟨fb,1,none⟩=some (.slice xla xln xlc):=nX.cell 1
  have HY:=hid (H0.out.new kY)
  have kW:=kb.trans kY
  go_wp2_with fail
  refine (HM1.out _ HY.out).mono ?_
  rintro e w3 ⟨lu,tov3,rfl,hlu,hsep,hM3,hL3,hC3⟩
  have HM3:=hid hM3
  have bx3:=HY.out.blk hC3 (bx.chg kY (fun q=>q)) (by decide) (by decide)
  have br3:=HY.out.blk hC3 (br.chg kY (fun q=>q)) (by decide) (by decide)
  have nY3:=HY.out.blk hC3 nY (by decide) (by decide)
  obtain ⟨lua,luc,rfl⟩:=hlu.slice
  have HLU:=hid hlu
  have b3:w3.cell? ⟨w.heap.size,3,none⟩=some (.slice ka f.stack.length kc):=bx3.cell 3
  have u2:w3.cell? ⟨sb,1,none⟩=some (.slice yla yln ylc):=nY3.cell 1
  have HSR:Hid (Sep (.slice lua RL.1.length luc) rv):=(Sep.new hlu (fun g hg=>HY.out.rr.lts g hg)).symm
  clear hM3 hlu b2 u1
  go_wp2_with fail
  refine (HM2.out _ _ HM3.out).mono ?_
  rintro e w4 ⟨ku,tov4,rfl,hku,hsep2,hM4,hL4,hC4⟩
  have bx4:=HM3.out.blk hC4 bx3 (by decide) (by decide)
  have br4:=HM3.out.blk hC4 br3 (by decide) (by decide)
  have hlu4:=HM3.out.keepL hC4 HLU.out hsep HSR.out
  have hsz3:=hC3.size
  obtain ⟨kua,kuc,rfl⟩:=hku.slice
  have b0:w4.cell? ⟨w.heap.size,0,none⟩=some (.int .i64 f.fn):=bx4.cell 0
  have b1:w4.cell? ⟨w.heap.size,1,none⟩=some (.int .i64 f.pc):=bx4.cell 1
  obtain ⟨o0,o1,o2,o3,z0,z1,z2,z3⟩:=aL br4
  have hsLK:Sep (.slice lua RL.1.length luc) (.slice kua RK.1.length kuc):=Sep.new hku HLU.out.lts
  have hsLT:Sep (.slice lua RL.1.length luc) tov4:=hsep.lies hL4 HLU.out.lts
  have hLL:bD w tov tov4:=(hL3.mono kW.size).trans hL4 (Nat.le_trans kW.size hsz3)
  have hCC:Chg (MS mb tov rv) w w4:=MS.lies (hL3.mono kW.size) ((kW.mono (fun _ _ q=>q.elim)).trans hC3) hC4
  have hW2:W2.heap.size<=w.heap.size+1:=Nat.le_succ_of_le HW.out.ch.size
  have s4:=Chg.set4 (w:=w4) (b:=w.heap.size+1) (.int .i64 f.fn) (.int .i64 f.pc) (.slice lua RL.1.length luc) (.slice kua RK.1.length kuc)
  have FIN:Hid (qj S W2 w mb tv wv tov rv (⟨f.fn,f.pc,RL.1,RK.1⟩,RK.2) (.returned (.agg #[f.fn,f.pc,.slice lua RL.1.length luc,.slice kua RK.1.length kuc])) ((((w4.setCell ⟨w.heap.size+1,0,none⟩ f.fn).setCell ⟨w.heap.size+1,1,none⟩ f.pc).setCell ⟨w.heap.size+1,2,none⟩ (.slice lua RL.1.length luc)).setCell ⟨w.heap.size+1,3,none⟩ (.slice kua RK.1.length kuc))):=
   ⟨_,_,tov4,rfl,af (am hlu4 kW.size) s4 (fun g hg q=>ao hlu4 br4 (by decide) (by rw [hg,q])),af (am hku (Nat.le_trans kW.size hsz3)) s4 (fun g hg q=>ao hku br4 (by decide) (by rw [hg,q])),hsLK,hsLT,hsep2,hM4.off br4 (by decide) (by decide) hW2 s4,hLL,hCC.trans' s4 (fun i hi q=>by omega)⟩
  have hBF:Blk ((((w4.setCell ⟨w.heap.size+1,0,none⟩ f.fn).setCell ⟨w.heap.size+1,1,none⟩ f.pc).setCell ⟨w.heap.size+1,2,none⟩ (.slice lua RL.1.length luc)).setCell ⟨w.heap.size+1,3,none⟩ (.slice kua RK.1.length kuc)) (w.heap.size+1) #[f.fn,f.pc,.slice lua RL.1.length luc,.slice kua RK.1.length kuc] 60:=(((br4.set 0 _).set 1 _).set 2 _).set 3 _
  clear hku hsep2 hM4 hL4 hC4 hL3 hC3 hlu4 hsLK hsLT hLL hCC s4 bx4 hsep bx3 br3 nY3 b3 u2 br4
  go_wp2
  generalize ((((w4.setCell ⟨w.heap.size+1,0,none⟩ f.fn).setCell ⟨w.heap.size+1,1,none⟩ f.pc).setCell ⟨w.heap.size+1,2,none⟩ (.slice lua RL.1.length luc)).setCell ⟨w.heap.size+1,3,none⟩ (.slice kua RK.1.length kuc))=wF at *
  obtain ⟨y0,y1,y2,y3,_,_,_,_⟩:=aL hBF
  exact bodyPost_ret (v:=.agg #[f.fn,f.pc,.slice lua RL.1.length luc,.slice kua RK.1.length kuc]) (by simp [results,Tryz.results31,go_sem,y0,y1,y2,y3]) rfl FIN.out
end
end Go.Proofs.YtnfnbcbadakofaaGreat
namespace Go.Proofs.YtnfnbcbadakofaaGreat
open Go.RowKit
def flx (xs:List (Fr × Value × Value)):List Value:=xs.flatMap fun x=>[x.2.1,x.2.2]
theorem gV {xs:List (Fr × Value × Value)} {u:Value} (h:u ∈ flx xs):∃ x ∈ xs,u=x.2.1 \/ u=x.2.2:=by
 unfold flx at h
 rw [List.mem_flatMap] at h
 obtain ⟨x,hx,hu⟩:=h
 exact ⟨x,hx,by simpa using hu⟩
theorem lG {xs:List (Fr × Value × Value)} {x:Fr × Value × Value} (h:x ∈ xs):x.2.1 ∈ flx xs:=List.mem_flatMap.2 ⟨x,h,by simp⟩
theorem lV {xs:List (Fr × Value × Value)} {x:Fr × Value × Value} (h:x ∈ xs):x.2.2 ∈ flx xs:=List.mem_flatMap.2 ⟨x,h,by simp⟩
theorem da (xs:List (Fr × Value × Value)) (x:Fr × Value × Value):flx (xs++[x])=flx xs++[x.2.1,x.2.2]:=by simp [flx]
def Cst (rb:Nat) (bv:Value) (j:Nat):Prop:=j=rb \/ some j=bv.ownBlock
theorem jd (xs ys:List (Fr × Value × Value)):frC (xs++ys)=frC xs++frC ys:=by simp [frC]
theorem qR (xs ys:List (Fr × Value × Value)) (x:Fr × Value × Value) (f:Fr) (lu ku:Value) :
 ((((frC (xs++x::ys)).set (xs.length * 4) (.int .i64 f.fn)).set (xs.length * 4+1) (.int .i64 f.pc)).set (xs.length * 4+2) lu).set (xs.length * 4+3) ku=frC (xs++(f,lu,ku)::ys):=by
 have e:∀ z:Fr × Value × Value,frC (z::ys)=.int .i64 z.1.fn::.int .i64 z.1.pc::z.2.1::z.2.2::frC ys:=fun z=>by simp [frC]
 rw [jd,jd,e,e]
 have hl:=jb xs
 rw [List.set_append_right _ _ (by omega),List.set_append_right _ _ (by omega),List.set_append_right _ _ (by omega),List.set_append_right _ _ (by omega),hl]
 simp
section
variable {W1 w wr w':World} {rb mb:Nat} {s:ByteArray} {tv fv sv iv tov tov' rv bv wv:Value} {R:Rn} {V:RV} {m m':Mv} {cs:Array Value} {n:Nat} {xs ys:List (Fr × Value × Value)}
theorem RI.onlyF (h:RI W1 w rb s tv fv sv iv R V):cT (Cst rb V.bv) w:=fun j cs e hb hs=>by
 rcases hs with q | q
 ·subst q
  by_cases he:e=62
  ·exact .inr he
  ·exact absurd rfl (hb.ne h.bx he)
 ·obtain ⟨cs',hb'⟩:=ay h.bb q.symm
  by_cases he:e=60
  ·exact .inl he
  ·exact absurd rfl (hb.ne hb' he)
structure CI (W1 w wr:World) (rb:Nat) (tv bv wv:Value) (mb:Nat) (tov rv:Value) (m:Mv) (cs:Array Value) (xs:List (Fr × Value × Value)) (n:Nat) (ys:List (Fr × Value × Value)):Prop where
 mi:MI (Cst rb bv) w wr mb tv wv tov rv m
 bx:Blk wr rb cs 62
 bb:wr.ownsRow W1.heap.size 60 4 bv n (frC ys)
 xx:∀ x ∈ xs,ad wr w.heap.size x.2.1 x.1.locals/\ad wr w.heap.size x.2.2 x.1.stack
 xt:∀ u ∈ flx xs,Sep u tov
 xr:∀ u ∈ flx xs,Sep u rv
 ff:(flx xs).Pairwise Sep
theorem CI.lts (h:CI W1 w wr rb tv bv wv mb tov rv m cs xs n ys) {u:Value} (hu:u ∈ flx xs):∀ g,u.ownBlock=some g->g < wr.heap.size:=by
 obtain ⟨x,hx,rfl | rfl⟩:=gV hu
 ·exact (h.xx x hx).1.lts
 ·exact (h.xx x hx).2.lts
theorem CI.new (h:CI W1 w wr rb tv bv wv mb tov rv m cs xs n ys) (k:Chg () wr w'):CI W1 w w' rb tv bv wv mb tov rv m cs xs n ys:=
 ⟨h.mi.new k,h.bx.chg k (fun q=>q),af h.bb k (fun _ _ q=>q),fun x hx=>⟨af (h.xx x hx).1 k (fun _ _ q=>q),af (h.xx x hx).2 k (fun _ _ q=>q)⟩,h.xt,h.xr,h.ff⟩
theorem CI.mv (h:CI W1 w wr rb tv bv wv mb tov rv m cs xs n ys) (hM:MI (Cst rb bv) w w' mb tv wv tov' rv m') (hL:bD wr tov tov') (hC:Chg (MS mb tov rv) wr w'):CI W1 w w' rb tv bv wv mb tov' rv m' cs xs n ys:=by
 refine ⟨hM,h.mi.blk hC h.bx (by decide) (by decide),af h.bb hC (fun g hg q=>?_),fun x hx=>⟨h.mi.keepL hC (h.xx x hx).1 (h.xt _ (lG hx)) (h.xr _ (lG hx)),h.mi.keepL hC (h.xx x hx).2 (h.xt _ (lV hx)) (h.xr _ (lV hx))⟩,fun u hu=>(h.xt u hu).lies hL (h.lts hu),h.xr,h.ff⟩
 obtain ⟨cs',hb⟩:=ay h.bb hg
 rcases q with q | q | q
 ·subst q;exact hb.ne h.mi.bx (by decide) rfl
 ·obtain ⟨c2,hb'⟩:=ay h.mi.tt q.symm;exact hb.ne hb' (by decide) rfl
 ·obtain ⟨c2,hb'⟩:=ay h.mi.rr q.symm;exact hb.ne hb' (by decide) rfl
theorem CI.frame (h:CI W1 w wr rb tv bv wv mb tov rv m cs xs n ys) {f:Fr} {lu ku:Value} (hlu:ad w' wr.heap.size lu f.locals) (hku:ad w' wr.heap.size ku f.stack) (s1:Sep lu ku) (s2:Sep lu tov') (s3:Sep ku tov') (hM:MI (Cst rb bv) w w' mb tv wv tov' rv m') (hL:bD wr tov tov') (hC:Chg (MS mb tov rv) wr w') :
 CI W1 w w' rb tv bv wv mb tov' rv m' cs (xs++[(f,lu,ku)]) n ys:=by
 have h2:=h.mv hM hL hC
 have hs:w.heap.size<=wr.heap.size:=h.mi.ch.size
 refine ⟨hM,h2.bx,h2.bb,fun x hx=>?_,fun u hu=>?_,fun u hu=>?_,?_⟩
 ·rcases List.mem_append.1 hx with q | q
  ·exact h2.xx x q
  ·simp at q;subst q;exact ⟨am hlu hs,am hku hs⟩
 ·rw [da] at hu
  rcases List.mem_append.1 hu with q | q
  ·exact h2.xt u q
  ·simp at q;rcases q with rfl | rfl
   ·exact s2
   ·exact s3
 ·rw [da] at hu
  rcases List.mem_append.1 hu with q | q
  ·exact h2.xr u q
  ·simp at q;rcases q with rfl | rfl
   ·exact (Sep.new hlu h.mi.rr.lts).symm
   ·exact (Sep.new hku h.mi.rr.lts).symm
 ·rw [da,List.pairwise_append]
  refine ⟨h.ff,by simpa using s1,fun u hu v hv=>?_⟩
  simp at hv;rcases hv with rfl | rfl
  ·exact Sep.new hlu (h.lts hu)
  ·exact Sep.new hku (h.lts hu)
theorem CI.turn (h:CI W1 w wr rb tv bv wv mb tov rv m cs xs n ys) {b:Nat} {c0 cs':Array Value} {e:TypeId} (hb:Blk wr b c0 e) (he:e=60 \/ e=62) (hs:Cst rb bv b) (k:Chg (fun j=>j=b) wr w') (hbx:Blk w' rb cs' 62) {ys':List (Fr × Value × Value)} (hbb:w'.ownsRow W1.heap.size 60 4 bv n (frC ys')):CI W1 w w' rb tv bv wv mb tov rv m cs' xs n ys':=by
 have e3:3 ≠ e:=by rcases he with rfl | rfl <;> decide
 have e158:e ≠ 100:=by rcases he with rfl | rfl <;> decide
 have q3:∀ (u:Value) (l:List Int) (base:Nat),ad wr base u l->ad w' base u l:=fun u l base hu=>af hu k (fun g hg q=>ao hu hb e3 (by rw [hg,q]))
 refine ⟨⟨h.mi.ch.trans' k (fun i hi q=>by subst q;exact hs),h.mi.bx.chg k (fun q=>by subst q;exact hb.ne h.mi.bx e158 rfl),h.mi.nw,q3 _ _ _ h.mi.tt,q3 _ _ _ h.mi.rr,h.mi.sp⟩,hbx,hbb,fun x hx=>⟨q3 _ _ _ (h.xx x hx).1,q3 _ _ _ (h.xx x hx).2⟩,h.xt,h.xr,h.ff⟩
theorem CI.row {g bc:Nat} {zs:List (Fr × Value × Value)} {z:Fr × Value × Value} (h:CI W1 w wr rb tv (.slice (some ⟨g,0,none⟩) n bc) wv mb tov rv m cs xs n (zs++z::ys)) (hn:zs.length < n) (f:Fr) (lu ku:Value) :
 CI W1 w ((((wr.setCell ⟨g,zs.length * 4,none⟩ f.fn).setCell ⟨g,zs.length * 4+1,none⟩ f.pc).setCell ⟨g,zs.length * 4+2,none⟩ lu).setCell ⟨g,zs.length * 4+3,none⟩ ku) rb tv (.slice (some ⟨g,0,none⟩) n bc) wv mb tov rv m cs xs n (zs++(f,lu,ku)::ys):=by
 obtain ⟨c0,hb⟩:=ay h.bb (g:=g) rfl
 have k:Chg (fun j=>j=g) wr ((((wr.setCell ⟨g,zs.length * 4,none⟩ f.fn).setCell ⟨g,zs.length * 4+1,none⟩ f.pc).setCell ⟨g,zs.length * 4+2,none⟩ lu).setCell ⟨g,zs.length * 4+3,none⟩ ku):=
  ((((Chg.refl (fun j=>j=g) wr).setCell ⟨g,_,none⟩ _ (.inl rfl)).setCell ⟨g,_,none⟩ _ (.inl rfl)).setCell ⟨g,_,none⟩ _ (.inl rfl)).setCell ⟨g,_,none⟩ _ (.inl rfl)
 refine h.turn hb (.inl rfl) (.inr rfl) k (h.bx.chg k (fun q=>by subst q;exact h.bx.ne hb (by decide) rfl)) ?_
 have:=a8 (a8 (a8 (a8 h.bb (zs.length * 4) (by omega) (.int .i64 f.fn)) (zs.length * 4+1) (by omega) (.int .i64 f.pc)) (zs.length * 4+2) (by omega) lu) (zs.length * 4+3) (by omega) ku
 rwa [qR] at this
theorem cF {base:Nat} {e:TypeId} {sz:Nat} {v:Value} {l:List Value} (h:w.ownsRow base e sz v n l):∃ a c,v=.slice a n c:=by
 rcases h.2 with ⟨h1,h2⟩ | ⟨g,cap,cur,rfl,_⟩
 ·exact ⟨none,0,by rw [h1,h2]⟩
 ·exact ⟨_,_,rfl⟩
theorem CI.cells {zs:List (Fr × Value × Value)} {z:Fr × Value × Value} (h:CI W1 w wr rb tv bv wv mb tov rv m cs xs n (zs++z::ys)) (hn:zs.length < n) :
 ∃ g bc,bv=.slice (some ⟨g,0,none⟩) n bc/\n<=bc/\wr.cell? ⟨g,zs.length * 4,none⟩=some (.int .i64 z.1.fn)/\wr.cell? ⟨g,zs.length * 4+1,none⟩=some (.int .i64 z.1.pc)/\wr.cell? ⟨g,zs.length * 4+2,none⟩=some z.2.1/\wr.cell? ⟨g,zs.length * 4+3,none⟩=some z.2.2/\∃ c0,Blk wr g c0 60:=by
 have hb:=h.bb
 have hc:=fun g=>World.ownsRow.cells (g:=g) hb
 rcases hb.2 with ⟨_,h0⟩ | ⟨g,cap,cur,rfl,hb',hgg,hle,hcap,_⟩
 ·omega
 ·have hadd:∀ j,(⟨g,0,none⟩:Addr).add j=⟨g,j,none⟩:=by intro j;unfold Addr.add;split <;> simp_all
  have hj:zs.length < (zs++z::ys).length:=by simp
  obtain ⟨k1,k2,k3,k4⟩:=iZ (zs++z::ys) zs.length hj
  have e:(zs++z::ys)[zs.length]=z:=by simp
  rw [e] at k1 k2 k3 k4
  have a1:=hc g rfl _ _ k1
  have a2:=hc g rfl _ _ k2
  have a3:=hc g rfl _ _ k3
  have a4:=hc g rfl _ _ k4
  rw [hadd] at a1 a2 a3 a4
  exact ⟨g,cap,rfl,hle,a1,a2,a3,a4,cur,hgg⟩
theorem CI.start (h:RI W1 w rb s tv fv sv iv R V) {to re:Nat} {W:World} (k:Chg () w W) (bt:Blk W to (madeCells #[oO] R.words.length) 3) (br:Blk W re (madeCells #[oO] R.words.length) 3) (bm:Blk W mb #[tv,V.wv,.slice to 0 R.words.length,.slice re R.words.length R.words.length] 100)
 (h1:w.heap.size<=to) (h2:w.heap.size<=re) (h3:w.heap.size<=mb) (hne:to ≠ re) (hl:R.words.length<=4000) :
 CI W1 w W rb tv V.bv V.wv mb (.slice to 0 R.words.length) (.slice re R.words.length R.words.length) ⟨[],List.replicate R.words.length 0⟩ (rcs s tv fv sv iv R V) [] V.xs.length V.xs:=by
 have hm:R.words.length<=maxLen:=by unfold maxLen;omega
 refine ⟨⟨k.ofNew,bm,h3,?_,?_,?_⟩,h.bx.chg k (fun q=>q),af h.bb k (fun _ _ q=>q),by simp,by simp [flx],by simp [flx],by simp [flx]⟩
 ·exact ⟨by simp [aE],.inr ⟨to,R.words.length,_,rfl,h1,bt,Nat.zero_le _,hm,by rw [size_madeCells,Nat.mul_one],by simp [aE]⟩⟩
 ·have:=fS (base:=w.heap.size) br h2 hm
  unfold ad aE
  simpa using this
 ·intro g hg hg'
  simp [Value.ownBlock] at hg hg'
  omega
theorem CI.fin (h0:RI W1 w rb s tv fv sv iv R V) {f:Fr} {lu ku:Value} (hn:xs.length=V.xs.length) (h:CI W1 w wr rb tv V.bv V.wv mb tov rv m (rcs s tv fv sv iv { R with words:=m.to,below:=xs.map (·.1),top:=f } ⟨tov,V.bv,lu,ku,V.ov,xs⟩) (xs++[(f,lu,ku)]) V.xs.length xs):KR w wr/\RI W1 wr rb s tv fv sv iv { R with words:=m.to,below:=xs.map (·.1),top:=f } ⟨tov,V.bv,lu,ku,V.ov,xs⟩:=by
 have hS:cT (Cst rb V.bv) w:=h0.onlyF
 have hle:W1.heap.size<=w.heap.size:=h0.ch.size
 have hf:=h.xx (f,lu,ku) (by simp)
 have ho:ad wr W1.heap.size V.ov R.out:=hS.ints h.mi.ch h0.oo
 have hff:=h.ff
 rw [da,List.pairwise_append] at hff
 obtain ⟨f1,f2,f3⟩:=hff
 have hlk:Sep lu ku:=by simpa using f2
 have hnew:∀ (u:Value) (l:List Int),ad wr w.heap.size u l->Sep u V.ov:=fun u l hu=>(Sep.new hu h0.oo.lts).symm
 have hmem:∀ x ∈ xs,x ∈ xs++[(f,lu,ku)]:=fun x hx=>List.mem_append_left _ hx
 have hmu:∀ u ∈ flx xs,u ∈ flx (xs++[(f,lu,ku)]):=fun u hu=>by rw [da];exact List.mem_append_left _ hu
 refine ⟨⟨h.mi.ch.size,fun b cs e hb h3 h123 h125=>hb.chg h.mi.ch (fun q=>by rcases hS b cs e hb q with r | r;exact h123 r;exact h125 r)⟩,?_⟩
 refine ⟨h0.ch.trans' h.mi.ch (fun i hi q=>?_),h.bx,am h.mi.tt hle,am hf.1 hle,am hf.2 hle,ho,rfl,by rw [hn];exact h.bb,fun x hx=>⟨am (h.xx x (hmem x hx)).1 hle,am (h.xx x (hmem x hx)).2 hle⟩,?_⟩
 ·rcases q with q | q
  ·exact q
  ·have hbk:∀ {b':Nat} {e:TypeId} {sz n':Nat} {l:List Value},w.ownsRow b' e sz V.bv n' l->b'<=i:=fun {b' e sz n' l} ho=>by
    rcases ho.2 with ⟨r,_⟩ | ⟨g,cap,cur,r,hb,_⟩
    ·rw [r] at q;cases q
    ·rw [r] at q;simp [Value.ownBlock] at q;omega
   have:=hbk h0.bb
   omega
 ·refine ⟨(h.xt _ (lG (x:=(f,lu,ku)) (by simp))).symm,(h.xt _ (lV (x:=(f,lu,ku)) (by simp))).symm,hnew _ _ h.mi.tt,hlk,hnew _ _ hf.1,hnew _ _ hf.2,fun u hu=>h.xt u (hmu u hu),fun u hu=>f3 u hu lu (by simp),fun u hu=>f3 u hu ku (by simp),fun u hu=>?_,f1⟩
  obtain ⟨x,hx,rfl | rfl⟩:=gV (xs:=xs) hu
  ·exact hnew _ _ (h.xx x (hmem x hx)).1
  ·exact hnew _ _ (h.xx x (hmem x hx)).2
theorem fW {c:Cx} {frm:List Int} (hfv:∀ v ∈ frm,0<=v/\v<=65535) (hl:frm.length<=4000) (h5:∀ t,(flds c.ls t).length<=5) (f:Fr) (m:Mv) (h:MB frm m):MB frm (cK c frm f m).2:=
 (eD hfv hl h5 f.stack 0 _ (eD hfv hl h5 f.locals 0 m h).1).1
end
theorem vx {K:Act->World->Prop} {Q:Exit->Act->World->Prop} {act:World->Nat->Nat->Nat->Act} {C:World->Nat->Nat->Nat->Prop} {G:Prop} (h2:(∀ W a b c,C W a b c->Exit.then K Q .normal (act W a b c) W)->G) (h1:∀ W a b c,C W a b c->Exit.then K Q .normal (act W a b c) W):G:=h2 h1
theorem dt (w:World) (c0 c1 c2:Array Value) (e0 e1 e2:TypeId):Blk (((w.alloc (.cells c0 e0)).alloc (.cells c1 e1)).alloc (.cells c2 e2)).drew w.heap.size c0 e0/\Blk (((w.alloc (.cells c0 e0)).alloc (.cells c1 e1)).alloc (.cells c2 e2)).drew (w.heap.size+1) c1 e1/\Blk (((w.alloc (.cells c0 e0)).alloc (.cells c1 e1)).alloc (.cells c2 e2)).drew (w.heap.size+1+1) c2 e2/\Chg () w (((w.alloc (.cells c0 e0)).alloc (.cells c1 e1)).alloc (.cells c2 e2)).drew:=
 ⟨((((Blk.new w c0 e0).alloc _).alloc _)).drew,((Blk.new' (w:=w.alloc (.cells c0 e0)) (by simp) c1 e1).alloc _).drew,(Blk.new' (w:=(w.alloc (.cells c0 e0)).alloc (.cells c1 e1)) (by simp) c2 e2).drew,((((Chg.refl _ w).alloc _).alloc _).alloc _).drew⟩
end Go.Proofs.YtnfnbcbadakofaaGreat
