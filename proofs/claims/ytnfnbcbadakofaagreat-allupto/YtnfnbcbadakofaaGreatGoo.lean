import Derived.Test.YtnfnbcbadakofaaGreatLre
import Derived.Test.YtnfnbcbadakofaaGreatBg2
import Derived.Deep.Cut
namespace Go.Proofs.YtnfnbcbadakofaaGreat
open Go.RowKit
def nz (w:World) (img:ByteArray) (O:Int × Int × Pg × List aC) (c:Cx) (ns inp:List Int) (fuel:Int) (ex:Ending) (w':World):Prop:=
 Chg () w w'/\(O.1 ≠ 0->ex=.returned (.tuple #[.agg #[(),(),oO,oO],O.1]))/\(O.1=0->(tuP c (aB img) ns=none->ex=.returned (.tuple #[.agg #[(),(),oO,oO],(5:Int)])) /\
  ∀ R,tuP c (aB img) ns=some R->(fuel < 0 \/ 10000 < fuel->ex=.returned (.tuple #[.agg #[(),(),oO,oO],(4:Int)]))/\(¬ (fuel < 0 \/ 10000 < fuel)->∃ sv ov,ex=.returned (.tuple #[.agg #[sv,ov,((cB c R inp fuel.toNat).1.used:Int),.int .i64 (cB c R inp fuel.toNat).2],oO]) /\
   ad w' w.heap.size sv (aJ (aB img) (cB c R inp fuel.toNat).1)/\ad w' w.heap.size ov (cB c R inp fuel.toNat).1.out/\Sep ov sv))
theorem vh {c:Cx} (ok:bM c):∀ (n:Nat) {R:Rn},Gd c R->Gd c (bu c n R).1:=by
 intro n
 induction n with
 | zero=>intro R h;exact h
 | succ n ih =>
  intro R h
  unfold bu
  by_cases h0:R.status ≠ 0
  ·rw [if_pos h0];exact h
  ·rw [if_neg h0]
   split
   ·exact h
   ·exact ih (h.step ok (by simpa using h0)).1
theorem Gd.rel {c:Cx} {R:Rn} (h:Gd c R):∃ D,Rel c D R:=let ⟨D,h,_⟩:=h;⟨D,h⟩
theorem pG {c:Cx} {R:Rn} (h:Gd c R) (l:List Int):Gd c { R with inp:=l }:=by
 obtain ⟨D,h,a,b,d⟩:=h
 refine ⟨D,⟨h.heap,h.depth,h.h0,h.h4,h.d1,h.d64,?_⟩,a,b,d⟩
 rcases h.st with ⟨q,q',phi,sm⟩ | q
 ·exact .inl ⟨q,q',phi,sm.out rfl rfl rfl rfl rfl rfl rfl rfl rfl rfl⟩
 ·exact .inr q
set_option maxHeartbeats 4000000 in
set_option maxRecDepth 100000 in
theorem oR (img:ByteArray) (nv iv:Value) (ns inp:List Int) (fuel:Int) (w:World) (hn:RdA w nv ns) (hi:RdA w iv inp) (hr:(opF img).1=0->∀ R,tuP (cxO img) (aB img) ns=some R->∃ D,Rel (cxO img) D R):Calls Tryz.prog 18 #[.string img,nv,iv,fuel] w (nz w img (opF img) (cxO img) ns inp fuel):=by
 have kA:Chg () w (w.alloc (Obj.cells #[(),(),oO,oO] 76)):=(Chg.refl _ w).alloc _
 have HTU:Hid (Calls Tryz.prog 15 #[.string img,nv] (w.alloc (Obj.cells #[(),(),oO,oO] 76)) (dS (w.alloc (Obj.cells #[(),(),oO,oO] 76)) img (opF img) (cxO img) ns)):=fh img nv ns _ (hn.new kA)
 have HOK:Hid ((opF img).1=0->bM (cxO img)):=fun h=>dg h
 have HS:Hid ((opF img).1=0->img.size<=800):=cQ
 have HR:=hid hr
 obtain ⟨na,nc,hnv⟩:=hn.slice
 subst hnv
 obtain ⟨ia,ic,hiv⟩:=hi.slice
 subst hiv
 have HI:=hid (hi.new kA)
 have BA:Hid (Blk (w.alloc (Obj.cells #[(),(),oO,oO] 76)) w.heap.size #[(),(),oO,oO] 76):=Blk.new w _ 76
 have KA:=hid kA
 clear hn hi hr kA
 generalize opF img=O at *
 generalize cxO img=c at *
 go_enter Tryz.func18,Tryz.ntmps18
 go_wp2_with fail
 refine (Calls.mono HTU.out ?_)
 clear HTU
 rintro ex w1 ⟨k1,hE,hO⟩
 by_cases hz:O.1=0
 ·obtain ⟨hN,hY⟩:=hO hz
  have HZ:=hid hz
  rcases hu:tuP c (aB img) ns with _ | R
  ·have hex:=hN hu
   have HU:=hid hu
   subst hex
   clear hE hO hN hY hu hz HOK HS HR
   have hb1:=Blk.new w1 #[.string ⟨#[]⟩,.slice none 0 0,.slice none 0 0,.slice none 0 0,.int .i64 0,.int .i64 0,.int .i64 0,.slice none 0 0,.slice none 0 0,.int .i64 0,.int .i64 0,.slice none 0 0,.slice none 0 0,.slice none 0 0,.int .i64 0,.slice none 0 0] 62
   have HB1:=hid hb1
   have K2:Hid (Chg () w ((w1.alloc (Obj.cells #[.string ⟨#[]⟩,(),(),(),oO,oO,oO,(),(),oO,oO,(),(),(),oO,()] 62)).setRow w1.heap.size #[.string ⟨#[]⟩,(),(),(),oO,oO,oO,(),(),oO,oO,(),(),(),oO,()])):=((KA.out.trans k1).alloc _).setRow _ _ (.inr (KA.out.trans k1).size)
   have kR:Chg () w1 ((w1.alloc (Obj.cells #[.string ⟨#[]⟩,(),(),(),oO,oO,oO,(),(),oO,oO,(),(),(),oO,()] 62)).setRow w1.heap.size #[.string ⟨#[]⟩,(),(),(),oO,oO,oO,(),(),oO,oO,(),(),(),oO,()]):=((Chg.refl _ w1).alloc _).setRow _ _ (.inr (Nat.le_refl _))
   have bR:Blk ((w1.alloc (Obj.cells #[.string ⟨#[]⟩,(),(),(),oO,oO,oO,(),(),oO,oO,(),(),(),oO,()] 62)).setRow w1.heap.size #[.string ⟨#[]⟩,(),(),(),oO,oO,oO,(),(),oO,oO,(),(),(),oO,()]) w.heap.size #[(),(),oO,oO] 76:=(BA.out.chg k1 (fun q=>q)).chg kR (fun q=>q)
   have HBR:=hid bR
   clear hb1 bR kR
   go_wp2_with (first | (refine wpList_store_row rfl 62 _ _ rfl w1.heap.size #[.string ⟨#[]⟩,(),(),(),oO,oO,oO,(),(),oO,oO,(),(),(),oO,()] rfl rfl 62 #[.string ⟨#[]⟩,(),(),(),oO,oO,oO,(),(),oO,oO,(),(),(),oO,()] HB1.out (by kernel_rfl) rfl (by kernel_rfl) ?_) | (refine wpB rfl 76 _ rfl #[.slice none 0 0,.slice none 0 0,.int .i64 0,.int .i64 0] (by kernel_rfl) ?_) | (refine wpList_store_row rfl 76 _ _ rfl w.heap.size #[(),(),oO,oO] rfl rfl 76 #[(),(),oO,oO] HBR.out (by kernel_rfl) rfl (by kernel_rfl) ?_))
   have kS:Chg (fun j=>j=w.heap.size) ((w1.alloc (Obj.cells #[.string ⟨#[]⟩,(),(),(),oO,oO,oO,(),(),oO,oO,(),(),(),oO,()] 62)).setRow w1.heap.size #[.string ⟨#[]⟩,(),(),(),oO,oO,oO,(),(),oO,oO,(),(),(),oO,()]) (((w1.alloc (Obj.cells #[.string ⟨#[]⟩,(),(),(),oO,oO,oO,(),(),oO,oO,(),(),(),oO,()] 62)).setRow w1.heap.size #[.string ⟨#[]⟩,(),(),(),oO,oO,oO,(),(),oO,oO,(),(),(),oO,()]).setRow w.heap.size #[(),(),oO,oO]):=(Chg.refl _ _).setRow _ _ (.inl rfl)
   have K3:=K2.out.trans' kS (fun i hi e=>by omega)
   have HB:Blk (((w1.alloc (Obj.cells #[.string ⟨#[]⟩,(),(),(),oO,oO,oO,(),(),oO,oO,(),(),(),oO,()] 62)).setRow w1.heap.size #[.string ⟨#[]⟩,(),(),(),oO,oO,oO,(),(),oO,oO,(),(),(),oO,()]).setRow w.heap.size #[(),(),oO,oO]) w.heap.size #[(),(),oO,oO] 76:=setRow_heap _ _ _ _ _ _ HBR.out
   generalize ((w1.alloc (Obj.cells #[.string ⟨#[]⟩,(),(),(),oO,oO,oO,(),(),oO,oO,(),(),(),oO,()] 62)).setRow w1.heap.size #[.string ⟨#[]⟩,(),(),(),oO,oO,oO,(),(),oO,oO,(),(),(),oO,()]).setRow w.heap.size #[(),(),oO,oO]=wf at HB K3 ⊢
   obtain ⟨q0,q1,q2,q3,_,_,_,_⟩:=aL HB
   exact bodyPost_ret (v:=.tuple #[.agg #[(),(),oO,oO],(5:Int)]) (by simp [results,Tryz.results18,go_sem,q0,q1,q2,q3]) rfl ⟨K3,fun q=>absurd HZ.out q,fun _=>⟨fun _=>rfl,fun R q=>(by rw [HU.out] at q;cases q)⟩⟩
  ·obtain ⟨W0,tv,fv,sv,V,hex,kw,hro,hL⟩:=hY R hu
   have HU:=hid hu
   have ok:=HOK.out hz
   have hs8:=HS.out hz
   obtain ⟨hinp,hused,hout,_⟩:=fV hu
   obtain ⟨D,hD⟩:=HR.out hz R hu
   have HGD:Hid (Gd c R):=Gd.of hD
   have OK:=hid ok
   subst hex
   obtain ⟨ta,tc,htv⟩:=hro.ty.slice
   obtain ⟨fa,fc,hfv⟩:=hro.fu.slice
   obtain ⟨sa,sc,hsv⟩:=hro.sp.slice
   generalize c.ls.length=tn at htv
   generalize c.fs.length=fln at hfv
   generalize c.sps.length=sn at hsv
   subst htv hfv hsv
   have hw0:W0.heap.size<=w1.heap.size:=hL.ch.size
   obtain ⟨CS,hCS⟩:∃ cs,rcs img (.slice ta tn tc) (.slice fa fln fc) (.slice sa sn sc) (.slice none 0 0) R V=cs:=⟨_,rfl⟩
   obtain ⟨hRI,kRI⟩:=kx (img:=img) (tv:=.slice ta tn tc) (fv:=.slice fa fln fc) (sv:=.slice sa sn sc) hL hout CS hCS
   obtain ⟨wa,wc,ba,bc,la,lc,ka,kc,oa,oc,e1,e2,e3,e4,e5⟩:=hRI.vals
   have hCS2:CS=#[.string img,.slice ta tn tc,.slice fa fln fc,.slice sa sn sc,.int .i64 R.heap,.int .i64 R.depth,.int .i64 R.status,.slice wa R.words.length wc,.slice ba R.below.length bc,.int .i64 R.top.fn,.int .i64 R.top.pc,.slice la R.top.locals.length lc,.slice ka R.top.stack.length kc,.slice none 0 0,.int .i64 (R.used:Int),.slice oa R.out.length oc]:=by
    rw [<-hCS];unfold rcs;rw [e1,e2,e3,e4,e5]
   have HRI:Hid (RI W0 ((w1.alloc (Obj.cells #[.string ⟨#[]⟩,(),(),(),oO,oO,oO,(),(),oO,oO,(),(),(),oO,()] 62)).setRow w1.heap.size #[.string img,.slice ta tn tc,.slice fa fln fc,.slice sa sn sc,R.heap,R.depth,R.status,.slice wa R.words.length wc,.slice ba R.below.length bc,R.top.fn,R.top.pc,.slice la R.top.locals.length lc,.slice ka R.top.stack.length kc,(),R.used,.slice oa R.out.length oc]) w1.heap.size img (.slice ta tn tc) (.slice fa fln fc) (.slice sa sn sc) (.slice none 0 0) R V):=by rw [<-hCS2];exact hRI
   have HRO:=hid hro
   have HII:=hid (HI.out.new kw)
   have K1:=hid (KA.out.trans kw)
   have HB1:Hid (Blk (w1.alloc (Obj.cells #[.string ⟨#[]⟩,(),(),(),oO,oO,oO,(),(),oO,oO,(),(),(),oO,()] 62)) w1.heap.size #[.string ⟨#[]⟩,(),(),(),oO,oO,oO,(),(),oO,oO,(),(),(),oO,()] 62):=Blk.new w1 _ 62
   have HXX:Hid (R.used=0/\R.out=[]):=⟨hused,hout⟩
   have kR:Chg () w1 ((w1.alloc (Obj.cells #[.string ⟨#[]⟩,(),(),(),oO,oO,oO,(),(),oO,oO,(),(),(),oO,()] 62)).setRow w1.heap.size #[.string img,.slice ta tn tc,.slice fa fln fc,.slice sa sn sc,R.heap,R.depth,R.status,.slice wa R.words.length wc,.slice ba R.below.length bc,R.top.fn,R.top.pc,.slice la R.top.locals.length lc,.slice ka R.top.stack.length kc,(),R.used,.slice oa R.out.length oc]):=by rw [<-hCS2];exact kRI
   have HBR:Hid (Blk ((w1.alloc (Obj.cells #[.string ⟨#[]⟩,(),(),(),oO,oO,oO,(),(),oO,oO,(),(),(),oO,()] 62)).setRow w1.heap.size #[.string img,.slice ta tn tc,.slice fa fln fc,.slice sa sn sc,R.heap,R.depth,R.status,.slice wa R.words.length wc,.slice ba R.below.length bc,R.top.fn,R.top.pc,.slice la R.top.locals.length lc,.slice ka R.top.stack.length kc,(),R.used,.slice oa R.out.length oc]) w.heap.size #[(),(),oO,oO] 76):=(BA.out.chg k1 (fun q=>q)).chg kR (fun q=>q)
   have K2:=hid ((KA.out.trans k1).trans kR)
   rw [hCS,hCS2]
   clear hE hO hN hY hu hz HOK HS HR hro hRI kRI hCS hCS2 e1 e2 e3 e4 e5 hL kw k1 ok hinp hused hout hD kR
   by_cases hfu:fuel < 0 \/ 10000 < fuel
   ·have HFU:=hid hfu
    have FB:∀ wf:World,Chg () w wf->nz w img O c ns inp fuel (.returned (.tuple #[.agg #[(),(),oO,oO],(4:Int)])) wf:=fun wf k=>⟨k,fun q=>absurd HZ.out q,fun _=>⟨fun q=>(by rw [HU.out] at q;cases q),fun R' q=>(by rw [HU.out] at q;cases q;exact ⟨fun _=>rfl,fun q=>absurd HFU.out q⟩)⟩⟩
    have FBH:Hid _:=FB
    have kS:Chg (fun j=>j=w.heap.size) ((w1.alloc (Obj.cells #[.string ⟨#[]⟩,(),(),(),oO,oO,oO,(),(),oO,oO,(),(),(),oO,()] 62)).setRow w1.heap.size #[.string img,.slice ta tn tc,.slice fa fln fc,.slice sa sn sc,R.heap,R.depth,R.status,.slice wa R.words.length wc,.slice ba R.below.length bc,R.top.fn,R.top.pc,.slice la R.top.locals.length lc,.slice ka R.top.stack.length kc,(),R.used,.slice oa R.out.length oc]) (((w1.alloc (Obj.cells #[.string ⟨#[]⟩,(),(),(),oO,oO,oO,(),(),oO,oO,(),(),(),oO,()] 62)).setRow w1.heap.size #[.string img,.slice ta tn tc,.slice fa fln fc,.slice sa sn sc,R.heap,R.depth,R.status,.slice wa R.words.length wc,.slice ba R.below.length bc,R.top.fn,R.top.pc,.slice la R.top.locals.length lc,.slice ka R.top.stack.length kc,(),R.used,.slice oa R.out.length oc]).setRow w.heap.size #[(),(),oO,oO]):=(Chg.refl _ _).setRow _ _ (.inl rfl)
    have K3:=K2.out.trans' kS (fun i hi e=>by omega)
    have HB:Blk (((w1.alloc (Obj.cells #[.string ⟨#[]⟩,(),(),(),oO,oO,oO,(),(),oO,oO,(),(),(),oO,()] 62)).setRow w1.heap.size #[.string img,.slice ta tn tc,.slice fa fln fc,.slice sa sn sc,R.heap,R.depth,R.status,.slice wa R.words.length wc,.slice ba R.below.length bc,R.top.fn,R.top.pc,.slice la R.top.locals.length lc,.slice ka R.top.stack.length kc,(),R.used,.slice oa R.out.length oc]).setRow w.heap.size #[(),(),oO,oO]) w.heap.size #[(),(),oO,oO] 76:=setRow_heap _ _ _ _ _ _ HBR.out
    have HBH:=hid HB
    clear FB kS HB
    by_cases hf1:fuel < 0
    ·clear hfu
     go_wp2_with (first | (refine wpList_store_row rfl 62 _ _ rfl w1.heap.size #[.string img,.slice ta tn tc,.slice fa fln fc,.slice sa sn sc,R.heap,R.depth,R.status,.slice wa R.words.length wc,.slice ba R.below.length bc,R.top.fn,R.top.pc,.slice la R.top.locals.length lc,.slice ka R.top.stack.length kc,(),R.used,.slice oa R.out.length oc] rfl rfl 62 #[.string ⟨#[]⟩,(),(),(),oO,oO,oO,(),(),oO,oO,(),(),(),oO,()] HB1.out (by kernel_rfl) rfl (by kernel_rfl) ?_) | (refine wpB rfl 76 _ rfl #[.slice none 0 0,.slice none 0 0,.int .i64 0,.int .i64 0] (by kernel_rfl) ?_) | (refine wpList_store_row rfl 76 _ _ rfl w.heap.size #[(),(),oO,oO] rfl rfl 76 #[(),(),oO,oO] HBR.out (by kernel_rfl) rfl (by kernel_rfl) ?_))
     have HB:=HBH.out
     generalize ((w1.alloc (Obj.cells #[.string ⟨#[]⟩,(),(),(),oO,oO,oO,(),(),oO,oO,(),(),(),oO,()] 62)).setRow w1.heap.size #[.string img,.slice ta tn tc,.slice fa fln fc,.slice sa sn sc,R.heap,R.depth,R.status,.slice wa R.words.length wc,.slice ba R.below.length bc,R.top.fn,R.top.pc,.slice la R.top.locals.length lc,.slice ka R.top.stack.length kc,(),R.used,.slice oa R.out.length oc]).setRow w.heap.size #[(),(),oO,oO]=wf at HB K3 ⊢
     obtain ⟨q0,q1,q2,q3,_,_,_,_⟩:=aL HB
     exact bodyPost_ret (v:=.tuple #[.agg #[(),(),oO,oO],(4:Int)]) (by simp [results,Tryz.results18,go_sem,q0,q1,q2,q3]) rfl (FBH.out _ K3)
    ·have hf2:10000 < fuel:=by rcases hfu with q | q;exact absurd q hf1;exact q
     clear hfu
     go_wp2_with (first | (refine wpList_store_row rfl 62 _ _ rfl w1.heap.size #[.string img,.slice ta tn tc,.slice fa fln fc,.slice sa sn sc,R.heap,R.depth,R.status,.slice wa R.words.length wc,.slice ba R.below.length bc,R.top.fn,R.top.pc,.slice la R.top.locals.length lc,.slice ka R.top.stack.length kc,(),R.used,.slice oa R.out.length oc] rfl rfl 62 #[.string ⟨#[]⟩,(),(),(),oO,oO,oO,(),(),oO,oO,(),(),(),oO,()] HB1.out (by kernel_rfl) rfl (by kernel_rfl) ?_) | (refine wpB rfl 76 _ rfl #[.slice none 0 0,.slice none 0 0,.int .i64 0,.int .i64 0] (by kernel_rfl) ?_) | (refine wpList_store_row rfl 76 _ _ rfl w.heap.size #[(),(),oO,oO] rfl rfl 76 #[(),(),oO,oO] HBR.out (by kernel_rfl) rfl (by kernel_rfl) ?_))
     have HB:=HBH.out
     generalize ((w1.alloc (Obj.cells #[.string ⟨#[]⟩,(),(),(),oO,oO,oO,(),(),oO,oO,(),(),(),oO,()] 62)).setRow w1.heap.size #[.string img,.slice ta tn tc,.slice fa fln fc,.slice sa sn sc,R.heap,R.depth,R.status,.slice wa R.words.length wc,.slice ba R.below.length bc,R.top.fn,R.top.pc,.slice la R.top.locals.length lc,.slice ka R.top.stack.length kc,(),R.used,.slice oa R.out.length oc]).setRow w.heap.size #[(),(),oO,oO]=wf at HB K3 ⊢
     obtain ⟨q0,q1,q2,q3,_,_,_,_⟩:=aL HB
     exact bodyPost_ret (v:=.tuple #[.agg #[(),(),oO,oO],(4:Int)]) (by simp [results,Tryz.results18,go_sem,q0,q1,q2,q3]) rfl (FBH.out _ K3)
   ·have hf1:¬ fuel < 0:=fun q=>hfu (.inl q)
    have hf2:¬ 10000 < fuel:=fun q=>hfu (.inr q)
    obtain ⟨n,hn⟩:∃ n:Nat,fuel=(n:Int):=⟨fuel.toNat,by omega⟩
    subst hn
    have hn4:n<=10000:=by omega
    have HFU:=hid hfu
    have x13:((w1.alloc (Obj.cells #[.string ⟨#[]⟩,(),(),(),oO,oO,oO,(),(),oO,oO,(),(),(),oO,()] 62)).setRow w1.heap.size #[.string img,.slice ta tn tc,.slice fa fln fc,.slice sa sn sc,R.heap,R.depth,R.status,.slice wa R.words.length wc,.slice ba R.below.length bc,R.top.fn,R.top.pc,.slice la R.top.locals.length lc,.slice ka R.top.stack.length kc,(),R.used,.slice oa R.out.length oc]).cell? ⟨w1.heap.size,13,none⟩=some (.slice none 0 0):=HRI.out.bx.cell 13
    have f13:=HRI.out.bx.frozen 13
    have HR2:=HRI.out.inp (.slice ia inp.length ic) inp
    have HR3:=hid HR2
    have HBR2:Hid (Blk (((w1.alloc (Obj.cells #[.string ⟨#[]⟩,(),(),(),oO,oO,oO,(),(),oO,oO,(),(),(),oO,()] 62)).setRow w1.heap.size #[.string img,.slice ta tn tc,.slice fa fln fc,.slice sa sn sc,R.heap,R.depth,R.status,.slice wa R.words.length wc,.slice ba R.below.length bc,R.top.fn,R.top.pc,.slice la R.top.locals.length lc,.slice ka R.top.stack.length kc,(),R.used,.slice oa R.out.length oc]).setCell ⟨w1.heap.size,13,none⟩ (.slice ia inp.length ic)) w.heap.size #[(),(),oO,oO] 76):=HBR.out.setOther _ _ (HBR.out.ne HRI.out.bx (by decide))
    clear HR2 hfu
    go_wp2_with (refine wpList_store_row rfl 62 _ _ rfl w1.heap.size #[.string img,.slice ta tn tc,.slice fa fln fc,.slice sa sn sc,R.heap,R.depth,R.status,.slice wa R.words.length wc,.slice ba R.below.length bc,R.top.fn,R.top.pc,.slice la R.top.locals.length lc,.slice ka R.top.stack.length kc,(),R.used,.slice oa R.out.length oc] rfl rfl 62 #[.string ⟨#[]⟩,(),(),(),oO,oO,oO,(),(),oO,oO,(),(),(),oO,()] HB1.out (by kernel_rfl) rfl (by kernel_rfl) ?_)
    clear x13 f13 HRI HBR
    generalize ((w1.alloc (Obj.cells #[.string ⟨#[]⟩,(),(),(),oO,oO,oO,(),(),oO,oO,(),(),(),oO,()] 62)).setRow w1.heap.size #[.string img,.slice ta tn tc,.slice fa fln fc,.slice sa sn sc,R.heap,R.depth,R.status,.slice wa R.words.length wc,.slice ba R.below.length bc,R.top.fn,R.top.pc,.slice la R.top.locals.length lc,.slice ka R.top.stack.length kc,(),R.used,.slice oa R.out.length oc]).setCell ⟨w1.heap.size,13,none⟩ (.slice ia inp.length ic)=W3 at *
    generalize w1.heap.size=rb at *
    refine (mz HR3.out hw0 (fun w' k'=>HRO.out.new (k'.mono (fun i hi q=>by omega))) (fun w' k'=>HII.out.new (k'.mono (fun i hi q=>by omega))) OK.out (pG HGD.out inp) HXX.out.1 HXX.out.2 n hn4).mono ?_
    obtain ⟨X,hX⟩:∃ x,bu c n { R with inp:=inp } = x:=⟨_,rfl⟩
    rw [hX]
    have HX:Hid (cB c R inp n=X):=hX
    have HGX:Hid (Gd c X.1):=by rw [<-hX];exact vh OK.out n (pG HGD.out inp)
    rintro ex w4 ⟨rfl,k4,V4,g4⟩
    have bR4:=k4.keep _ _ _ HBR2.out (by decide) (by decide) (by decide)
    have hlay:=qQ OK.out HGX.out.rel (g4.new ((Chg.refl _ w4).drew)) hs8 ⟨_,_,_,rfl⟩ ⟨_,_,_,rfl⟩ ⟨_,_,_,rfl⟩ ⟨_,_,_,rfl⟩
    obtain ⟨wa',wc',ba',bc',la',lc',ka',kc',oa',oc',e1,e2,e3,e4,e5⟩:=g4.vals
    unfold rcs at hlay
    rw [e1,e2,e3,e4,e5] at hlay
    have HLAY:Hid _:=hlay
    have HG4:=hid g4
    have BR4:=hid bR4
    have HOV:=hid e5
    have K4:Hid (Chg () w w4):=K1.out.trans (g4.ch.mono (fun i hi q=>by omega))
    have x0:w4.cell? ⟨rb,0,none⟩=some (Value.string img):=g4.bx.cell 0
    have x1:w4.cell? ⟨rb,1,none⟩=some (.slice ta tn tc):=g4.bx.cell 1
    have x2:w4.cell? ⟨rb,2,none⟩=some (.slice fa fln fc):=g4.bx.cell 2
    have x3:w4.cell? ⟨rb,3,none⟩=some (.slice sa sn sc):=g4.bx.cell 3
    have x4:w4.cell? ⟨rb,4,none⟩=some (.int .i64 X.1.heap):=g4.bx.cell 4
    have x5:w4.cell? ⟨rb,5,none⟩=some (.int .i64 X.1.depth):=g4.bx.cell 5
    have x6:w4.cell? ⟨rb,6,none⟩=some (.int .i64 X.1.status):=g4.bx.cell 6
    have x7:w4.cell? ⟨rb,7,none⟩=some (V4.wv):=g4.bx.cell 7
    have x8:w4.cell? ⟨rb,8,none⟩=some (V4.bv):=g4.bx.cell 8
    have x9:w4.cell? ⟨rb,9,none⟩=some (.int .i64 X.1.top.fn):=g4.bx.cell 9
    have x10:w4.cell? ⟨rb,10,none⟩=some (.int .i64 X.1.top.pc):=g4.bx.cell 10
    have x11:w4.cell? ⟨rb,11,none⟩=some (V4.lv):=g4.bx.cell 11
    have x12:w4.cell? ⟨rb,12,none⟩=some (V4.kv):=g4.bx.cell 12
    have x13:w4.cell? ⟨rb,13,none⟩=some (.slice ia inp.length ic):=g4.bx.cell 13
    have x14:w4.cell? ⟨rb,14,none⟩=some (.int .i64 (X.1.used:Int)):=g4.bx.cell 14
    have x15:w4.cell? ⟨rb,15,none⟩=some (V4.ov):=g4.bx.cell 15
    rw [e1] at x7
    rw [e2] at x8
    rw [e3] at x11
    rw [e4] at x12
    rw [e5] at x15
    obtain ⟨o0,o1,o2,o3,z0,z1,z2,z3⟩:=aL bR4
    clear hlay e1 e2 e3 e4 e5 k4 g4 bR4 hX HR3 HBR2
    go_wp2_with fail
    go_region_with (go_at_call 24;refine (Calls.mono HLAY.out ?_);rintro ex w6 ⟨u,rfl,hu6,k6⟩;obtain ⟨ua,uc,rfl⟩:=hu6.slice;have y14:w6.cell? ⟨rb,14,none⟩=some (.int .i64 (X.1.used:Int)):=(HG4.out.bx.drew.chg k6 (fun q=>q)).cell 14;have y15:w6.cell? ⟨rb,15,none⟩=some (.slice oa' X.1.out.length oc'):=((HG4.out.bx.drew.chg k6 (fun q=>q)).cell 15).trans (by rw [<-HOV.out];rfl);obtain ⟨p0,p1,p2,p3,r0,r1,r2,r3⟩:=aL (BR4.out.drew.chg k6 (fun q=>q)))
    all_goals
     have k6':=k6
     have hu6':=hu6
     clear x0 x1 x2 x3 x4 x5 x6 x7 x8 x9 x10 x11 x12 x13 x14 x15 o0 o1 o2 o3 z0 z1 z2 z3 y14 y15 p0 p1 p2 p3 r0 r1 r2 r3
     have B6:=BR4.out.drew.chg k6' (fun q=>q)
     have K6:=K4.out.drew.trans k6'
     have s4:=Chg.set4 (w:=w6) (b:=w.heap.size) (.slice ua (aJ (aB img) X.1).length uc) (.slice oa' X.1.out.length oc') (.int .i64 (X.1.used:Int)) (.int .i64 X.2)
     have hOO:ad w6 W0.heap.size (.slice oa' X.1.out.length oc') X.1.out:=by rw [<-HOV.out];exact af (aA HG4.out.oo) k6' (fun _ _ q=>q)
     have hsp:Sep (.slice oa' X.1.out.length oc') (.slice ua (aJ (aB img) X.1).length uc):=Sep.new hu6' (fun g hg=>by have:=HG4.out.oo.lts g (by rw [HOV.out];exact hg);exact this)
     have hBF:Blk ((((w6.setCell ⟨w.heap.size,0,none⟩ (.slice ua (aJ (aB img) X.1).length uc)).setCell ⟨w.heap.size,1,none⟩ (.slice oa' X.1.out.length oc')).setCell ⟨w.heap.size,2,none⟩ X.1.used).setCell ⟨w.heap.size,3,none⟩ X.2) w.heap.size #[.slice ua (aJ (aB img) X.1).length uc,.slice oa' X.1.out.length oc',X.1.used,X.2] 76:=(((B6.set 0 _).set 1 _).set 2 _).set 3 _
     have FIN:Hid (nz w img O c ns inp (n:Int) (.returned (.tuple #[.agg #[.slice ua (aJ (aB img) X.1).length uc,.slice oa' X.1.out.length oc',X.1.used,X.2],oO])) ((((w6.setCell ⟨w.heap.size,0,none⟩ (.slice ua (aJ (aB img) X.1).length uc)).setCell ⟨w.heap.size,1,none⟩ (.slice oa' X.1.out.length oc')).setCell ⟨w.heap.size,2,none⟩ X.1.used).setCell ⟨w.heap.size,3,none⟩ X.2)):=by
      refine ⟨K6.trans' s4 (fun i hi e=>by omega),fun q=>absurd HZ.out q,fun _=>⟨fun q=>(by rw [HU.out] at q;cases q),fun R' q=>?_⟩⟩
      rw [HU.out] at q
      cases q
      refine ⟨fun q=>absurd q HFU.out,fun _=>?_⟩
      rw [Int.toNat_natCast,HX.out]
      exact ⟨_,_,rfl,af (am hu6' K4.out.size) s4 (fun g hg q=>ao hu6' B6 (by decide) (by rw [hg,q])),af (am hOO K1.out.size) s4 (fun g hg q=>ao hOO B6 (by decide) (by rw [hg,q])),hsp⟩
     clear k6' hu6' B6 K6 s4 hOO hsp
     go_wp2
     generalize ((((w6.setCell ⟨w.heap.size,0,none⟩ (.slice ua (aJ (aB img) X.1).length uc)).setCell ⟨w.heap.size,1,none⟩ (.slice oa' X.1.out.length oc')).setCell ⟨w.heap.size,2,none⟩ X.1.used).setCell ⟨w.heap.size,3,none⟩ X.2)=wf at hBF FIN ⊢
     obtain ⟨q0,q1,q2,q3,_,_,_,_⟩:=aL hBF
     exact bodyPost_ret (v:=.tuple #[.agg #[.slice ua (aJ (aB img) X.1).length uc,.slice oa' X.1.out.length oc',X.1.used,X.2],oO]) (by simp [results,Tryz.results18,go_sem,q0,q1,q2,q3]) rfl FIN.out
 ·have hex:=hE hz
  have HZ:=hid hz
  have hz':(O.1 != 0)=true:=by simp [hz]
  subst hex
  clear hE hO hz HOK HS HR
  have hb1:=Blk.new w1 #[.string ⟨#[]⟩,.slice none 0 0,.slice none 0 0,.slice none 0 0,.int .i64 0,.int .i64 0,.int .i64 0,.slice none 0 0,.slice none 0 0,.int .i64 0,.int .i64 0,.slice none 0 0,.slice none 0 0,.slice none 0 0,.int .i64 0,.slice none 0 0] 62
  have HB1:=hid hb1
  have K2:Hid (Chg () w ((w1.alloc (Obj.cells #[.string ⟨#[]⟩,(),(),(),oO,oO,oO,(),(),oO,oO,(),(),(),oO,()] 62)).setRow w1.heap.size #[.string ⟨#[]⟩,(),(),(),oO,oO,oO,(),(),oO,oO,(),(),(),oO,()])):=((KA.out.trans k1).alloc _).setRow _ _ (.inr (KA.out.trans k1).size)
  have kR:Chg () w1 ((w1.alloc (Obj.cells #[.string ⟨#[]⟩,(),(),(),oO,oO,oO,(),(),oO,oO,(),(),(),oO,()] 62)).setRow w1.heap.size #[.string ⟨#[]⟩,(),(),(),oO,oO,oO,(),(),oO,oO,(),(),(),oO,()]):=((Chg.refl _ w1).alloc _).setRow _ _ (.inr (Nat.le_refl _))
  have bR:Blk ((w1.alloc (Obj.cells #[.string ⟨#[]⟩,(),(),(),oO,oO,oO,(),(),oO,oO,(),(),(),oO,()] 62)).setRow w1.heap.size #[.string ⟨#[]⟩,(),(),(),oO,oO,oO,(),(),oO,oO,(),(),(),oO,()]) w.heap.size #[(),(),oO,oO] 76:=(BA.out.chg k1 (fun q=>q)).chg kR (fun q=>q)
  have HBR:=hid bR
  clear hb1 bR kR
  go_wp2_with (first | (refine wpList_store_row rfl 62 _ _ rfl w1.heap.size #[.string ⟨#[]⟩,(),(),(),oO,oO,oO,(),(),oO,oO,(),(),(),oO,()] rfl rfl 62 #[.string ⟨#[]⟩,(),(),(),oO,oO,oO,(),(),oO,oO,(),(),(),oO,()] HB1.out (by kernel_rfl) rfl (by kernel_rfl) ?_) | (refine wpB rfl 76 _ rfl #[.slice none 0 0,.slice none 0 0,.int .i64 0,.int .i64 0] (by kernel_rfl) ?_) | (refine wpList_store_row rfl 76 _ _ rfl w.heap.size #[(),(),oO,oO] rfl rfl 76 #[(),(),oO,oO] HBR.out (by kernel_rfl) rfl (by kernel_rfl) ?_))
  have kS:Chg (fun j=>j=w.heap.size) ((w1.alloc (Obj.cells #[.string ⟨#[]⟩,(),(),(),oO,oO,oO,(),(),oO,oO,(),(),(),oO,()] 62)).setRow w1.heap.size #[.string ⟨#[]⟩,(),(),(),oO,oO,oO,(),(),oO,oO,(),(),(),oO,()]) (((w1.alloc (Obj.cells #[.string ⟨#[]⟩,(),(),(),oO,oO,oO,(),(),oO,oO,(),(),(),oO,()] 62)).setRow w1.heap.size #[.string ⟨#[]⟩,(),(),(),oO,oO,oO,(),(),oO,oO,(),(),(),oO,()]).setRow w.heap.size #[(),(),oO,oO]):=(Chg.refl _ _).setRow _ _ (.inl rfl)
  have K3:=K2.out.trans' kS (fun i hi e=>by omega)
  have HB:Blk (((w1.alloc (Obj.cells #[.string ⟨#[]⟩,(),(),(),oO,oO,oO,(),(),oO,oO,(),(),(),oO,()] 62)).setRow w1.heap.size #[.string ⟨#[]⟩,(),(),(),oO,oO,oO,(),(),oO,oO,(),(),(),oO,()]).setRow w.heap.size #[(),(),oO,oO]) w.heap.size #[(),(),oO,oO] 76:=setRow_heap _ _ _ _ _ _ HBR.out
  generalize ((w1.alloc (Obj.cells #[.string ⟨#[]⟩,(),(),(),oO,oO,oO,(),(),oO,oO,(),(),(),oO,()] 62)).setRow w1.heap.size #[.string ⟨#[]⟩,(),(),(),oO,oO,oO,(),(),oO,oO,(),(),(),oO,()]).setRow w.heap.size #[(),(),oO,oO]=wf at HB K3 ⊢
  obtain ⟨q0,q1,q2,q3,_,_,_,_⟩:=aL HB
  exact bodyPost_ret (v:=.tuple #[.agg #[(),(),oO,oO],O.1]) (by simp [results,Tryz.results18,go_sem,q0,q1,q2,q3]) rfl ⟨K3,fun _=>rfl,fun q=>absurd q HZ.out⟩
end Go.Proofs.YtnfnbcbadakofaaGreat
