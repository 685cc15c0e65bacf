import Derived.Test.YtnfnbcbadakofaaGreatGpl
namespace Go.Proofs.YtnfnbcbadakofaaGreat
open Go.RowKit
set_option maxHeartbeats 2000000
set_option maxRecDepth 100000
theorem oY {c:Cx} {ms ns:List Int} {R:Rn} (h:tuP c ms ns=some R) (hr:∃ D,Rel c D R):(a9 c R).words.length<=4000/\R.below.length<=64:=by
 obtain ⟨D,hr⟩:=hr
 rcases hr.st with ⟨_,s2,phi,sm⟩ | ⟨q,_⟩
 ·obtain ⟨_,_,a,_⟩:=gR sm s2
  have:=sm.len
  have:=sm.h4
  have:=sm.bl
  have:=sm.d64
  exact ⟨by omega,by omega⟩
 ·obtain ⟨_,_,_,hx⟩:=fV h
  obtain ⟨e1,e2,e3⟩:=hx (by omega)
  refine ⟨?_,by rw [e2];simp⟩
  unfold a9 mvA
  simp [e1,e2,e3,aZ,cK,mvL,mvW]
section
variable {w:World} {img:ByteArray}
theorem kx {W0 w1:World} {tv fv sv:Value} {R:Rn} {V:RV} (hL:LI W0 w1 R V) (ho:R.out=[]) (cs:Array Value) (hcs:rcs img tv fv sv (.slice none 0 0) R V=cs) :
 RI W0 ((w1.alloc (Obj.cells #[.string ⟨#[]⟩,(),(),(),oO,oO,oO,(),(),oO,oO,(),(),(),oO,()] 62)).setRow w1.heap.size cs) w1.heap.size img tv fv sv (.slice none 0 0) R V/\Chg () w1 ((w1.alloc (Obj.cells #[.string ⟨#[]⟩,(),(),(),oO,oO,oO,(),(),oO,oO,(),(),(),oO,()] 62)).setRow w1.heap.size cs):=by
 have k:Chg () w1 ((w1.alloc (Obj.cells #[.string ⟨#[]⟩,(),(),(),oO,oO,oO,(),(),oO,oO,(),(),(),oO,()] 62)).setRow w1.heap.size cs):=((Chg.refl _ w1).alloc _).setRow _ _ (.inr (Nat.le_refl _))
 exact ⟨hL.ri k (by rw [hcs];exact setRow_heap _ _ _ _ _ _ (Blk.new w1 _ 62)) ho,k⟩
def um (w:World) (img:ByteArray) (O:Int × Int × Pg × List aC) (c:Cx) (ns:List Int) (ex:Ending) (w':World):Prop:=
 Chg () w w'/\(O.1 ≠ 0->ex=.returned (.tuple #[oO,O.1]))/\(O.1=0->(tuP c (aB img) ns=none->ex=.returned (.tuple #[oO,(5:Int)]))/\∀ R,tuP c (aB img) ns=some R->ex=.returned (.tuple #[((a9 c R).words.length:Int),oO]))
theorem qm (img:ByteArray) (nv:Value) (ns:List Int) (w:World) (hn:RdA w nv ns) (hr:(opF img).1=0->∀ R,tuP (cxO img) (aB img) ns=some R->∃ D,Rel (cxO img) D R):Calls Tryz.prog 6 #[.string img,nv] w (um w img (opF img) (cxO img) ns):=by
 have HTU:Hid (Calls Tryz.prog 15 #[.string img,nv] w (dS w img (opF img) (cxO img) ns)):=fh img nv ns w hn
 have HOK:Hid ((opF img).1=0->bM (cxO img)):=fun h=>dg h
 have HS:Hid ((opF img).1=0->img.size<=800):=cQ
 have HR:=hid hr
 obtain ⟨na,nc,hnv⟩:=hn.slice
 subst hnv
 clear hn hr
 generalize opF img=O at *
 generalize cxO img=c at *
 go_enter Tryz.func6,Tryz.ntmps6
 go_wp2_with fail
 refine (Calls.mono HTU.out ?_)
 clear HTU
 rintro ex w1 ⟨k1,hE,hO⟩
 by_cases hz:O.1=0
 ·obtain ⟨hN,hY⟩:=hO hz
  have HZ:=hid hz
  rcases hu:tuP c (aB img) ns with _ | R
  ·have hex:=hN hu
   have HU:=hid hu
   subst hex
   clear hE hO hN hY hu hz HOK HS HR
   have hb1:=Blk.new w1 #[.string ⟨#[]⟩,.slice none 0 0,.slice none 0 0,.slice none 0 0,.int .i64 0,.int .i64 0,.int .i64 0,.slice none 0 0,.slice none 0 0,.int .i64 0,.int .i64 0,.slice none 0 0,.slice none 0 0,.slice none 0 0,.int .i64 0,.slice none 0 0] 62
   have K2:Hid (Chg () w ((w1.alloc (Obj.cells #[.string ⟨#[]⟩,(),(),(),oO,oO,oO,(),(),oO,oO,(),(),(),oO,()] 62)).setRow w1.heap.size #[.string ⟨#[]⟩,(),(),(),oO,oO,oO,(),(),oO,oO,(),(),(),oO,()])):=(k1.alloc _).setRow _ _ (.inr k1.size)
   have HB1:=hid hb1
   clear hb1
   go_wp2_with (refine wpList_store_row rfl 62 _ _ rfl w1.heap.size #[.string ⟨#[]⟩,(),(),(),oO,oO,oO,(),(),oO,oO,(),(),(),oO,()] rfl rfl 62 #[.string ⟨#[]⟩,(),(),(),oO,oO,oO,(),(),oO,oO,(),(),(),oO,()] HB1.out (by kernel_rfl) rfl (by kernel_rfl) ?_)
   exact bodyPost_ret (v:=.tuple #[oO,(5:Int)]) (by simp [results,Tryz.results6]) rfl ⟨K2.out,fun q=>absurd HZ.out q,fun _=>⟨fun _=>rfl,fun R q=>(by rw [HU.out] at q;cases q)⟩⟩
  ·obtain ⟨W0,tv,fv,sv,V,hex,kw,hro,hL⟩:=hY R hu
   have HU:=hid hu
   have ok:=HOK.out hz
   have hs8:=HS.out hz
   have hrb:=sr ok hu (HR.out hz R hu)
   have hcl:=oY hu (HR.out hz R hu)
   obtain ⟨hinp,hused,hout,_⟩:=fV hu
   subst hex
   obtain ⟨ta,tc,htv⟩:=hro.ty.slice
   obtain ⟨fa,fc,hfv⟩:=hro.fu.slice
   obtain ⟨sa,sc,hsv⟩:=hro.sp.slice
   generalize c.ls.length=tn at htv
   generalize c.fs.length=fln at hfv
   generalize c.sps.length=sn at hsv
   subst htv hfv hsv
   have hw0:W0.heap.size<=w1.heap.size:=hL.ch.size
   obtain ⟨CS,hCS⟩:∃ cs,rcs img (.slice ta tn tc) (.slice fa fln fc) (.slice sa sn sc) (.slice none 0 0) R V=cs:=⟨_,rfl⟩
   obtain ⟨hRI,kRI⟩:=kx (img:=img) (tv:=.slice ta tn tc) (fv:=.slice fa fln fc) (sv:=.slice sa sn sc) hL hout CS hCS
   obtain ⟨wa,wc,ba,bc,la,lc,ka,kc,oa,oc,e1,e2,e3,e4,e5⟩:=hRI.vals
   have hCS2:CS=#[.string img,.slice ta tn tc,.slice fa fln fc,.slice sa sn sc,.int .i64 R.heap,.int .i64 R.depth,.int .i64 R.status,.slice wa R.words.length wc,.slice ba R.below.length bc,.int .i64 R.top.fn,.int .i64 R.top.pc,.slice la R.top.locals.length lc,.slice ka R.top.stack.length kc,.slice none 0 0,.int .i64 (R.used:Int),.slice oa R.out.length oc]:=by
    rw [<-hCS];unfold rcs;rw [e1,e2,e3,e4,e5]
   have HRI:Hid (RI W0 ((w1.alloc (Obj.cells #[.string ⟨#[]⟩,(),(),(),oO,oO,oO,(),(),oO,oO,(),(),(),oO,()] 62)).setRow w1.heap.size #[.string img,.slice ta tn tc,.slice fa fln fc,.slice sa sn sc,R.heap,R.depth,R.status,.slice wa R.words.length wc,.slice ba R.below.length bc,R.top.fn,R.top.pc,.slice la R.top.locals.length lc,.slice ka R.top.stack.length kc,(),R.used,.slice oa R.out.length oc]) w1.heap.size img (.slice ta tn tc) (.slice fa fln fc) (.slice sa sn sc) (.slice none 0 0) R V):=by rw [<-hCS2];exact hRI
   have HRO:=hid hro
   have HRB:=hid hrb
   have HCL:Hid _:=hcl
   have K1:=hid kw
   have HB1:Hid (Blk (w1.alloc (Obj.cells #[.string ⟨#[]⟩,(),(),(),oO,oO,oO,(),(),oO,oO,(),(),(),oO,()] 62)) w1.heap.size #[.string ⟨#[]⟩,(),(),(),oO,oO,oO,(),(),oO,oO,(),(),(),oO,()] 62):=Blk.new w1 _ 62
   have HRX:Hid (rcs img (.slice ta tn tc) (.slice fa fln fc) (.slice sa sn sc) (.slice none 0 0) R V=#[.string img,.slice ta tn tc,.slice fa fln fc,.slice sa sn sc,.int .i64 R.heap,.int .i64 R.depth,.int .i64 R.status,.slice wa R.words.length wc,.slice ba R.below.length bc,.int .i64 R.top.fn,.int .i64 R.top.pc,.slice la R.top.locals.length lc,.slice ka R.top.stack.length kc,.slice none 0 0,.int .i64 (R.used:Int),.slice oa R.out.length oc]):=by rw [<-hCS2];exact hCS
   rw [hCS,hCS2]
   clear hE hO hN hY hu hz HOK HS HR hro hrb hcl hRI kRI hCS hCS2 e1 e2 e3 e4 e5 hL kw k1 ok hinp hused hout
   go_wp2_with (refine wpList_store_row rfl 62 _ _ rfl w1.heap.size #[.string img,.slice ta tn tc,.slice fa fln fc,.slice sa sn sc,R.heap,R.depth,R.status,.slice wa R.words.length wc,.slice ba R.below.length bc,R.top.fn,R.top.pc,.slice la R.top.locals.length lc,.slice ka R.top.stack.length kc,(),R.used,.slice oa R.out.length oc] rfl rfl 62 #[.string ⟨#[]⟩,(),(),(),oO,oO,oO,(),(),oO,oO,(),(),(),oO,()] HB1.out (by kernel_rfl) rfl (by kernel_rfl) ?_)
   generalize (w1.alloc (Obj.cells #[.string ⟨#[]⟩,(),(),(),oO,oO,oO,(),(),oO,oO,(),(),(),oO,()] 62)).setRow w1.heap.size #[.string img,.slice ta tn tc,.slice fa fln fc,.slice sa sn sc,R.heap,R.depth,R.status,.slice wa R.words.length wc,.slice ba R.below.length bc,R.top.fn,R.top.pc,.slice la R.top.locals.length lc,.slice ka R.top.stack.length kc,(),R.used,.slice oa R.out.length oc]=W2 at *
   generalize w1.heap.size=rb at *
   refine (gm HRI.out (HRO.out.new (HRI.out.ch.mono (fun i hi q=>by omega))) HRB.out).mono ?_
   rintro ex w3 ⟨rfl,k3,V3,g3⟩
   obtain ⟨wa',wc',ba',bc',la',lc',ka',kc',oa',oc',e1,e2,e3,e4,e5⟩:=g3.vals
   have hbd:=lH HRB.out
   obtain ⟨hc1,hc2⟩:=HCL.out
   have x7:w3.cell? ⟨rb,7,none⟩=some V3.wv:=g3.bx.cell 7
   rw [e1] at x7
   have K3:Hid (Chg () w w3):=K1.out.trans (g3.ch.mono (fun i hi q=>by omega))
   clear e1 e2 e3 e4 e5 hbd hc1 hc2 k3 g3
   go_wp2
   exact bodyPost_ret (v:=.tuple #[((a9 c R).words.length:Int),oO]) (by simp [results,Tryz.results6]) rfl ⟨K3.out,fun q=>absurd HZ.out q,fun _=>⟨fun q=>(by rw [HU.out] at q;cases q),fun R' q=>(by rw [HU.out] at q;cases q;rfl)⟩⟩
 ·have hex:=hE hz
  have HZ:=hid hz
  have hz':(O.1 != 0)=true:=by simp [hz]
  subst hex
  clear hE hO hz HOK HS HR
  have hb1:=Blk.new w1 #[.string ⟨#[]⟩,.slice none 0 0,.slice none 0 0,.slice none 0 0,.int .i64 0,.int .i64 0,.int .i64 0,.slice none 0 0,.slice none 0 0,.int .i64 0,.int .i64 0,.slice none 0 0,.slice none 0 0,.slice none 0 0,.int .i64 0,.slice none 0 0] 62
  have K2:Hid (Chg () w ((w1.alloc (Obj.cells #[.string ⟨#[]⟩,(),(),(),oO,oO,oO,(),(),oO,oO,(),(),(),oO,()] 62)).setRow w1.heap.size #[.string ⟨#[]⟩,(),(),(),oO,oO,oO,(),(),oO,oO,(),(),(),oO,()])):=(k1.alloc _).setRow _ _ (.inr k1.size)
  have HB1:=hid hb1
  clear hb1
  go_wp2_with (refine wpList_store_row rfl 62 _ _ rfl w1.heap.size #[.string ⟨#[]⟩,(),(),(),oO,oO,oO,(),(),oO,oO,(),(),(),oO,()] rfl rfl 62 #[.string ⟨#[]⟩,(),(),(),oO,oO,oO,(),(),oO,oO,(),(),(),oO,()] HB1.out (by kernel_rfl) rfl (by kernel_rfl) ?_)
  exact bodyPost_ret (v:=.tuple #[oO,O.1]) (by simp [results,Tryz.results6]) rfl ⟨K2.out,fun _=>rfl,fun q=>absurd q HZ.out⟩
def ue (w:World) (img:ByteArray) (O:Int × Int × Pg × List aC) (c:Cx) (ns:List Int) (ex:Ending) (w':World):Prop:=
 Chg () w w'/\(O.1 ≠ 0->ex=.returned (.tuple #[(),O.1]))/\(O.1=0->(tuP c (aB img) ns=none->ex=.returned (.tuple #[(),(5:Int)]))/\∀ R,tuP c (aB img) ns=some R->∃ u,ex=.returned (.tuple #[u,oO])/\ad w' w.heap.size u (aJ (aB img) (a9 c R)))
theorem nI (img:ByteArray) (nv:Value) (ns:List Int) (w:World) (hn:RdA w nv ns) (hr:(opF img).1=0->∀ R,tuP (cxO img) (aB img) ns=some R->∃ D,Rel (cxO img) D R):Calls Tryz.prog 14 #[.string img,nv] w (ue w img (opF img) (cxO img) ns):=by
 have HTU:Hid (Calls Tryz.prog 15 #[.string img,nv] w (dS w img (opF img) (cxO img) ns)):=fh img nv ns w hn
 have HOK:Hid ((opF img).1=0->bM (cxO img)):=fun h=>dg h
 have HS:Hid ((opF img).1=0->img.size<=800):=cQ
 have HR:=hid hr
 obtain ⟨na,nc,hnv⟩:=hn.slice
 subst hnv
 clear hn hr
 generalize opF img=O at *
 generalize cxO img=c at *
 go_enter Tryz.func14,Tryz.ntmps14
 go_wp2_with fail
 refine (Calls.mono HTU.out ?_)
 clear HTU
 rintro ex w1 ⟨k1,hE,hO⟩
 by_cases hz:O.1=0
 ·obtain ⟨hN,hY⟩:=hO hz
  have HZ:=hid hz
  rcases hu:tuP c (aB img) ns with _ | R
  ·have hex:=hN hu
   have HU:=hid hu
   subst hex
   clear hE hO hN hY hu hz HOK HS HR
   have hb1:=Blk.new w1 #[.string ⟨#[]⟩,.slice none 0 0,.slice none 0 0,.slice none 0 0,.int .i64 0,.int .i64 0,.int .i64 0,.slice none 0 0,.slice none 0 0,.int .i64 0,.int .i64 0,.slice none 0 0,.slice none 0 0,.slice none 0 0,.int .i64 0,.slice none 0 0] 62
   have K2:Hid (Chg () w ((w1.alloc (Obj.cells #[.string ⟨#[]⟩,(),(),(),oO,oO,oO,(),(),oO,oO,(),(),(),oO,()] 62)).setRow w1.heap.size #[.string ⟨#[]⟩,(),(),(),oO,oO,oO,(),(),oO,oO,(),(),(),oO,()])):=(k1.alloc _).setRow _ _ (.inr k1.size)
   have HB1:=hid hb1
   clear hb1
   go_wp2_with (refine wpList_store_row rfl 62 _ _ rfl w1.heap.size #[.string ⟨#[]⟩,(),(),(),oO,oO,oO,(),(),oO,oO,(),(),(),oO,()] rfl rfl 62 #[.string ⟨#[]⟩,(),(),(),oO,oO,oO,(),(),oO,oO,(),(),(),oO,()] HB1.out (by kernel_rfl) rfl (by kernel_rfl) ?_)
   exact bodyPost_ret (v:=.tuple #[(),(5:Int)]) (by simp [results,Tryz.results14]) rfl ⟨K2.out,fun q=>absurd HZ.out q,fun _=>⟨fun _=>rfl,fun R q=>(by rw [HU.out] at q;cases q)⟩⟩
  ·obtain ⟨W0,tv,fv,sv,V,hex,kw,hro,hL⟩:=hY R hu
   have HU:=hid hu
   have ok:=HOK.out hz
   have hs8:=HS.out hz
   have hrb:=sr ok hu (HR.out hz R hu)
   have hcl:=oY hu (HR.out hz R hu)
   obtain ⟨hinp,hused,hout,_⟩:=fV hu
   subst hex
   obtain ⟨ta,tc,htv⟩:=hro.ty.slice
   obtain ⟨fa,fc,hfv⟩:=hro.fu.slice
   obtain ⟨sa,sc,hsv⟩:=hro.sp.slice
   generalize c.ls.length=tn at htv
   generalize c.fs.length=fln at hfv
   generalize c.sps.length=sn at hsv
   subst htv hfv hsv
   have hw0:W0.heap.size<=w1.heap.size:=hL.ch.size
   obtain ⟨CS,hCS⟩:∃ cs,rcs img (.slice ta tn tc) (.slice fa fln fc) (.slice sa sn sc) (.slice none 0 0) R V=cs:=⟨_,rfl⟩
   obtain ⟨hRI,kRI⟩:=kx (img:=img) (tv:=.slice ta tn tc) (fv:=.slice fa fln fc) (sv:=.slice sa sn sc) hL hout CS hCS
   obtain ⟨wa,wc,ba,bc,la,lc,ka,kc,oa,oc,e1,e2,e3,e4,e5⟩:=hRI.vals
   have hCS2:CS=#[.string img,.slice ta tn tc,.slice fa fln fc,.slice sa sn sc,.int .i64 R.heap,.int .i64 R.depth,.int .i64 R.status,.slice wa R.words.length wc,.slice ba R.below.length bc,.int .i64 R.top.fn,.int .i64 R.top.pc,.slice la R.top.locals.length lc,.slice ka R.top.stack.length kc,.slice none 0 0,.int .i64 (R.used:Int),.slice oa R.out.length oc]:=by
    rw [<-hCS];unfold rcs;rw [e1,e2,e3,e4,e5]
   have HRI:Hid (RI W0 ((w1.alloc (Obj.cells #[.string ⟨#[]⟩,(),(),(),oO,oO,oO,(),(),oO,oO,(),(),(),oO,()] 62)).setRow w1.heap.size #[.string img,.slice ta tn tc,.slice fa fln fc,.slice sa sn sc,R.heap,R.depth,R.status,.slice wa R.words.length wc,.slice ba R.below.length bc,R.top.fn,R.top.pc,.slice la R.top.locals.length lc,.slice ka R.top.stack.length kc,(),R.used,.slice oa R.out.length oc]) w1.heap.size img (.slice ta tn tc) (.slice fa fln fc) (.slice sa sn sc) (.slice none 0 0) R V):=by rw [<-hCS2];exact hRI
   have HRO:=hid hro
   have HRB:=hid hrb
   have HCL:Hid _:=hcl
   have K1:=hid kw
   have HB1:Hid (Blk (w1.alloc (Obj.cells #[.string ⟨#[]⟩,(),(),(),oO,oO,oO,(),(),oO,oO,(),(),(),oO,()] 62)) w1.heap.size #[.string ⟨#[]⟩,(),(),(),oO,oO,oO,(),(),oO,oO,(),(),(),oO,()] 62):=Blk.new w1 _ 62
   have HRX:Hid (rcs img (.slice ta tn tc) (.slice fa fln fc) (.slice sa sn sc) (.slice none 0 0) R V=#[.string img,.slice ta tn tc,.slice fa fln fc,.slice sa sn sc,.int .i64 R.heap,.int .i64 R.depth,.int .i64 R.status,.slice wa R.words.length wc,.slice ba R.below.length bc,.int .i64 R.top.fn,.int .i64 R.top.pc,.slice la R.top.locals.length lc,.slice ka R.top.stack.length kc,.slice none 0 0,.int .i64 (R.used:Int),.slice oa R.out.length oc]):=by rw [<-hCS2];exact hCS
   rw [hCS,hCS2]
   clear hE hO hN hY hu hz HOK HS HR hro hrb hcl hRI kRI hCS hCS2 e1 e2 e3 e4 e5 hL kw k1 ok hinp hused hout
   go_wp2_with (refine wpList_store_row rfl 62 _ _ rfl w1.heap.size #[.string img,.slice ta tn tc,.slice fa fln fc,.slice sa sn sc,R.heap,R.depth,R.status,.slice wa R.words.length wc,.slice ba R.below.length bc,R.top.fn,R.top.pc,.slice la R.top.locals.length lc,.slice ka R.top.stack.length kc,(),R.used,.slice oa R.out.length oc] rfl rfl 62 #[.string ⟨#[]⟩,(),(),(),oO,oO,oO,(),(),oO,oO,(),(),(),oO,()] HB1.out (by kernel_rfl) rfl (by kernel_rfl) ?_)
   generalize (w1.alloc (Obj.cells #[.string ⟨#[]⟩,(),(),(),oO,oO,oO,(),(),oO,oO,(),(),(),oO,()] 62)).setRow w1.heap.size #[.string img,.slice ta tn tc,.slice fa fln fc,.slice sa sn sc,R.heap,R.depth,R.status,.slice wa R.words.length wc,.slice ba R.below.length bc,R.top.fn,R.top.pc,.slice la R.top.locals.length lc,.slice ka R.top.stack.length kc,(),R.used,.slice oa R.out.length oc]=W2 at *
   generalize w1.heap.size=rb at *
   refine (gm HRI.out (HRO.out.new (HRI.out.ch.mono (fun i hi q=>by omega))) HRB.out).mono ?_
   rintro ex w3 ⟨rfl,k3,V3,g3⟩
   obtain ⟨wa',wc',ba',bc',la',lc',ka',kc',oa',oc',e1,e2,e3,e4,e5⟩:=g3.vals
   have hbd:=lH HRB.out
   obtain ⟨hc1,hc2⟩:=HCL.out
   have x0:w3.cell? ⟨rb,0,none⟩=some (Value.string img):=g3.bx.cell 0
   have x1:w3.cell? ⟨rb,1,none⟩=some (.slice ta tn tc):=g3.bx.cell 1
   have x2:w3.cell? ⟨rb,2,none⟩=some (.slice fa fln fc):=g3.bx.cell 2
   have x3:w3.cell? ⟨rb,3,none⟩=some (.slice sa sn sc):=g3.bx.cell 3
   have x4:w3.cell? ⟨rb,4,none⟩=some (.int .i64 (a9 c R).heap):=g3.bx.cell 4
   have x5:w3.cell? ⟨rb,5,none⟩=some (.int .i64 (a9 c R).depth):=g3.bx.cell 5
   have x6:w3.cell? ⟨rb,6,none⟩=some (.int .i64 (a9 c R).status):=g3.bx.cell 6
   have x7:w3.cell? ⟨rb,7,none⟩=some (V3.wv):=g3.bx.cell 7
   have x8:w3.cell? ⟨rb,8,none⟩=some (V3.bv):=g3.bx.cell 8
   have x9:w3.cell? ⟨rb,9,none⟩=some (.int .i64 (a9 c R).top.fn):=g3.bx.cell 9
   have x10:w3.cell? ⟨rb,10,none⟩=some (.int .i64 (a9 c R).top.pc):=g3.bx.cell 10
   have x11:w3.cell? ⟨rb,11,none⟩=some (V3.lv):=g3.bx.cell 11
   have x12:w3.cell? ⟨rb,12,none⟩=some (V3.kv):=g3.bx.cell 12
   have x13:w3.cell? ⟨rb,13,none⟩=some (.slice none 0 0):=g3.bx.cell 13
   have x14:w3.cell? ⟨rb,14,none⟩=some (.int .i64 ((a9 c R).used:Int)):=g3.bx.cell 14
   have x15:w3.cell? ⟨rb,15,none⟩=some (V3.ov):=g3.bx.cell 15
   rw [e1] at x7
   rw [e2] at x8
   rw [e3] at x11
   rw [e4] at x12
   rw [e5] at x15
   have hlay:=pj g3 hs8 ⟨_,_,_,rfl⟩ ⟨_,_,_,rfl⟩ ⟨_,_,_,rfl⟩ ⟨_,_,_,rfl⟩ (by omega) (by rw [hbd.2.1];omega) (fun f hf=>by have:=hbd.2.2.1 f hf;omega) (by have:=hbd.2.2.2.1;omega) (by have:=hbd.2.2.2.2;omega)
   unfold rcs at hlay
   rw [e1,e2,e3,e4,e5] at hlay
   have HLAY:Hid _:=hlay
   have K3:Hid (Chg () w w3):=K1.out.trans (g3.ch.mono (fun i hi q=>by omega))
   clear hlay e1 e2 e3 e4 e5 hbd hc1 hc2 k3 g3
   obtain ⟨R3,hR3⟩:∃ r,a9 c R=r:=⟨_,rfl⟩
   have HR3:=hid hR3
   rw [hR3] at x4 x5 x6 x7 x8 x9 x10 x11 x12 x14 x15 HLAY
   clear hR3
   go_wp2_with fail
   refine (Calls.mono HLAY.out ?_)
   rintro ex w4 ⟨u,rfl,hu4,k4⟩
   obtain ⟨ua,uc,rfl⟩:=hu4.slice
   have HU4:=hid hu4
   have K4:=hid (K3.out.trans k4)
   clear hu4 k4 x0 x1 x2 x3 x4 x5 x6 x7 x8 x9 x10 x11 x12 x13 x14 x15 HLAY
   go_wp2
   exact bodyPost_ret (v:=.tuple #[.slice ua (aJ (aB img) R3).length uc,oO]) (by simp [results,Tryz.results14]) rfl ⟨K4.out,fun q=>absurd HZ.out q,fun _=>⟨fun q=>(by rw [HU.out] at q;cases q),fun R' q=>(by rw [HU.out] at q;cases q;exact ⟨_,rfl,am (by rw [HR3.out];exact HU4.out) K3.out.size⟩)⟩⟩
 ·have hex:=hE hz
  have HZ:=hid hz
  have hz':(O.1 != 0)=true:=by simp [hz]
  subst hex
  clear hE hO hz HOK HS HR
  have hb1:=Blk.new w1 #[.string ⟨#[]⟩,.slice none 0 0,.slice none 0 0,.slice none 0 0,.int .i64 0,.int .i64 0,.int .i64 0,.slice none 0 0,.slice none 0 0,.int .i64 0,.int .i64 0,.slice none 0 0,.slice none 0 0,.slice none 0 0,.int .i64 0,.slice none 0 0] 62
  have K2:Hid (Chg () w ((w1.alloc (Obj.cells #[.string ⟨#[]⟩,(),(),(),oO,oO,oO,(),(),oO,oO,(),(),(),oO,()] 62)).setRow w1.heap.size #[.string ⟨#[]⟩,(),(),(),oO,oO,oO,(),(),oO,oO,(),(),(),oO,()])):=(k1.alloc _).setRow _ _ (.inr k1.size)
  have HB1:=hid hb1
  clear hb1
  go_wp2_with (refine wpList_store_row rfl 62 _ _ rfl w1.heap.size #[.string ⟨#[]⟩,(),(),(),oO,oO,oO,(),(),oO,oO,(),(),(),oO,()] rfl rfl 62 #[.string ⟨#[]⟩,(),(),(),oO,oO,oO,(),(),oO,oO,(),(),(),oO,()] HB1.out (by kernel_rfl) rfl (by kernel_rfl) ?_)
  exact bodyPost_ret (v:=.tuple #[(),O.1]) (by simp [results,Tryz.results14]) rfl ⟨K2.out,fun _=>rfl,fun q=>absurd q HZ.out⟩
end
end Go.Proofs.YtnfnbcbadakofaaGreat
namespace Go.Proofs.YtnfnbcbadakofaaGreat
open Go.RowKit
set_option maxHeartbeats 2000000 in
set_option maxRecDepth 100000 in
theorem nJ (s:ByteArray) (hs:s.size<=800) (ta fa sa ia oa wa ba la ka:Option Addr) (tn tc fn fc sn sc inn ic on oc wc bc lc kc:Nat) (h d used:Int) (st:Int) (hst:(st != 0)=true) (ws:List Int) (below:List Fr) (top:Fr) (w:World) (b1:Nat)
 (hw:ad w b1 (.slice wa ws.length wc) ws) (hb:bY w b1 (.slice ba below.length bc) below) (hl:ad w b1 (.slice la top.locals.length lc) top.locals) (hk:ad w b1 (.slice ka top.stack.length kc) top.stack) :
 Calls Tryz.prog 24 #[.agg #[.string s,.slice ta tn tc,.slice fa fn fc,.slice sa sn sc,h,d,st,.slice wa ws.length wc,.slice ba below.length bc,top.fn,top.pc,.slice la top.locals.length lc,.slice ka top.stack.length kc,.slice ia inn ic,used,.slice oa on oc]] w fun e w'=>∃ v,e=.returned v/\ad w' w.heap.size v (aB s++[h,d,st])/\Chg () w w':=by
 have kb:Chg () w (w.alloc (Obj.cells #[.string s,.slice ta tn tc,.slice fa fn fc,.slice sa sn sc,h,d,st,.slice wa ws.length wc,.slice ba below.length bc,top.fn,top.pc,.slice la top.locals.length lc,.slice ka top.stack.length kc,.slice ia inn ic,used,.slice oa on oc] 62)):=(Chg.refl _ w).alloc _
 have bx:Blk (w.alloc (Obj.cells #[.string s,.slice ta tn tc,.slice fa fn fc,.slice sa sn sc,h,d,st,.slice wa ws.length wc,.slice ba below.length bc,top.fn,top.pc,.slice la top.locals.length lc,.slice ka top.stack.length kc,.slice ia inn ic,used,.slice oa on oc] 62)) w.heap.size #[.string s,.slice ta tn tc,.slice fa fn fc,.slice sa sn sc,h,d,st,.slice wa ws.length wc,.slice ba below.length bc,top.fn,top.pc,.slice la top.locals.length lc,.slice ka top.stack.length kc,.slice ia inn ic,used,.slice oa on oc] 62:=Blk.new w _ 62
 have HB:=hb.chg kb (fun _ _ _ e=>e) (fun _ _ _ e=>e)
 have HW:=hw.chg kb (fun _ _ _ e=>e)
 have HL:=hl.chg kb (fun _ _ _ e=>e)
 have HK:=hk.chg kb (fun _ _ _ e=>e)
 clear hw hb hl hk
 have hml:(aB s).length=3:=rfl
 go_enter Tryz.func24,Tryz.ntmps24
 go_wp2_with fail
 generalize (w.alloc (Obj.cells #[.string s,.slice ta tn tc,.slice fa fn fc,.slice sa sn sc,h,d,st,.slice wa ws.length wc,.slice ba below.length bc,top.fn,top.pc,.slice la top.locals.length lc,.slice ka top.stack.length kc,.slice ia inn ic,used,.slice oa on oc] 62))=W0 at *
 refine (dD s _ hs).mono ?_
 rintro e w1 ⟨v1,rfl,hI1,k1⟩
 obtain ⟨a1,c1,rfl⟩:=hI1.slice
 have x4:w1.cell? ⟨w.heap.size,4,none⟩=some (.int .i64 h):=(bx.chg k1 (fun e=>e)).cell 4
 have x5:w1.cell? ⟨w.heap.size,5,none⟩=some (.int .i64 d):=(bx.chg k1 (fun e=>e)).cell 5
 have x6:w1.cell? ⟨w.heap.size,6,none⟩=some (.int .i64 st):=(bx.chg k1 (fun e=>e)).cell 6
 have hlt:=(bx.chg k1 (fun e=>e)).lt
 have hs1:=k1.size
 have j1:Chg () w1 (w1.alloc (Obj.cells #[h,d,st] 3)):=(Chg.refl _ w1).alloc _
 go_wp2_with (at_builtin;refine du rfl _ _ rfl W0.heap.size (.slice a1 (aB s).length c1) (.slice w1.heap.size 3 3) (aB s) [h,d,st] rfl rfl ?h1 ?h2 ?h3 ?h4 ?_)
 case h1=>exact hI1.chg j1 (fun _ _ _ e=>e)
 case h2=>exact bK [h,d,st] 3 rfl (by unfold maxLen;omega)
 case h3=>simp;omega
 case h4=>exact Nat.le_trans hs1 j1.size
 intro a2 n2 c2 w2 hn2 hI2 hch2
 have k2:=dj hI1 k1 j1 hch2
 clear hI1 k1 j1 hch2 x4 x5 x6 hlt hs1
 have hB2:n2<=6:=by first | omega | (rw [hn2,hml];simp)
 clear hn2
 have x6:w2.cell? ⟨w.heap.size,6,none⟩=some (.int .i64 st):=(bx.chg k2 (fun e=>e)).cell 6
 go_wp2
 go_ret
 exact ⟨_,rfl,am hI2 kb.size,kb.trans k2⟩
section
variable {W1 w w':World} {rb:Nat} {s:ByteArray} {tv fv sv iv:Value} {R:Rn} {V:RV} {c:Cx}
theorem qQ (ok:bM c) (hr:∃ D,Rel c D R) (h:RI W1 w rb s tv fv sv iv R V) (hs:s.size<=800) (ht:∃ a n c,tv=.slice a n c) (hf:∃ a n c,fv=.slice a n c) (hv:∃ a n c,sv=.slice a n c) (hi:∃ a n c,iv=.slice a n c) :
 Calls Tryz.prog 24 #[.agg (rcs s tv fv sv iv R V)] w fun e w'=>∃ v,e=.returned v/\ad w' w.heap.size v (aJ (aB s) R)/\Chg () w w':=by
 obtain ⟨D,hr⟩:=hr
 rcases hr.st with ⟨s0,_,phi,sm⟩ | ⟨q,_⟩
 ·have hb:=sm.rb ok
  have h1:=sm.bl
  have h2:=sm.d64
  have:=hb.wl
  exact pj h hs ht hf hv hi (by omega) (by omega) (fun f hf=>by have a:=(hb.fb f hf).ll;have b:=(hb.fb f hf).kl;omega) (by have:=hb.tb.ll;omega) (by have:=hb.tb.kl;omega)
 ·obtain ⟨ta,tn,tc,rfl⟩:=ht
  obtain ⟨fa,fn,fc,rfl⟩:=hf
  obtain ⟨sa,sn,sc,rfl⟩:=hv
  obtain ⟨ia,inn,ic,rfl⟩:=hi
  obtain ⟨wa,wc,ba,bc,la,lc,ka,kc,oa,oc,h1,h2,h3,h4,h5⟩:=h.vals
  have hw:=h.ww
  have hl:=h.ll
  have hk:=h.kk
  have hb:bY w W1.heap.size V.bv R.below:=⟨V.xs,h.be,h.bb,h.xx⟩
  unfold rcs
  rw [h1] at hw ⊢
  rw [h2] at hb ⊢
  rw [h3] at hl ⊢
  rw [h4] at hk ⊢
  rw [h5]
  have e:aJ (aB s) R=aB s++[R.heap,R.depth,R.status]:=by unfold aJ ge;rw [if_pos (by omega)]
  rw [e]
  exact nJ s hs ta fa sa ia oa wa ba la ka tn tc fn fc sn sc inn ic R.out.length oc wc bc lc kc R.heap R.depth R.used R.status (by simp;omega) R.words R.below R.top w W1.heap.size hw hb hl hk
theorem RI.inp (h:RI W1 w rb s tv fv sv iv R V) (iv':Value) (inp':List Int):RI W1 (w.setCell ⟨rb,13,none⟩ iv') rb s tv fv sv iv' { R with inp:=inp' } V:=by
 have k:Chg (fun j=>j=rb) w (w.setCell ⟨rb,13,none⟩ iv'):=(Chg.refl _ w).setCell _ _ (.inl rfl)
 have hS:∀ j,j=rb->j=rb \/ some j=V.kv.ownBlock:=fun j q=>.inl q
 obtain ⟨f1,f2⟩:=h.frames h.kk k hS h.sp.fk
 refine ⟨h.chg1 h.kk k hS,?_,h.ww.apart h.bx (by decide) k hS h.sp.wk,h.ll.apart h.bx (by decide) k hS h.sp.lk,aH h.kk _ _ (ao h.kk h.bx (by decide)),h.oo.apart h.bx (by decide) k hS h.sp.ko.symm,h.be,f1,f2,h.sp⟩
 have:=h.bx.set 13 iv'
 simpa [rcs] using this
end
end Go.Proofs.YtnfnbcbadakofaaGreat
