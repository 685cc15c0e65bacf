import Derived.Test.YtnfnbcbadakofaaIns3
namespace Go.Proofs.Ytnfnbcbadakofaa
open Go.RowKit
def insC (c:List (Int × Int × Int)):List Value:=c.flatMap fun x=>[.int .i64 x.1,.int .i64 x.2.1,.int .i64 x.2.2]
theorem insC_snoc (c:List (Int × Int × Int)) (x:Int × Int × Int):insC (c++[x])=insC c++[.int .i64 x.1,.int .i64 x.2.1,.int .i64 x.2.2]:=by
 simp [insC]
def InsV (e:TypeId) (w:World) (base:Nat) (v:Value) (c:List (Int × Int × Int)):Prop:=w.ownsRow base e 3 v c.length (insC c)
theorem IntsV.set {w:World} {base:Nat} {v:Value} {l:List Int} (h:IntsV w base v l) {b:Nat} {cs:Array Value} {e:TypeId} (hb:Blk w b cs e) (he:3 ≠ e) (i:Nat) (u:Value):IntsV (w.setCell ⟨b,i,none⟩ u) base v l:=
 own_set h _ _ (own_ne h hb he)
theorem TypesV.set {w:World} {base:Nat} {v:Value} {ls:List (List Int)} (h:TypesV w base v ls) {b:Nat} {cs:Array Value} {e:TypeId} (hb:Blk w b cs e) (he:3 ≠ e) (he':47 ≠ e) (i:Nat) (u:Value):TypesV (w.setCell ⟨b,i,none⟩ u) base v ls:=by
 obtain ⟨vs,h,hk⟩:=h
 exact ⟨vs,own_set h _ _ (own_ne h hb he'),fun j x hj=>IntsV.set (hk j x hj) hb he i u⟩
theorem RS.set {w:World} {rb:Nat} {nv:Value} {ns:List Int} {s:Nat × Bool} (h:RS w rb nv ns s) {b:Nat} {cs:Array Value} {e:TypeId} (hb:Blk w b cs e) (he:3 ≠ e) (he':149 ≠ e) (i:Nat) (u:Value):RS (w.setCell ⟨b,i,none⟩ u) rb nv ns s:=
 ⟨Blk.setOther h.1 _ _ (Blk.ne h.1 hb he'),IntsV.set h.2 hb he i u⟩
def tkC (ns:List Int) (ls:List (List Int)) (fu lo co:Int):Nat->Nat × Bool->List (Int × Int × Int) × (Nat × Bool)
 | 0,s=>([],s)
 | k+1,s=>((tkC ns ls fu lo co k s).1++[(tkI ns ls fu lo co (tkC ns ls fu lo co k s).2).1],(tkI ns ls fu lo co (tkC ns ls fu lo co k s).2).2)
theorem tkC_len (ns:List Int) (ls:List (List Int)) (fu lo co:Int) (k:Nat) (s:Nat × Bool):(tkC ns ls fu lo co k s).1.length=k:=by
 induction k with
 | zero=>rfl
 | succ k ih=>simp [tkC,ih]
structure FnS (w wk:World) (rb:Nat) (nv:Value) (ns:List Int) (s:Nat × Bool) (base:Nat) (tv:Value) (ls:List (List Int)) (sc fc:Array Value):Prop where
 rs:RS wk rb nv ns s
 ty:TypesV wk base tv ls
 sb:Blk wk w.heap.size sc 177
 ob:Blk wk (w.heap.size+1) #[oO,(),oO,()] 96
 fb:Blk wk (w.heap.size+2) fc 96
 ch:Chg (fun k=>k=rb) w wk
 hr:rb < w.heap.size
section
variable {w wk wk':World} {rb:Nat} {nv:Value} {ns:List Int} {s s':Nat × Bool} {base:Nat} {tv:Value} {ls:List (List Int)} {sc fc:Array Value}
theorem FnS.step (h:FnS w wk rb nv ns s base tv ls sc fc) (k:Chg (fun k=>k=rb) wk wk') (hrs:RS wk' rb nv ns s'):FnS w wk' rb nv ns s' base tv ls sc fc:=
 have hr:=h.hr
 ⟨hrs,h.ty.rs h.rs.1 k,h.sb.chg k (by omega),h.ob.chg k (by omega),h.fb.chg k (by omega),h.ch.trans k,h.hr⟩
theorem FnS.setF (h:FnS w wk rb nv ns s base tv ls sc fc) (i:Nat) (v:Value):FnS w (wk.setCell ⟨w.heap.size+2,i,none⟩ v) rb nv ns s base tv ls sc (fc.setIfInBounds i v):=
 ⟨h.rs.set h.fb (by decide) (by decide) i v,h.ty.set h.fb (by decide) (by decide) i v,h.sb.setOther _ _ (by simp),h.ob.setOther _ _ (by simp),h.fb.set i v,h.ch.setCell _ _ (.inr (by simp)),h.hr⟩
theorem FnS.setS (h:FnS w wk rb nv ns s base tv ls sc fc) (i:Nat) (v:Value):FnS w (wk.setCell ⟨w.heap.size,i,none⟩ v) rb nv ns s base tv ls (sc.setIfInBounds i v) fc:=
 ⟨h.rs.set h.sb (by decide) (by decide) i v,h.ty.set h.sb (by decide) (by decide) i v,h.sb.set i v,h.ob.setOther _ _ (by simp),h.fb.setOther _ _ (by simp),h.ch.setCell _ _ (.inr (by simp)),h.hr⟩
theorem FnS.begin (h:RS w rb nv ns s) (ht:TypesV w base tv ls) (sc fc:Array Value) :
 FnS w (((w.alloc (Obj.cells sc 177)).alloc (Obj.cells #[oO,(),oO,()] 96)).alloc (Obj.cells fc 96)) rb nv ns s base tv ls sc fc:=
 have k:Chg () w (((w.alloc (Obj.cells sc 177)).alloc (Obj.cells #[oO,(),oO,()] 96)).alloc (Obj.cells fc 96)):=(((Chg.refl _ w).alloc _).alloc _).alloc _
 ⟨h.new k,ht.new k,((Blk.new w sc 177).alloc _).alloc _,(Blk.new' (by simp) _ 96).alloc _,Blk.new' (by simp) _ 96,k.ofNew,h.lt⟩
end
theorem FnS.grow {w wk wk':World} {rb:Nat} {nv:Value} {ns:List Int} {s:Nat × Bool} {base:Nat} {tv:Value} {ls:List (List Int)} {sc fc:Array Value} {cv:Value} {n:Nat} {xs:List Value} (h:FnS w wk rb nv ns s base tv ls sc fc)
 (hcv:wk.ownsRow w.heap.size 98 3 cv n xs) (k:Chg (fun k=>some k=cv.ownBlock) wk wk'):FnS w wk' rb nv ns s base tv ls sc fc:=by
 have ne:∀ g cs e,Blk wk g cs e->e ≠ 98->¬ some g=cv.ownBlock:=fun g cs e hb he hg=>by
  obtain ⟨cs',hb'⟩:=own_blk hcv hg.symm
  exact hb.ne hb' he rfl
 exact ⟨h.rs.chg k (ne _ _ _ h.rs.1 (by decide)) (fun g cs hb=>ne g cs 3 hb (by decide)),h.ty.chg k (fun g cs hb=>ne g cs 3 hb (by decide)) (fun g cs hb=>ne g cs 47 hb (by decide)),
  h.sb.chg k (ne _ _ _ h.sb (by decide)),h.ob.chg k (ne _ _ _ h.ob (by decide)),h.fb.chg k (ne _ _ _ h.fb (by decide)),
  h.ch.trans' k (fun i hi e=>by have:=(hcv.lt i e.symm).1;omega),h.hr⟩
theorem fun_next {w wk:World} {rb:Nat} {nv:Value} {ns:List Int} {base:Nat} {tv:Value} {ls:List (List Int)} {sc fc:Array Value} {fu lo co:Int} {k:Nat} {s:Nat × Bool} {X:(Int × Int × Int) × (Nat × Bool)}
 (HX:Hid (tkI ns ls fu lo co (tkC ns ls fu lo co k s).2=X)) (h:FnS w wk rb nv ns X.2 base tv ls sc fc):FnS w wk rb nv ns (tkC ns ls fu lo co (k+1) s).2 base tv ls sc fc:=by
 have e1:tkC ns ls fu lo co (k+1) s=((tkC ns ls fu lo co k s).1++[X.1],X.2):=by rw [<-HX.out];rfl
 rw [e1];exact h
theorem chg_set4 (w:World) (b:Nat) (x y z u:Value):Chg (fun k=>k=b) w ((((w.setCell ⟨b,0,none⟩ x).setCell ⟨b,1,none⟩ y).setCell ⟨b,2,none⟩ z).setCell ⟨b,3,none⟩ u):=by
 have h3:=chg_set3 w b x y z
 exact h3.setCell ⟨b,3,none⟩ u (Or.inl rfl)
theorem info73:∃ i:TypeInfo,Try.prog.info? 98=some i/\i.zero=some (.agg #[oO,oO,oO])/\i.size=3/\i.bytes=24:=info_of (by kernel_rfl)
set_option maxHeartbeats 1000000 in
set_option maxRecDepth 100000 in
theorem takeFunc_core (rb:Nat) (nv:Value) (ns:List Int) (s:Nat × Bool) (a:Option Addr) (cap:Nat) (ls:List (List Int)) (fu place:Int) (w:World) (base:Nat) (h:RS w rb nv ns s) (hl:ns.length<=10000) (ht:TypesV w base (.slice a ls.length cap) ls)
 (hn:ls.length<=10000) (hls:∀ j,(ls.getD j []).length<=10000) (hfu:0<=fu) (hfu2:fu<=10000)
 (ma gr:Int) (hp:((place == 0)=true/\ma=0/\gr=0) \/ ((place == 0)=false/\ma=4/\gr=ls.length))
 (r1 r2 r4 r5:Int × (Nat × Bool)) (r3:List Int × (Nat × Bool)) (H1:Hid (tk ns 0 ma s=r1)) (H2:Hid (tk ns r1.1 8 r1.2=r2)) (H3:Hid (tkL ns ls.length r2.1.toNat r2.2=r3)) (H4:Hid (tk ns 0 gr r3.2=r4)) (H5:Hid (tk ns 1 64 r4.2=r5))
 (h2:0<=r2.1/\r2.1<=8) (h5:0<=r5.1/\r5.1<=64) :
 Calls Try.prog 94 #[.pointer rb,place,.agg #[.slice a ls.length cap,fu,oO,oO]] w fun e w' =>
  ∃ lv cv,e=.returned (.agg #[r1.1,lv,r4.1,cv])/\IntsV w' w.heap.size lv r3.1/\InsV 98 w' w.heap.size cv (tkC ns ls fu r2.1 r5.1 r5.1.toNat r5.2).1 /\
   RS w' rb nv ns (tkC ns ls fu r2.1 r5.1 r5.1.toNat r5.2).2/\Chg (fun k=>k=rb) w w':=by
 obtain ⟨i,hi1,hi2,hi3,hi4⟩:=info73
 have Hi1:=hid hi1
 have Hi2:=hid hi2
 have Hi3:=hid hi3
 have Hi4:=hid hi4
 clear hi1 hi2 hi3 hi4
 rcases hp with ⟨hp,rfl,rfl⟩ | ⟨hp,rfl,rfl⟩
 all_goals
  go_enter Try.func94,Try.ntmps94
  go_wp2_with fail
  have f0:=FnS.begin h ht #[.slice a ls.length cap,.int .i64 fu,.int .i64 0,.int .i64 0] #[.int .i64 0,.slice none 0 0,.int .i64 0,.slice none 0 0]
  refine (take_any rb nv ns _ _ _ _ f0.rs hl).mono ?_
  rw [H1.out]
  rintro e w1 ⟨rfl,hrs,hch⟩
  have f1:=f0.step hch hrs
  clear f0 hrs hch
  have z0:=f1.fb.frozen 0
  have y0:w1.cell? ⟨w.heap.size+2,0,none⟩=some (.int .i64 0):=f1.fb.cell 0
  go_wp2_with fail
  have f2:=f1.setF 0 (.int .i64 r1.1)
  clear z0 y0 f1
  refine (take_any rb nv ns _ _ _ _ f2.rs hl).mono ?_
  rw [H2.out]
  rintro e w2 ⟨rfl,hrs,hch⟩
  have f3:=f2.step hch hrs
  clear f2 hrs hch
  have z0:=f3.sb.frozen 2
  have y0:w2.cell? ⟨w.heap.size,2,none⟩=some (.int .i64 0):=f3.sb.cell 2
  have y1:w2.cell? ⟨w.heap.size,0,none⟩=some (.slice a ls.length cap):=f3.sb.cell 0
  go_wp2_with fail
  have f4:=f3.setS 2 (.int .i64 r2.1)
  clear z0 y0 y1 f3
  refine (takeTypes_any rb nv ns _ _ _ _ f4.rs hl (by omega)).mono ?_
  rw [H3.out]
  rintro e w3 ⟨lv,rfl,hlv0,hrs,hch⟩
  have f5:=f4.step hch hrs
  have hlv:IntsV w3 w.heap.size lv r3.1:=own_mono hlv0 f4.ch.size
  clear f4 hrs hch hlv0
  obtain ⟨la,lc,hls0⟩:=hlv.slice
  have z0:=f5.fb.frozen 1
  have y0:w3.cell? ⟨w.heap.size+2,1,none⟩=some (.slice none 0 0):=f5.fb.cell 1
  subst hls0
  go_wp2_with fail
  have f6:=f5.setF 1 (.slice la r3.1.length lc)
  have hlv1:=hlv.set f5.fb (by decide) 1 (.slice la r3.1.length lc)
  clear z0 y0 f5 hlv
  refine (take_any rb nv ns _ _ _ _ f6.rs hl).mono ?_
  rw [H4.out]
  rintro e w4 ⟨rfl,hrs,hch⟩
  have f7:=f6.step hch hrs
  have hlv:=hlv1.rs f6.rs.1 hch
  clear f6 hrs hch hlv1
  have z0:=f7.fb.frozen 2
  have y0:w4.cell? ⟨w.heap.size+2,2,none⟩=some (.int .i64 0):=f7.fb.cell 2
  go_wp2_with fail
  have f8:=f7.setF 2 (.int .i64 r4.1)
  have hlv1:=hlv.set f7.fb (by decide) 2 (.int .i64 r4.1)
  clear z0 y0 f7 hlv
  refine (take_any rb nv ns _ _ _ _ f8.rs hl).mono ?_
  rw [H5.out]
  rintro e w5 ⟨rfl,hrs,hch⟩
  have f9:=f8.step hch hrs
  have hlv:=hlv1.rs f8.rs.1 hch
  clear f8 hrs hch hlv1
  have z0:=f9.sb.frozen 3
  have y0:w5.cell? ⟨w.heap.size,3,none⟩=some (.int .i64 0):=f9.sb.cell 3
  go_wp2_with fail
  have fA:=f9.setS 3 (.int .i64 r5.1)
  have hlv1:=hlv.set f9.sb (by decide) 3 (.int .i64 r5.1)
  clear z0 y0 f9 hlv
  generalize (w5.setCell ⟨w.heap.size,3,none⟩ r5.1)=w6 at *
  clear hp
  go_loopw [10] (fun i wr=>∃ k:Nat,k<=r5.1.toNat/\i=.int .i64 k/\∃ cv,FnS w wr rb nv ns (tkC ns ls fu r2.1 r5.1 k r5.2).2 base (.slice a ls.length cap) ls #[.slice a ls.length cap,.int .i64 fu,.int .i64 r2.1,.int .i64 r5.1] #[.int .i64 r1.1,.slice la r3.1.length lc,.int .i64 r4.1,cv] /\
   InsV 98 wr w.heap.size cv (tkC ns ls fu r2.1 r5.1 k r5.2).1/\IntsV wr w.heap.size (.slice la r3.1.length lc) r3.1) (fun i _=>r5.1.toNat - (intOf i).toNat)
  case atStart=>exact ⟨0,Nat.zero_le _,rfl,.slice none 0 0,fA,World.ownsRow_nil _ _ _ _,hlv1⟩
  case round =>
   clear fA hlv1
   obtain ⟨k,hk,rfl,cv,fB,hcv,hlv⟩:=hrel
   have y0:wr.cell? ⟨w.heap.size,0,none⟩=some (.slice a ls.length cap):=fB.sb.cell 0
   have y1:wr.cell? ⟨w.heap.size,1,none⟩=some (.int .i64 fu):=fB.sb.cell 1
   have y2:wr.cell? ⟨w.heap.size,2,none⟩=some (.int .i64 r2.1):=fB.sb.cell 2
   have y3:wr.cell? ⟨w.heap.size,3,none⟩=some (.int .i64 r5.1):=fB.sb.cell 3
   by_cases hlt:(k:Int) < r5.1
   ·go_wp2_with fail
    clear y0 y1 y2 y3
    refine (takeIns_any rb nv ns _ _ ls fu r2.1 r5.1 _ base fB.rs hl fB.ty hn hls h2.1 (by omega) h5.1 (by omega) hfu hfu2).mono ?_
    rintro e w7 ⟨rfl,hrs,hch⟩
    have fC:=fB.step hch hrs
    have hlv2:=hlv.rs fB.rs.1 hch
    have hcv2:InsV 98 w7 w.heap.size cv _:=own_chg hcv hch (fun g hg e=>own_ne hcv fB.rs.1 (by decide) (by rw [hg,e]))
    clear fB hlv hcv hch hrs
    have y0:w7.cell? ⟨w.heap.size+2,3,none⟩=some cv:=fC.fb.cell 3
    have z0:=fC.fb.frozen 3
    have hlt7:=fC.fb.lt
    have hsz7:=fC.ch.size
    generalize hX:tkI ns ls fu r2.1 r5.1 (tkC ns ls fu r2.1 r5.1 k r5.2).2=X at *
    have HX:=hid hX
    clear hX
    have hcl:∃ ca cc,cv=.slice ca (tkC ns ls fu r2.1 r5.1 k r5.2).1.length cc:=by
     rcases hcv2.2 with ⟨h1,h2⟩ | ⟨g,cap,cur,rfl,_⟩
     ·exact ⟨none,0,by rw [h1,h2]⟩
     ·exact ⟨_,_,rfl⟩
    obtain ⟨ca,cc,rfl⟩:=hcl
    go_wp2_with (at_builtin;refine wpList_append_lies _ rfl _ _ 94 rfl w.heap.size 98 i (.agg #[oO,oO,oO]) 3 24 Try.underlying94 Hi1.out Hi2.out Hi3.out Hi4.out rfl (by decide) _ _ _ rfl (World.ownsRow.alloc (World.ownsRow.alloc hcv2 _) _) ⟨w7.heap.size+1,0,none⟩ 1 1 [.int .i64 X.1.1,.int .i64 X.1.2.1,.int .i64 X.1.2.2] rfl rfl ?c1 ?c2 (by decide) ?c3 ?c4 ?c5 _ rfl ?_)
    case c1=>exact World.news_of_block (B:=w7.heap.size+1) (cs:=#[.int .i64 X.1.1,.int .i64 X.1.2.1,.int .i64 X.1.2.2]) (Blk.new' (by simp) _ 98)
    case c2=>intro u hu;simp at hu;rcases hu with rfl | rfl | rfl <;> rfl
    case c3=>rw [tkC_len];unfold maxLen;omega
    case c4=>rw [tkC_len];omega
    case c5=>simp;omega
    ·intro g cap2 w8 hown hgrow hat hlt8
     have hg7:Chg (fun j=>some j=(Value.slice ca (tkC ns ls fu r2.1 r5.1 k r5.2).1.length cc).ownBlock) w7 w8:=((((Chg.refl _ w7).alloc _).alloc _).grown hgrow (fun j hj=>.inl hj.symm))
     have fD:=fC.grow hcv2 hg7
     have hlv3:IntsV w8 w.heap.size _ r3.1:=own_chg hlv2 hg7 (fun g hg e=>by obtain ⟨cs,hb⟩:=own_blk hcv2 e.symm;exact own_ne hlv2 hb (by decide) hg)
     clear hgrow hg7 hat hlt7 y0 z0
     have y0:w8.cell? ⟨w.heap.size+2,3,none⟩=some (.slice ca (tkC ns ls fu r2.1 r5.1 k r5.2).1.length cc):=fD.fb.cell 3
     have z0:=fD.fb.frozen 3
     go_wp2
     refine ⟨⟨k+1,by omega,rfl,_,fun_next HX (fD.setF 3 _),?_,hlv3.set fD.fb (by decide) 3 _⟩,by simp [intOf];omega⟩
     have e1:tkC ns ls fu r2.1 r5.1 (k+1) r5.2=((tkC ns ls fu r2.1 r5.1 k r5.2).1++[X.1],X.2):=by rw [<-HX.out];rfl
     rw [e1]
     unfold InsV
     rw [insC_snoc,List.length_append]
     exact own_set hown _ _ (own_ne hown fD.fb (by decide))
   ·clear y0 y1 y2
    have p0:wr.cell? ⟨w.heap.size+2,0,none⟩=some (.int .i64 r1.1):=fB.fb.cell 0
    have p1:wr.cell? ⟨w.heap.size+2,1,none⟩=some (.slice la r3.1.length lc):=fB.fb.cell 1
    have p2:wr.cell? ⟨w.heap.size+2,2,none⟩=some (.int .i64 r4.1):=fB.fb.cell 2
    have p3:wr.cell? ⟨w.heap.size+2,3,none⟩=some cv:=fB.fb.cell 3
    have q0:wr.cell? ⟨w.heap.size+1,0,none⟩=some (.int .i64 0):=fB.ob.cell 0
    have q1:wr.cell? ⟨w.heap.size+1,1,none⟩=some (.slice none 0 0):=fB.ob.cell 1
    have q2:wr.cell? ⟨w.heap.size+1,2,none⟩=some (.int .i64 0):=fB.ob.cell 2
    have q3:wr.cell? ⟨w.heap.size+1,3,none⟩=some (.slice none 0 0):=fB.ob.cell 3
    have z0:=fB.ob.frozen 0
    have z1:=fB.ob.frozen 1
    have z2:=fB.ob.frozen 2
    have z3:=fB.ob.frozen 3
    have hcl:∃ ca cc,cv=.slice ca (tkC ns ls fu r2.1 r5.1 k r5.2).1.length cc:=by
     rcases hcv.2 with ⟨h1,h2⟩ | ⟨g,cap,cur,rfl,_⟩
     ·exact ⟨none,0,by rw [h1,h2]⟩
     ·exact ⟨_,_,rfl⟩
    obtain ⟨ca,cc,rfl⟩:=hcl
    go_wp2
    have e1:r5.1.toNat=k:=by omega
    rw [e1]
    have b3:=(((fB.ob.set 0 (.int .i64 r1.1)).set 1 (.slice la r3.1.length lc)).set 2 (.int .i64 r4.1)).set 3 (.slice ca (tkC ns ls fu r2.1 r5.1 k r5.2).1.length cc)
    have hch4:=chg_set4 wr (w.heap.size+1) (.int .i64 r1.1) (.slice la r3.1.length lc) (.int .i64 r4.1) (.slice ca (tkC ns ls fu r2.1 r5.1 k r5.2).1.length cc)
    generalize ((((wr.setCell ⟨w.heap.size+1,0,none⟩ r1.1).setCell ⟨w.heap.size+1,1,none⟩ (.slice la r3.1.length lc)).setCell ⟨w.heap.size+1,2,none⟩ r4.1).setCell ⟨w.heap.size+1,3,none⟩ (.slice ca (tkC ns ls fu r2.1 r5.1 k r5.2).1.length cc))=wf at *
    have hA:IntsV wf w.heap.size (.slice la r3.1.length lc) r3.1:=own_chg hlv hch4 (fun g hg e=>own_ne hlv fB.ob (by decide) (by rw [hg,e]))
    have hB:InsV 98 wf w.heap.size (.slice ca (tkC ns ls fu r2.1 r5.1 k r5.2).1.length cc) (tkC ns ls fu r2.1 r5.1 k r5.2).1:=own_chg hcv hch4 (fun g hg e=>own_ne hcv fB.ob (by decide) (by rw [hg,e]))
    have hC:RS wf rb nv ns (tkC ns ls fu r2.1 r5.1 k r5.2).2:=fB.rs.chg hch4 (by have:=fB.hr;omega) (fun g cs hb e=>hb.ne fB.ob (by decide) e)
    have hD:Chg (fun k=>k=rb) w wf:=fB.ch.trans' hch4 (fun i hi e=>by omega)
    clear p0 p1 p2 p3 q0 q1 q2 q3 z0 z1 z2 z3 y3 hch4
    have q0:wf.cell? ⟨w.heap.size+1,0,none⟩=some (.int .i64 r1.1):=b3.cell 0
    have q1:wf.cell? ⟨w.heap.size+1,1,none⟩=some (.slice la r3.1.length lc):=b3.cell 1
    have q2:wf.cell? ⟨w.heap.size+1,2,none⟩=some (.int .i64 r4.1):=b3.cell 2
    have q3:wf.cell? ⟨w.heap.size+1,3,none⟩=some (.slice ca (tkC ns ls fu r2.1 r5.1 k r5.2).1.length cc):=b3.cell 3
    exact bodyPost_ret (v:=.agg #[r1.1,.slice la r3.1.length lc,r4.1,.slice ca (tkC ns ls fu r2.1 r5.1 k r5.2).1.length cc]) (by simp [results,Try.results94,go_sem,q0,q1,q2,q3]) rfl ⟨_,_,rfl,hA,hB,hC,hD⟩
end Go.Proofs.Ytnfnbcbadakofaa
