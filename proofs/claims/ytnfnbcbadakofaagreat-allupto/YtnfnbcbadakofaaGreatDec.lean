import Derived.Test.YtnfnbcbadakofaaGreatIns3
namespace Go.Proofs.YtnfnbcbadakofaaGreat
open Go.RowKit
def im (c:List (Int × Int × Int)):List Value:=c.flatMap fun x=>[.int .i64 x.1,.int .i64 x.2.1,.int .i64 x.2.2]
theorem iM (c:List (Int × Int × Int)) (x:Int × Int × Int):im (c++[x])=im c++[.int .i64 x.1,.int .i64 x.2.1,.int .i64 x.2.2]:=by
 simp [im]
def bG (e:TypeId) (w:World) (base:Nat) (v:Value) (c:List (Int × Int × Int)):Prop:=w.ownsRow base e 3 v c.length (im c)
theorem ad.set {w:World} {base:Nat} {v:Value} {l:List Int} (h:ad w base v l) {b:Nat} {cs:Array Value} {e:TypeId} (hb:Blk w b cs e) (he:3 ≠ e) (i:Nat) (u:Value):ad (w.setCell ⟨b,i,none⟩ u) base v l:=
 aH h _ _ (ao h hb he)
theorem ai.set {w:World} {base:Nat} {v:Value} {ls:List (List Int)} (h:ai w base v ls) {b:Nat} {cs:Array Value} {e:TypeId} (hb:Blk w b cs e) (he:3 ≠ e) (he':23 ≠ e) (i:Nat) (u:Value):ai (w.setCell ⟨b,i,none⟩ u) base v ls:=by
 obtain ⟨vs,h,hk⟩:=h
 exact ⟨vs,aH h _ _ (ao h hb he'),fun j x hj=>ad.set (hk j x hj) hb he i u⟩
theorem RS.set {w:World} {rb:Nat} {nv:Value} {ns:List Int} {s:Nat × Bool} (h:RS w rb nv ns s) {b:Nat} {cs:Array Value} {e:TypeId} (hb:Blk w b cs e) (he:3 ≠ e) (he':95 ≠ e) (i:Nat) (u:Value):RS (w.setCell ⟨b,i,none⟩ u) rb nv ns s:=
 ⟨Blk.setOther h.1 _ _ (Blk.ne h.1 hb he'),ad.set h.2 hb he i u⟩
def tkC (ns:List Int) (ls:List (List Int)) (fu lo co:Int):Nat->Nat × Bool->List (Int × Int × Int) × (Nat × Bool)
 | 0,s=>([],s)
 | k+1,s=>((tkC ns ls fu lo co k s).1++[(tkI ns ls fu lo co (tkC ns ls fu lo co k s).2).1],(tkI ns ls fu lo co (tkC ns ls fu lo co k s).2).2)
theorem jm (ns:List Int) (ls:List (List Int)) (fu lo co:Int) (k:Nat) (s:Nat × Bool):(tkC ns ls fu lo co k s).1.length=k:=by
 induction k with
 | zero=>rfl
 | succ k ih=>simp [tkC,ih]
structure FnS (w wk:World) (rb:Nat) (nv:Value) (ns:List Int) (s:Nat × Bool) (base:Nat) (tv:Value) (ls:List (List Int)) (sc fc:Array Value):Prop where
 rs:RS wk rb nv ns s
 ty:ai wk base tv ls
 sb:Blk wk w.heap.size sc 170
 ob:Blk wk (w.heap.size+1) #[oO,(),oO,()] 111
 fb:Blk wk (w.heap.size+2) fc 111
 ch:Chg (fun k=>k=rb) w wk
 hr:rb < w.heap.size
section
variable {w wk wk':World} {rb:Nat} {nv:Value} {ns:List Int} {s s':Nat × Bool} {base:Nat} {tv:Value} {ls:List (List Int)} {sc fc:Array Value}
theorem FnS.step (h:FnS w wk rb nv ns s base tv ls sc fc) (k:Chg (fun k=>k=rb) wk wk') (hrs:RS wk' rb nv ns s'):FnS w wk' rb nv ns s' base tv ls sc fc:=
 have hr:=h.hr
 ⟨hrs,h.ty.rs h.rs.1 k,h.sb.chg k (by omega),h.ob.chg k (by omega),h.fb.chg k (by omega),h.ch.trans k,h.hr⟩
theorem FnS.setF (h:FnS w wk rb nv ns s base tv ls sc fc) (i:Nat) (v:Value):FnS w (wk.setCell ⟨w.heap.size+2,i,none⟩ v) rb nv ns s base tv ls sc (fc.setIfInBounds i v):=
 ⟨h.rs.set h.fb (by decide) (by decide) i v,h.ty.set h.fb (by decide) (by decide) i v,h.sb.setOther _ _ (by simp),h.ob.setOther _ _ (by simp),h.fb.set i v,h.ch.setCell _ _ (.inr (by simp)),h.hr⟩
theorem FnS.setS (h:FnS w wk rb nv ns s base tv ls sc fc) (i:Nat) (v:Value):FnS w (wk.setCell ⟨w.heap.size,i,none⟩ v) rb nv ns s base tv ls (sc.setIfInBounds i v) fc:=
 ⟨h.rs.set h.sb (by decide) (by decide) i v,h.ty.set h.sb (by decide) (by decide) i v,h.sb.set i v,h.ob.setOther _ _ (by simp),h.fb.setOther _ _ (by simp),h.ch.setCell _ _ (.inr (by simp)),h.hr⟩
theorem FnS.begin (h:RS w rb nv ns s) (ht:ai w base tv ls) (sc fc:Array Value) :
 FnS w (((w.alloc (Obj.cells sc 170)).alloc (Obj.cells #[oO,(),oO,()] 111)).alloc (Obj.cells fc 111)) rb nv ns s base tv ls sc fc:=
 have k:Chg () w (((w.alloc (Obj.cells sc 170)).alloc (Obj.cells #[oO,(),oO,()] 111)).alloc (Obj.cells fc 111)):=(((Chg.refl _ w).alloc _).alloc _).alloc _
 ⟨h.new k,ht.new k,((Blk.new w sc 170).alloc _).alloc _,(Blk.new' (by simp) _ 111).alloc _,Blk.new' (by simp) _ 111,k.ofNew,h.lt⟩
end
theorem FnS.grow {w wk wk':World} {rb:Nat} {nv:Value} {ns:List Int} {s:Nat × Bool} {base:Nat} {tv:Value} {ls:List (List Int)} {sc fc:Array Value} {cv:Value} {n:Nat} {xs:List Value} (h:FnS w wk rb nv ns s base tv ls sc fc)
 (hcv:wk.ownsRow w.heap.size 135 3 cv n xs) (k:Chg (fun k=>some k=cv.ownBlock) wk wk'):FnS w wk' rb nv ns s base tv ls sc fc:=by
 have ne:∀ g cs e,Blk wk g cs e->e ≠ 135->¬ some g=cv.ownBlock:=fun g cs e hb he hg=>by
  obtain ⟨cs',hb'⟩:=ay hcv hg.symm
  exact hb.ne hb' he rfl
 exact ⟨h.rs.chg k (ne _ _ _ h.rs.1 (by decide)) (fun g cs hb=>ne g cs 3 hb (by decide)),h.ty.chg k (fun g cs hb=>ne g cs 3 hb (by decide)) (fun g cs hb=>ne g cs 23 hb (by decide)),
  h.sb.chg k (ne _ _ _ h.sb (by decide)),h.ob.chg k (ne _ _ _ h.ob (by decide)),h.fb.chg k (ne _ _ _ h.fb (by decide)),
  h.ch.trans' k (fun i hi e=>by have:=(hcv.lt i e.symm).1;omega),h.hr⟩
theorem oH {w wk:World} {rb:Nat} {nv:Value} {ns:List Int} {base:Nat} {tv:Value} {ls:List (List Int)} {sc fc:Array Value} {fu lo co:Int} {k:Nat} {s:Nat × Bool} {X:(Int × Int × Int) × (Nat × Bool)}
 (HX:Hid (tkI ns ls fu lo co (tkC ns ls fu lo co k s).2=X)) (h:FnS w wk rb nv ns X.2 base tv ls sc fc):FnS w wk rb nv ns (tkC ns ls fu lo co (k+1) s).2 base tv ls sc fc:=by
 have e1:tkC ns ls fu lo co (k+1) s=((tkC ns ls fu lo co k s).1++[X.1],X.2):=by rw [<-HX.out];rfl
 rw [e1];exact h
theorem fG (w:World) (b:Nat) (x y z u:Value):Chg (fun k=>k=b) w ((((w.setCell ⟨b,0,none⟩ x).setCell ⟨b,1,none⟩ y).setCell ⟨b,2,none⟩ z).setCell ⟨b,3,none⟩ u):=by
 have h3:=iq w b x y z
 exact h3.setCell ⟨b,3,none⟩ u (Or.inl rfl)
theorem s7:∃ i:TypeInfo,Tryz.prog.info? 135=some i/\i.zero=some (.agg #[oO,oO,oO])/\i.size=3/\i.bytes=24:=cO (by kernel_rfl)
set_option maxHeartbeats 1000000 in
set_option maxRecDepth 100000 in
theorem iz (rb:Nat) (nv:Value) (ns:List Int) (s:Nat × Bool) (a:Option Addr) (cap:Nat) (ls:List (List Int)) (fu place:Int) (w:World) (base:Nat) (h:RS w rb nv ns s) (hl:ns.length<=10000) (ht:ai w base (.slice a ls.length cap) ls)
 (hn:ls.length<=10000) (hls:∀ j,(ls.getD j []).length<=10000) (hfu:0<=fu) (hfu2:fu<=10000)
 (ma gr:Int) (hp:((place == 0)=true/\ma=0/\gr=0) \/ ((place == 0)=false/\ma=4/\gr=ls.length))
 (r1 r2 r4 r5:Int × (Nat × Bool)) (r3:List Int × (Nat × Bool)) (H1:Hid (tk ns 0 ma s=r1)) (H2:Hid (tk ns r1.1 8 r1.2=r2)) (H3:Hid (tkL ns ls.length r2.1.toNat r2.2=r3)) (H4:Hid (tk ns 0 gr r3.2=r4)) (H5:Hid (tk ns 1 64 r4.2=r5))
 (h2:0<=r2.1/\r2.1<=8) (h5:0<=r5.1/\r5.1<=64) :
 Calls Tryz.prog 102 #[.pointer rb,place,.agg #[.slice a ls.length cap,fu,oO,oO]] w fun e w' =>
  ∃ lv cv,e=.returned (.agg #[r1.1,lv,r4.1,cv])/\ad w' w.heap.size lv r3.1/\bG 135 w' w.heap.size cv (tkC ns ls fu r2.1 r5.1 r5.1.toNat r5.2).1 /\
   RS w' rb nv ns (tkC ns ls fu r2.1 r5.1 r5.1.toNat r5.2).2/\Chg (fun k=>k=rb) w w':=by
 obtain ⟨i,hi1,hi2,hi3,hi4⟩:=s7
 have Hi1:=hid hi1
 have Hi2:=hid hi2
 have Hi3:=hid hi3
 have Hi4:=hid hi4
 clear hi1 hi2 hi3 hi4
 rcases hp with ⟨hp,rfl,rfl⟩ | ⟨hp,rfl,rfl⟩
 all_goals
  go_enter Tryz.func102,Tryz.ntmps102
  go_wp2_with fail
  have f0:=FnS.begin h ht #[.slice a ls.length cap,.int .i64 fu,.int .i64 0,.int .i64 0] #[.int .i64 0,.slice none 0 0,.int .i64 0,.slice none 0 0]
  refine (ce rb nv ns _ _ _ _ f0.rs hl).mono ?_
  rw [H1.out]
  rintro e w1 ⟨rfl,hrs,hch⟩
  have f1:=f0.step hch hrs
  clear f0 hrs hch
  have z0:=f1.fb.frozen 0
  have y0:w1.cell? ⟨w.heap.size+2,0,none⟩=some (.int .i64 0):=f1.fb.cell 0
  go_wp2_with fail
  have f2:=f1.setF 0 (.int .i64 r1.1)
  clear z0 y0 f1
  refine (ce rb nv ns _ _ _ _ f2.rs hl).mono ?_
  rw [H2.out]
  rintro e w2 ⟨rfl,hrs,hch⟩
  have f3:=f2.step hch hrs
  clear f2 hrs hch
  have z0:=f3.sb.frozen 2
  have y0:w2.cell? ⟨w.heap.size,2,none⟩=some (.int .i64 0):=f3.sb.cell 2
  have y1:w2.cell? ⟨w.heap.size,0,none⟩=some (.slice a ls.length cap):=f3.sb.cell 0
  go_wp2_with fail
  have f4:=f3.setS 2 (.int .i64 r2.1)
  clear z0 y0 y1 f3
  refine (eP rb nv ns _ _ _ _ f4.rs hl (by omega)).mono ?_
  rw [H3.out]
  rintro e w3 ⟨lv,rfl,hlv0,hrs,hch⟩
  have f5:=f4.step hch hrs
  have hlv:ad w3 w.heap.size lv r3.1:=am hlv0 f4.ch.size
  clear f4 hrs hch hlv0
  obtain ⟨la,lc,hls0⟩:=hlv.slice
  have z0:=f5.fb.frozen 1
  have y0:w3.cell? ⟨w.heap.size+2,1,none⟩=some (.slice none 0 0):=f5.fb.cell 1
  subst hls0
  go_wp2_with fail
  have f6:=f5.setF 1 (.slice la r3.1.length lc)
  have hlv1:=hlv.set f5.fb (by decide) 1 (.slice la r3.1.length lc)
  clear z0 y0 f5 hlv
  refine (ce rb nv ns _ _ _ _ f6.rs hl).mono ?_
  rw [H4.out]
  rintro e w4 ⟨rfl,hrs,hch⟩
  have f7:=f6.step hch hrs
  have hlv:=hlv1.rs f6.rs.1 hch
  clear f6 hrs hch hlv1
  have z0:=f7.fb.frozen 2
  have y0:w4.cell? ⟨w.heap.size+2,2,none⟩=some (.int .i64 0):=f7.fb.cell 2
  go_wp2_with fail
  have f8:=f7.setF 2 (.int .i64 r4.1)
  have hlv1:=hlv.set f7.fb (by decide) 2 (.int .i64 r4.1)
  clear z0 y0 f7 hlv
  refine (ce rb nv ns _ _ _ _ f8.rs hl).mono ?_
  rw [H5.out]
  rintro e w5 ⟨rfl,hrs,hch⟩
  have f9:=f8.step hch hrs
  have hlv:=hlv1.rs f8.rs.1 hch
  clear f8 hrs hch hlv1
  have z0:=f9.sb.frozen 3
  have y0:w5.cell? ⟨w.heap.size,3,none⟩=some (.int .i64 0):=f9.sb.cell 3
  go_wp2_with fail
  have fA:=f9.setS 3 (.int .i64 r5.1)
  have hlv1:=hlv.set f9.sb (by decide) 3 (.int .i64 r5.1)
  clear z0 y0 f9 hlv
  generalize (w5.setCell ⟨w.heap.size,3,none⟩ r5.1)=w6 at *
  clear hp
  go_loopw [10] (fun i wr=>∃ k:Nat,k<=r5.1.toNat/\i=.int .i64 k/\∃ cv,FnS w wr rb nv ns (tkC ns ls fu r2.1 r5.1 k r5.2).2 base (.slice a ls.length cap) ls #[.slice a ls.length cap,.int .i64 fu,.int .i64 r2.1,.int .i64 r5.1] #[.int .i64 r1.1,.slice la r3.1.length lc,.int .i64 r4.1,cv] /\
   bG 135 wr w.heap.size cv (tkC ns ls fu r2.1 r5.1 k r5.2).1/\ad wr w.heap.size (.slice la r3.1.length lc) r3.1) (fun i _=>r5.1.toNat - (intOf i).toNat)
  case atStart=>exact ⟨0,Nat.zero_le _,rfl,.slice none 0 0,fA,World.ownsRow_nil _ _ _ _,hlv1⟩
  case round =>
   clear fA hlv1
   obtain ⟨k,hk,rfl,cv,fB,hcv,hlv⟩:=hrel
   have y0:wr.cell? ⟨w.heap.size,0,none⟩=some (.slice a ls.length cap):=fB.sb.cell 0
   have y1:wr.cell? ⟨w.heap.size,1,none⟩=some (.int .i64 fu):=fB.sb.cell 1
   have y2:wr.cell? ⟨w.heap.size,2,none⟩=some (.int .i64 r2.1):=fB.sb.cell 2
   have y3:wr.cell? ⟨w.heap.size,3,none⟩=some (.int .i64 r5.1):=fB.sb.cell 3
   by_cases hlt:(k:Int) < r5.1
   ·go_wp2_with fail
    clear y0 y1 y2 y3
    refine (jV rb nv ns _ _ ls fu r2.1 r5.1 _ base fB.rs hl fB.ty hn hls h2.1 (by omega) h5.1 (by omega) hfu hfu2).mono ?_
    rintro e w7 ⟨rfl,hrs,hch⟩
    have fC:=fB.step hch hrs
    have hlv2:=hlv.rs fB.rs.1 hch
    have hcv2:bG 135 w7 w.heap.size cv _:=af hcv hch (fun g hg e=>ao hcv fB.rs.1 (by decide) (by rw [hg,e]))
    clear fB hlv hcv hch hrs
    have y0:w7.cell? ⟨w.heap.size+2,3,none⟩=some cv:=fC.fb.cell 3
    have z0:=fC.fb.frozen 3
    have hlt7:=fC.fb.lt
    have hsz7:=fC.ch.size
    generalize hX:tkI ns ls fu r2.1 r5.1 (tkC ns ls fu r2.1 r5.1 k r5.2).2=X at *
    have HX:=hid hX
    clear hX
    have hcl:∃ ca cc,cv=.slice ca (tkC ns ls fu r2.1 r5.1 k r5.2).1.length cc:=by
     rcases hcv2.2 with ⟨h1,h2⟩ | ⟨g,cap,cur,rfl,_⟩
     ·exact ⟨none,0,by rw [h1,h2]⟩
     ·exact ⟨_,_,rfl⟩
    obtain ⟨ca,cc,rfl⟩:=hcl
    go_wp2_with (at_builtin;refine wpList_append_lies _ rfl _ _ 109 rfl w.heap.size 135 i (.agg #[oO,oO,oO]) 3 24 Tryz.underlying109 Hi1.out Hi2.out Hi3.out Hi4.out rfl (by decide) _ _ _ rfl (World.ownsRow.alloc (World.ownsRow.alloc hcv2 _) _) ⟨w7.heap.size+1,0,none⟩ 1 1 [.int .i64 X.1.1,.int .i64 X.1.2.1,.int .i64 X.1.2.2] rfl rfl ?c1 ?c2 (by decide) ?c3 ?c4 ?c5 _ rfl ?_)
    case c1=>exact World.news_of_block (B:=w7.heap.size+1) (cs:=#[.int .i64 X.1.1,.int .i64 X.1.2.1,.int .i64 X.1.2.2]) (Blk.new' (by simp) _ 135)
    case c2=>intro u hu;simp at hu;rcases hu with rfl | rfl | rfl <;> rfl
    case c3=>rw [jm];unfold maxLen;omega
    case c4=>rw [jm];omega
    case c5=>simp;omega
    ·intro g cap2 w8 hown hgrow hat hlt8
     have hg7:Chg (fun j=>some j=(Value.slice ca (tkC ns ls fu r2.1 r5.1 k r5.2).1.length cc).ownBlock) w7 w8:=((((Chg.refl _ w7).alloc _).alloc _).grown hgrow (fun j hj=>.inl hj.symm))
     have fD:=fC.grow hcv2 hg7
     have hlv3:ad w8 w.heap.size _ r3.1:=af hlv2 hg7 (fun g hg e=>by obtain ⟨cs,hb⟩:=ay hcv2 e.symm;exact ao hlv2 hb (by decide) hg)
     clear hgrow hg7 hat hlt7 y0 z0
     have y0:w8.cell? ⟨w.heap.size+2,3,none⟩=some (.slice ca (tkC ns ls fu r2.1 r5.1 k r5.2).1.length cc):=fD.fb.cell 3
     have z0:=fD.fb.frozen 3
     go_wp2
     refine ⟨⟨k+1,by omega,rfl,_,oH HX (fD.setF 3 _),?_,hlv3.set fD.fb (by decide) 3 _⟩,by simp [intOf];omega⟩
     have e1:tkC ns ls fu r2.1 r5.1 (k+1) r5.2=((tkC ns ls fu r2.1 r5.1 k r5.2).1++[X.1],X.2):=by rw [<-HX.out];rfl
     rw [e1]
     unfold bG
     rw [iM,List.length_append]
     exact aH hown _ _ (ao hown fD.fb (by decide))
   ·clear y0 y1 y2
    have p0:wr.cell? ⟨w.heap.size+2,0,none⟩=some (.int .i64 r1.1):=fB.fb.cell 0
    have p1:wr.cell? ⟨w.heap.size+2,1,none⟩=some (.slice la r3.1.length lc):=fB.fb.cell 1
    have p2:wr.cell? ⟨w.heap.size+2,2,none⟩=some (.int .i64 r4.1):=fB.fb.cell 2
    have p3:wr.cell? ⟨w.heap.size+2,3,none⟩=some cv:=fB.fb.cell 3
    have q0:wr.cell? ⟨w.heap.size+1,0,none⟩=some (.int .i64 0):=fB.ob.cell 0
    have q1:wr.cell? ⟨w.heap.size+1,1,none⟩=some (.slice none 0 0):=fB.ob.cell 1
    have q2:wr.cell? ⟨w.heap.size+1,2,none⟩=some (.int .i64 0):=fB.ob.cell 2
    have q3:wr.cell? ⟨w.heap.size+1,3,none⟩=some (.slice none 0 0):=fB.ob.cell 3
    have z0:=fB.ob.frozen 0
    have z1:=fB.ob.frozen 1
    have z2:=fB.ob.frozen 2
    have z3:=fB.ob.frozen 3
    have hcl:∃ ca cc,cv=.slice ca (tkC ns ls fu r2.1 r5.1 k r5.2).1.length cc:=by
     rcases hcv.2 with ⟨h1,h2⟩ | ⟨g,cap,cur,rfl,_⟩
     ·exact ⟨none,0,by rw [h1,h2]⟩
     ·exact ⟨_,_,rfl⟩
    obtain ⟨ca,cc,rfl⟩:=hcl
    go_wp2
    have e1:r5.1.toNat=k:=by omega
    rw [e1]
    have b3:=(((fB.ob.set 0 (.int .i64 r1.1)).set 1 (.slice la r3.1.length lc)).set 2 (.int .i64 r4.1)).set 3 (.slice ca (tkC ns ls fu r2.1 r5.1 k r5.2).1.length cc)
    have hch4:=fG wr (w.heap.size+1) (.int .i64 r1.1) (.slice la r3.1.length lc) (.int .i64 r4.1) (.slice ca (tkC ns ls fu r2.1 r5.1 k r5.2).1.length cc)
    generalize ((((wr.setCell ⟨w.heap.size+1,0,none⟩ r1.1).setCell ⟨w.heap.size+1,1,none⟩ (.slice la r3.1.length lc)).setCell ⟨w.heap.size+1,2,none⟩ r4.1).setCell ⟨w.heap.size+1,3,none⟩ (.slice ca (tkC ns ls fu r2.1 r5.1 k r5.2).1.length cc))=wf at *
    have hA:ad wf w.heap.size (.slice la r3.1.length lc) r3.1:=af hlv hch4 (fun g hg e=>ao hlv fB.ob (by decide) (by rw [hg,e]))
    have hB:bG 135 wf w.heap.size (.slice ca (tkC ns ls fu r2.1 r5.1 k r5.2).1.length cc) (tkC ns ls fu r2.1 r5.1 k r5.2).1:=af hcv hch4 (fun g hg e=>ao hcv fB.ob (by decide) (by rw [hg,e]))
    have hC:RS wf rb nv ns (tkC ns ls fu r2.1 r5.1 k r5.2).2:=fB.rs.chg hch4 (by have:=fB.hr;omega) (fun g cs hb e=>hb.ne fB.ob (by decide) e)
    have hD:Chg (fun k=>k=rb) w wf:=fB.ch.trans' hch4 (fun i hi e=>by omega)
    clear p0 p1 p2 p3 q0 q1 q2 q3 z0 z1 z2 z3 y3 hch4
    have q0:wf.cell? ⟨w.heap.size+1,0,none⟩=some (.int .i64 r1.1):=b3.cell 0
    have q1:wf.cell? ⟨w.heap.size+1,1,none⟩=some (.slice la r3.1.length lc):=b3.cell 1
    have q2:wf.cell? ⟨w.heap.size+1,2,none⟩=some (.int .i64 r4.1):=b3.cell 2
    have q3:wf.cell? ⟨w.heap.size+1,3,none⟩=some (.slice ca (tkC ns ls fu r2.1 r5.1 k r5.2).1.length cc):=b3.cell 3
    exact bodyPost_ret (v:=.agg #[r1.1,.slice la r3.1.length lc,r4.1,.slice ca (tkC ns ls fu r2.1 r5.1 k r5.2).1.length cc]) (by simp [results,Tryz.results102,go_sem,q0,q1,q2,q3]) rfl ⟨_,_,rfl,hA,hB,hC,hD⟩
end Go.Proofs.YtnfnbcbadakofaaGreat
namespace Go.Proofs.YtnfnbcbadakofaaGreat
open Go.RowKit
structure Fn where
 args:Int
 locals:List Int
 result:Int
 code:List (Int × Int × Int)
def tkF (ns:List Int) (ls:List (List Int)) (fu:Int) (first:Bool) (s:Nat × Bool):Fn × (Nat × Bool):=
 let r1:=tk ns 0 (if first then 0 else 4) s
 let r2:=tk ns r1.1 8 r1.2
 let r3:=tkL ns ls.length r2.1.toNat r2.2
 let r4:=tk ns 0 (if first then 0 else ls.length) r3.2
 let r5:=tk ns 1 64 r4.2
 let r6:=tkC ns ls fu r2.1 r5.1 r5.1.toNat r5.2
 (⟨r1.1,r3.1,r4.1,r6.1⟩,r6.2)
theorem dG (ns:List Int) (lo hi:Int) (s:Nat × Bool) (h0:0<=lo) (h:0<=hi):0<=(tk ns lo hi s).1/\(tk ns lo hi s).1<=hi:=by
 unfold tk;repeat' split
 ·exact ⟨Int.le_refl _,h⟩
 ·exact ⟨Int.le_refl _,h⟩
 ·constructor <;> simp_all <;> omega
theorem iW (rb:Nat) (nv:Value) (ns:List Int) (s:Nat × Bool) (tv:Value) (ls:List (List Int)) (fu place:Int) (w:World) (base:Nat) (h:RS w rb nv ns s) (hl:ns.length<=10000) (ht:ai w base tv ls)
 (hn:ls.length<=10000) (hls:∀ j,(ls.getD j []).length<=10000) (hfu:0<=fu) (hfu2:fu<=10000) :
 Calls Tryz.prog 102 #[.pointer rb,place,.agg #[tv,fu,oO,oO]] w fun e w' =>
  ∃ lv cv,e=.returned (.agg #[.int .i64 (tkF ns ls fu (place == 0) s).1.args,lv,.int .i64 (tkF ns ls fu (place == 0) s).1.result,cv])/\ad w' w.heap.size lv (tkF ns ls fu (place == 0) s).1.locals /\
   bG 135 w' w.heap.size cv (tkF ns ls fu (place == 0) s).1.code/\RS w' rb nv ns (tkF ns ls fu (place == 0) s).2/\Chg (fun k=>k=rb) w w':=by
 obtain ⟨a,cap,rfl⟩:=ht.slice
 refine iz rb nv ns s a cap ls fu place w base h hl ht hn hls hfu hfu2 (if (place == 0)=true then 0 else 4) (if (place == 0)=true then 0 else ls.length) ?_ _ _ _ _ _ rfl rfl rfl rfl rfl ?_ ?_
 ·cases hp:(place == 0) <;> simp
 ·refine dG _ _ _ _ ?_ (by decide)
  refine (tk0 _ _ _ ?_).1
  split <;> omega
 ·exact dG _ _ _ _ (by decide) (by decide)
def fnC (xs:List (Fn × Value × Value)):List Value:=xs.flatMap fun x=>[.int .i64 x.1.args,x.2.1,.int .i64 x.1.result,x.2.2]
theorem ou (xs:List (Fn × Value × Value)) (x:Fn × Value × Value):fnC (xs++[x])=fnC xs++[.int .i64 x.1.args,x.2.1,.int .i64 x.1.result,x.2.2]:=by simp [fnC]
def aj (eF eI:TypeId) (w:World) (base:Nat) (v:Value) (fs:List Fn):Prop:=
 ∃ xs:List (Fn × Value × Value),xs.map (·.1)=fs/\w.ownsRow base eF 4 v xs.length (fnC xs)/\∀ x,x ∈ xs->ad w base x.2.1 x.1.locals/\bG eI w base x.2.2 x.1.code
theorem bG.chg {eI:TypeId} {S:Nat->Prop} {w w':World} {base:Nat} {v:Value} {c:List (Int × Int × Int)} (h:bG eI w base v c) (k:Chg S w w') (h3:∀ g cs,Blk w g cs eI->¬ S g):bG eI w' base v c:=
 af h k (fun g hg=>by obtain ⟨cs,hb⟩:=ay h hg;exact h3 g cs hb)
theorem ad.chg {S:Nat->Prop} {w w':World} {base:Nat} {v:Value} {c:List Int} (h:ad w base v c) (k:Chg S w w') (h3:∀ g cs,Blk w g cs 3->¬ S g):ad w' base v c:=
 af h k (fun g hg=>by obtain ⟨cs,hb⟩:=ay h hg;exact h3 g cs hb)
theorem bG.slice {eI:TypeId} {w:World} {base:Nat} {v:Value} {l:List (Int × Int × Int)} (h:bG eI w base v l):∃ a cap,v=.slice a l.length cap:=by
 rcases h.2 with ⟨h1,h2⟩ | ⟨g,cap,cur,rfl,_⟩
 ·exact ⟨none,0,by rw [h1,h2]⟩
 ·exact ⟨_,_,rfl⟩
theorem aj.slice {eF eI:TypeId} {w:World} {base:Nat} {v:Value} {fs:List Fn} (h:aj eF eI w base v fs):∃ a cap,v=.slice a fs.length cap:=by
 obtain ⟨xs,h0,h,_⟩:=h
 have hl:xs.length=fs.length:=by rw [<-h0];simp
 rw [hl] at h
 rcases h.2 with ⟨h1,h2⟩ | ⟨g,cap,cur,rfl,_⟩
 ·exact ⟨none,0,by rw [h1,h2]⟩
 ·exact ⟨_,_,rfl⟩
theorem aj.chg {eF eI:TypeId} {S:Nat->Prop} {w w':World} {base:Nat} {v:Value} {fs:List Fn} (h:aj eF eI w base v fs) (k:Chg S w w') (h3:∀ g cs,Blk w g cs 3->¬ S g) (hI:∀ g cs,Blk w g cs eI->¬ S g) (hF:∀ g cs,Blk w g cs eF->¬ S g) :
 aj eF eI w' base v fs:=by
 obtain ⟨xs,h0,h,hx⟩:=h
 exact ⟨xs,h0,af h k (fun g hg=>by obtain ⟨cs,hb⟩:=ay h hg;exact hF g cs hb),fun x m=>⟨(hx x m).1.chg k h3,(hx x m).2.chg k hI⟩⟩
theorem aj.mono {eF eI:TypeId} {w:World} {base base':Nat} {v:Value} {fs:List Fn} (h:aj eF eI w base v fs) (hb:base'<=base):aj eF eI w base' v fs:=by
 obtain ⟨xs,h0,h,hx⟩:=h
 exact ⟨xs,h0,am h hb,fun x m=>⟨am (hx x m).1 hb,am (hx x m).2 hb⟩⟩
theorem aj.nil (eF eI:TypeId) (w:World) (base:Nat):aj eF eI w base (.slice none 0 0) []:=⟨[],rfl,World.ownsRow_nil _ _ _ _,fun x m=>by cases m⟩
theorem ai.nil (w:World) (base:Nat):ai w base (.slice none 0 0) []:=⟨[],World.ownsRow_nil _ _ _ _,fun j u hj=>by simp at hj⟩
theorem ai.snoc {w w':World} {base n:Nat} {v v':Value} {vs:List Value} {ls:List (List Int)} {u:Value} {l:List Int} (hv:w.ownsRow base 23 1 v ls.length vs) (hk:∀ j x,vs[j]?=some x->ad w base x (ls.getD j []))
 (hn:n=ls.length+1) (hown:w'.ownsRow base 23 1 v' n (vs++[u])) (k:Chg (fun j=>some j=v.ownBlock) w w') (hu:ad w base u l):ai w' base v' (ls++[l]):=by
 have ne:∀ g cs,Blk w g cs 3->¬ some g=v.ownBlock:=fun g cs hb hg=>by
  obtain ⟨cs',hb'⟩:=ay hv hg.symm
  exact hb.ne hb' (by decide) rfl
 have hlen:vs.length=ls.length:=by have:=hv.1;omega
 subst hn
 refine ⟨vs++[u],by simpa using hown,fun j x hj=>?_⟩
 rw [List.getElem?_append] at hj
 split at hj
 ·rename_i hlt
  have:=(hk j x hj).chg k ne
  rw [List.getD_eq_getElem?_getD,List.getElem?_append_left (by omega),<-List.getD_eq_getElem?_getD]
  exact this
 ·rename_i hlt
  have hj0:j=ls.length:=by
   rcases Nat.lt_or_ge (j - vs.length) 1 with h | h
   ·omega
   ·rw [List.getElem?_eq_none (by simpa using h)] at hj;cases hj
  subst hj0
  rw [hlen,Nat.sub_self] at hj
  simp at hj
  subst hj
  rw [List.getD_eq_getElem?_getD,List.getElem?_append_right (Nat.le_refl _)]
  simpa using hu.chg k ne
theorem aj.snoc {eF eI:TypeId} {w w':World} {base n:Nat} {v v':Value} {xs:List (Fn × Value × Value)} {f:Fn} {lv cv:Value} (h3:3 ≠ eF) (hI:eI ≠ eF) (hv:w.ownsRow base eF 4 v xs.length (fnC xs))
 (hk:∀ x,x ∈ xs->ad w base x.2.1 x.1.locals/\bG eI w base x.2.2 x.1.code)
 (hn:n=xs.length+1) (hown:w'.ownsRow base eF 4 v' n (fnC xs++[.int .i64 f.args,lv,.int .i64 f.result,cv])) (k:Chg (fun j=>some j=v.ownBlock) w w') (hl:ad w base lv f.locals) (hc:bG eI w base cv f.code) :
 aj eF eI w' base v' (xs.map (·.1)++[f]):=by
 have ne:∀ e,e ≠ eF->∀ g cs,Blk w g cs e->¬ some g=v.ownBlock:=fun e he g cs hb hg=>by
  obtain ⟨cs',hb'⟩:=ay hv hg.symm
  exact hb.ne hb' he rfl
 subst hn
 refine ⟨xs++[(f,lv,cv)],by simp,by rw [ou];simpa using hown,fun x m=>?_⟩
 rw [List.mem_append] at m
 rcases m with m | m
 ·exact ⟨(hk x m).1.chg k (ne 3 h3),(hk x m).2.chg k (ne eI hI)⟩
 ·simp at m;subst m
  exact ⟨hl.chg k (ne 3 h3),hc.chg k (ne eI hI)⟩
end Go.Proofs.YtnfnbcbadakofaaGreat
namespace Go.Proofs.YtnfnbcbadakofaaGreat
open Go.RowKit
def tkT (ns:List Int) (n:Int):Nat->Nat × Bool->List (List Int) × (Nat × Bool)
 | 0,s=>([],s)
 | k+1,s =>
  let r:=tkT ns n k s
  let c:=tk ns 0 5 r.2
  let l:=tkL ns n c.1.toNat c.2
  (r.1++[l.1],l.2)
def cJ (ns:List Int) (ls:List (List Int)) (fu:Int):Nat->Nat × Bool->List Fn × (Nat × Bool)
 | 0,s=>([],s)
 | k+1,s =>
  let r:=cJ ns ls fu k s
  let f:=tkF ns ls fu (k == 0) r.2
  (r.1++[f.1],f.2)
theorem gX (ns:List Int) (n:Int) (k:Nat) (s:Nat × Bool):(tkT ns n k s).1.length=k:=by
 induction k with
 | zero=>rfl
 | succ k ih=>simp [tkT,ih]
theorem fQ (ns:List Int) (ls:List (List Int)) (fu:Int) (k:Nat) (s:Nat × Bool):(cJ ns ls fu k s).1.length=k:=by
 induction k with
 | zero=>rfl
 | succ k ih=>simp [cJ,ih]
theorem me (ns:List Int) (n:Int) (k:Nat) (s:Nat × Bool) (j:Nat):((tkT ns n k s).1.getD j []).length<=5:=by
 induction k with
 | zero=>simp [tkT]
 | succ k ih =>
  simp only [tkT]
  rw [List.getD_eq_getElem?_getD,List.getElem?_append]
  split
  ·rw [<-List.getD_eq_getElem?_getD];exact ih
  ·rcases Nat.eq_zero_or_pos (j - (tkT ns n k s).1.length) with h | h
   ·rw [h]
    have:=tk0 ns 5 (tkT ns n k s).2 (by decide)
    simp [di];omega
   ·rw [List.getElem?_eq_none (by simp;omega)];simp
structure PS (w wk:World) (rb:Nat) (nv:Value) (ns:List Int) (s:Nat × Bool) (pc:Array Value):Prop where
 rs:RS wk rb nv ns s
 ob:Blk wk w.heap.size #[(),()] 56
 pb:Blk wk (w.heap.size+1) pc 56
 ch:Chg (fun k=>k=rb) w wk
 hr:rb < w.heap.size
section
variable {w wk wk':World} {rb:Nat} {nv:Value} {ns:List Int} {s s':Nat × Bool} {pc:Array Value}
theorem PS.step (h:PS w wk rb nv ns s pc) (k:Chg (fun k=>k=rb) wk wk') (hrs:RS wk' rb nv ns s'):PS w wk' rb nv ns s' pc:=
 have hr:=h.hr
 ⟨hrs,h.ob.chg k (by omega),h.pb.chg k (by omega),h.ch.trans k,h.hr⟩
theorem PS.setP (h:PS w wk rb nv ns s pc) (i:Nat) (v:Value):PS w (wk.setCell ⟨w.heap.size+1,i,none⟩ v) rb nv ns s (pc.setIfInBounds i v):=
 ⟨h.rs.set h.pb (by decide) (by decide) i v,h.ob.setOther _ _ (by simp),h.pb.set i v,h.ch.setCell _ _ (.inr (by simp)),h.hr⟩
theorem PS.begin (h:RS w rb nv ns s) (pc:Array Value) :
 PS w ((w.alloc (Obj.cells #[(),()] 56)).alloc (Obj.cells pc 56)) rb nv ns s pc:=
 have k:Chg () w ((w.alloc (Obj.cells #[(),()] 56)).alloc (Obj.cells pc 56)):=((Chg.refl _ w).alloc _).alloc _
 ⟨h.new k,(Blk.new w _ 56).alloc _,Blk.new' (by simp) _ 56,k.ofNew,h.lt⟩
theorem PS.grow {eF:TypeId} {size:Nat} {cv:Value} {n:Nat} {xs:List Value} (h:PS w wk rb nv ns s pc) (h1:95 ≠ eF) (h2:3 ≠ eF) (h3:56 ≠ eF)
 (hcv:wk.ownsRow w.heap.size eF size cv n xs) (k:Chg (fun k=>some k=cv.ownBlock) wk wk'):PS w wk' rb nv ns s pc:=by
 have ne:∀ g cs e,Blk wk g cs e->e ≠ eF->¬ some g=cv.ownBlock:=fun g cs e hb he hg=>by
  obtain ⟨cs',hb'⟩:=ay hcv hg.symm
  exact hb.ne hb' he rfl
 exact ⟨h.rs.chg k (ne _ _ _ h.rs.1 h1) (fun g cs hb=>ne g cs 3 hb h2),h.ob.chg k (ne _ _ _ h.ob h3),h.pb.chg k (ne _ _ _ h.pb h3),
  h.ch.trans' k (fun i hi e=>by have:=(hcv.lt i e.symm).1;omega),h.hr⟩
end
theorem aj.rs {eF eI:TypeId} (h1:eF ≠ 95) (h2:eI ≠ 95) {w w':World} {rb:Nat} {nv:Value} {s:Nat × Bool} {base:Nat} {v:Value} {fs:List Fn} (h:aj eF eI w base v fs) (hr:Rd w rb nv s) (k:Chg (fun k=>k=rb) w w'):aj eF eI w' base v fs:=
 h.chg k (fun _ _ hb e=>(hb.ne hr (by decide)) e) (fun _ _ hb e=>(hb.ne hr h2) e) (fun _ _ hb e=>(hb.ne hr h1) e)
theorem aj.set {eF eI:TypeId} {w:World} {base:Nat} {v:Value} {fs:List Fn} (h:aj eF eI w base v fs) {b:Nat} {cs:Array Value} {e:TypeId} (hb:Blk w b cs e) (he:3 ≠ e) (he':eF ≠ e) (he'':eI ≠ e) (i:Nat) (u:Value):aj eF eI (w.setCell ⟨b,i,none⟩ u) base v fs:=by
 obtain ⟨xs,h0,h,hx⟩:=h
 exact ⟨xs,h0,aH h _ _ (ao h hb he'),fun x m=>⟨aH (hx x m).1 _ _ (ao (hx x m).1 hb he),aH (hx x m).2 _ _ (ao (hx x m).2 hb he'')⟩⟩
theorem dx (w:World) (b:Nat) (x y:Value):Chg (fun k=>k=b) w ((w.setCell ⟨b,0,none⟩ x).setCell ⟨b,1,none⟩ y):=by
 have h0:Chg (fun k=>k=b) w w:=Chg.refl _ w
 have h1:=h0.setCell ⟨b,0,none⟩ x (Or.inl rfl)
 exact h1.setCell ⟨b,1,none⟩ y (Or.inl rfl)
theorem oA:∃ i:TypeInfo,Tryz.prog.info? 23=some i/\i.zero=some (.slice none 0 0)/\i.size=1/\i.bytes=24:=cO (by kernel_rfl)
theorem te:∃ i:TypeInfo,Tryz.prog.info? 111=some i/\i.zero=some (.agg #[oO,(),oO,()])/\i.size=4/\i.bytes=64:=cO (by kernel_rfl)
set_option maxHeartbeats 1000000 in
set_option maxRecDepth 100000 in
theorem iG (rb:Nat) (nv:Value) (ns:List Int) (s:Nat × Bool) (w:World) (h:RS w rb nv ns s) (hl:ns.length<=10000)
 (r0 r2:Int × (Nat × Bool)) (r1:List (List Int) × (Nat × Bool)) (H0:Hid (tk ns 0 6 s=r0)) (H1:Hid (tkT ns r0.1 r0.1.toNat r0.2=r1)) (H2:Hid (tk ns 1 6 r1.2=r2)) (h0:0<=r0.1/\r0.1<=6) (h2:0<=r2.1/\r2.1<=6)
 (hn:r1.1.length<=10000) (hls:∀ j,(r1.1.getD j []).length<=10000) :
 Calls Tryz.prog 87 #[.pointer rb] w fun e w' =>
  ∃ tv fv,e=.returned (.agg #[tv,fv])/\ai w' w.heap.size tv r1.1/\aj 111 135 w' w.heap.size fv (cJ ns r1.1 r2.1 r2.1.toNat r2.2).1 /\
   RS w' rb nv ns (cJ ns r1.1 r2.1 r2.1.toNat r2.2).2/\Chg (fun k=>k=rb) w w':=by
 obtain ⟨i,hi1,hi2,hi3,hi4⟩:=oA
 have Hi1:=hid hi1
 have Hi2:=hid hi2
 have Hi3:=hid hi3
 have Hi4:=hid hi4
 clear hi1 hi2 hi3 hi4
 go_enter Tryz.func87,Tryz.ntmps87
 go_wp2_with fail
 have p0:=PS.begin h #[.slice none 0 0,.slice none 0 0]
 refine (ce rb nv ns _ _ _ _ p0.rs hl).mono ?_
 rw [H0.out]
 rintro e w1 ⟨rfl,hrs,hch⟩
 have p1:=p0.step hch hrs
 clear p0 hrs hch
 go_wp2_with fail
 go_loopw [5] (fun i wr=>∃ k:Nat,k<=r0.1.toNat/\i=.int .i64 k/\∃ tv,PS w wr rb nv ns (tkT ns r0.1 k r0.2).2 #[tv,.slice none 0 0]/\ai wr w.heap.size tv (tkT ns r0.1 k r0.2).1) (fun i _=>r0.1.toNat - (intOf i).toNat)
 case atStart=>exact ⟨0,Nat.zero_le _,rfl,_,p1,ai.nil _ _⟩
 case round =>
  clear p1
  obtain ⟨k,hk,rfl,tv,pA,hty⟩:=hrel
  by_cases hlt:(k:Int) < r0.1
  ·go_wp2_with fail
   refine (ce rb nv ns _ _ _ _ pA.rs hl).mono ?_
   rintro e w2 ⟨rfl,hrs,hch⟩
   have hc5:=tk0 ns 5 (tkT ns r0.1 k r0.2).2 (by decide)
   generalize hC:tk ns 0 5 (tkT ns r0.1 k r0.2).2=C at *
   have HC:=hid hC
   clear hC
   have pB:=pA.step hch hrs
   have hty2:=hty.rs pA.rs.1 hch
   clear pA hty hrs hch
   go_wp2_with fail
   refine (eP rb nv ns _ _ _ _ pB.rs hl (by omega)).mono ?_
   rintro e w3 ⟨lv,rfl,hlv0,hrs,hch⟩
   generalize hL:tkL ns r0.1 C.1.toNat C.2=L at *
   have HL:=hid hL
   clear hL
   have pC:=pB.step hch hrs
   have hty3:=hty2.rs pB.rs.1 hch
   have hlv:ad w3 w.heap.size lv L.1:=am hlv0 pB.ch.size
   clear pB hty2 hlv0 hrs hch
   obtain ⟨vs,hvs,hvk⟩:=hty3
   have y0:w3.cell? ⟨w.heap.size+1,0,none⟩=some tv:=pC.pb.cell 0
   have z0:=pC.pb.frozen 0
   have hlt3:=pC.pb.lt
   have hsz3:=pC.ch.size
   obtain ⟨la,lc,rfl⟩:=hlv.slice
   have htl:∃ ta tc,tv=.slice ta (tkT ns r0.1 k r0.2).1.length tc:=by
    rcases hvs.2 with ⟨h1,h2⟩ | ⟨g,cap,cur,rfl,_⟩
    ·exact ⟨none,0,by rw [h1,h2]⟩
    ·exact ⟨_,_,rfl⟩
   obtain ⟨ta,tc,rfl⟩:=htl
   go_wp2_with (at_builtin;refine wpList_append_lies _ rfl _ _ 40 rfl w.heap.size 23 i (.slice none 0 0) 1 24 Tryz.underlying40 Hi1.out Hi2.out Hi3.out Hi4.out rfl (by decide) _ _ _ rfl (World.ownsRow.alloc hvs _) ⟨w3.heap.size,0,none⟩ 1 1 [.slice la L.1.length lc] rfl rfl ?c1 ?c2 (by decide) ?c3 ?c4 ?c5 _ rfl ?_)
   case c1=>exact cell_one_new _ _ _
   case c2=>intro u hu;simp at hu;subst hu;rfl
   case c3=>rw [gX];unfold maxLen;omega
   case c4=>rw [gX];omega
   case c5=>simp;omega
   ·intro g cap2 w4 hown hgrow hat hlt4
    have hg3:Chg (fun j=>some j=(Value.slice ta (tkT ns r0.1 k r0.2).1.length tc).ownBlock) w3 w4:=(((Chg.refl _ w3).alloc _).grown hgrow (fun j hj=>.inl hj.symm))
    have pD:=pC.grow (by decide) (by decide) (by decide) hvs hg3
    have hty4:=ai.snoc hvs hvk rfl hown hg3 hlv
    clear hgrow hg3 hat y0 z0
    have y0:w4.cell? ⟨w.heap.size+1,0,none⟩=some (.slice ta (tkT ns r0.1 k r0.2).1.length tc):=pD.pb.cell 0
    have z0:=pD.pb.frozen 0
    go_wp2
    have e1:tkT ns r0.1 (k+1) r0.2=((tkT ns r0.1 k r0.2).1++[L.1],L.2):=by rw [<-HL.out,<-HC.out];rfl
    exact ⟨⟨k+1,by omega,rfl,_,by rw [e1];exact pD.setP 0 _,by rw [e1];exact hty4.set pD.pb (by decide) (by decide) 0 _⟩,by simp [intOf];omega⟩
  ·have e1:r0.1.toNat=k:=by omega
   rw [e1] at H1
   rw [H1.out] at pA hty
   clear Hi1 Hi2 Hi3 Hi4
   obtain ⟨i,hi1,hi2,hi3,hi4⟩:=te
   have Hi1:=hid hi1
   have Hi2:=hid hi2
   have Hi3:=hid hi3
   have Hi4:=hid hi4
   clear hi1 hi2 hi3 hi4 e1
   go_wp2_with fail
   refine (ce rb nv ns _ _ _ _ pA.rs hl).mono ?_
   rw [H2.out]
   rintro e w2 ⟨rfl,hrs,hch⟩
   have pB:=pA.step hch hrs
   have hty2:=hty.rs pA.rs.1 hch
   clear pA hty hrs hch
   go_wp2_with fail
   clear hlt hk
   go_loopw [9] (fun i wr=>∃ k:Nat,k<=r2.1.toNat/\i=.int .i64 k/\∃ fv,PS w wr rb nv ns (cJ ns r1.1 r2.1 k r2.2).2 #[tv,fv]/\ai wr w.heap.size tv r1.1/\aj 111 135 wr w.heap.size fv (cJ ns r1.1 r2.1 k r2.2).1) (fun i _=>r2.1.toNat - (intOf i).toNat)
   case atStart=>exact ⟨0,Nat.zero_le _,rfl,_,pB,hty2,aj.nil _ _ _ _⟩
   case round =>
    clear pB hty2
    obtain ⟨k2,hk,rfl,fv,pA,hty,hfv⟩:=hrel
    obtain ⟨ta,tc,rfl⟩:=hty.slice
    by_cases hlt:(k2:Int) < r2.1
    ·have y0:wr.cell? ⟨w.heap.size+1,0,none⟩=some (.slice ta r1.1.length tc):=pA.pb.cell 0
     go_wp2_with fail
     clear y0
     refine (iW rb nv ns _ _ r1.1 r2.1 _ _ w.heap.size pA.rs hl hty hn hls h2.1 (by omega)).mono ?_
     rintro e w3 ⟨lv,cv,rfl,hlv0,hcv0,hrs,hch⟩
     have ek:((k2:Int) == 0)=(k2 == 0):=by rcases k2 with _ | k2 <;> simp;omega
     rw [ek] at hlv0 hcv0 hrs
     rw [ek]
     generalize hF:tkF ns r1.1 r2.1 (k2 == 0) (cJ ns r1.1 r2.1 k2 r2.2).2=F at *
     have HF:=hid hF
     clear hF ek
     have pB:=pA.step hch hrs
     have hty2:=hty.rs pA.rs.1 hch
     have hfv2:=hfv.rs (by decide) (by decide) pA.rs.1 hch
     have hlv:ad w3 w.heap.size lv F.1.locals:=am hlv0 pA.ch.size
     have hcv:bG 135 w3 w.heap.size cv F.1.code:=am hcv0 pA.ch.size
     clear pA hty hfv hlv0 hcv0 hrs hch
     obtain ⟨la,lc,rfl⟩:=hlv.slice
     obtain ⟨ca,cc,rfl⟩:=hcv.slice
     obtain ⟨fa,fc,rfl⟩:=hfv2.slice
     rw [fQ] at *
     obtain ⟨xs,hx0,hxs,hxk⟩:=hfv2
     have hxl:Hid (xs.length=k2):=by have:=congrArg List.length hx0;simp [fQ] at this;exact this
     have HX0:=hid hx0
     clear hx0
     have y0:w3.cell? ⟨w.heap.size+1,1,none⟩=some (.slice fa k2 fc):=pB.pb.cell 1
     have z0:=pB.pb.frozen 1
     have hlt3:=pB.pb.lt
     have hsz3:=pB.ch.size
     go_wp2_with (at_builtin;refine wpList_append_lies _ rfl _ _ 54 rfl w.heap.size 111 i (.agg #[oO,(),oO,()]) 4 64 Tryz.underlying54 Hi1.out Hi2.out Hi3.out Hi4.out rfl (by decide) _ _ _ rfl (World.ownsRow.alloc (World.ownsRow.alloc hxs _) _) ⟨w3.heap.size+1,0,none⟩ 1 1 [.int .i64 F.1.args,.slice la F.1.locals.length lc,.int .i64 F.1.result,.slice ca F.1.code.length cc] rfl rfl ?c1 ?c2 (by decide) ?c3 ?c4 ?c5 _ rfl ?_)
     case c1=>exact World.news_of_block (B:=w3.heap.size+1) (cs:=#[.int .i64 F.1.args,.slice la F.1.locals.length lc,.int .i64 F.1.result,.slice ca F.1.code.length cc]) (Blk.new' (by simp) _ 111)
     case c2=>intro u hu;simp at hu;rcases hu with rfl | rfl | rfl | rfl <;> rfl
     case c3=>rw [hxl.out];unfold maxLen;omega
     case c4=>rw [hxl.out];omega
     case c5=>simp;omega
     ·intro g cap2 w4 hown hgrow hat hlt4
      have hg3:Chg (fun j=>some j=(Value.slice fa k2 fc).ownBlock) w3 w4:=((((Chg.refl _ w3).alloc _).alloc _).grown hgrow (fun j hj=>.inl hj.symm))
      have pD:=pB.grow (by decide) (by decide) (by decide) hxs hg3
      have ne:∀ g cs e,Blk w3 g cs e->e ≠ 111->¬ some g=(Value.slice fa k2 fc).ownBlock:=fun g cs e hb he hg=>by
       obtain ⟨cs',hb'⟩:=ay hxs hg.symm
       exact hb.ne hb' he rfl
      have hty4:=hty2.chg hg3 (fun g cs hb=>ne g cs 3 hb (by decide)) (fun g cs hb=>ne g cs 23 hb (by decide))
      have hfv4:=aj.snoc (by decide) (by decide) hxs hxk rfl hown hg3 hlv hcv
      clear hgrow hg3 hat y0 z0 ne
      have y0:w4.cell? ⟨w.heap.size+1,1,none⟩=some (.slice fa k2 fc):=pD.pb.cell 1
      have z0:=pD.pb.frozen 1
      go_wp2
      have e1:cJ ns r1.1 r2.1 (k2+1) r2.2=((cJ ns r1.1 r2.1 k2 r2.2).1++[F.1],F.2):=by rw [<-HF.out];rfl
      rw [HX0.out] at hfv4
      refine ⟨⟨k2+1,by omega,rfl,_,by rw [e1];exact pD.setP 1 _,hty4.set pD.pb (by decide) (by decide) 1 _,by rw [e1];exact hfv4.set pD.pb (by decide) (by decide) (by decide) 1 _⟩,by simp [intOf];omega⟩
    ·obtain ⟨fa,fc,rfl⟩:=hfv.slice
     have y0:wr.cell? ⟨w.heap.size+1,0,none⟩=some (.slice ta r1.1.length tc):=pA.pb.cell 0
     have y1:wr.cell? ⟨w.heap.size+1,1,none⟩=some (.slice fa (cJ ns r1.1 r2.1 k2 r2.2).1.length fc):=pA.pb.cell 1
     have q0:wr.cell? ⟨w.heap.size,0,none⟩=some (.slice none 0 0):=pA.ob.cell 0
     have q1:wr.cell? ⟨w.heap.size,1,none⟩=some (.slice none 0 0):=pA.ob.cell 1
     have z0:=pA.ob.frozen 0
     have z1:=pA.ob.frozen 1
     go_wp2
     have e1:r2.1.toNat=k2:=by omega
     rw [e1]
     have b3:=(pA.ob.set 0 (.slice ta r1.1.length tc)).set 1 (.slice fa (cJ ns r1.1 r2.1 k2 r2.2).1.length fc)
     have hch4:=dx wr w.heap.size (.slice ta r1.1.length tc) (.slice fa (cJ ns r1.1 r2.1 k2 r2.2).1.length fc)
     generalize ((wr.setCell ⟨w.heap.size,0,none⟩ (.slice ta r1.1.length tc)).setCell ⟨w.heap.size,1,none⟩ (.slice fa (cJ ns r1.1 r2.1 k2 r2.2).1.length fc))=wf at *
     have hA:=hty.chg hch4 (fun g cs hb e=>hb.ne pA.ob (by decide) e) (fun g cs hb e=>hb.ne pA.ob (by decide) e)
     have hB:=hfv.chg hch4 (fun g cs hb e=>hb.ne pA.ob (by decide) e) (fun g cs hb e=>hb.ne pA.ob (by decide) e) (fun g cs hb e=>hb.ne pA.ob (by decide) e)
     have hC:RS wf rb nv ns _:=pA.rs.chg hch4 (by have:=pA.hr;omega) (fun g cs hb e=>hb.ne pA.ob (by decide) e)
     have hD:Chg (fun k=>k=rb) w wf:=pA.ch.trans' hch4 (fun i hi e=>by omega)
     clear y0 y1 q0 q1 z0 z1 hch4
     have q0:wf.cell? ⟨w.heap.size,0,none⟩=some (.slice ta r1.1.length tc):=b3.cell 0
     have q1:wf.cell? ⟨w.heap.size,1,none⟩=some (.slice fa (cJ ns r1.1 r2.1 k2 r2.2).1.length fc):=b3.cell 1
     exact bodyPost_ret (v:=.agg #[.slice ta r1.1.length tc,.slice fa (cJ ns r1.1 r2.1 k2 r2.2).1.length fc]) (by simp [results,Tryz.results87,go_sem,q0,q1]) rfl ⟨_,_,rfl,hA,hB,hC,hD⟩
structure Pg where
 types:List (List Int)
 funcs:List Fn
def tkP (ns:List Int) (s:Nat × Bool):Pg × (Nat × Bool):=
 let r0:=tk ns 0 6 s
 let r1:=tkT ns r0.1 r0.1.toNat r0.2
 let r2:=tk ns 1 6 r1.2
 let r3:=cJ ns r1.1 r2.1 r2.1.toNat r2.2
 (⟨r1.1,r3.1⟩,r3.2)
theorem jj (rb:Nat) (nv:Value) (ns:List Int) (s:Nat × Bool) (w:World) (h:RS w rb nv ns s) (hl:ns.length<=10000) :
 Calls Tryz.prog 87 #[.pointer rb] w fun e w' =>
  ∃ tv fv,e=.returned (.agg #[tv,fv])/\ai w' w.heap.size tv (tkP ns s).1.types/\aj 111 135 w' w.heap.size fv (tkP ns s).1.funcs/\RS w' rb nv ns (tkP ns s).2/\Chg (fun k=>k=rb) w w':=
 iG rb nv ns s w h hl _ _ _ rfl rfl rfl (tk0 _ _ _ (by decide)) (dG _ _ _ _ (by decide) (by decide))
  (by rw [gX];have:=tk0 ns 6 s (by decide);omega) (fun j=>by have:=me ns (tk ns 0 6 s).1 (tk ns 0 6 s).1.toNat (tk ns 0 6 s).2 j;omega)
end Go.Proofs.YtnfnbcbadakofaaGreat
namespace Go.Proofs.YtnfnbcbadakofaaGreat
open Go.RowKit
set_option maxHeartbeats 1000000
set_option maxRecDepth 100000
def bl (s:ByteArray):List Int:=s.data.toList.map fun b=>(b.toNat:Int)
theorem cL (s:ByteArray):(bl s).length=s.size:=by simp [bl]
theorem rf (s:ByteArray) (k:Nat) (h:k < s.size):(bl s).take (k+1)=(bl s).take k++[(s[k].toNat:Int)]:=by
 have hk:k < (bl s).length:=by rw [cL];exact h
 rw [List.take_succ_eq_append_getElem hk]
 congr 1
 simp [bl];rfl
theorem gI (b:UInt8):wrap64 (b.toNat:Int)=(b.toNat:Int):=by unfold wrap64;have:=b.toNat_lt;omega
theorem jN (s:ByteArray) (w:World) (hs:s.size<=800) :
 Calls Tryz.prog 64 #[.string s] w fun e w'=>∃ v,e=.returned v/\ad w' w.heap.size v (bl s)/\Chg () w w':=by
 obtain ⟨i,hi1,hi2,hi3,hi4⟩:=dK
 have Hi1:=hid hi1
 have Hi2:=hid hi2
 have Hi3:=hid hi3
 have Hi4:=hid hi4
 clear hi1 hi2 hi3 hi4
 go_enter Tryz.func64,Tryz.ntmps64
 go_wp2
 go_loopw [3,4] (fun v i wr=>∃ k:Nat,k<=s.size/\i=.int .i64 k/\ad wr w.heap.size v ((bl s).take k)/\Chg () w wr) (fun _ i _=>s.size - (intOf i).toNat)
 case atStart=>exact ⟨0,Nat.zero_le _,rfl,World.ownsRow_nil _ _ _ _,Chg.refl _ _⟩
 case round =>
  obtain ⟨k,hk,rfl,hown,hch⟩:=hrel
  have hlen:((bl s).take k).length=k:=by rw [List.length_take,cL];omega
  have HL:=hid hlen
  clear hlen
  by_cases hlt:k < s.size
  ·have HS:Hid ((bl s).take (k+1)=(bl s).take k++[(s[k].toNat:Int)]):=rf s k hlt
   generalize (bl s).take k=T at *
   have hsz:w.heap.size<=wr.heap.size:=hch.size
   go_wp2_with (at_builtin;refine wpList_append_lies _ rfl _ _ 23 rfl w.heap.size 3 i (.int .i64 0) 1 8 Tryz.underlying23 Hi1.out Hi2.out Hi3.out Hi4.out rfl (by decide) _ _ _ rfl (World.ownsRow.alloc hown _) ⟨wr.heap.size,0,none⟩ 1 1 [.int .i64 (wrap64 (s[k].toNat:Int))] rfl rfl ?c1 ?c2 (by decide) ?c3 ?c4 ?c5 _ rfl ?_)
   case c1=>exact cell_one_new _ _ _
   case c2=>intro u hu;simp at hu;subst hu;rfl
   case c3=>rw [HL.out];unfold maxLen;omega
   case c4=>rw [HL.out];omega
   case c5=>simp;omega
   ·intro g cap w2 hown2 hgrow hat hlt2
    go_wp2
    have hch2:Chg () w w2:=((hch.alloc _).grown hgrow (fun k hk=>.inr (hown.lt k hk).1))
    refine ⟨⟨k+1,by omega,rfl,?_,hch2⟩,by simp [intOf];omega⟩
    rw [HS.out]
    rw [gI] at hown2
    unfold ad
    simp only [aE,List.map_append,List.length_append,List.map_cons,List.map_nil,List.length_cons,List.length_nil] at hown2 ⊢
    exact hown2
  ·go_wp2
   go_ret
   refine ⟨_,rfl,?_,hch⟩
   rwa [List.take_of_length_le (by rw [cL];omega)] at hown
def rdP (ns:List Int):Int × Int × Pg:=
 let r:=tkP ns (0,false)
 if r.2.2=true \/ r.2.1 < ns.length then (2,r.2.1,⟨[],[]⟩) else (0,0,r.1)
theorem db (w:World) (b:Nat) (x y z u t:Value):Chg (fun k=>k=b) w (((((w.setCell ⟨b,0,none⟩ x).setCell ⟨b,1,none⟩ y).setCell ⟨b,2,none⟩ z).setCell ⟨b,3,none⟩ u).setCell ⟨b,4,none⟩ t):=
 (fG w b x y z u).setCell _ _ (.inl rfl)
theorem jk (nv:Value) (ns:List Int) (w:World) (base:Nat) (hns:ad w base nv ns) (hl:ns.length<=10000) :
 Calls Tryz.prog 65 #[nv] w fun e w'=>∃ tv fv,e=.returned (.agg #[tv,fv,(),.int .i64 (rdP ns).1,.int .i64 (rdP ns).2.1])/\ai w' w.heap.size tv (rdP ns).2.2.types/\aj 111 135 w' w.heap.size fv (rdP ns).2.2.funcs /\
  ((rdP ns).1 ≠ 0->tv=.slice none 0 0/\fv=.slice none 0 0)/\Chg () w w':=by
 obtain ⟨na,nc,rfl⟩:=hns.slice
 go_enter Tryz.func65,Tryz.ntmps65
 go_wp2_with fail
 have ka:Chg () w ((w.alloc (Obj.cells #[(),(),(),oO,oO] 83)).alloc (Obj.cells #[.slice na ns.length nc,oO,.bool false] 95)):=((Chg.refl _ w).alloc _).alloc _
 have bo:=(Blk.new w #[.slice none 0 0,.slice none 0 0,.slice none 0 0,.int .i64 0,.int .i64 0] 83).alloc (Obj.cells #[.slice na ns.length nc,oO,.bool false] 95)
 have br:Rd _ (w.heap.size+1) (.slice na ns.length nc) (0,false):=Blk.new' (w:=w.alloc (Obj.cells #[(),(),(),oO,oO] 83)) (by simp) #[.slice na ns.length nc,oO,.bool false] 95
 have hrs:RS _ (w.heap.size+1) (.slice na ns.length nc) ns (0,false):=⟨br,am (ad.chg hns ka (fun _ _ _ e=>e)) (Nat.zero_le _)⟩
 have hsz0:w.heap.size+2=((w.alloc (Obj.cells #[(),(),(),oO,oO] 83)).alloc (Obj.cells #[.slice na ns.length nc,oO,.bool false] 95)).heap.size:=by simp
 generalize ((w.alloc (Obj.cells #[(),(),(),oO,oO] 83)).alloc (Obj.cells #[.slice na ns.length nc,oO,.bool false] 95))=w0 at *
 refine (jj (w.heap.size+1) (.slice na ns.length nc) ns (0,false) w0 hrs hl).mono ?_
 rintro e w1 ⟨tv,fv,rfl,hty,hfv,hrs1,hch⟩
 generalize hP:tkP ns (0,false)=P at *
 have HR:Hid (rdP ns=if P.2.2=true \/ P.2.1 < ns.length then (2,(P.2.1:Int),⟨[],[]⟩) else (0,0,P.1)):=by subst hP;rfl
 clear hP
 obtain ⟨P1,pat,pst⟩:=P
 have bo1:=bo.chg hch (by omega)
 have ch1:Chg () w w1:=ka.trans' hch (fun i hi e=>by omega)
 have hty1:ai w1 w.heap.size tv P1.types:=hty.mono (by omega)
 have hfv1:aj 111 135 w1 w.heap.size fv P1.funcs:=hfv.mono (by omega)
 obtain ⟨ta,tc,rfl⟩:=hty1.slice
 obtain ⟨fa,fc,rfl⟩:=hfv1.slice
 clear bo br hrs hch ka hty hfv hns hsz0
 have c0:w1.cell? ⟨w.heap.size+1,0,none⟩=some (.slice na ns.length nc):=hrs1.1.cell 0
 have c1:w1.cell? ⟨w.heap.size+1,1,none⟩=some (.int .i64 pat):=hrs1.1.cell 1
 have c2:w1.cell? ⟨w.heap.size+1,2,none⟩=some (.bool pst):=hrs1.1.cell 2
 have o0:w1.cell? ⟨w.heap.size,0,none⟩=some (.slice none 0 0):=bo1.cell 0
 have o1:w1.cell? ⟨w.heap.size,1,none⟩=some (.slice none 0 0):=bo1.cell 1
 have o2:w1.cell? ⟨w.heap.size,2,none⟩=some (.slice none 0 0):=bo1.cell 2
 have o3:w1.cell? ⟨w.heap.size,3,none⟩=some (.int .i64 0):=bo1.cell 3
 have o4:w1.cell? ⟨w.heap.size,4,none⟩=some (.int .i64 0):=bo1.cell 4
 have z0:=bo1.frozen 0
 have z1:=bo1.frozen 1
 have z2:=bo1.frozen 2
 have z3:=bo1.frozen 3
 have z4:=bo1.frozen 4
 have hlt1:=hrs1.lt
 have hlt0:=bo1.lt
 cases pst with
 | true =>
  go_wp2
  have b3:=(((((bo1.set 0 (.slice none 0 0)).set 1 (.slice none 0 0)).set 2 (.slice none 0 0)).set 3 (.int .i64 2)).set 4 (.int .i64 pat)).alloc (Obj.cells #[.slice ta P1.types.length tc,.slice fa P1.funcs.length fc] 56)
  have hch4:=db w1 w.heap.size (.slice none 0 0) (.slice none 0 0) (.slice none 0 0) (.int .i64 2) (.int .i64 pat)
  have hch5:=hch4.alloc (Obj.cells #[.slice ta P1.types.length tc,.slice fa P1.funcs.length fc] 56)
  generalize ((((((w1.setCell ⟨w.heap.size,0,none⟩ ()).setCell ⟨w.heap.size,1,none⟩ ()).setCell ⟨w.heap.size,2,none⟩ ()).setCell ⟨w.heap.size,3,none⟩ (2:Int)).setCell ⟨w.heap.size,4,none⟩ pat).alloc (Obj.cells #[.slice ta P1.types.length tc,.slice fa P1.funcs.length fc] 56))=wf at *
  have hD:Chg () w wf:=ch1.trans' hch5 (fun i hi e=>by omega)
  have hA:ai wf w.heap.size (.slice ta P1.types.length tc) P1.types:=hty1.chg hch5 (fun g cs hb e=>hb.ne bo1 (by decide) e) (fun g cs hb e=>hb.ne bo1 (by decide) e)
  have hB:aj 111 135 wf w.heap.size (.slice fa P1.funcs.length fc) P1.funcs:=hfv1.chg hch5 (fun g cs hb e=>hb.ne bo1 (by decide) e) (fun g cs hb e=>hb.ne bo1 (by decide) e) (fun g cs hb e=>hb.ne bo1 (by decide) e)
  clear c0 c1 c2 o0 o1 o2 o3 o4 z0 z1 z2 z3 z4 hch4 hch5
  have q0:wf.cell? ⟨w.heap.size,0,none⟩=some ((.slice none 0 0)):=b3.cell 0
  have q1:wf.cell? ⟨w.heap.size,1,none⟩=some ((.slice none 0 0)):=b3.cell 1
  have q2:wf.cell? ⟨w.heap.size,2,none⟩=some (.slice none 0 0):=b3.cell 2
  have q3:wf.cell? ⟨w.heap.size,3,none⟩=some ((.int .i64 2)):=b3.cell 3
  have q4:wf.cell? ⟨w.heap.size,4,none⟩=some ((.int .i64 pat)):=b3.cell 4
  have hr:rdP ns=(2,(pat:Int),⟨[],[]⟩):=by rw [HR.out];simp
  rw [hr]
  exact bodyPost_ret (v:=.agg #[(.slice none 0 0),(.slice none 0 0),(.slice none 0 0),(.int .i64 2),(.int .i64 pat)]) (by simp [results,Tryz.results65,go_sem,q0,q1,q2,q3,q4]) rfl ⟨_,_,rfl,ai.nil _ _,aj.nil _ _ _ _,fun _=>⟨rfl,rfl⟩,hD⟩
 | false =>
  by_cases hat:pat < ns.length
  ·have hat':(pat:Int) < (ns.length:Int):=by omega
   go_wp2
   have b3:=(((((bo1.set 0 (.slice none 0 0)).set 1 (.slice none 0 0)).set 2 (.slice none 0 0)).set 3 (.int .i64 2)).set 4 (.int .i64 pat)).alloc (Obj.cells #[.slice ta P1.types.length tc,.slice fa P1.funcs.length fc] 56)
   have hch4:=db w1 w.heap.size (.slice none 0 0) (.slice none 0 0) (.slice none 0 0) (.int .i64 2) (.int .i64 pat)
   have hch5:=hch4.alloc (Obj.cells #[.slice ta P1.types.length tc,.slice fa P1.funcs.length fc] 56)
   generalize ((((((w1.setCell ⟨w.heap.size,0,none⟩ ()).setCell ⟨w.heap.size,1,none⟩ ()).setCell ⟨w.heap.size,2,none⟩ ()).setCell ⟨w.heap.size,3,none⟩ (2:Int)).setCell ⟨w.heap.size,4,none⟩ pat).alloc (Obj.cells #[.slice ta P1.types.length tc,.slice fa P1.funcs.length fc] 56))=wf at *
   have hD:Chg () w wf:=ch1.trans' hch5 (fun i hi e=>by omega)
   have hA:ai wf w.heap.size (.slice ta P1.types.length tc) P1.types:=hty1.chg hch5 (fun g cs hb e=>hb.ne bo1 (by decide) e) (fun g cs hb e=>hb.ne bo1 (by decide) e)
   have hB:aj 111 135 wf w.heap.size (.slice fa P1.funcs.length fc) P1.funcs:=hfv1.chg hch5 (fun g cs hb e=>hb.ne bo1 (by decide) e) (fun g cs hb e=>hb.ne bo1 (by decide) e) (fun g cs hb e=>hb.ne bo1 (by decide) e)
   clear c0 c1 c2 o0 o1 o2 o3 o4 z0 z1 z2 z3 z4 hch4 hch5
   have q0:wf.cell? ⟨w.heap.size,0,none⟩=some ((.slice none 0 0)):=b3.cell 0
   have q1:wf.cell? ⟨w.heap.size,1,none⟩=some ((.slice none 0 0)):=b3.cell 1
   have q2:wf.cell? ⟨w.heap.size,2,none⟩=some (.slice none 0 0):=b3.cell 2
   have q3:wf.cell? ⟨w.heap.size,3,none⟩=some ((.int .i64 2)):=b3.cell 3
   have q4:wf.cell? ⟨w.heap.size,4,none⟩=some ((.int .i64 pat)):=b3.cell 4
   have hr:rdP ns=(2,(pat:Int),⟨[],[]⟩):=by rw [HR.out];simp [hat]
   rw [hr]
   exact bodyPost_ret (v:=.agg #[(.slice none 0 0),(.slice none 0 0),(.slice none 0 0),(.int .i64 2),(.int .i64 pat)]) (by simp [results,Tryz.results65,go_sem,q0,q1,q2,q3,q4]) rfl ⟨_,_,rfl,ai.nil _ _,aj.nil _ _ _ _,fun _=>⟨rfl,rfl⟩,hD⟩
  ·have hat':(ns.length:Int)<=(pat:Int):=by omega
   go_wp2
   have b3:=(((((bo1.set 0 (.slice ta P1.types.length tc)).set 1 (.slice fa P1.funcs.length fc)).set 2 (.slice none 0 0)).set 3 (.int .i64 0)).set 4 (.int .i64 0)).alloc (Obj.cells #[.slice ta P1.types.length tc,.slice fa P1.funcs.length fc] 56)
   have hch4:=db w1 w.heap.size (.slice ta P1.types.length tc) (.slice fa P1.funcs.length fc) (.slice none 0 0) (.int .i64 0) (.int .i64 0)
   have hch5:=hch4.alloc (Obj.cells #[.slice ta P1.types.length tc,.slice fa P1.funcs.length fc] 56)
   generalize ((((((w1.setCell ⟨w.heap.size,0,none⟩ (.slice ta P1.types.length tc)).setCell ⟨w.heap.size,1,none⟩ (.slice fa P1.funcs.length fc)).setCell ⟨w.heap.size,2,none⟩ ()).setCell ⟨w.heap.size,3,none⟩ oO).setCell ⟨w.heap.size,4,none⟩ oO).alloc (Obj.cells #[.slice ta P1.types.length tc,.slice fa P1.funcs.length fc] 56))=wf at *
   have hD:Chg () w wf:=ch1.trans' hch5 (fun i hi e=>by omega)
   have hA:ai wf w.heap.size (.slice ta P1.types.length tc) P1.types:=hty1.chg hch5 (fun g cs hb e=>hb.ne bo1 (by decide) e) (fun g cs hb e=>hb.ne bo1 (by decide) e)
   have hB:aj 111 135 wf w.heap.size (.slice fa P1.funcs.length fc) P1.funcs:=hfv1.chg hch5 (fun g cs hb e=>hb.ne bo1 (by decide) e) (fun g cs hb e=>hb.ne bo1 (by decide) e) (fun g cs hb e=>hb.ne bo1 (by decide) e)
   clear c0 c1 c2 o0 o1 o2 o3 o4 z0 z1 z2 z3 z4 hch4 hch5
   have q0:wf.cell? ⟨w.heap.size,0,none⟩=some ((.slice ta P1.types.length tc)):=b3.cell 0
   have q1:wf.cell? ⟨w.heap.size,1,none⟩=some ((.slice fa P1.funcs.length fc)):=b3.cell 1
   have q2:wf.cell? ⟨w.heap.size,2,none⟩=some (.slice none 0 0):=b3.cell 2
   have q3:wf.cell? ⟨w.heap.size,3,none⟩=some ((.int .i64 0)):=b3.cell 3
   have q4:wf.cell? ⟨w.heap.size,4,none⟩=some ((.int .i64 0)):=b3.cell 4
   have hr:rdP ns=(0,0,P1):=by rw [HR.out];simp [hat]
   rw [hr]
   exact bodyPost_ret (v:=.agg #[(.slice ta P1.types.length tc),(.slice fa P1.funcs.length fc),(.slice none 0 0),(.int .i64 0),(.int .i64 0)]) (by simp [results,Tryz.results65,go_sem,q0,q1,q2,q3,q4]) rfl ⟨_,_,rfl,hA,hB,fun e=>absurd rfl e,hD⟩
end Go.Proofs.YtnfnbcbadakofaaGreat
