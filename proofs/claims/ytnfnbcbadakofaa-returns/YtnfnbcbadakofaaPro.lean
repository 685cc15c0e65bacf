import Derived.Test.YtnfnbcbadakofaaFun2
namespace Go.Proofs.Ytnfnbcbadakofaa
open Go.RowKit
def tkT (ns:List Int) (n:Int):Nat->Nat × Bool->List (List Int) × (Nat × Bool)
 | 0,s=>([],s)
 | k+1,s =>
  let r:=tkT ns n k s
  let c:=tk ns 0 5 r.2
  let l:=tkL ns n c.1.toNat c.2
  (r.1++[l.1],l.2)
def tkFs (ns:List Int) (ls:List (List Int)) (fu:Int):Nat->Nat × Bool->List Fn × (Nat × Bool)
 | 0,s=>([],s)
 | k+1,s =>
  let r:=tkFs ns ls fu k s
  let f:=tkF ns ls fu (k == 0) r.2
  (r.1++[f.1],f.2)
theorem tkT_len (ns:List Int) (n:Int) (k:Nat) (s:Nat × Bool):(tkT ns n k s).1.length=k:=by
 induction k with
 | zero=>rfl
 | succ k ih=>simp [tkT,ih]
theorem tkFs_len (ns:List Int) (ls:List (List Int)) (fu:Int) (k:Nat) (s:Nat × Bool):(tkFs ns ls fu k s).1.length=k:=by
 induction k with
 | zero=>rfl
 | succ k ih=>simp [tkFs,ih]
theorem tkT_small (ns:List Int) (n:Int) (k:Nat) (s:Nat × Bool) (j:Nat):((tkT ns n k s).1.getD j []).length<=5:=by
 induction k with
 | zero=>simp [tkT]
 | succ k ih =>
  simp only [tkT]
  rw [List.getD_eq_getElem?_getD,List.getElem?_append]
  split
  ·rw [<-List.getD_eq_getElem?_getD];exact ih
  ·rcases Nat.eq_zero_or_pos (j - (tkT ns n k s).1.length) with h | h
   ·rw [h]
    have:=tk0 ns 5 (tkT ns n k s).2 (by decide)
    simp [tkL_len];omega
   ·rw [List.getElem?_eq_none (by simp;omega)];simp
structure PS (w wk:World) (rb:Nat) (nv:Value) (ns:List Int) (s:Nat × Bool) (pc:Array Value):Prop where
 rs:RS wk rb nv ns s
 ob:Blk wk w.heap.size #[(),()] 35
 pb:Blk wk (w.heap.size+1) pc 35
 ch:Chg (fun k=>k=rb) w wk
 hr:rb < w.heap.size
section
variable {w wk wk':World} {rb:Nat} {nv:Value} {ns:List Int} {s s':Nat × Bool} {pc:Array Value}
theorem PS.step (h:PS w wk rb nv ns s pc) (k:Chg (fun k=>k=rb) wk wk') (hrs:RS wk' rb nv ns s'):PS w wk' rb nv ns s' pc:=
 have hr:=h.hr
 ⟨hrs,h.ob.chg k (by omega),h.pb.chg k (by omega),h.ch.trans k,h.hr⟩
theorem PS.setP (h:PS w wk rb nv ns s pc) (i:Nat) (v:Value):PS w (wk.setCell ⟨w.heap.size+1,i,none⟩ v) rb nv ns s (pc.setIfInBounds i v):=
 ⟨h.rs.set h.pb (by decide) (by decide) i v,h.ob.setOther _ _ (by simp),h.pb.set i v,h.ch.setCell _ _ (.inr (by simp)),h.hr⟩
theorem PS.begin (h:RS w rb nv ns s) (pc:Array Value) :
 PS w ((w.alloc (Obj.cells #[(),()] 35)).alloc (Obj.cells pc 35)) rb nv ns s pc:=
 have k:Chg () w ((w.alloc (Obj.cells #[(),()] 35)).alloc (Obj.cells pc 35)):=((Chg.refl _ w).alloc _).alloc _
 ⟨h.new k,(Blk.new w _ 35).alloc _,Blk.new' (by simp) _ 35,k.ofNew,h.lt⟩
theorem PS.grow {eF:TypeId} {size:Nat} {cv:Value} {n:Nat} {xs:List Value} (h:PS w wk rb nv ns s pc) (h1:149 ≠ eF) (h2:3 ≠ eF) (h3:35 ≠ eF)
 (hcv:wk.ownsRow w.heap.size eF size cv n xs) (k:Chg (fun k=>some k=cv.ownBlock) wk wk'):PS w wk' rb nv ns s pc:=by
 have ne:∀ g cs e,Blk wk g cs e->e ≠ eF->¬ some g=cv.ownBlock:=fun g cs e hb he hg=>by
  obtain ⟨cs',hb'⟩:=own_blk hcv hg.symm
  exact hb.ne hb' he rfl
 exact ⟨h.rs.chg k (ne _ _ _ h.rs.1 h1) (fun g cs hb=>ne g cs 3 hb h2),h.ob.chg k (ne _ _ _ h.ob h3),h.pb.chg k (ne _ _ _ h.pb h3),
  h.ch.trans' k (fun i hi e=>by have:=(hcv.lt i e.symm).1;omega),h.hr⟩
end
theorem FuncsV.rs {eF eI:TypeId} (h1:eF ≠ 149) (h2:eI ≠ 149) {w w':World} {rb:Nat} {nv:Value} {s:Nat × Bool} {base:Nat} {v:Value} {fs:List Fn} (h:FuncsV eF eI w base v fs) (hr:Rd w rb nv s) (k:Chg (fun k=>k=rb) w w'):FuncsV eF eI w' base v fs:=
 h.chg k (fun _ _ hb e=>(hb.ne hr (by decide)) e) (fun _ _ hb e=>(hb.ne hr h2) e) (fun _ _ hb e=>(hb.ne hr h1) e)
theorem FuncsV.set {eF eI:TypeId} {w:World} {base:Nat} {v:Value} {fs:List Fn} (h:FuncsV eF eI w base v fs) {b:Nat} {cs:Array Value} {e:TypeId} (hb:Blk w b cs e) (he:3 ≠ e) (he':eF ≠ e) (he'':eI ≠ e) (i:Nat) (u:Value):FuncsV eF eI (w.setCell ⟨b,i,none⟩ u) base v fs:=by
 obtain ⟨xs,h0,h,hx⟩:=h
 exact ⟨xs,h0,own_set h _ _ (own_ne h hb he'),fun x m=>⟨own_set (hx x m).1 _ _ (own_ne (hx x m).1 hb he),own_set (hx x m).2 _ _ (own_ne (hx x m).2 hb he'')⟩⟩
theorem chg_set2 (w:World) (b:Nat) (x y:Value):Chg (fun k=>k=b) w ((w.setCell ⟨b,0,none⟩ x).setCell ⟨b,1,none⟩ y):=by
 have h0:Chg (fun k=>k=b) w w:=Chg.refl _ w
 have h1:=h0.setCell ⟨b,0,none⟩ x (Or.inl rfl)
 exact h1.setCell ⟨b,1,none⟩ y (Or.inl rfl)
theorem info47:∃ i:TypeInfo,Try.prog.info? 47=some i/\i.zero=some (.slice none 0 0)/\i.size=1/\i.bytes=24:=info_of (by kernel_rfl)
theorem info71:∃ i:TypeInfo,Try.prog.info? 96=some i/\i.zero=some (.agg #[oO,(),oO,()])/\i.size=4/\i.bytes=64:=info_of (by kernel_rfl)
set_option maxHeartbeats 1000000 in
set_option maxRecDepth 100000 in
theorem takeProg_core (rb:Nat) (nv:Value) (ns:List Int) (s:Nat × Bool) (w:World) (h:RS w rb nv ns s) (hl:ns.length<=10000)
 (r0 r2:Int × (Nat × Bool)) (r1:List (List Int) × (Nat × Bool)) (H0:Hid (tk ns 0 6 s=r0)) (H1:Hid (tkT ns r0.1 r0.1.toNat r0.2=r1)) (H2:Hid (tk ns 1 6 r1.2=r2)) (h0:0<=r0.1/\r0.1<=6) (h2:0<=r2.1/\r2.1<=6)
 (hn:r1.1.length<=10000) (hls:∀ j,(r1.1.getD j []).length<=10000) :
 Calls Try.prog 69 #[.pointer rb] w fun e w' =>
  ∃ tv fv,e=.returned (.agg #[tv,fv])/\TypesV w' w.heap.size tv r1.1/\FuncsV 96 98 w' w.heap.size fv (tkFs ns r1.1 r2.1 r2.1.toNat r2.2).1 /\
   RS w' rb nv ns (tkFs ns r1.1 r2.1 r2.1.toNat r2.2).2/\Chg (fun k=>k=rb) w w':=by
 obtain ⟨i,hi1,hi2,hi3,hi4⟩:=info47
 have Hi1:=hid hi1
 have Hi2:=hid hi2
 have Hi3:=hid hi3
 have Hi4:=hid hi4
 clear hi1 hi2 hi3 hi4
 go_enter Try.func69,Try.ntmps69
 go_wp2_with fail
 have p0:=PS.begin h #[.slice none 0 0,.slice none 0 0]
 refine (take_any rb nv ns _ _ _ _ p0.rs hl).mono ?_
 rw [H0.out]
 rintro e w1 ⟨rfl,hrs,hch⟩
 have p1:=p0.step hch hrs
 clear p0 hrs hch
 go_wp2_with fail
 go_loopw [5] (fun i wr=>∃ k:Nat,k<=r0.1.toNat/\i=.int .i64 k/\∃ tv,PS w wr rb nv ns (tkT ns r0.1 k r0.2).2 #[tv,.slice none 0 0]/\TypesV wr w.heap.size tv (tkT ns r0.1 k r0.2).1) (fun i _=>r0.1.toNat - (intOf i).toNat)
 case atStart=>exact ⟨0,Nat.zero_le _,rfl,_,p1,TypesV.nil _ _⟩
 case round =>
  clear p1
  obtain ⟨k,hk,rfl,tv,pA,hty⟩:=hrel
  by_cases hlt:(k:Int) < r0.1
  ·go_wp2_with fail
   refine (take_any rb nv ns _ _ _ _ pA.rs hl).mono ?_
   rintro e w2 ⟨rfl,hrs,hch⟩
   have hc5:=tk0 ns 5 (tkT ns r0.1 k r0.2).2 (by decide)
   generalize hC:tk ns 0 5 (tkT ns r0.1 k r0.2).2=C at *
   have HC:=hid hC
   clear hC
   have pB:=pA.step hch hrs
   have hty2:=hty.rs pA.rs.1 hch
   clear pA hty hrs hch
   go_wp2_with fail
   refine (takeTypes_any rb nv ns _ _ _ _ pB.rs hl (by omega)).mono ?_
   rintro e w3 ⟨lv,rfl,hlv0,hrs,hch⟩
   generalize hL:tkL ns r0.1 C.1.toNat C.2=L at *
   have HL:=hid hL
   clear hL
   have pC:=pB.step hch hrs
   have hty3:=hty2.rs pB.rs.1 hch
   have hlv:IntsV w3 w.heap.size lv L.1:=own_mono hlv0 pB.ch.size
   clear pB hty2 hlv0 hrs hch
   obtain ⟨vs,hvs,hvk⟩:=hty3
   have y0:w3.cell? ⟨w.heap.size+1,0,none⟩=some tv:=pC.pb.cell 0
   have z0:=pC.pb.frozen 0
   have hlt3:=pC.pb.lt
   have hsz3:=pC.ch.size
   obtain ⟨la,lc,rfl⟩:=hlv.slice
   have htl:∃ ta tc,tv=.slice ta (tkT ns r0.1 k r0.2).1.length tc:=by
    rcases hvs.2 with ⟨h1,h2⟩ | ⟨g,cap,cur,rfl,_⟩
    ·exact ⟨none,0,by rw [h1,h2]⟩
    ·exact ⟨_,_,rfl⟩
   obtain ⟨ta,tc,rfl⟩:=htl
   go_wp2_with (at_builtin;refine wpList_append_lies _ rfl _ _ 25 rfl w.heap.size 47 i (.slice none 0 0) 1 24 Try.underlying25 Hi1.out Hi2.out Hi3.out Hi4.out rfl (by decide) _ _ _ rfl (World.ownsRow.alloc hvs _) ⟨w3.heap.size,0,none⟩ 1 1 [.slice la L.1.length lc] rfl rfl ?c1 ?c2 (by decide) ?c3 ?c4 ?c5 _ rfl ?_)
   case c1=>exact cell_one_new _ _ _
   case c2=>intro u hu;simp at hu;subst hu;rfl
   case c3=>rw [tkT_len];unfold maxLen;omega
   case c4=>rw [tkT_len];omega
   case c5=>simp;omega
   ·intro g cap2 w4 hown hgrow hat hlt4
    have hg3:Chg (fun j=>some j=(Value.slice ta (tkT ns r0.1 k r0.2).1.length tc).ownBlock) w3 w4:=(((Chg.refl _ w3).alloc _).grown hgrow (fun j hj=>.inl hj.symm))
    have pD:=pC.grow (by decide) (by decide) (by decide) hvs hg3
    have hty4:=TypesV.snoc hvs hvk rfl hown hg3 hlv
    clear hgrow hg3 hat y0 z0
    have y0:w4.cell? ⟨w.heap.size+1,0,none⟩=some (.slice ta (tkT ns r0.1 k r0.2).1.length tc):=pD.pb.cell 0
    have z0:=pD.pb.frozen 0
    go_wp2
    have e1:tkT ns r0.1 (k+1) r0.2=((tkT ns r0.1 k r0.2).1++[L.1],L.2):=by rw [<-HL.out,<-HC.out];rfl
    exact ⟨⟨k+1,by omega,rfl,_,by rw [e1];exact pD.setP 0 _,by rw [e1];exact hty4.set pD.pb (by decide) (by decide) 0 _⟩,by simp [intOf];omega⟩
  ·have e1:r0.1.toNat=k:=by omega
   rw [e1] at H1
   rw [H1.out] at pA hty
   clear Hi1 Hi2 Hi3 Hi4
   obtain ⟨i,hi1,hi2,hi3,hi4⟩:=info71
   have Hi1:=hid hi1
   have Hi2:=hid hi2
   have Hi3:=hid hi3
   have Hi4:=hid hi4
   clear hi1 hi2 hi3 hi4 e1
   go_wp2_with fail
   refine (take_any rb nv ns _ _ _ _ pA.rs hl).mono ?_
   rw [H2.out]
   rintro e w2 ⟨rfl,hrs,hch⟩
   have pB:=pA.step hch hrs
   have hty2:=hty.rs pA.rs.1 hch
   clear pA hty hrs hch
   go_wp2_with fail
   clear hlt hk
   go_loopw [9] (fun i wr=>∃ k:Nat,k<=r2.1.toNat/\i=.int .i64 k/\∃ fv,PS w wr rb nv ns (tkFs ns r1.1 r2.1 k r2.2).2 #[tv,fv]/\TypesV wr w.heap.size tv r1.1/\FuncsV 96 98 wr w.heap.size fv (tkFs ns r1.1 r2.1 k r2.2).1) (fun i _=>r2.1.toNat - (intOf i).toNat)
   case atStart=>exact ⟨0,Nat.zero_le _,rfl,_,pB,hty2,FuncsV.nil _ _ _ _⟩
   case round =>
    clear pB hty2
    obtain ⟨k2,hk,rfl,fv,pA,hty,hfv⟩:=hrel
    obtain ⟨ta,tc,rfl⟩:=hty.slice
    by_cases hlt:(k2:Int) < r2.1
    ·have y0:wr.cell? ⟨w.heap.size+1,0,none⟩=some (.slice ta r1.1.length tc):=pA.pb.cell 0
     go_wp2_with fail
     clear y0
     refine (takeFunc_any rb nv ns _ _ r1.1 r2.1 _ _ w.heap.size pA.rs hl hty hn hls h2.1 (by omega)).mono ?_
     rintro e w3 ⟨lv,cv,rfl,hlv0,hcv0,hrs,hch⟩
     have ek:((k2:Int) == 0)=(k2 == 0):=by rcases k2 with _ | k2 <;> simp;omega
     rw [ek] at hlv0 hcv0 hrs
     rw [ek]
     generalize hF:tkF ns r1.1 r2.1 (k2 == 0) (tkFs ns r1.1 r2.1 k2 r2.2).2=F at *
     have HF:=hid hF
     clear hF ek
     have pB:=pA.step hch hrs
     have hty2:=hty.rs pA.rs.1 hch
     have hfv2:=hfv.rs (by decide) (by decide) pA.rs.1 hch
     have hlv:IntsV w3 w.heap.size lv F.1.locals:=own_mono hlv0 pA.ch.size
     have hcv:InsV 98 w3 w.heap.size cv F.1.code:=own_mono hcv0 pA.ch.size
     clear pA hty hfv hlv0 hcv0 hrs hch
     obtain ⟨la,lc,rfl⟩:=hlv.slice
     obtain ⟨ca,cc,rfl⟩:=hcv.slice
     obtain ⟨fa,fc,rfl⟩:=hfv2.slice
     rw [tkFs_len] at *
     obtain ⟨xs,hx0,hxs,hxk⟩:=hfv2
     have hxl:Hid (xs.length=k2):=by have:=congrArg List.length hx0;simp [tkFs_len] at this;exact this
     have HX0:=hid hx0
     clear hx0
     have y0:w3.cell? ⟨w.heap.size+1,1,none⟩=some (.slice fa k2 fc):=pB.pb.cell 1
     have z0:=pB.pb.frozen 1
     have hlt3:=pB.pb.lt
     have hsz3:=pB.ch.size
     go_wp2_with (at_builtin;refine wpList_append_lies _ rfl _ _ 33 rfl w.heap.size 96 i (.agg #[oO,(),oO,()]) 4 64 Try.underlying33 Hi1.out Hi2.out Hi3.out Hi4.out rfl (by decide) _ _ _ rfl (World.ownsRow.alloc (World.ownsRow.alloc hxs _) _) ⟨w3.heap.size+1,0,none⟩ 1 1 [.int .i64 F.1.args,.slice la F.1.locals.length lc,.int .i64 F.1.result,.slice ca F.1.code.length cc] rfl rfl ?c1 ?c2 (by decide) ?c3 ?c4 ?c5 _ rfl ?_)
     case c1=>exact World.news_of_block (B:=w3.heap.size+1) (cs:=#[.int .i64 F.1.args,.slice la F.1.locals.length lc,.int .i64 F.1.result,.slice ca F.1.code.length cc]) (Blk.new' (by simp) _ 96)
     case c2=>intro u hu;simp at hu;rcases hu with rfl | rfl | rfl | rfl <;> rfl
     case c3=>rw [hxl.out];unfold maxLen;omega
     case c4=>rw [hxl.out];omega
     case c5=>simp;omega
     ·intro g cap2 w4 hown hgrow hat hlt4
      have hg3:Chg (fun j=>some j=(Value.slice fa k2 fc).ownBlock) w3 w4:=((((Chg.refl _ w3).alloc _).alloc _).grown hgrow (fun j hj=>.inl hj.symm))
      have pD:=pB.grow (by decide) (by decide) (by decide) hxs hg3
      have ne:∀ g cs e,Blk w3 g cs e->e ≠ 96->¬ some g=(Value.slice fa k2 fc).ownBlock:=fun g cs e hb he hg=>by
       obtain ⟨cs',hb'⟩:=own_blk hxs hg.symm
       exact hb.ne hb' he rfl
      have hty4:=hty2.chg hg3 (fun g cs hb=>ne g cs 3 hb (by decide)) (fun g cs hb=>ne g cs 47 hb (by decide))
      have hfv4:=FuncsV.snoc (by decide) (by decide) hxs hxk rfl hown hg3 hlv hcv
      clear hgrow hg3 hat y0 z0 ne
      have y0:w4.cell? ⟨w.heap.size+1,1,none⟩=some (.slice fa k2 fc):=pD.pb.cell 1
      have z0:=pD.pb.frozen 1
      go_wp2
      have e1:tkFs ns r1.1 r2.1 (k2+1) r2.2=((tkFs ns r1.1 r2.1 k2 r2.2).1++[F.1],F.2):=by rw [<-HF.out];rfl
      rw [HX0.out] at hfv4
      refine ⟨⟨k2+1,by omega,rfl,_,by rw [e1];exact pD.setP 1 _,hty4.set pD.pb (by decide) (by decide) 1 _,by rw [e1];exact hfv4.set pD.pb (by decide) (by decide) (by decide) 1 _⟩,by simp [intOf];omega⟩
    ·obtain ⟨fa,fc,rfl⟩:=hfv.slice
     have y0:wr.cell? ⟨w.heap.size+1,0,none⟩=some (.slice ta r1.1.length tc):=pA.pb.cell 0
     have y1:wr.cell? ⟨w.heap.size+1,1,none⟩=some (.slice fa (tkFs ns r1.1 r2.1 k2 r2.2).1.length fc):=pA.pb.cell 1
     have q0:wr.cell? ⟨w.heap.size,0,none⟩=some (.slice none 0 0):=pA.ob.cell 0
     have q1:wr.cell? ⟨w.heap.size,1,none⟩=some (.slice none 0 0):=pA.ob.cell 1
     have z0:=pA.ob.frozen 0
     have z1:=pA.ob.frozen 1
     go_wp2
     have e1:r2.1.toNat=k2:=by omega
     rw [e1]
     have b3:=(pA.ob.set 0 (.slice ta r1.1.length tc)).set 1 (.slice fa (tkFs ns r1.1 r2.1 k2 r2.2).1.length fc)
     have hch4:=chg_set2 wr w.heap.size (.slice ta r1.1.length tc) (.slice fa (tkFs ns r1.1 r2.1 k2 r2.2).1.length fc)
     generalize ((wr.setCell ⟨w.heap.size,0,none⟩ (.slice ta r1.1.length tc)).setCell ⟨w.heap.size,1,none⟩ (.slice fa (tkFs ns r1.1 r2.1 k2 r2.2).1.length fc))=wf at *
     have hA:=hty.chg hch4 (fun g cs hb e=>hb.ne pA.ob (by decide) e) (fun g cs hb e=>hb.ne pA.ob (by decide) e)
     have hB:=hfv.chg hch4 (fun g cs hb e=>hb.ne pA.ob (by decide) e) (fun g cs hb e=>hb.ne pA.ob (by decide) e) (fun g cs hb e=>hb.ne pA.ob (by decide) e)
     have hC:RS wf rb nv ns _:=pA.rs.chg hch4 (by have:=pA.hr;omega) (fun g cs hb e=>hb.ne pA.ob (by decide) e)
     have hD:Chg (fun k=>k=rb) w wf:=pA.ch.trans' hch4 (fun i hi e=>by omega)
     clear y0 y1 q0 q1 z0 z1 hch4
     have q0:wf.cell? ⟨w.heap.size,0,none⟩=some (.slice ta r1.1.length tc):=b3.cell 0
     have q1:wf.cell? ⟨w.heap.size,1,none⟩=some (.slice fa (tkFs ns r1.1 r2.1 k2 r2.2).1.length fc):=b3.cell 1
     exact bodyPost_ret (v:=.agg #[.slice ta r1.1.length tc,.slice fa (tkFs ns r1.1 r2.1 k2 r2.2).1.length fc]) (by simp [results,Try.results69,go_sem,q0,q1]) rfl ⟨_,_,rfl,hA,hB,hC,hD⟩
structure Pg where
 types:List (List Int)
 funcs:List Fn
def tkP (ns:List Int) (s:Nat × Bool):Pg × (Nat × Bool):=
 let r0:=tk ns 0 6 s
 let r1:=tkT ns r0.1 r0.1.toNat r0.2
 let r2:=tk ns 1 6 r1.2
 let r3:=tkFs ns r1.1 r2.1 r2.1.toNat r2.2
 (⟨r1.1,r3.1⟩,r3.2)
theorem takeProg_any (rb:Nat) (nv:Value) (ns:List Int) (s:Nat × Bool) (w:World) (h:RS w rb nv ns s) (hl:ns.length<=10000) :
 Calls Try.prog 69 #[.pointer rb] w fun e w' =>
  ∃ tv fv,e=.returned (.agg #[tv,fv])/\TypesV w' w.heap.size tv (tkP ns s).1.types/\FuncsV 96 98 w' w.heap.size fv (tkP ns s).1.funcs/\RS w' rb nv ns (tkP ns s).2/\Chg (fun k=>k=rb) w w':=
 takeProg_core rb nv ns s w h hl _ _ _ rfl rfl rfl (tk0 _ _ _ (by decide)) (tk_rng _ _ _ _ (by decide) (by decide))
  (by rw [tkT_len];have:=tk0 ns 6 s (by decide);omega) (fun j=>by have:=tkT_small ns (tk ns 0 6 s).1 (tk ns 0 6 s).1.toNat (tk ns 0 6 s).2 j;omega)
end Go.Proofs.Ytnfnbcbadakofaa
