import Derived.Test.YtnfnbcbadakofabRfun2
namespace Go.Proofs.Ytnfnbcbadakofab
open Go.RowKit
def nxF (ns:List Int) (ls:List (List Int)) (fu:Int) (first:Bool) (s:Nat × Bool):Fn × (Nat × Bool):=
 let r1:=nx ns 0 (if first then 0 else 4) s
 let r2:=nx ns r1.1 8 r1.2
 let r3:=nxL ns ls.length r2.1.toNat r2.2
 let r4:=nx ns 0 (if first then 0 else ls.length) r3.2
 let r5:=nx ns 1 64 r4.2
 let r6:=nxC ns ls fu r2.1 r5.1 r5.1.toNat r5.2
 (⟨r1.1,r3.1,r4.1,r6.1⟩,r6.2)
theorem rfun_any (rb:Nat) (b:ByteArray) (s:Nat × Bool) (tv fv:Value) (ls:List (List Int)) (fu place:Int) (w:World) (base:Nat) (h:RR w rb b s) (hl:b.size<=10000) (ht:TypesV w base tv ls) (hfv:∃ fa nf fc,fv=.slice fa nf fc)
 (hn:ls.length<=10000) (hls:∀ j,(ls.getD j []).length<=10000) (hfu:0<=fu) (hfu2:fu<=10000) :
 Calls Try.prog 45 #[.pointer rb,.agg #[tv,fv],place,fu] w fun e w' =>
  ∃ lv cv,e=.returned (.agg #[.int .i64 (nxF (bl b) ls fu (place == 0) s).1.args,lv,.int .i64 (nxF (bl b) ls fu (place == 0) s).1.result,cv])/\IntsV w' w.heap.size lv (nxF (bl b) ls fu (place == 0) s).1.locals /\
   InsV 131 w' w.heap.size cv (nxF (bl b) ls fu (place == 0) s).1.code/\RR w' rb b (nxF (bl b) ls fu (place == 0) s).2/\Chg (fun k=>k=rb) w w':=by
 obtain ⟨a,cap,rfl⟩:=ht.slice
 obtain ⟨fa,nf,fc,rfl⟩:=hfv
 have h0:0<=(nx (bl b) 0 (if (place == 0)=true then 0 else 4) s).1/\(nx (bl b) 0 (if (place == 0)=true then 0 else 4) s).1<=8:=by
  have hm:0<=(if (place == 0)=true then (0:Int) else 4)/\(if (place == 0)=true then (0:Int) else 4)<=4:=by split <;> decide
  have:=nx_rng (bl b) 0 (if (place == 0)=true then 0 else 4) s hm.1
  omega
 refine rfun_core rb b s a fa cap nf fc ls fu place w base h hl ht hn hls hfu hfu2 (if (place == 0)=true then 0 else 4) (if (place == 0)=true then 0 else ls.length) ?_ _ _ _ _ _ rfl rfl rfl rfl rfl ?_ ?_
 ·cases hp:(place == 0) <;> simp
 ·have:=nx_rng (bl b) (nx (bl b) 0 (if (place == 0)=true then 0 else 4) s).1 8 (nx (bl b) 0 (if (place == 0)=true then 0 else 4) s).2 h0.2
  omega
 ·have:=nx_rng (bl b) 1 64 (nx (bl b) 0 (if (place == 0)=true then 0 else ls.length) (nxL (bl b) ls.length (nx (bl b) (nx (bl b) 0 (if (place == 0)=true then 0 else 4) s).1 8 (nx (bl b) 0 (if (place == 0)=true then 0 else 4) s).2).1.toNat (nx (bl b) (nx (bl b) 0 (if (place == 0)=true then 0 else 4) s).1 8 (nx (bl b) 0 (if (place == 0)=true then 0 else 4) s).2).2).2).2 (by decide)
  omega
def nxT (ns:List Int) (n:Int):Nat->Nat × Bool->List (List Int) × (Nat × Bool)
 | 0,s=>([],s)
 | k+1,s =>
  let r:=nxT ns n k s
  let c:=nx ns 0 5 r.2
  let l:=nxL ns n c.1.toNat c.2
  (r.1++[l.1],l.2)
def nxFs (ns:List Int) (ls:List (List Int)) (fu:Int):Nat->Nat × Bool->List Fn × (Nat × Bool)
 | 0,s=>([],s)
 | k+1,s =>
  let r:=nxFs ns ls fu k s
  if r.2.2=true then r else
  let f:=nxF ns ls fu (k == 0) r.2
  (r.1++[f.1],f.2)
theorem nxT_len (ns:List Int) (n:Int) (k:Nat) (s:Nat × Bool):(nxT ns n k s).1.length=k:=by
 induction k with
 | zero=>rfl
 | succ k ih=>simp [nxT,ih]
theorem nxFs_len (ns:List Int) (ls:List (List Int)) (fu:Int) (k:Nat) (s:Nat × Bool):(nxFs ns ls fu k s).1.length<=k:=by
 induction k with
 | zero=>simp [nxFs]
 | succ k ih =>
  simp only [nxFs];split
  ·omega
  ·rw [List.length_append,List.length_singleton];omega
theorem nxFs_stop (ns:List Int) (ls:List (List Int)) (fu:Int) (k j:Nat) (s:Nat × Bool) (h:(nxFs ns ls fu k s).2.2=true):nxFs ns ls fu (k+j) s=nxFs ns ls fu k s:=by
 induction j with
 | zero=>rfl
 | succ j ih=>rw [<-Nat.add_assoc,nxFs];simp only [];rw [if_pos (by rw [ih];exact h),ih]
theorem nxT_small (ns:List Int) (n:Int) (k:Nat) (s:Nat × Bool) (j:Nat):((nxT ns n k s).1.getD j []).length<=5:=by
 induction k with
 | zero=>simp [nxT]
 | succ k ih =>
  simp only [nxT]
  rw [List.getD_eq_getElem?_getD,List.getElem?_append]
  split
  ·rw [<-List.getD_eq_getElem?_getD];exact ih
  ·rcases Nat.eq_zero_or_pos (j - (nxT ns n k s).1.length) with h | h
   ·rw [h]
    have:=nx_rng ns 0 5 (nxT ns n k s).2 (by decide)
    simp [nxL_len];omega
   ·rw [List.getElem?_eq_none (by simp;omega)];simp
structure DS (w wk:World) (b:ByteArray) (s:Nat × Bool) (pc:Array Value):Prop where
 rr:RR wk (w.heap.size+1) b s
 ob:Blk wk w.heap.size #[(),()] 44
 pb:Blk wk (w.heap.size+2) pc 44
 ch:Chg () w wk
section
variable {w wk wk':World} {b:ByteArray} {s s':Nat × Bool} {pc:Array Value}
theorem DS.step (h:DS w wk b s pc) (k:Chg (fun k=>k=w.heap.size+1) wk wk') (hrs:RR wk' (w.heap.size+1) b s'):DS w wk' b s' pc:=
 ⟨hrs,h.ob.chg k (by omega),h.pb.chg k (by omega),h.ch.trans' k (fun i hi e=>by omega)⟩
theorem DS.setP (h:DS w wk b s pc) (i:Nat) (v:Value):DS w (wk.setCell ⟨w.heap.size+2,i,none⟩ v) b s (pc.setIfInBounds i v):=
 ⟨Blk.setOther h.rr _ _ (by simp),h.ob.setOther _ _ (by simp),h.pb.set i v,h.ch.setCell _ _ (.inr (by simp))⟩
theorem DS.grow {eF:TypeId} {size:Nat} {cv:Value} {n:Nat} {xs:List Value} (h:DS w wk b s pc) (h1:102 ≠ eF) (h3:44 ≠ eF)
 (hcv:wk.ownsRow w.heap.size eF size cv n xs) (k:Chg (fun k=>some k=cv.ownBlock) wk wk'):DS w wk' b s pc:=by
 have ne:∀ g cs e,Blk wk g cs e->e ≠ eF->¬ some g=cv.ownBlock:=fun g cs e hb he hg=>by
  obtain ⟨cs',hb'⟩:=own_blk hcv hg.symm
  exact hb.ne hb' he rfl
 exact ⟨Blk.chg h.rr k (ne _ _ _ h.rr h1),h.ob.chg k (ne _ _ _ h.ob h3),h.pb.chg k (ne _ _ _ h.pb h3),
  h.ch.trans' k (fun i hi e=>by have:=(hcv.lt i e.symm).1;omega)⟩
end
theorem FuncsV.rr {eF eI:TypeId} (h1:eF ≠ 102) (h2:eI ≠ 102) {w w':World} {rb:Nat} {b:ByteArray} {s:Nat × Bool} {base:Nat} {v:Value} {fs:List Fn} (h:FuncsV eF eI w base v fs) (hr:RR w rb b s) (k:Chg (fun k=>k=rb) w w'):FuncsV eF eI w' base v fs:=
 h.chg k (fun _ _ hb e=>(hb.ne hr (by decide)) e) (fun _ _ hb e=>(hb.ne hr h2) e) (fun _ _ hb e=>(hb.ne hr h1) e)
theorem info67:∃ i:TypeInfo,Try.prog.info? 107=some i/\i.zero=some (.agg #[oO,(),oO,()])/\i.size=4/\i.bytes=64:=info_of (by kernel_rfl)
end Go.Proofs.Ytnfnbcbadakofab
namespace Go.Proofs.Ytnfnbcbadakofab
open Go.RowKit
set_option maxHeartbeats 2000000
set_option maxRecDepth 100000
theorem rdecode_core (b:ByteArray) (w:World) (hb8:b.size<=800)
 (r0 r2:Int × (Nat × Bool)) (r1:List (List Int) × (Nat × Bool)) (H0:Hid (nx (bl b) 0 6 (0,false)=r0)) (H1:Hid (nxT (bl b) r0.1 r0.1.toNat r0.2=r1)) (H2:Hid (nx (bl b) 1 6 r1.2=r2)) (h0:0<=r0.1/\r0.1<=6) (h2:0<=r2.1/\r2.1<=6)
 (hn:r1.1.length<=10000) (hls:∀ j,(r1.1.getD j []).length<=10000)
 (R:Int × Int × Pg) (HR:Hid (R=if (nxFs (bl b) r1.1 r2.1 r2.1.toNat r2.2).2.2=true \/ (nxFs (bl b) r1.1 r2.1 r2.1.toNat r2.2).2.1 < b.size then (2,((nxFs (bl b) r1.1 r2.1 r2.1.toNat r2.2).2.1:Int),⟨[],[]⟩) else (0,0,⟨r1.1,(nxFs (bl b) r1.1 r2.1 r2.1.toNat r2.2).1⟩))) :
 Calls Try.prog 26 #[.string b] w fun e w' =>
  ∃ tv fv,e=.returned (.tuple #[.agg #[tv,fv],R.1,R.2.1])/\TypesV w' w.heap.size tv R.2.2.types/\FuncsV 107 131 w' w.heap.size fv R.2.2.funcs/\Chg () w w':=by
 obtain ⟨i,hi1,hi2,hi3,hi4⟩:=info47
 have Hi1:=hid hi1
 have Hi2:=hid hi2
 have Hi3:=hid hi3
 have Hi4:=hid hi4
 clear hi1 hi2 hi3 hi4
 have hl:b.size<=10000:=by omega
 have hb8':(b.size:Int)<=800:=by omega
 go_enter Try.func26,Try.ntmps26
 go_wp2_with fail
 have d0:DS w (((w.alloc (Obj.cells #[(),()] 44)).alloc (Obj.cells #[.string b,oO,.bool true] 102)).alloc (Obj.cells #[(),()] 44)) b (0,false) #[.slice none 0 0,.slice none 0 0]:=
  ⟨(Blk.new' (by simp) _ 102).alloc _,((Blk.new w _ 44).alloc _).alloc _,Blk.new' (by simp) _ 44,(((Chg.refl _ w).alloc _).alloc _).alloc _⟩
 refine (next_any _ b _ _ _ _ d0.rr hl).mono ?_
 rw [H0.out]
 rintro e w1 ⟨rfl,hrs,hch⟩
 have p1:=d0.step hch hrs
 clear d0 hrs hch hb8'
 go_wp2_with fail
 go_loopw [8] (fun i wr=>∃ k:Nat,k<=r0.1.toNat/\i=.int .i64 k/\∃ tv,DS w wr b (nxT (bl b) r0.1 k r0.2).2 #[tv,.slice none 0 0]/\TypesV wr w.heap.size tv (nxT (bl b) r0.1 k r0.2).1) (fun i _=>r0.1.toNat - (intOf i).toNat)
 case atStart=>exact ⟨0,Nat.zero_le _,rfl,_,p1,TypesV.nil _ _⟩
 case round =>
  clear p1
  obtain ⟨k,hk,rfl,tv,pA,hty⟩:=hrel
  by_cases hlt:(k:Int) < r0.1
  ·go_wp2_with fail
   refine (next_any _ b _ _ _ _ pA.rr hl).mono ?_
   rintro e w2 ⟨rfl,hrs,hch⟩
   have hc5:=nx_rng (bl b) 0 5 (nxT (bl b) r0.1 k r0.2).2 (by decide)
   generalize hC:nx (bl b) 0 5 (nxT (bl b) r0.1 k r0.2).2=C at *
   have HC:=hid hC
   clear hC
   have pB:=pA.step hch hrs
   have hty2:=hty.rr pA.rr hch
   clear pA hty hrs hch
   go_wp2_with fail
   refine (nextTypes_any _ b _ _ _ _ pB.rr hl (by omega)).mono ?_
   rintro e w3 ⟨lv,rfl,hlv0,hrs,hch⟩
   generalize hL:nxL (bl b) r0.1 C.1.toNat C.2=L at *
   have HL:=hid hL
   clear hL
   have pC:=pB.step hch hrs
   have hty3:=hty2.rr pB.rr hch
   have hlv:IntsV w3 w.heap.size lv L.1:=own_mono hlv0 pB.ch.size
   clear pB hty2 hlv0 hrs hch
   obtain ⟨vs,hvs,hvk⟩:=hty3
   have y0:w3.cell? ⟨w.heap.size+2,0,none⟩=some tv:=pC.pb.cell 0
   have z0:=pC.pb.frozen 0
   have hlt3:=pC.pb.lt
   have hsz3:=pC.ch.size
   obtain ⟨la,lc,rfl⟩:=hlv.slice
   have htl:∃ ta tc,tv=.slice ta (nxT (bl b) r0.1 k r0.2).1.length tc:=by
    rcases hvs.2 with ⟨h1,h2⟩ | ⟨g,cap,cur,rfl,_⟩
    ·exact ⟨none,0,by rw [h1,h2]⟩
    ·exact ⟨_,_,rfl⟩
   obtain ⟨ta,tc,rfl⟩:=htl
   go_wp2_with (at_builtin;refine wpList_append_lies _ rfl _ _ 41 rfl w.heap.size 24 i (.slice none 0 0) 1 24 Try.underlying41 Hi1.out Hi2.out Hi3.out Hi4.out rfl (by decide) _ _ _ rfl (World.ownsRow.alloc hvs _) ⟨w3.heap.size,0,none⟩ 1 1 [.slice la L.1.length lc] rfl rfl ?c1 ?c2 (by decide) ?c3 ?c4 ?c5 _ rfl ?_)
   case c1=>exact cell_one_new _ _ _
   case c2=>intro u hu;simp at hu;subst hu;rfl
   case c3=>rw [nxT_len];unfold maxLen;omega
   case c4=>rw [nxT_len];omega
   case c5=>simp;omega
   ·intro g cap2 w4 hown hgrow hat hlt4
    have hg3:Chg (fun j=>some j=(Value.slice ta (nxT (bl b) r0.1 k r0.2).1.length tc).ownBlock) w3 w4:=(((Chg.refl _ w3).alloc _).grown hgrow (fun j hj=>.inl hj.symm))
    have pD:=pC.grow (by decide) (by decide) hvs hg3
    have hty4:=TypesV.snoc hvs hvk rfl hown hg3 hlv
    clear hgrow hg3 hat y0 z0
    have y0:w4.cell? ⟨w.heap.size+2,0,none⟩=some (.slice ta (nxT (bl b) r0.1 k r0.2).1.length tc):=pD.pb.cell 0
    have z0:=pD.pb.frozen 0
    go_wp2
    have e1:nxT (bl b) r0.1 (k+1) r0.2=((nxT (bl b) r0.1 k r0.2).1++[L.1],L.2):=by rw [<-HL.out,<-HC.out];rfl
    exact ⟨⟨k+1,by omega,rfl,_,by rw [e1];exact pD.setP 0 _,by rw [e1];exact hty4.set pD.pb (by decide) (by decide) 0 _⟩,by simp [intOf];omega⟩
  ·have e1:r0.1.toNat=k:=by omega
   rw [e1] at H1
   rw [H1.out] at pA hty
   clear Hi1 Hi2 Hi3 Hi4
   obtain ⟨i,hi1,hi2,hi3,hi4⟩:=info67
   have Hi1:=hid hi1
   have Hi2:=hid hi2
   have Hi3:=hid hi3
   have Hi4:=hid hi4
   clear hi1 hi2 hi3 hi4 e1
   go_wp2_with fail
   refine (next_any _ b _ _ _ _ pA.rr hl).mono ?_
   rw [H2.out]
   rintro e w2 ⟨rfl,hrs,hch⟩
   have pB:=pA.step hch hrs
   have hty2:=hty.rr pA.rr hch
   clear pA hty hrs hch
   go_wp2_with fail
   clear hlt hk
   go_loopw [12] (fun i wr=>∃ k:Nat,k<=r2.1.toNat/\i=.int .i64 k/\∃ fv,DS w wr b (nxFs (bl b) r1.1 r2.1 k r2.2).2 #[tv,fv]/\TypesV wr w.heap.size tv r1.1/\FuncsV 107 131 wr w.heap.size fv (nxFs (bl b) r1.1 r2.1 k r2.2).1) (fun i _=>r2.1.toNat - (intOf i).toNat)
   case atStart=>exact ⟨0,Nat.zero_le _,rfl,_,pB,hty2,FuncsV.nil _ _ _ _⟩
   case round =>
    clear pB hty2
    obtain ⟨k2,hk,rfl,fv,pA,hty,hfv⟩:=hrel
    obtain ⟨ta,tc,rfl⟩:=hty.slice
    obtain ⟨fa,fc,rfl⟩:=hfv.slice
    have hCl:=nxFs_len (bl b) r1.1 r2.1 k2 r2.2
    have y0:wr.cell? ⟨w.heap.size+2,0,none⟩=some (.slice ta r1.1.length tc):=pA.pb.cell 0
    have y1:wr.cell? ⟨w.heap.size+2,1,none⟩=some (.slice fa (nxFs (bl b) r1.1 r2.1 k2 r2.2).1.length fc):=pA.pb.cell 1
    have y2:wr.cell? ⟨w.heap.size+1,2,none⟩=some (.bool (!(nxFs (bl b) r1.1 r2.1 k2 r2.2).2.2)):=pA.rr.cell 2
    by_cases hgo:(k2:Int) < r2.1/\(nxFs (bl b) r1.1 r2.1 k2 r2.2).2.2=false
    ·obtain ⟨hlt,hst0⟩:=hgo
     have hkb:k2<=6:=by omega
     generalize hC:nxFs (bl b) r1.1 r2.1 k2 r2.2=C at *
     have HC:=hid hC
     clear hC
     rw [hst0] at y2
     have Hst0:=hid hst0
     clear hst0
     go_wp2_with fail
     clear y0 y1 y2
     refine (rfun_any _ b _ _ _ r1.1 r2.1 _ _ w.heap.size pA.rr hl hty ⟨_,_,_,rfl⟩ hn hls h2.1 (by omega)).mono ?_
     rintro e w3 ⟨lv,cv,rfl,hlv0,hcv0,hrs,hch⟩
     have ek:((k2:Int) == 0)=(k2 == 0):=by rcases k2 with _ | k2 <;> simp;omega
     rw [ek] at hlv0 hcv0 hrs
     rw [ek]
     generalize hF:nxF (bl b) r1.1 r2.1 (k2 == 0) C.2=F at *
     have HF:=hid hF
     clear hF ek
     have pB:=pA.step hch hrs
     have hty2:=hty.rr pA.rr hch
     have hfv2:=hfv.rr (by decide) (by decide) pA.rr hch
     have hlv:IntsV w3 w.heap.size lv F.1.locals:=own_mono hlv0 pA.ch.size
     have hcv:InsV 131 w3 w.heap.size cv F.1.code:=own_mono hcv0 pA.ch.size
     clear pA hty hfv hlv0 hcv0 hrs hch
     obtain ⟨la,lc,rfl⟩:=hlv.slice
     obtain ⟨ca,cc,rfl⟩:=hcv.slice
     obtain ⟨xs,hx0,hxs,hxk⟩:=hfv2
     have hxl:Hid (xs.length=C.1.length):=by have:=congrArg List.length hx0;simp only [List.length_map] at this;exact this
     have HX0:=hid hx0
     clear hx0
     have y0:w3.cell? ⟨w.heap.size+2,1,none⟩=some (.slice fa C.1.length fc):=pB.pb.cell 1
     have z0:=pB.pb.frozen 1
     have hlt3:=pB.pb.lt
     have hsz3:=pB.ch.size
     have hxs0:=hxs
     rw [hxl.out] at hxs
     go_wp2_with (at_builtin;refine wpList_append_lies _ rfl _ _ 42 rfl w.heap.size 107 i (.agg #[oO,(),oO,()]) 4 64 Try.underlying42 Hi1.out Hi2.out Hi3.out Hi4.out rfl (by decide) _ _ _ rfl (World.ownsRow.alloc (World.ownsRow.alloc hxs _) _) ⟨w3.heap.size+1,0,none⟩ 1 1 [.int .i64 F.1.args,.slice la F.1.locals.length lc,.int .i64 F.1.result,.slice ca F.1.code.length cc] rfl rfl ?c1 ?c2 (by decide) ?c3 ?c4 ?c5 _ rfl ?_)
     case c1=>exact World.news_of_block (B:=w3.heap.size+1) (cs:=#[.int .i64 F.1.args,.slice la F.1.locals.length lc,.int .i64 F.1.result,.slice ca F.1.code.length cc]) (Blk.new' (by simp) _ 107)
     case c2=>intro u hu;simp at hu;rcases hu with rfl | rfl | rfl | rfl <;> rfl
     case c3=>unfold maxLen;omega
     case c4=>omega
     case c5=>simp;omega
     ·intro g cap2 w4 hown hgrow hat hlt4
      have hg3:Chg (fun j=>some j=(Value.slice fa C.1.length fc).ownBlock) w3 w4:=((((Chg.refl _ w3).alloc _).alloc _).grown hgrow (fun j hj=>.inl hj.symm))
      have pD:=pB.grow (by decide) (by decide) hxs hg3
      have ne:∀ g cs e,Blk w3 g cs e->e ≠ 107->¬ some g=(Value.slice fa C.1.length fc).ownBlock:=fun g cs e hb he hg=>by
       obtain ⟨cs',hb'⟩:=own_blk hxs hg.symm
       exact hb.ne hb' he rfl
      have hty4:=hty2.chg hg3 (fun g cs hb=>ne g cs 3 hb (by decide)) (fun g cs hb=>ne g cs 24 hb (by decide))
      have hfv4:=FuncsV.snoc (by decide) (by decide) hxs0 hxk (by rw [hxl.out]) hown hg3 hlv hcv
      clear hgrow hg3 hat y0 z0 ne
      have y0:w4.cell? ⟨w.heap.size+2,1,none⟩=some (.slice fa C.1.length fc):=pD.pb.cell 1
      have z0:=pD.pb.frozen 1
      go_wp2
      have e1:nxFs (bl b) r1.1 r2.1 (k2+1) r2.2=(C.1++[F.1],F.2):=by
       rw [nxFs];simp only [];rw [HC.out,if_neg (by simp [Hst0.out]),HF.out]
      rw [HX0.out] at hfv4
      refine ⟨⟨k2+1,by omega,rfl,_,by rw [e1];exact pD.setP 1 _,hty4.set pD.pb (by decide) (by decide) 1 _,by rw [e1];exact hfv4.set pD.pb (by decide) (by decide) (by decide) 1 _⟩,by simp [intOf];omega⟩
    ·have hC2:nxFs (bl b) r1.1 r2.1 r2.1.toNat r2.2=nxFs (bl b) r1.1 r2.1 k2 r2.2:=by
      by_cases hlt:(k2:Int) < r2.1
      ·have hst:(nxFs (bl b) r1.1 r2.1 k2 r2.2).2.2=true:=by
        cases hb:(nxFs (bl b) r1.1 r2.1 k2 r2.2).2.2 with
        | true=>rfl
        | false=>exact absurd ⟨hlt,hb⟩ hgo
       have:=nxFs_stop (bl b) r1.1 r2.1 k2 (r2.1.toNat - k2) r2.2 hst
       rwa [show k2+(r2.1.toNat - k2)=r2.1.toNat by omega] at this
      ·have:r2.1.toNat=k2:=by omega
       rw [this]
     have hgo':r2.1<=(k2:Int) \/ ((k2:Int) < r2.1/\(nxFs (bl b) r1.1 r2.1 k2 r2.2).2.2=true):=by
      by_cases hlt:(k2:Int) < r2.1
      ·right
       refine ⟨hlt,?_⟩
       cases hb:(nxFs (bl b) r1.1 r2.1 k2 r2.2).2.2 with
       | true=>rfl
       | false=>exact absurd ⟨hlt,hb⟩ hgo
      ·left;omega
     have HR':Hid _:=HR.out
     rw [hC2] at HR'
     clear hgo hC2 HR
     generalize nxFs (bl b) r1.1 r2.1 k2 r2.2=C at *
     obtain ⟨fs,pat,pst⟩:=C
     have x1:wr.cell? ⟨w.heap.size+1,1,none⟩=some (.int .i64 pat):=pA.rr.cell 1
     have x0:wr.cell? ⟨w.heap.size+1,0,none⟩=some (.string b):=pA.rr.cell 0
     have q0:wr.cell? ⟨w.heap.size,0,none⟩=some (.slice none 0 0):=pA.ob.cell 0
     have q1:wr.cell? ⟨w.heap.size,1,none⟩=some (.slice none 0 0):=pA.ob.cell 1
     have z0:=pA.ob.frozen 0
     have z1:=pA.ob.frozen 1
     cases pst with
     | true =>
      have hR:Hid (R=(2,(pat:Int),⟨[],[]⟩)):=by rw [HR'.out];simp [Hid]
      clear HR'
      rcases hgo' with hgo' | ⟨hgo',hst⟩
      all_goals
       go_wp2
       go_region
       go_wp2
       have b3:=(pA.ob.set 0 (.slice none 0 0)).set 1 (.slice none 0 0)
       have hch4:=chg_set2 wr w.heap.size (.slice none 0 0) (.slice none 0 0)
       have b4:=b3.drew
       have hch5:=hch4.drew
       generalize ((wr.setCell ⟨w.heap.size,0,none⟩ ()).setCell ⟨w.heap.size,1,none⟩ ()).drew=wf at *
       have hD:Chg () w wf:=pA.ch.trans' hch5 (fun i hi e=>by omega)
       have hA:=hty.chg hch5 (fun g cs hb e=>hb.ne pA.ob (by decide) e) (fun g cs hb e=>hb.ne pA.ob (by decide) e)
       have hB:=hfv.chg hch5 (fun g cs hb e=>hb.ne pA.ob (by decide) e) (fun g cs hb e=>hb.ne pA.ob (by decide) e) (fun g cs hb e=>hb.ne pA.ob (by decide) e)
       have t0:wf.cell? ⟨w.heap.size,0,none⟩=some (.slice none 0 0):=b4.cell 0
       have t1:wf.cell? ⟨w.heap.size,1,none⟩=some (.slice none 0 0):=b4.cell 1
       rw [hR.out]
       exact bodyPost_ret (v:=.tuple #[.agg #[(.slice none 0 0),(.slice none 0 0)],(.int .i64 2),(.int .i64 pat)]) (by simp [results,Try.results26,go_sem,t0,t1]) rfl ⟨_,_,rfl,TypesV.nil _ _,FuncsV.nil _ _ _ _,hD⟩
     | false =>
      have hgo2:r2.1<=(k2:Int):=by
       rcases hgo' with h | h
       ·exact h
       ·exact absurd h.2 (by simp)
      clear hgo'
      by_cases hat:pat < b.size
      ·have hR:Hid (R=(2,(pat:Int),⟨[],[]⟩)):=by rw [HR'.out];simp [Hid,hat]
       clear HR'
       have hat':(pat:Int) < (b.size:Int):=by omega
       go_wp2
       go_region
       go_wp2
       have b3:=(pA.ob.set 0 (.slice none 0 0)).set 1 (.slice none 0 0)
       have hch4:=chg_set2 wr w.heap.size (.slice none 0 0) (.slice none 0 0)
       have b4:=b3.drew
       have hch5:=hch4.drew
       generalize ((wr.setCell ⟨w.heap.size,0,none⟩ ()).setCell ⟨w.heap.size,1,none⟩ ()).drew=wf at *
       have hD:Chg () w wf:=pA.ch.trans' hch5 (fun i hi e=>by omega)
       have hA:=hty.chg hch5 (fun g cs hb e=>hb.ne pA.ob (by decide) e) (fun g cs hb e=>hb.ne pA.ob (by decide) e)
       have hB:=hfv.chg hch5 (fun g cs hb e=>hb.ne pA.ob (by decide) e) (fun g cs hb e=>hb.ne pA.ob (by decide) e) (fun g cs hb e=>hb.ne pA.ob (by decide) e)
       have t0:wf.cell? ⟨w.heap.size,0,none⟩=some (.slice none 0 0):=b4.cell 0
       have t1:wf.cell? ⟨w.heap.size,1,none⟩=some (.slice none 0 0):=b4.cell 1
       rw [hR.out]
       exact bodyPost_ret (v:=.tuple #[.agg #[(.slice none 0 0),(.slice none 0 0)],(.int .i64 2),(.int .i64 pat)]) (by simp [results,Try.results26,go_sem,t0,t1]) rfl ⟨_,_,rfl,TypesV.nil _ _,FuncsV.nil _ _ _ _,hD⟩
      ·have hR:Hid (R=(0,0,⟨r1.1,fs⟩)):=by rw [HR'.out];simp [Hid,hat]
       clear HR'
       have hat':(b.size:Int)<=(pat:Int):=by omega
       go_wp2
       have b3:=(pA.ob.set 0 (.slice ta r1.1.length tc)).set 1 (.slice fa fs.length fc)
       have hch4:=chg_set2 wr w.heap.size (.slice ta r1.1.length tc) (.slice fa fs.length fc)
       have b4:=b3
       have hch5:=hch4
       generalize ((wr.setCell ⟨w.heap.size,0,none⟩ (.slice ta r1.1.length tc)).setCell ⟨w.heap.size,1,none⟩ (.slice fa fs.length fc))=wf at *
       have hD:Chg () w wf:=pA.ch.trans' hch5 (fun i hi e=>by omega)
       have hA:=hty.chg hch5 (fun g cs hb e=>hb.ne pA.ob (by decide) e) (fun g cs hb e=>hb.ne pA.ob (by decide) e)
       have hB:=hfv.chg hch5 (fun g cs hb e=>hb.ne pA.ob (by decide) e) (fun g cs hb e=>hb.ne pA.ob (by decide) e) (fun g cs hb e=>hb.ne pA.ob (by decide) e)
       have t0:wf.cell? ⟨w.heap.size,0,none⟩=some (.slice ta r1.1.length tc):=b4.cell 0
       have t1:wf.cell? ⟨w.heap.size,1,none⟩=some (.slice fa fs.length fc):=b4.cell 1
       rw [hR.out]
       exact bodyPost_ret (v:=.tuple #[.agg #[(.slice ta r1.1.length tc),(.slice fa fs.length fc)],(.int .i64 0),(.int .i64 0)]) (by simp [results,Try.results26,go_sem,t0,t1]) rfl ⟨_,_,rfl,hA,hB,hD⟩
def nxP (b:ByteArray):Int × Int × Pg:=
 let ns:=bl b
 let r0:=nx ns 0 6 (0,false)
 let r1:=nxT ns r0.1 r0.1.toNat r0.2
 let r2:=nx ns 1 6 r1.2
 let r3:=nxFs ns r1.1 r2.1 r2.1.toNat r2.2
 if r3.2.2=true \/ r3.2.1 < b.size then (2,(r3.2.1:Int),⟨[],[]⟩) else (0,0,⟨r1.1,r3.1⟩)
def nxD (b:ByteArray):Int × Int × Pg:=if 800 < b.size then (1,0,⟨[],[]⟩) else nxP b
theorem rdecode_any (b:ByteArray) (w:World) :
 Calls Try.prog 26 #[.string b] w fun e w' =>
  ∃ tv fv,e=.returned (.tuple #[.agg #[tv,fv],.int .i64 (nxD b).1,.int .i64 (nxD b).2.1])/\TypesV w' w.heap.size tv (nxD b).2.2.types/\FuncsV 107 131 w' w.heap.size fv (nxD b).2.2.funcs/\Chg () w w':=by
 by_cases h8:800 < b.size
 ·have ho:nxD b=(1,0,⟨[],[]⟩):=by unfold nxD;rw [if_pos h8]
  rw [ho]
  clear ho
  go_enter Try.func26,Try.ntmps26
  go_wp2
  exact bodyPost_ret (v:=.tuple #[.agg #[(),()],(1:Int),oO]) (by simp [results,Try.results26,go_sem]) rfl ⟨_,_,rfl,TypesV.nil _ _,FuncsV.nil _ _ _ _,fin_new0 _⟩
 ·have ho:nxD b=nxP b:=by unfold nxD;rw [if_neg h8]
  rw [ho]
  refine rdecode_core b w (by omega) _ _ _ rfl rfl rfl (nx_rng _ _ _ _ (by decide)) ?_ ?_ ?_ _ rfl
  ·have:=nx_rng (bl b) 1 6 (nxT (bl b) (nx (bl b) 0 6 (0,false)).1 (nx (bl b) 0 6 (0,false)).1.toNat (nx (bl b) 0 6 (0,false)).2).2 (by decide)
   omega
  ·rw [nxT_len];have:=nx_rng (bl b) 0 6 (0,false) (by decide);omega
  ·intro j;have:=nxT_small (bl b) (nx (bl b) 0 6 (0,false)).1 (nx (bl b) 0 6 (0,false)).1.toNat (nx (bl b) 0 6 (0,false)).2 j;omega
end Go.Proofs.Ytnfnbcbadakofab
namespace Go.Proofs.Ytnfnbcbadakofab
def Agree {α:Type} (p q:α × (Nat × Bool)):Prop:=p.2=q.2/\(q.2.2=false->p.1=q.1)
theorem Agree.bind {α β:Type} {p q:α × (Nat × Bool)} {F G:α->Nat × Bool->β × (Nat × Bool)} (h:Agree p q) (hF:∀ x s,s.2=true->(F x s).2=s) (hG:∀ x s,s.2=true->(G x s).2=s)
 (hFG:∀ x s,s.2=false->Agree (F x s) (G x s)):Agree (F p.1 p.2) (G q.1 q.2):=by
 obtain ⟨h1,h2⟩:=h
 cases hb:q.2.2 with
 | true =>
  have a:=hF p.1 p.2 (by rw [h1];exact hb)
  have b:=hG q.1 q.2 hb
  refine ⟨by rw [a,b,h1],fun e=>?_⟩
  rw [b,hb] at e;cases e
 | false =>
  rw [h1,h2 hb];exact hFG _ _ hb
theorem notor {s:Nat × Bool} {n:Nat} (h0:s.2=false) (h:s.1 < n):¬ (s.2=true \/ n<=s.1):=by
 rintro (h1 | h1)
 ·rw [h0] at h1;cases h1
 ·omega
theorem tk_stop (ns:List Int) (lo hi:Int) (s:Nat × Bool) (h:s.2=true):tk ns lo hi s=(0,s):=by
 unfold tk;rw [if_pos (.inl h)];obtain ⟨a,b⟩:=s;simp at h;rw [h]
theorem tk_nx (ns:List Int) (lo hi:Int) (s:Nat × Bool):Agree (tk ns lo hi s) (nx ns lo hi s):=by
 rcases nx_cases ns lo hi s with ⟨h0,e⟩ | ⟨h0,h1,e⟩ | ⟨h0,h1,h2,h3,e⟩
 ·rw [e,tk_stop ns lo hi s h0];exact ⟨rfl,fun h=>by rw [h0] at h;cases h⟩
 ·rw [e]
  unfold tk
  rcases h1 with h1 | h1
  ·rw [if_pos (.inr h1)];exact ⟨rfl,fun h=>by cases h⟩
  ·by_cases hl:ns.length<=s.1
   ·rw [if_pos (.inr hl)];exact ⟨rfl,fun h=>by cases h⟩
   ·rw [if_neg (notor h0 (by omega)),if_pos h1];exact ⟨rfl,fun h=>by cases h⟩
 ·rw [e]
  unfold tk
  rw [if_neg (notor h0 h1),if_neg (by omega)];exact ⟨rfl,fun _=>rfl⟩
theorem tk_nx255 (ns:List Int) (hns:∀ j,0<=ns.getD j 0/\ns.getD j 0<=255) (lo hi:Int) (s:Nat × Bool):Agree (tk ns lo hi s) ((nx ns 0 255 s).1,fixS (nx ns 0 255 s).2 (wB (nx ns 0 255 s).1 lo hi)):=by
 rcases nx_cases ns 0 255 s with ⟨h0,e⟩ | ⟨h0,h1,e⟩ | ⟨h0,h1,h2,h3,e⟩
 ·rw [e,tk_stop ns lo hi s h0]
  have:fixS s (wB 0 lo hi)=s:=by simp [fixS,h0]
  simp only [this]
  exact ⟨rfl,fun _=>rfl⟩
 ·have:=hns s.1
  have hl:ns.length<=s.1:=by omega
  rw [e]
  unfold tk
  rw [if_pos (.inr hl)]
  exact ⟨by simp [fixS],fun h=>by simp [fixS] at h⟩
 ·rw [e]
  unfold tk
  rw [if_neg (notor h0 (by omega))]
  by_cases hb:ns.getD s.1 0 < lo \/ hi < ns.getD s.1 0
  ·rw [if_pos hb]
   have:wB (ns.getD s.1 0) lo hi=false:=by simp only [wB];rw [Bool.and_eq_false_iff];simp only [decide_eq_false_iff_not];omega
   simp only [this]
   exact ⟨by simp [fixS],fun h=>by simp [fixS] at h⟩
  ·rw [if_neg hb]
   have:wB (ns.getD s.1 0) lo hi=true:=by simp only [wB];rw [Bool.and_eq_true_iff];simp only [decide_eq_true_eq];omega
   simp only [this]
   exact ⟨by simp [fixS],fun h=>by simp⟩
theorem tkL_stop (ns:List Int) (hi:Int) (k:Nat) (s:Nat × Bool) (h:s.2=true):(tkL ns hi k s).2=s:=by
 induction k with
 | zero=>rfl
 | succ k ih=>simp only [tkL,ih];rw [tk_stop ns 0 hi s h]
theorem nxL_stop (ns:List Int) (hi:Int) (k:Nat) (s:Nat × Bool) (h:s.2=true):(nxL ns hi k s).2=s:=by
 induction k with
 | zero=>rfl
 | succ k ih=>simp only [nxL,ih];rw [nx_stop ns 0 hi s h]
theorem tkL_nxL (ns:List Int) (hi:Int) (k:Nat) (s:Nat × Bool):Agree (tkL ns hi k s) (nxL ns hi k s):=by
 induction k with
 | zero=>exact ⟨rfl,fun _=>rfl⟩
 | succ k ih =>
  refine Agree.bind (F:=fun l s=>(l++[(tk ns 0 hi s).1],(tk ns 0 hi s).2)) (G:=fun l s=>(l++[(nx ns 0 hi s).1],(nx ns 0 hi s).2)) ih (fun x s h=>by simp only [tk_stop ns 0 hi s h]) (fun x s h=>by simp only [nx_stop ns 0 hi s h]) (fun x s _=>?_)
  have:=tk_nx ns 0 hi s
  exact ⟨this.1,fun h=>by simp only [this.2 h]⟩
section
variable (ns:List Int) (ls:List (List Int)) (fu lo co:Int)
theorem tkI_stop (s:Nat × Bool) (h:s.2=true):(tkI ns ls fu lo co s).2=s:=by
 simp only [tkI,tk_stop ns _ _ s h]
theorem fixS_stop (s:Nat × Bool) (g:Bool) (h:s.2=true):fixS s g=s:=by simp [fixS,h]
theorem tkI_nxI (hns:∀ j,0<=ns.getD j 0/\ns.getD j 0<=255) (s:Nat × Bool):Agree (tkI ns ls fu lo co s) (nxI ns ls fu lo co s):=by
 refine Agree.bind
  (F:=fun op s=>let r2:=tk ns (bA ls.length fu lo co op).1 (bA ls.length fu lo co op).2 s;let r3:=tk ns 0 (gB ls op r2.1) r2.2;((op,r2.1,r3.1),r3.2))
  (G:=fun op s=>let q2:=nx ns 0 255 s;let q3:=nx ns 0 255 (fixS q2.2 (wB q2.1 (bA ls.length fu lo co op).1 (bA ls.length fu lo co op).2));((op,q2.1,q3.1),fixS q3.2 (wB q3.1 0 (gB ls op q2.1))))
  (tk_nx ns 0 18 s) (fun x s h=>by simp only [tk_stop ns _ _ s h]) (fun x s h=>by simp only [nx_stop ns _ _ s h,fixS_stop s _ h]) (fun op s _=>?_)
 refine Agree.bind (p:=tk ns (bA ls.length fu lo co op).1 (bA ls.length fu lo co op).2 s) (q:=((nx ns 0 255 s).1,fixS (nx ns 0 255 s).2 (wB (nx ns 0 255 s).1 (bA ls.length fu lo co op).1 (bA ls.length fu lo co op).2)))
  (F:=fun a s=>let r3:=tk ns 0 (gB ls op a) s;((op,a,r3.1),r3.2))
  (G:=fun a s=>let q3:=nx ns 0 255 s;((op,a,q3.1),fixS q3.2 (wB q3.1 0 (gB ls op a))))
  (tk_nx255 ns hns _ _ s) (fun x s h=>by simp only [tk_stop ns _ _ s h]) (fun x s h=>by simp only [nx_stop ns _ _ s h,fixS_stop s _ h]) (fun a s _=>?_)
 have:=tk_nx255 ns hns 0 (gB ls op a) s
 exact ⟨this.1,fun h=>by simp only [this.2 h]⟩
theorem tkC_stop (k:Nat) (s:Nat × Bool) (h:s.2=true):(tkC ns ls fu lo co k s).2=s:=by
 induction k with
 | zero=>rfl
 | succ k ih=>simp only [tkC,ih];exact tkI_stop ns ls fu lo co s h
theorem nxC_stop0 (k:Nat) (s:Nat × Bool) (h:s.2=true):(nxC ns ls fu lo co k s).2=s:=by
 induction k with
 | zero=>rfl
 | succ k ih=>rw [nxC,if_pos (by rw [ih];exact h)];exact ih
theorem tkC_nxC (hns:∀ j,0<=ns.getD j 0/\ns.getD j 0<=255) (k:Nat) (s:Nat × Bool):Agree (tkC ns ls fu lo co k s) (nxC ns ls fu lo co k s):=by
 induction k with
 | zero=>exact ⟨rfl,fun _=>rfl⟩
 | succ k ih =>
  refine Agree.bind (F:=fun l s=>(l++[(tkI ns ls fu lo co s).1],(tkI ns ls fu lo co s).2)) (G:=fun l s=>if s.2=true then (l,s) else (l++[(nxI ns ls fu lo co s).1],(nxI ns ls fu lo co s).2)) ih
   (fun x s h=>tkI_stop ns ls fu lo co s h) (fun x s h=>by simp only [h,if_true]) (fun x s h=>?_)
  have:=tkI_nxI ns ls fu lo co hns s
  rw [if_neg (by simp [h])]
  exact ⟨this.1,fun h=>by simp only [this.2 h]⟩
theorem tkF_stop (f:Bool) (s:Nat × Bool) (h:s.2=true):(tkF ns ls fu f s).2=s:=by
 simp only [tkF,tk_stop ns _ _ s h,tkL_stop ns _ _ s h,tkC_stop ns _ _ _ _ _ s h]
theorem tkF_nxF (hns:∀ j,0<=ns.getD j 0/\ns.getD j 0<=255) (f:Bool) (s:Nat × Bool):Agree (tkF ns ls fu f s) (nxF ns ls fu f s):=by
 refine Agree.bind
  (F:=fun a s=>let r2:=tk ns a 8 s;let r3:=tkL ns ls.length r2.1.toNat r2.2;let r4:=tk ns 0 (if f then 0 else ls.length) r3.2;let r5:=tk ns 1 64 r4.2;let r6:=tkC ns ls fu r2.1 r5.1 r5.1.toNat r5.2;(Fn.mk a r3.1 r4.1 r6.1,r6.2))
  (G:=fun a s=>let r2:=nx ns a 8 s;let r3:=nxL ns ls.length r2.1.toNat r2.2;let r4:=nx ns 0 (if f then 0 else ls.length) r3.2;let r5:=nx ns 1 64 r4.2;let r6:=nxC ns ls fu r2.1 r5.1 r5.1.toNat r5.2;(Fn.mk a r3.1 r4.1 r6.1,r6.2))
  (tk_nx ns 0 _ s) (fun x s h=>by simp only [tk_stop ns _ _ s h,tkL_stop ns _ _ s h,tkC_stop ns _ _ _ _ _ s h]) (fun x s h=>by simp only [nx_stop ns _ _ s h,nxL_stop ns _ _ s h,nxC_stop0 ns _ _ _ _ _ s h]) (fun a s _=>?_)
 refine Agree.bind
  (F:=fun n s=>let r3:=tkL ns ls.length n.toNat s;let r4:=tk ns 0 (if f then 0 else ls.length) r3.2;let r5:=tk ns 1 64 r4.2;let r6:=tkC ns ls fu n r5.1 r5.1.toNat r5.2;(Fn.mk a r3.1 r4.1 r6.1,r6.2))
  (G:=fun n s=>let r3:=nxL ns ls.length n.toNat s;let r4:=nx ns 0 (if f then 0 else ls.length) r3.2;let r5:=nx ns 1 64 r4.2;let r6:=nxC ns ls fu n r5.1 r5.1.toNat r5.2;(Fn.mk a r3.1 r4.1 r6.1,r6.2))
  (tk_nx ns a 8 s) (fun x s h=>by simp only [tk_stop ns _ _ s h,tkL_stop ns _ _ s h,tkC_stop ns _ _ _ _ _ s h]) (fun x s h=>by simp only [nx_stop ns _ _ s h,nxL_stop ns _ _ s h,nxC_stop0 ns _ _ _ _ _ s h]) (fun n s _=>?_)
 refine Agree.bind
  (F:=fun l s=>let r4:=tk ns 0 (if f then 0 else ls.length) s;let r5:=tk ns 1 64 r4.2;let r6:=tkC ns ls fu n r5.1 r5.1.toNat r5.2;(Fn.mk a l r4.1 r6.1,r6.2))
  (G:=fun l s=>let r4:=nx ns 0 (if f then 0 else ls.length) s;let r5:=nx ns 1 64 r4.2;let r6:=nxC ns ls fu n r5.1 r5.1.toNat r5.2;(Fn.mk a l r4.1 r6.1,r6.2))
  (tkL_nxL ns _ _ s) (fun x s h=>by simp only [tk_stop ns _ _ s h,tkC_stop ns _ _ _ _ _ s h]) (fun x s h=>by simp only [nx_stop ns _ _ s h,nxC_stop0 ns _ _ _ _ _ s h]) (fun l s _=>?_)
 refine Agree.bind
  (F:=fun r s=>let r5:=tk ns 1 64 s;let r6:=tkC ns ls fu n r5.1 r5.1.toNat r5.2;(Fn.mk a l r r6.1,r6.2))
  (G:=fun r s=>let r5:=nx ns 1 64 s;let r6:=nxC ns ls fu n r5.1 r5.1.toNat r5.2;(Fn.mk a l r r6.1,r6.2))
  (tk_nx ns 0 _ s) (fun x s h=>by simp only [tk_stop ns _ _ s h,tkC_stop ns _ _ _ _ _ s h]) (fun x s h=>by simp only [nx_stop ns _ _ s h,nxC_stop0 ns _ _ _ _ _ s h]) (fun r s _=>?_)
 refine Agree.bind
  (F:=fun c s=>let r6:=tkC ns ls fu n c c.toNat s;(Fn.mk a l r r6.1,r6.2))
  (G:=fun c s=>let r6:=nxC ns ls fu n c c.toNat s;(Fn.mk a l r r6.1,r6.2))
  (tk_nx ns 1 64 s) (fun x s h=>by simp only [tkC_stop ns _ _ _ _ _ s h]) (fun x s h=>by simp only [nxC_stop0 ns _ _ _ _ _ s h]) (fun c s _=>?_)
 have:=tkC_nxC ns ls fu n c hns c.toNat s
 exact ⟨this.1,fun h=>by simp only [this.2 h]⟩
theorem tkFs_stop (k:Nat) (s:Nat × Bool) (h:s.2=true):(tkFs ns ls fu k s).2=s:=by
 induction k with
 | zero=>rfl
 | succ k ih=>simp only [tkFs,ih];exact tkF_stop ns ls fu _ s h
theorem nxFs_stop0 (k:Nat) (s:Nat × Bool) (h:s.2=true):(nxFs ns ls fu k s).2=s:=by
 induction k with
 | zero=>rfl
 | succ k ih=>simp only [nxFs];rw [if_pos (by rw [ih];exact h)];exact ih
theorem tkFs_nxFs (hns:∀ j,0<=ns.getD j 0/\ns.getD j 0<=255) (k:Nat) (s:Nat × Bool):Agree (tkFs ns ls fu k s) (nxFs ns ls fu k s):=by
 induction k with
 | zero=>exact ⟨rfl,fun _=>rfl⟩
 | succ k ih =>
  refine Agree.bind (F:=fun l s=>(l++[(tkF ns ls fu (k == 0) s).1],(tkF ns ls fu (k == 0) s).2)) (G:=fun l s=>if s.2=true then (l,s) else (l++[(nxF ns ls fu (k == 0) s).1],(nxF ns ls fu (k == 0) s).2)) ih
   (fun x s h=>tkF_stop ns ls fu _ s h) (fun x s h=>by simp only [h,if_true]) (fun x s h=>?_)
  have:=tkF_nxF ns ls fu hns (k == 0) s
  rw [if_neg (by simp [h])]
  exact ⟨this.1,fun h=>by simp only [this.2 h]⟩
end
theorem tkT_stop (ns:List Int) (n:Int) (k:Nat) (s:Nat × Bool) (h:s.2=true):(tkT ns n k s).2=s:=by
 induction k with
 | zero=>rfl
 | succ k ih=>simp only [tkT,ih,tk_stop ns _ _ s h,tkL_stop ns _ _ s h]
theorem nxT_stop (ns:List Int) (n:Int) (k:Nat) (s:Nat × Bool) (h:s.2=true):(nxT ns n k s).2=s:=by
 induction k with
 | zero=>rfl
 | succ k ih=>simp only [nxT,ih,nx_stop ns _ _ s h,nxL_stop ns _ _ s h]
theorem tkT_nxT (ns:List Int) (n:Int) (k:Nat) (s:Nat × Bool):Agree (tkT ns n k s) (nxT ns n k s):=by
 induction k with
 | zero=>exact ⟨rfl,fun _=>rfl⟩
 | succ k ih =>
  refine Agree.bind (F:=fun l s=>let c:=tk ns 0 5 s;let m:=tkL ns n c.1.toNat c.2;(l++[m.1],m.2)) (G:=fun l s=>let c:=nx ns 0 5 s;let m:=nxL ns n c.1.toNat c.2;(l++[m.1],m.2)) ih
   (fun x s h=>by simp only [tk_stop ns _ _ s h,tkL_stop ns _ _ s h]) (fun x s h=>by simp only [nx_stop ns _ _ s h,nxL_stop ns _ _ s h]) (fun l s _=>?_)
  refine Agree.bind (F:=fun c s=>let m:=tkL ns n c.toNat s;(l++[m.1],m.2)) (G:=fun c s=>let m:=nxL ns n c.toNat s;(l++[m.1],m.2)) (tk_nx ns 0 5 s)
   (fun x s h=>by simp only [tkL_stop ns _ _ s h]) (fun x s h=>by simp only [nxL_stop ns _ _ s h]) (fun c s _=>?_)
  have:=tkL_nxL ns n c.toNat s
  exact ⟨this.1,fun h=>by simp only [this.2 h]⟩
def nxPg (ns:List Int) (s:Nat × Bool):Pg × (Nat × Bool):=
 let r0:=nx ns 0 6 s
 let r1:=nxT ns r0.1 r0.1.toNat r0.2
 let r2:=nx ns 1 6 r1.2
 let r3:=nxFs ns r1.1 r2.1 r2.1.toNat r2.2
 (⟨r1.1,r3.1⟩,r3.2)
theorem tkP_nxPg (ns:List Int) (hns:∀ j,0<=ns.getD j 0/\ns.getD j 0<=255) (s:Nat × Bool):Agree (tkP ns s) (nxPg ns s):=by
 refine Agree.bind
  (F:=fun n s=>let r1:=tkT ns n n.toNat s;let r2:=tk ns 1 6 r1.2;let r3:=tkFs ns r1.1 r2.1 r2.1.toNat r2.2;(Pg.mk r1.1 r3.1,r3.2))
  (G:=fun n s=>let r1:=nxT ns n n.toNat s;let r2:=nx ns 1 6 r1.2;let r3:=nxFs ns r1.1 r2.1 r2.1.toNat r2.2;(Pg.mk r1.1 r3.1,r3.2))
  (tk_nx ns 0 6 s) (fun x s h=>by simp only [tkT_stop ns _ _ s h,tk_stop ns _ _ s h,tkFs_stop ns _ _ _ s h]) (fun x s h=>by simp only [nxT_stop ns _ _ s h,nx_stop ns _ _ s h,nxFs_stop0 ns _ _ _ s h]) (fun n s _=>?_)
 refine Agree.bind
  (F:=fun ls s=>let r2:=tk ns 1 6 s;let r3:=tkFs ns ls r2.1 r2.1.toNat r2.2;(Pg.mk ls r3.1,r3.2))
  (G:=fun ls s=>let r2:=nx ns 1 6 s;let r3:=nxFs ns ls r2.1 r2.1.toNat r2.2;(Pg.mk ls r3.1,r3.2))
  (tkT_nxT ns n _ s) (fun x s h=>by simp only [tk_stop ns _ _ s h,tkFs_stop ns _ _ _ s h]) (fun x s h=>by simp only [nx_stop ns _ _ s h,nxFs_stop0 ns _ _ _ s h]) (fun ls s _=>?_)
 refine Agree.bind
  (F:=fun c s=>let r3:=tkFs ns ls c c.toNat s;(Pg.mk ls r3.1,r3.2))
  (G:=fun c s=>let r3:=nxFs ns ls c c.toNat s;(Pg.mk ls r3.1,r3.2))
  (tk_nx ns 1 6 s) (fun x s h=>by simp only [tkFs_stop ns _ _ _ s h]) (fun x s h=>by simp only [nxFs_stop0 ns _ _ _ s h]) (fun c s _=>?_)
 have:=tkFs_nxFs ns ls c hns c.toNat s
 exact ⟨this.1,fun h=>by simp only [this.2 h]⟩
theorem bl_byte (s:ByteArray) (j:Nat):0<=(bl s).getD j 0/\(bl s).getD j 0<=255:=by
 by_cases h:j < s.size
 ·rw [bl_get s j h];have:=s[j].toNat_lt;omega
 ·rw [List.getD_eq_getElem?_getD,List.getElem?_eq_none (by rw [bl_len];omega)];decide
theorem opn_nxD (s:ByteArray):opn s=nxD s:=by
 unfold opn nxD
 by_cases h:800 < s.size
 ·rw [if_pos h,if_pos h]
 ·rw [if_neg h,if_neg h]
  obtain ⟨h1,h2⟩:=tkP_nxPg (bl s) (bl_byte s) (0,false)
  have e:nxP s=if (nxPg (bl s) (0,false)).2.2=true \/ (nxPg (bl s) (0,false)).2.1 < s.size then (2,((nxPg (bl s) (0,false)).2.1:Int),⟨[],[]⟩) else (0,0,(nxPg (bl s) (0,false)).1):=rfl
  have e2:rdP (bl s)=if (tkP (bl s) (0,false)).2.2=true \/ (tkP (bl s) (0,false)).2.1 < (bl s).length then (2,((tkP (bl s) (0,false)).2.1:Int),⟨[],[]⟩) else (0,0,(tkP (bl s) (0,false)).1):=rfl
  rw [e,e2,h1,bl_len]
  by_cases hc:(nxPg (bl s) (0,false)).2.2=true \/ (nxPg (bl s) (0,false)).2.1 < s.size
  ·rw [if_pos hc,if_pos hc]
  ·rw [if_neg hc,if_neg hc,h2 (by cases hb:(nxPg (bl s) (0,false)).2.2 with | true=>exact absurd (.inl hb) hc | false=>rfl)]
end Go.Proofs.Ytnfnbcbadakofab
namespace Go.Proofs.Ytnfnbcbadakofab
open Go.RowKit
set_option maxHeartbeats 1000000
set_option maxRecDepth 100000
theorem sameInts_core (a1 a2:Option Addr) (g1 g2 c1 c2:Nat) (l:List Int) (w:World) (hl:l.length<=10000) (ha:0 < l.length->a1=some ⟨g1,0,none⟩/\a2=some ⟨g2,0,none⟩)
 (h1:∀ j,j < l.length->w.cell? ⟨g1,j,none⟩=some (.int .i64 (l.getD j 0))) (h2:∀ j,j < l.length->w.cell? ⟨g2,j,none⟩=some (.int .i64 (l.getD j 0))) :
 Calls Try.prog 18 #[.slice a1 l.length c1,.slice a2 l.length c2] w fun e w'=>e=.returned (.bool true)/\∃ n,w'=w.drewN n:=by
 go_enter Try.func18,Try.ntmps18
 go_wp2
 go_loopw [5] (fun i wr=>∃ k:Nat,k<=l.length/\i=.int .i64 k/\∃ n,wr=w.drewN n) (fun i _=>l.length - (intOf i).toNat)
 case atStart=>exact ⟨0,Nat.zero_le _,rfl,0,rfl⟩
 case round =>
  obtain ⟨k,hk,rfl,n,rfl⟩:=hrel
  by_cases hlt:k < l.length
  ·obtain ⟨rfl,rfl⟩:=ha (by omega)
   have y1:=h1 k hlt
   have y2:=h2 k hlt
   have hlt':(k:Int) < (l.length:Int):=by omega
   generalize l.getD k 0=x at *
   clear h1 h2 ha
   go_wp2
   go_quiet (fail)
   go_wp2
   exact ⟨⟨k+1,by omega,rfl,_,rfl⟩,by simp [intOf];omega⟩
  ·go_wp2
   go_ret
   exact ⟨rfl,n,rfl⟩
theorem sameInts_true (v1 v2:Value) (b1 b2:Nat) (l:List Int) (w:World) (hl:l.length<=10000) (h1:IntsV w b1 v1 l) (h2:IntsV w b2 v2 l) :
 Calls Try.prog 18 #[v1,v2] w fun e w'=>e=.returned (.bool true)/\∃ n,w'=w.drewN n:=by
 by_cases h0:0 < l.length
 ·obtain ⟨g1,c1,rfl,_,_,_,k1⟩:=h1.form h0
  obtain ⟨g2,c2,rfl,_,_,_,k2⟩:=h2.form h0
  exact sameInts_core _ _ g1 g2 c1 c2 l w hl (fun _=>⟨rfl,rfl⟩) k1 k2
 ·obtain ⟨a1,c1,rfl⟩:=h1.slice
  obtain ⟨a2,c2,rfl⟩:=h2.slice
  exact sameInts_core a1 a2 0 0 c1 c2 l w hl (fun h=>absurd h h0) (fun j hj=>by omega) (fun j hj=>by omega)
theorem InsV.form {eI:TypeId} {w:World} {base:Nat} {v:Value} {c:List (Int × Int × Int)} (h:InsV eI w base v c) (hl:0 < c.length) :
 ∃ g cap,v=.slice (some ⟨g,0,none⟩) c.length cap/\base<=g/\c.length<=cap/\cap<=maxLen/\(∀ j (hj:j < c.length),w.cell? ⟨g,j * 3,none⟩=some (.int .i64 c[j].1)/\w.cell? ⟨g,j * 3+1,none⟩=some (.int .i64 c[j].2.1)/\w.cell? ⟨g,j * 3+2,none⟩=some (.int .i64 c[j].2.2)):=by
 have hc:=fun g=>World.ownsRow.cells (g:=g) h
 rcases h.2 with ⟨_,h0⟩ | ⟨g,cap,cur,rfl,hb,hgg,hle,hcap,_⟩
 ·omega
 ·refine ⟨g,cap,rfl,hb,hle,hcap,fun j hj=>?_⟩
  have hadd:∀ j,(⟨g,0,none⟩:Addr).add j=⟨g,j,none⟩:=by intro j;unfold Addr.add;split <;> simp_all
  have key:∀ (c:List (Int × Int × Int)) (j:Nat) (hj:j < c.length),(insC c)[j * 3]?=some (.int .i64 c[j].1)/\(insC c)[j * 3+1]?=some (.int .i64 c[j].2.1)/\(insC c)[j * 3+2]?=some (.int .i64 c[j].2.2):=by
   intro c
   induction c with
   | nil=>intro j hj;simp at hj
   | cons x c ih =>
    intro j hj
    have e:insC (x::c)=.int .i64 x.1::.int .i64 x.2.1::.int .i64 x.2.2::insC c:=by simp [insC]
    rcases j with _ | j
    ·rw [e];simp
    ·have:=ih j (by simpa using hj)
     rw [e,show (j+1) * 3=j * 3+3 by omega]
     simpa using this
  obtain ⟨k1,k2,k3⟩:=key c j hj
  have a1:=hc g rfl _ _ k1
  have a2:=hc g rfl _ _ k2
  have a3:=hc g rfl _ _ k3
  rw [hadd] at a1 a2 a3
  exact ⟨a1,a2,a3⟩
end Go.Proofs.Ytnfnbcbadakofab
