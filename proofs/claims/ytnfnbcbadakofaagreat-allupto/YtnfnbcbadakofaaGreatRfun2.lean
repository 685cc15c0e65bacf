import Derived.Test.YtnfnbcbadakofaaGreatRfun
namespace Go.Proofs.YtnfnbcbadakofaaGreat
open Go.RowKit
theorem gE (w:World) (rb:Nat) (x y:Value):Chg (fun k=>k=rb) w ((w.setCell ⟨rb,2,none⟩ x).setCell ⟨rb,1,none⟩ y):=by
 have h0:Chg (fun k=>k=rb) w w:=Chg.refl _ w
 have h1:=h0.setCell ⟨rb,2,none⟩ x (Or.inl rfl)
 exact h1.setCell ⟨rb,1,none⟩ y (Or.inl rfl)
theorem lJ {w:World} {rb:Nat} {b:ByteArray} {p:Nat} {st:Bool} (h:RR w rb b (p,st)) (hp:1<=p):RR ((w.setCell ⟨rb,2,none⟩ (.bool false)).setCell ⟨rb,1,none⟩ ((p:Int) - 1:Int)) rb b (p - 1,true):=by
 have h2:=(Blk.set h 2 (.bool false)).set 1 (.int .i64 ((p:Int) - 1))
 have e:((p:Int) - 1)=((p - 1:Nat):Int):=by omega
 rw [e] at h2 ⊢
 exact h2
theorem qZ {ls:List (List Int)} {fu lo co op x:Int} (h:wB x (bA ls.length fu lo co op).1 (bA ls.length fu lo co op).2=true):(op=8 \/ op=9)->1<=x/\x<=ls.length:=by
 intro hop
 have e:bA ls.length fu lo co op=(1,(ls.length:Int)):=by unfold bA;rw [if_neg (by omega),if_neg (by omega),if_pos (by omega)]
 rw [e] at h
 simp [wB] at h
 exact h
theorem dR {w w8:World} {rb:Nat} {b:ByteArray} {base:Nat} {tv fv:Value} {ls:List (List Int)} {fu lo co:Int} {k gb:Nat} {s0:Nat × Bool} {C:List (Int × Int × Int) × (Nat × Bool)} {q1 q2 q3:Int × (Nat × Bool)} {S3:Nat × Bool}
 {v':Value} {A L R cv0:Value} {l:List Int}
 (HC:Hid (nxC (bl b) ls fu lo co k s0=C)) (hst0:C.2.2=false) (Hq1:Hid (nx (bl b) 0 18 C.2=q1)) (Hq2:Hid (nx (bl b) 0 255 q1.2=q2))
 (Hq3:Hid (nx (bl b) 0 255 (cC q2.2 (wB q2.1 (bA ls.length fu lo co q1.1).1 (bA ls.length fu lo co q1.1).2))=q3)) (HS:cC q3.2 (wB q3.1 0 (gB ls q1.1 q2.1))=S3)
 (gY:GS w w8 rb b S3 base tv fv ls) (gbY:Blk w8 gb #[A,L,R,cv0] 93) (hgb:w.heap.size+2<=gb) (hlvY:ad w8 w.heap.size L l)
 (hown:w8.ownsRow w.heap.size 107 3 v' (C.1.length+1) (im C.1++[.int .i64 q1.1,.int .i64 q2.1,.int .i64 q3.1])) (hlt:(k:Int) < co) :
 (∃ k1:Nat,k1<=co.toNat/\Value.int .i64 ((k:Int)+1)=Value.int .i64 (k1:Int)/\∃ cv,GS w (w8.setCell ⟨gb,3,none⟩ v') rb b (nxC (bl b) ls fu lo co k1 s0).2 base tv fv ls/\Blk (w8.setCell ⟨gb,3,none⟩ v') gb #[A,L,R,cv] 93 /\
   bG 107 (w8.setCell ⟨gb,3,none⟩ v') w.heap.size cv (nxC (bl b) ls fu lo co k1 s0).1/\ad (w8.setCell ⟨gb,3,none⟩ v') w.heap.size L l) /\
 co.toNat - (intOf (Value.int .i64 ((k:Int)+1))).toNat < co.toNat - (intOf (Value.int .i64 (k:Int))).toNat:=by
 have e1:nxC (bl b) ls fu lo co (k+1) s0=(C.1++[(q1.1,q2.1,q3.1)],S3):=by
  rw [nxC,HC.out,if_neg (by simp [hst0])]
  have e2:nxI (bl b) ls fu lo co C.2=((q1.1,q2.1,q3.1),S3):=by
   unfold nxI
   simp only [Hq1.out,Hq2.out,Hq3.out,HS]
  rw [e2]
 refine ⟨⟨k+1,by omega,rfl,v',?_,gbY.set 3 v',?_,hlvY.set gbY (by decide) 3 v'⟩,by simp [intOf];omega⟩
 ·rw [e1];exact gY.setG gbY hgb 3 v'
 ·rw [e1]
  unfold bG
  rw [iM,List.length_append]
  exact aH hown _ _ (ao hown gbY (by decide))
set_option maxHeartbeats 1000000 in
set_option maxRecDepth 100000 in
theorem mJ (rb:Nat) (b:ByteArray) (s:Nat × Bool) (a fa:Option Addr) (cap nf fcap:Nat) (ls:List (List Int)) (fu place:Int) (w:World) (base:Nat) (h:RR w rb b s) (hl:b.size<=10000) (ht:ai w base (.slice a ls.length cap) ls)
 (hn:ls.length<=10000) (hls:∀ j,(ls.getD j []).length<=10000) (hfu:0<=fu) (hfu2:fu<=10000)
 (ma gr:Int) (hp:((place == 0)=true/\ma=0/\gr=0) \/ ((place == 0)=false/\ma=4/\gr=ls.length))
 (r1 r2 r4 r5:Int × (Nat × Bool)) (r3:List Int × (Nat × Bool)) (H1:Hid (nx (bl b) 0 ma s=r1)) (H2:Hid (nx (bl b) r1.1 8 r1.2=r2)) (H3:Hid (nxL (bl b) ls.length r2.1.toNat r2.2=r3)) (H4:Hid (nx (bl b) 0 gr r3.2=r4)) (H5:Hid (nx (bl b) 1 64 r4.2=r5))
 (h2:0<=r2.1/\r2.1<=8) (h5:0<=r5.1/\r5.1<=64) :
 Calls Tryz.prog 43 #[.pointer rb,.agg #[.slice a ls.length cap,.slice fa nf fcap],place,fu] w fun e w' =>
  ∃ lv cv,e=.returned (.agg #[r1.1,lv,r4.1,cv])/\ad w' w.heap.size lv r3.1/\bG 107 w' w.heap.size cv (nxC (bl b) ls fu r2.1 r5.1 r5.1.toNat r5.2).1 /\
   RR w' rb b (nxC (bl b) ls fu r2.1 r5.1 r5.1.toNat r5.2).2/\Chg (fun k=>k=rb) w w':=by
 obtain ⟨i,hi1,hi2,hi3,hi4⟩:=sR
 have Hi1:=hid hi1
 have Hi2:=hid hi2
 have Hi3:=hid hi3
 have Hi4:=hid hi4
 clear hi1 hi2 hi3 hi4
 rcases hp with ⟨hp,rfl,rfl⟩ | ⟨hp,rfl,rfl⟩
 all_goals
  go_enter Tryz.func43,Tryz.ntmps43
  go_wp2_with fail
  have f0:=GS.begin (fv:=.slice fa nf fcap) h ht
  refine (bL rb b _ _ _ _ f0.rr hl).mono ?_
  rw [H1.out]
  rintro e w1 ⟨rfl,hrs,hch⟩
  have f1:=f0.step hch hrs
  clear f0 hrs hch
  go_wp2_with fail
  refine (bL rb b _ _ _ _ f1.rr hl).mono ?_
  rw [H2.out]
  rintro e w2 ⟨rfl,hrs,hch⟩
  have f2:=f1.step hch hrs
  clear f1 hrs hch
  have y0:w2.cell? ⟨w.heap.size,0,none⟩=some (.slice a ls.length cap):=f2.pb.cell 0
  have hltp:=f2.pb.lt
  go_wp2_with fail
  have gb0:=Blk.new w2 #[.int .i64 r1.1,.slice none 0 0,.int .i64 0,.slice none 0 0] 93
  have f3:=f2.new (bi (Obj.cells #[r1.1,(),oO,()] 93))
  have hgb:w.heap.size+2<=w2.heap.size:=by have:=f2.ob.lt;omega
  clear y0 f2
  generalize w2.alloc (Obj.cells #[r1.1,(),oO,()] 93)=w3 at *
  generalize w2.heap.size=gb at *
  refine (eU rb b _ _ _ _ f3.rr hl (by omega)).mono ?_
  rw [H3.out]
  rintro e w4 ⟨lv,rfl,hlv0,hrs,hch⟩
  have f4:=f3.step hch hrs
  have gb1:=gb0.chg hch (by have:=f3.hr;omega)
  have hlv:ad w4 w.heap.size lv r3.1:=am hlv0 f3.ch.size
  clear f3 hrs hch hlv0 gb0
  obtain ⟨la,lc,rfl⟩:=hlv.slice
  have z0:=gb1.frozen 1
  have y0:w4.cell? ⟨gb,1,none⟩=some (.slice none 0 0):=gb1.cell 1
  have hgn:w.heap.size ≠ gb:=by omega
  have y1:w4.cell? ⟨w.heap.size,0,none⟩=some (.slice a ls.length cap):=f4.pb.cell 0
  go_wp2_with fail
  have f5:=f4.setG gb1 hgb 1 (.slice la r3.1.length lc)
  have gb2:=gb1.set 1 (.slice la r3.1.length lc)
  have hlv1:=hlv.set gb1 (by decide) 1 (.slice la r3.1.length lc)
  clear z0 y0 y1 f4 gb1 hlv
  refine (bL rb b _ _ _ _ f5.rr hl).mono ?_
  rw [H4.out]
  rintro e w5 ⟨rfl,hrs,hch⟩
  have f6:=f5.step hch hrs
  have gb3:=gb2.chg hch (by have:=f5.hr;omega)
  have hlv2:=hlv1.rr f5.rr hch
  clear f5 hrs hch gb2 hlv1
  have z0:=gb3.frozen 2
  have y0:w5.cell? ⟨gb,2,none⟩=some (.int .i64 0):=gb3.cell 2
  go_wp2_with fail
  have f7:=f6.setG gb3 hgb 2 (.int .i64 r4.1)
  have gb4:=gb3.set 2 (.int .i64 r4.1)
  have hlv3:=hlv2.set gb3 (by decide) 2 (.int .i64 r4.1)
  clear z0 y0 f6 gb3 hlv2
  refine (bL rb b _ _ _ _ f7.rr hl).mono ?_
  rw [H5.out]
  rintro e w6 ⟨rfl,hrs,hch⟩
  have f8:=f7.step hch hrs
  have gb5:=gb4.chg hch (by have:=f7.hr;omega)
  have hlv4:=hlv3.rr f7.rr hch
  clear f7 hrs hch gb4 hlv3
  go_wp2_with fail
  clear hp hltp
  go_loopw [13] (fun i wr=>∃ k:Nat,k<=r5.1.toNat/\i=.int .i64 k/\∃ cv,GS w wr rb b (nxC (bl b) ls fu r2.1 r5.1 k r5.2).2 base (.slice a ls.length cap) (.slice fa nf fcap) ls/\Blk wr gb #[.int .i64 r1.1,.slice la r3.1.length lc,.int .i64 r4.1,cv] 93 /\
   bG 107 wr w.heap.size cv (nxC (bl b) ls fu r2.1 r5.1 k r5.2).1/\ad wr w.heap.size (.slice la r3.1.length lc) r3.1) (fun i _=>r5.1.toNat - (intOf i).toNat)
  case atStart=>exact ⟨0,Nat.zero_le _,rfl,.slice none 0 0,f8,gb5,World.ownsRow_nil _ _ _ _,hlv4⟩
  case round =>
   clear f8 gb5 hlv4
   obtain ⟨k,hk,rfl,cv,g0,gb0,hcv,hlv⟩:=hrel
   have hCl:=qC (bl b) ls fu r2.1 r5.1 k r5.2
   by_cases hgo:(k:Int) < r5.1/\(nxC (bl b) ls fu r2.1 r5.1 k r5.2).2.2=false
   ·obtain ⟨hlt,hst0⟩:=hgo
    have hkb:k<=64:=by omega
    generalize hC:nxC (bl b) ls fu r2.1 r5.1 k r5.2=C at *
    have HC:=hid hC
    clear hC
    have y2:wr.cell? ⟨rb,2,none⟩=some (.bool true):=by have:=g0.rr.cell 2;rw [hst0] at this;exact this
    have Hst0:=hid hst0
    clear hst0
    go_wp2_with fail
    clear y2
    refine (bL rb b _ _ _ _ g0.rr hl).mono ?_
    have ho:=dY (bl b) 0 18 C.2 (by decide)
    generalize hq:nx (bl b) 0 18 C.2=q1 at *
    have Hq1:=hid hq
    clear hq
    rintro e wa ⟨rfl,hrs,hch⟩
    have g1:=g0.step hch hrs
    have gb1:=gb0.chg hch (by have:=g0.hr;omega)
    have hcv1:=hcv.rr (by decide) g0.rr hch
    have hlv1:=hlv.rr g0.rr hch
    clear g0 gb0 hcv hlv hrs hch
    go_wp2_with fail
    refine (bL rb b _ _ _ _ g1.rr hl).mono ?_
    have hpos:=pK (bl b) 0 255 q1.2
    generalize hq:nx (bl b) 0 255 q1.2=q2 at *
    have Hq2:=hid hq
    clear hq
    rintro e wb ⟨rfl,hrs,hch⟩
    have g2:=g1.step hch hrs
    have gb2:=gb1.chg hch (by have:=g1.hr;omega)
    have hcv2:=hcv1.rr (by decide) g1.rr hch
    have hlv2:=hlv1.rr g1.rr hch
    clear g1 gb1 hcv1 hlv1 hrs hch
    obtain ⟨x2,p2,st2⟩:=q2
    cases st2 with
    | true =>
     clear hpos
     have y2:wb.cell? ⟨rb,2,none⟩=some (.bool false):=g2.rr.cell 2
     go_wp2_with fail
     clear y2
     refine (bL rb b _ _ _ _ g2.rr hl).mono ?_
     have ef:cC ((p2,true):Nat × Bool) (wB x2 (bA ls.length fu r2.1 r5.1 q1.1).1 (bA ls.length fu r2.1 r5.1 q1.1).2)=(p2,true):=by simp [cC]
     have hq3:Hid ((nx (bl b) 0 255 (p2,true)).2=(p2,true)):=by rw [bX _ _ _ _ rfl];rfl
     generalize hq:nx (bl b) 0 255 (p2,true)=q3 at *
     have Hq3:Hid (nx (bl b) 0 255 (cC (p2,true) (wB x2 (bA ls.length fu r2.1 r5.1 q1.1).1 (bA ls.length fu r2.1 r5.1 q1.1).2))=q3):=by rw [ef];exact hq
     clear hq ef
     rintro e wc ⟨rfl,hrs,hch⟩
     rw [hq3.out] at hrs
     have g3:=g2.step hch hrs
     have gb3:=gb2.chg hch (by have:=g2.hr;omega)
     have hcv3:=hcv2.rr (by decide) g2.rr hch
     have hlv3:=hlv2.rr g2.rr hch
     clear g2 gb2 hcv2 hlv2 hrs hch
     have y2:wc.cell? ⟨rb,2,none⟩=some (.bool false):=g3.rr.cell 2
     have y3:wc.cell? ⟨gb,3,none⟩=some cv:=gb3.cell 3
     have z3:=gb3.frozen 3
     have hltX:=gb3.lt
     have hszX:=g3.ch.size
     obtain ⟨ca,cc,rfl⟩:=hcv3.slice
     go_wp2_with (at_builtin;refine wpList_append_lies _ rfl _ _ 91 rfl w.heap.size 107 i (.agg #[oO,oO,oO]) 3 24 Tryz.underlying91 Hi1.out Hi2.out Hi3.out Hi4.out rfl (by decide) _ _ _ rfl (World.ownsRow.alloc hcv3 _) ⟨wc.heap.size,0,none⟩ 1 1 [.int .i64 q1.1,.int .i64 x2,.int .i64 q3.1] rfl rfl ?c1 ?c2 (by decide) ?c3 ?c4 ?c5 _ rfl ?_)
     case c1=>exact World.news_of_block (B:=wc.heap.size) (cs:=#[.int .i64 q1.1,.int .i64 x2,.int .i64 q3.1]) (Blk.new' (by simp) _ 107)
     case c2=>intro u hu;simp at hu;rcases hu with rfl | rfl | rfl <;> rfl
     case c3=>unfold maxLen;omega
     case c4=>omega
     case c5=>simp;omega
     ·intro g cap2 w8 hown hgrow hat hlt8
      have hg7:Chg (fun j=>some j=(Value.slice ca C.1.length cc).ownBlock) wc w8:=(((Chg.refl _ wc).alloc _).grown hgrow (fun j hj=>.inl hj.symm))
      have gY:=g3.grow hcv3 hg7
      have gbY:=gb3.chg hg7 (fun hg=>by obtain ⟨cs',hb'⟩:=ay hcv3 hg.symm;exact gb3.ne hb' (by decide) rfl)
      have hlvY:=ad.chg hlv3 hg7 (fun g cs hb hg=>by obtain ⟨cs',hb'⟩:=ay hcv3 hg.symm;exact hb.ne hb' (by decide) rfl)
      clear hgrow hg7 hat y3 z3
      have y3:w8.cell? ⟨gb,3,none⟩=some (.slice ca C.1.length cc):=gbY.cell 3
      have z3:=gbY.frozen 3
      go_wp2
      exact dR HC Hst0.out Hq1 Hq2 Hq3 (S3:=(p2,true)) (by rw [hq3.out];simp [cC]) gY gbY hgb hlvY hown hlt
    | false =>
     have y2:wb.cell? ⟨rb,2,none⟩=some (.bool true):=g2.rr.cell 2
     have y4:wb.cell? ⟨w.heap.size,0,none⟩=some (.slice a ls.length cap):=g2.pb.cell 0
     have y5:wb.cell? ⟨w.heap.size,1,none⟩=some (.slice fa nf fcap):=g2.pb.cell 1
     go_wp2_with fail
     clear y2 y4 y5
     refine (mE a fa ls.length cap nf fcap fu r2.1 r5.1 q1.1 x2 _ ho.1 ho.2 h2.1 (by omega) h5.1 (by omega) hfu hfu2).mono ?_
     rintro e wc ⟨rfl,hch⟩
     have g3:=g2.new hch
     have gb3:=gb2.chg hch (fun e=>e)
     have hcv3:=hcv2.chg hch (fun _ _ _ e=>e)
     have hlv3:=ad.chg hlv2 hch (fun _ _ _ e=>e)
     clear g2 gb2 hcv2 hlv2 hch
     have hp1:1<=p2/\p2<=10000:=by have h9:1<=p2/\p2<=(bl b).length:=hpos (by simp);rw [cL] at h9;omega
     clear hpos
     cases hg:wB x2 (bA ls.length fu r2.1 r5.1 q1.1).1 (bA ls.length fu r2.1 r5.1 q1.1).2 with
     | true =>
      have HGa:=hid hg
      clear hg
      go_wp2_with fail
      refine (bL rb b _ _ _ _ g3.rr hl).mono ?_
      have hpos3:=pK (bl b) 0 255 (p2,false)
      have ef:cC ((p2,false):Nat × Bool) (wB x2 (bA ls.length fu r2.1 r5.1 q1.1).1 (bA ls.length fu r2.1 r5.1 q1.1).2)=(p2,false):=by rw [HGa.out];simp [cC]
      generalize hq:nx (bl b) 0 255 (p2,false)=q3 at *
      have Hq3:Hid (nx (bl b) 0 255 (cC (p2,false) (wB x2 (bA ls.length fu r2.1 r5.1 q1.1).1 (bA ls.length fu r2.1 r5.1 q1.1).2))=q3):=by rw [ef];exact hq
      clear hq ef
      rintro e wd ⟨rfl,hrs,hch⟩
      have g4:=g3.step hch hrs
      have gb4:=gb3.chg hch (by have:=g3.hr;omega)
      have hcv4:=hcv3.rr (by decide) g3.rr hch
      have hlv4:=hlv3.rr g3.rr hch
      clear g3 gb3 hcv3 hlv3 hrs hch
      obtain ⟨x3,p3,st3⟩:=q3
      generalize hq3e:((x3,p3,st3):Int × Nat × Bool)=q3 at Hq3
      cases st3 with
      | true =>
       clear hpos3
       have y2:wd.cell? ⟨rb,2,none⟩=some (.bool false):=g4.rr.cell 2
       subst hq3e
       have y3:wd.cell? ⟨gb,3,none⟩=some cv:=gb4.cell 3
       have z3:=gb4.frozen 3
       have hltX:=gb4.lt
       have hszX:=g4.ch.size
       obtain ⟨ca,cc,rfl⟩:=hcv4.slice
       go_wp2_with (at_builtin;refine wpList_append_lies _ rfl _ _ 91 rfl w.heap.size 107 i (.agg #[oO,oO,oO]) 3 24 Tryz.underlying91 Hi1.out Hi2.out Hi3.out Hi4.out rfl (by decide) _ _ _ rfl (World.ownsRow.alloc hcv4 _) ⟨wd.heap.size,0,none⟩ 1 1 [.int .i64 q1.1,.int .i64 x2,.int .i64 x3] rfl rfl ?c1 ?c2 (by decide) ?c3 ?c4 ?c5 _ rfl ?_)
       case c1=>exact World.news_of_block (B:=wd.heap.size) (cs:=#[.int .i64 q1.1,.int .i64 x2,.int .i64 x3]) (Blk.new' (by simp) _ 107)
       case c2=>intro u hu;simp at hu;rcases hu with rfl | rfl | rfl <;> rfl
       case c3=>unfold maxLen;omega
       case c4=>omega
       case c5=>simp;omega
       ·intro g cap2 w8 hown hgrow hat hlt8
        have hg7:Chg (fun j=>some j=(Value.slice ca C.1.length cc).ownBlock) wd w8:=(((Chg.refl _ wd).alloc _).grown hgrow (fun j hj=>.inl hj.symm))
        have gY:=g4.grow hcv4 hg7
        have gbY:=gb4.chg hg7 (fun hg=>by obtain ⟨cs',hb'⟩:=ay hcv4 hg.symm;exact gb4.ne hb' (by decide) rfl)
        have hlvY:=ad.chg hlv4 hg7 (fun g cs hb hg=>by obtain ⟨cs',hb'⟩:=ay hcv4 hg.symm;exact hb.ne hb' (by decide) rfl)
        clear hgrow hg7 hat y3 z3
        have y3:w8.cell? ⟨gb,3,none⟩=some (.slice ca C.1.length cc):=gbY.cell 3
        have z3:=gbY.frozen 3
        go_wp2
        exact dR HC Hst0.out Hq1 Hq2 Hq3 (S3:=(p3,true)) (by simp [cC]) gY gbY hgb hlvY hown hlt
      | false =>
       have hp3:1<=p3/\p3<=10000:=by have h9:1<=p3/\p3<=(bl b).length:=hpos3 (by simp);rw [cL] at h9;omega
       clear hpos3
       subst hq3e
       have y2:wd.cell? ⟨rb,2,none⟩=some (.bool true):=g4.rr.cell 2
       have y4:wd.cell? ⟨w.heap.size,0,none⟩=some (.slice a ls.length cap):=g4.pb.cell 0
       have y5:wd.cell? ⟨w.heap.size,1,none⟩=some (.slice fa nf fcap):=g4.pb.cell 1
       go_wp2_with fail
       clear y2 y4 y5
       refine (m7 _ _ ls q1.1 x2 x3 _ base g4.ty ⟨_,_,_,rfl⟩ hn hls (qZ HGa.out)).mono ?_
       rintro e we ⟨rfl,hch⟩
       have g5:=g4.new hch
       have gb5:=gb4.chg hch (fun e=>e)
       have hcv5:=hcv4.chg hch (fun _ _ _ e=>e)
       have hlv5:=ad.chg hlv4 hch (fun _ _ _ e=>e)
       clear g4 gb4 hcv4 hlv4 hch
       cases hg2:wB x3 0 (gB ls q1.1 x2) with
       | true =>
        have HGb:=hid hg2
        clear hg2
        have y3:we.cell? ⟨gb,3,none⟩=some cv:=gb5.cell 3
        have z3:=gb5.frozen 3
        have hltX:=gb5.lt
        have hszX:=g5.ch.size
        obtain ⟨ca,cc,rfl⟩:=hcv5.slice
        go_wp2_with (at_builtin;refine wpList_append_lies _ rfl _ _ 91 rfl w.heap.size 107 i (.agg #[oO,oO,oO]) 3 24 Tryz.underlying91 Hi1.out Hi2.out Hi3.out Hi4.out rfl (by decide) _ _ _ rfl (World.ownsRow.alloc hcv5 _) ⟨we.heap.size,0,none⟩ 1 1 [.int .i64 q1.1,.int .i64 x2,.int .i64 x3] rfl rfl ?c1 ?c2 (by decide) ?c3 ?c4 ?c5 _ rfl ?_)
        case c1=>exact World.news_of_block (B:=we.heap.size) (cs:=#[.int .i64 q1.1,.int .i64 x2,.int .i64 x3]) (Blk.new' (by simp) _ 107)
        case c2=>intro u hu;simp at hu;rcases hu with rfl | rfl | rfl <;> rfl
        case c3=>unfold maxLen;omega
        case c4=>omega
        case c5=>simp;omega
        ·intro g cap2 w8 hown hgrow hat hlt8
         have hg7:Chg (fun j=>some j=(Value.slice ca C.1.length cc).ownBlock) we w8:=(((Chg.refl _ we).alloc _).grown hgrow (fun j hj=>.inl hj.symm))
         have gY:=g5.grow hcv5 hg7
         have gbY:=gb5.chg hg7 (fun hg=>by obtain ⟨cs',hb'⟩:=ay hcv5 hg.symm;exact gb5.ne hb' (by decide) rfl)
         have hlvY:=ad.chg hlv5 hg7 (fun g cs hb hg=>by obtain ⟨cs',hb'⟩:=ay hcv5 hg.symm;exact hb.ne hb' (by decide) rfl)
         clear hgrow hg7 hat y3 z3
         have y3:w8.cell? ⟨gb,3,none⟩=some (.slice ca C.1.length cc):=gbY.cell 3
         have z3:=gbY.frozen 3
         go_wp2
         exact dR HC Hst0.out Hq1 Hq2 Hq3 (S3:=(p3,false)) (by rw [HGb.out];simp [cC]) gY gbY hgb hlvY hown hlt
       | false =>
        have HGb:=hid hg2
        clear hg2
        have y1:we.cell? ⟨rb,1,none⟩=some (.int .i64 p3):=g5.rr.cell 1
        have y2:we.cell? ⟨rb,2,none⟩=some (.bool true):=g5.rr.cell 2
        have z1:=g5.rr.frozen 1
        have z2:=g5.rr.frozen 2
        have hrg:rb ≠ gb:=by have:=g5.hr;omega
        have y6:we.cell? ⟨gb,3,none⟩=some cv:=gb5.cell 3
        have hchX:=gE we rb (.bool false) (.int .i64 ((p3:Int) - 1))
        have g6:=g5.step hchX (lJ g5.rr hp3.1)
        have gb6:=gb5.chg hchX (by omega)
        have hcv6:=hcv5.rr (by decide) g5.rr hchX
        have hlv6:=hlv5.rr g5.rr hchX
        have y3:((we.setCell ⟨rb,2,none⟩ (.bool false)).setCell ⟨rb,1,none⟩ ((p3:Int) - 1:Int)).cell? ⟨gb,3,none⟩=some cv:=gb6.cell 3
        have z3:=gb6.frozen 3
        have hltX:=gb6.lt
        have hszX:=g5.ch.size
        obtain ⟨ca,cc,rfl⟩:=hcv6.slice
        go_wp2_with (at_builtin;refine wpList_append_lies _ rfl _ _ 91 rfl w.heap.size 107 i (.agg #[oO,oO,oO]) 3 24 Tryz.underlying91 Hi1.out Hi2.out Hi3.out Hi4.out rfl (by decide) _ _ _ rfl (World.ownsRow.alloc hcv6 _) ⟨we.heap.size,0,none⟩ 1 1 [.int .i64 q1.1,.int .i64 x2,.int .i64 x3] rfl rfl ?c1 ?c2 (by decide) ?c3 ?c4 ?c5 _ rfl ?_)
        case c1=>exact World.news_of_block (B:=we.heap.size) (cs:=#[.int .i64 q1.1,.int .i64 x2,.int .i64 x3]) (Blk.new' (by simp) _ 107)
        case c2=>intro u hu;simp at hu;rcases hu with rfl | rfl | rfl <;> rfl
        case c3=>unfold maxLen;omega
        case c4=>omega
        case c5=>simp;omega
        ·intro g cap2 w8 hown hgrow hat hlt8
         have hg7:Chg (fun j=>some j=(Value.slice ca C.1.length cc).ownBlock) ((we.setCell ⟨rb,2,none⟩ (.bool false)).setCell ⟨rb,1,none⟩ ((p3:Int) - 1:Int)) w8:=(((Chg.refl _ ((we.setCell ⟨rb,2,none⟩ (.bool false)).setCell ⟨rb,1,none⟩ ((p3:Int) - 1:Int))).alloc _).grown hgrow (fun j hj=>.inl hj.symm))
         have gY:=g6.grow hcv6 hg7
         have gbY:=gb6.chg hg7 (fun hg=>by obtain ⟨cs',hb'⟩:=ay hcv6 hg.symm;exact gb6.ne hb' (by decide) rfl)
         have hlvY:=ad.chg hlv6 hg7 (fun g cs hb hg=>by obtain ⟨cs',hb'⟩:=ay hcv6 hg.symm;exact hb.ne hb' (by decide) rfl)
         clear hgrow hg7 hat y3 z3
         have y3:w8.cell? ⟨gb,3,none⟩=some (.slice ca C.1.length cc):=gbY.cell 3
         have z3:=gbY.frozen 3
         go_wp2
         exact dR HC Hst0.out Hq1 Hq2 Hq3 (S3:=(p3 - 1,true)) (by rw [HGb.out];simp [cC]) gY gbY hgb hlvY hown hlt
     | false =>
      have HGa:=hid hg
      clear hg
      have y1:wc.cell? ⟨rb,1,none⟩=some (.int .i64 p2):=g3.rr.cell 1
      have y2:wc.cell? ⟨rb,2,none⟩=some (.bool true):=g3.rr.cell 2
      have z1:=g3.rr.frozen 1
      have z2:=g3.rr.frozen 2
      have hchX:=gE wc rb (.bool false) (.int .i64 ((p2:Int) - 1))
      have g4:=g3.step hchX (lJ g3.rr hp1.1)
      have gb4:=gb3.chg hchX (by have:=g3.hr;omega)
      have hcv4:=hcv3.rr (by decide) g3.rr hchX
      have hlv4:=hlv3.rr g3.rr hchX
      go_wp2_with fail
      clear y1 y2 z1 z2 hchX g3 gb3 hcv3 hlv3
      refine (bL rb b _ _ _ _ g4.rr hl).mono ?_
      have ef:cC ((p2,false):Nat × Bool) (wB x2 (bA ls.length fu r2.1 r5.1 q1.1).1 (bA ls.length fu r2.1 r5.1 q1.1).2)=(p2 - 1,true):=by rw [HGa.out];simp [cC]
      have hq3:Hid ((nx (bl b) 0 255 (p2 - 1,true)).2=(p2 - 1,true)):=by rw [bX _ _ _ _ rfl];rfl
      generalize hq:nx (bl b) 0 255 (p2 - 1,true)=q3 at *
      have Hq3:Hid (nx (bl b) 0 255 (cC (p2,false) (wB x2 (bA ls.length fu r2.1 r5.1 q1.1).1 (bA ls.length fu r2.1 r5.1 q1.1).2))=q3):=by rw [ef];exact hq
      clear hq ef
      rintro e wd ⟨rfl,hrs,hch⟩
      rw [hq3.out] at hrs
      have g5:=g4.step hch hrs
      have gb5:=gb4.chg hch (by have:=g4.hr;omega)
      have hcv5:=hcv4.rr (by decide) g4.rr hch
      have hlv5:=hlv4.rr g4.rr hch
      clear g4 gb4 hcv4 hlv4 hrs hch
      have y2:wd.cell? ⟨rb,2,none⟩=some (.bool false):=g5.rr.cell 2
      have y3:wd.cell? ⟨gb,3,none⟩=some cv:=gb5.cell 3
      have z3:=gb5.frozen 3
      have hltX:=gb5.lt
      have hszX:=g5.ch.size
      obtain ⟨ca,cc,rfl⟩:=hcv5.slice
      go_wp2_with (at_builtin;refine wpList_append_lies _ rfl _ _ 91 rfl w.heap.size 107 i (.agg #[oO,oO,oO]) 3 24 Tryz.underlying91 Hi1.out Hi2.out Hi3.out Hi4.out rfl (by decide) _ _ _ rfl (World.ownsRow.alloc hcv5 _) ⟨wd.heap.size,0,none⟩ 1 1 [.int .i64 q1.1,.int .i64 x2,.int .i64 q3.1] rfl rfl ?c1 ?c2 (by decide) ?c3 ?c4 ?c5 _ rfl ?_)
      case c1=>exact World.news_of_block (B:=wd.heap.size) (cs:=#[.int .i64 q1.1,.int .i64 x2,.int .i64 q3.1]) (Blk.new' (by simp) _ 107)
      case c2=>intro u hu;simp at hu;rcases hu with rfl | rfl | rfl <;> rfl
      case c3=>unfold maxLen;omega
      case c4=>omega
      case c5=>simp;omega
      ·intro g cap2 w8 hown hgrow hat hlt8
       have hg7:Chg (fun j=>some j=(Value.slice ca C.1.length cc).ownBlock) wd w8:=(((Chg.refl _ wd).alloc _).grown hgrow (fun j hj=>.inl hj.symm))
       have gY:=g5.grow hcv5 hg7
       have gbY:=gb5.chg hg7 (fun hg=>by obtain ⟨cs',hb'⟩:=ay hcv5 hg.symm;exact gb5.ne hb' (by decide) rfl)
       have hlvY:=ad.chg hlv5 hg7 (fun g cs hb hg=>by obtain ⟨cs',hb'⟩:=ay hcv5 hg.symm;exact hb.ne hb' (by decide) rfl)
       clear hgrow hg7 hat y3 z3
       have y3:w8.cell? ⟨gb,3,none⟩=some (.slice ca C.1.length cc):=gbY.cell 3
       have z3:=gbY.frozen 3
       go_wp2
       exact dR HC Hst0.out Hq1 Hq2 Hq3 (S3:=(p2 - 1,true)) (by rw [hq3.out];simp [cC]) gY gbY hgb hlvY hown hlt
   ·have hC2:Hid (nxC (bl b) ls fu r2.1 r5.1 r5.1.toNat r5.2=nxC (bl b) ls fu r2.1 r5.1 k r5.2):=by
     by_cases hlt:(k:Int) < r5.1
     ·have hst:(nxC (bl b) ls fu r2.1 r5.1 k r5.2).2.2=true:=by
       cases hb:(nxC (bl b) ls fu r2.1 r5.1 k r5.2).2.2 with
       | true=>rfl
       | false=>exact absurd ⟨hlt,hb⟩ hgo
      have:=p8 (bl b) ls fu r2.1 r5.1 k (r5.1.toNat - k) r5.2 hst
      rwa [show k+(r5.1.toNat - k)=r5.1.toNat by omega] at this
     ·have:r5.1.toNat=k:=by omega
      rw [this];exact rfl
    have y2:wr.cell? ⟨rb,2,none⟩=some (.bool (!(nxC (bl b) ls fu r2.1 r5.1 k r5.2).2.2)):=g0.rr.cell 2
    have hgo':r5.1<=(k:Int) \/ ((k:Int) < r5.1/\(nxC (bl b) ls fu r2.1 r5.1 k r5.2).2.2=true):=by
     by_cases hlt:(k:Int) < r5.1
     ·right
      refine ⟨hlt,?_⟩
      cases hb:(nxC (bl b) ls fu r2.1 r5.1 k r5.2).2.2 with
      | true=>rfl
      | false=>exact absurd ⟨hlt,hb⟩ hgo
     ·left;omega
    clear hgo
    obtain ⟨ca,cc,rfl⟩:=hcv.slice
    generalize nxC (bl b) ls fu r2.1 r5.1 k r5.2=C at *
    have p0:wr.cell? ⟨gb,0,none⟩=some (.int .i64 r1.1):=gb0.cell 0
    have p1:wr.cell? ⟨gb,1,none⟩=some (.slice la r3.1.length lc):=gb0.cell 1
    have p2:wr.cell? ⟨gb,2,none⟩=some (.int .i64 r4.1):=gb0.cell 2
    have p3:wr.cell? ⟨gb,3,none⟩=some (.slice ca C.1.length cc):=gb0.cell 3
    have q0:wr.cell? ⟨w.heap.size+1,0,none⟩=some (.int .i64 0):=g0.ob.cell 0
    have q1:wr.cell? ⟨w.heap.size+1,1,none⟩=some (.slice none 0 0):=g0.ob.cell 1
    have q2:wr.cell? ⟨w.heap.size+1,2,none⟩=some (.int .i64 0):=g0.ob.cell 2
    have q3:wr.cell? ⟨w.heap.size+1,3,none⟩=some (.slice none 0 0):=g0.ob.cell 3
    have z0:=g0.ob.frozen 0
    have z1:=g0.ob.frozen 1
    have z2:=g0.ob.frozen 2
    have z3:=g0.ob.frozen 3
    have fin:∀ wf,wf=((((wr.setCell ⟨w.heap.size+1,0,none⟩ r1.1).setCell ⟨w.heap.size+1,1,none⟩ (.slice la r3.1.length lc)).setCell ⟨w.heap.size+1,2,none⟩ r4.1).setCell ⟨w.heap.size+1,3,none⟩ (.slice ca C.1.length cc)) ->
     (wf.cell? ⟨w.heap.size+1,0,none⟩=some (.int .i64 r1.1)/\wf.cell? ⟨w.heap.size+1,1,none⟩=some (.slice la r3.1.length lc)/\wf.cell? ⟨w.heap.size+1,2,none⟩=some (.int .i64 r4.1)/\wf.cell? ⟨w.heap.size+1,3,none⟩=some (.slice ca C.1.length cc)) /\
     ad wf w.heap.size (.slice la r3.1.length lc) r3.1/\bG 107 wf w.heap.size (.slice ca C.1.length cc) C.1/\RR wf rb b C.2/\Chg (fun k=>k=rb) w wf:=by
     intro wf hwf
     have b3:=(((g0.ob.set 0 (.int .i64 r1.1)).set 1 (.slice la r3.1.length lc)).set 2 (.int .i64 r4.1)).set 3 (.slice ca C.1.length cc)
     have hch4:=fG wr (w.heap.size+1) (.int .i64 r1.1) (.slice la r3.1.length lc) (.int .i64 r4.1) (.slice ca C.1.length cc)
     rw [<-hwf] at b3 hch4
     exact ⟨⟨b3.cell 0,b3.cell 1,b3.cell 2,b3.cell 3⟩,ad.chg hlv hch4 (fun g cs hb e=>hb.ne g0.ob (by decide) e),hcv.chg hch4 (fun g cs hb e=>hb.ne g0.ob (by decide) e),
      Blk.chg g0.rr hch4 (by have:=g0.hr;omega),g0.ch.trans' hch4 (fun i hi e=>by omega)⟩
    have FIN:Hid _:=fin
    clear fin
    rcases hgo' with hgo' | ⟨hgo',hst⟩
    all_goals
     go_wp2
     rw [hC2.out]
     generalize hwf:((((wr.setCell ⟨w.heap.size+1,0,none⟩ r1.1).setCell ⟨w.heap.size+1,1,none⟩ (.slice la r3.1.length lc)).setCell ⟨w.heap.size+1,2,none⟩ r4.1).setCell ⟨w.heap.size+1,3,none⟩ (.slice ca C.1.length cc))=wf at *
     obtain ⟨⟨t0,t1,t2,t3⟩,hA,hB,hC,hD⟩:=FIN.out wf rfl
     exact bodyPost_ret (v:=.agg #[r1.1,.slice la r3.1.length lc,r4.1,.slice ca C.1.length cc]) (by simp [results,Tryz.results43,go_sem,t0,t1,t2,t3]) rfl ⟨_,_,rfl,hA,hB,hC,hD⟩
end Go.Proofs.YtnfnbcbadakofaaGreat
