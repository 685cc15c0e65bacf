import Derived.Test.YtnfnbcbadakofabTup
namespace Go.Proofs.Ytnfnbcbadakofab
open Go.RowKit
section
set_option maxHeartbeats 4000000 in
set_option maxRecDepth 100000 in
theorem tu_B (img:ByteArray) (nv:Value) (ns:List Int) (w:World) (O:Int × Int × Pg × List Spots) (hop:∀ w,Calls Try.prog 20 #[.string img] w (OfEnd w O)) (hs:O.1=0->img.size<=800) (c:Cx) (hc:c=⟨O.2.2.1.types,O.2.2.1.funcs,O.2.2.2⟩) (cb:O.1=0->CxB c) (hn:RdA w nv ns) (hz:O.1=0) (hst0:(thP (mksP img) ns (0,false)).1.2.2=0) :
 Calls Try.prog 23 #[.string img,nv] w (TuEnd w img O c ns):=by
 have HST0:=hid hst0
 clear hst0
 obtain ⟨na,nc,hnv⟩:=hn.slice
 subst hnv
 have HOP:=hid hop
 have HN:=hid hn
 have HCB:=hid cb
 have HS8:=hid hs
 clear hop hn cb hs
 have kA:Chg () w (w.alloc (Obj.cells #[.string ⟨#[]⟩,(),(),(),oO,oO,oO,(),(),oO,oO,(),(),(),oO,()] 65)):=(Chg.refl _ w).alloc _
 have BA:=Blk.new w #[.string ⟨#[]⟩,.slice none 0 0,.slice none 0 0,.slice none 0 0,.int .i64 0,.int .i64 0,.int .i64 0,.slice none 0 0,.slice none 0 0,.int .i64 0,.int .i64 0,.slice none 0 0,.slice none 0 0,.slice none 0 0,.int .i64 0,.slice none 0 0] 65
 go_enter Try.func23,Try.ntmps23
 go_wp2_with fail
 refine (HOP.out _).mono ?_
 rintro e w1 ⟨tv,fv,sv,rfl,⟨hty,hfv,hsl,hch⟩,_⟩
 have hro:Ro w1 tv fv sv c:=by
  subst hc
  exact ⟨hty.mono (Nat.zero_le _),hfv.mono (Nat.zero_le _),hsl.mono (Nat.zero_le _)⟩
 obtain ⟨ta,tc,htv⟩:=hty.slice
 obtain ⟨fa,fc,hfv'⟩:=hfv.slice
 obtain ⟨sa,sc,hsv⟩:=hsl.slice
 generalize O.2.2.1.types.length=tn at htv
 generalize O.2.2.1.funcs.length=fln at hfv'
 generalize O.2.2.2.length=sn at hsv
 subst htv hfv' hsv
 have RO1:=hid hro
 have k2:Chg () w (w1.alloc (Obj.cells #[.slice ta tn tc,.slice fa fln fc,.slice sa sn sc,O.1,O.2.1] 59)):=(kA.trans hch).alloc _
 have B2:=BA.chg (hch.alloc (Obj.cells #[.slice ta tn tc,.slice fa fln fc,.slice sa sn sc,O.1,O.2.1] 59)) (fun q=>q)
 have n80:=Blk.new w1 #[.slice ta tn tc,.slice fa fln fc,.slice sa sn sc,.int .i64 O.1,.int .i64 O.2.1] 59
 have RO2:Hid (Ro (w1.alloc (Obj.cells #[.slice ta tn tc,.slice fa fln fc,.slice sa sn sc,O.1,O.2.1] 59)) (.slice ta tn tc) (.slice fa fln fc) (.slice sa sn sc) c):=hro.new ((Chg.refl _ w1).alloc _)
 clear hro hty hfv hsl hch kA BA HOP RO1 hc
 have hz':(O.1 != 0)=false:=by simp [hz]
 have HZ:=hid hz
 have CB:Hid (CxB c):=HCB.out hz
 have hs8:=HS8.out hz
 clear hz HCB HS8
 have HNN:=hid (HN.out.new k2)
 have e2:(w1.alloc (Obj.cells #[.slice ta tn tc,.slice fa fln fc,.slice sa sn sc,O.1,O.2.1] 59)).heap.size=w1.heap.size+1:=by simp
 have HT:Hid (TI (w1.alloc (Obj.cells #[.slice ta tn tc,.slice fa fln fc,.slice sa sn sc,O.1,O.2.1] 59)) (((w1.alloc (Obj.cells #[.slice ta tn tc,.slice fa fln fc,.slice sa sn sc,O.1,O.2.1] 59)).alloc (Obj.cells #[(),oO,.bool false,.string ⟨#[]⟩,(),(),(),oO,oO,oO,(),(),oO,oO,(),(),(),oO,(),()] 90)).setRow (w1.heap.size+1) #[.slice na ns.length nc,oO,.bool false,.string img,.slice ta tn tc,.slice fa fln fc,.slice sa sn sc,oO,oO,oO,(),(),oO,oO,(),(),(),oO,(),()]) (w1.heap.size+1) img (.slice na ns.length nc) (.slice ta tn tc) (.slice fa fln fc) (.slice sa sn sc) ns (0,false) ⟨0,0,0,[],[],⟨0,0,[],[]⟩,[],0,[]⟩ (V0 (.slice none 0 0)) (.slice none 0 0) []):=by
  refine ⟨((Chg.refl _ _).alloc _).setRow _ _ (.inr (by rw [e2];exact Nat.le_refl _)),by rw [e2];exact Nat.le_refl _,setRow_heap _ _ _ _ _ _ (Blk.new' e2 _ 90),World.ownsRow_nil _ _ _ _,World.ownsRow_nil _ _ _ _,World.ownsRow_nil _ _ _ _,rfl,World.ownsRow_nil _ _ _ _,fun x hx=>(by cases hx),World.ownsRow_nil _ _ _ _,?_,rfl,HNN.out⟩
  exact ⟨Sep.nil _,Sep.nil _,Sep.nil _,Sep.nil _,Sep.nil _,Sep.nil _,fun u hu=>by simp [RV.fl,V0] at hu,fun u hu=>by simp [RV.fl,V0] at hu,fun u hu=>by simp [RV.fl,V0] at hu,fun u hu=>by simp [RV.fl,V0] at hu,by simp [RV.fl,V0]⟩
 have B2':=hid B2
 have K2:=hid k2
 obtain ⟨h80a,h80b,h80c,h80d⟩:(w1.alloc (Obj.cells #[.slice ta tn tc,.slice fa fln fc,.slice sa sn sc,O.1,O.2.1] 59)).cell? ⟨w1.heap.size,0,none⟩=some (.slice ta tn tc)/\(w1.alloc (Obj.cells #[.slice ta tn tc,.slice fa fln fc,.slice sa sn sc,O.1,O.2.1] 59)).cell? ⟨w1.heap.size,1,none⟩=some (.slice fa fln fc)/\(w1.alloc (Obj.cells #[.slice ta tn tc,.slice fa fln fc,.slice sa sn sc,O.1,O.2.1] 59)).cell? ⟨w1.heap.size,2,none⟩=some (.slice sa sn sc)/\(w1.alloc (Obj.cells #[.slice ta tn tc,.slice fa fln fc,.slice sa sn sc,O.1,O.2.1] 59)).cell? ⟨w1.heap.size,3,none⟩=some (.int .i64 O.1):=⟨n80.cell 0,n80.cell 1,n80.cell 2,n80.cell 3⟩
 clear k2 B2 n80 HN HNN
 have HRW:Hid (Blk ((w1.alloc (Obj.cells #[.slice ta tn tc,.slice fa fln fc,.slice sa sn sc,O.1,O.2.1] 59)).alloc (Obj.cells #[(),oO,.bool false,.string ⟨#[]⟩,(),(),(),oO,oO,oO,(),(),oO,oO,(),(),(),oO,(),()] 90)) (w1.heap.size+1) #[(),oO,.bool false,.string ⟨#[]⟩,(),(),(),oO,oO,oO,(),(),oO,oO,(),(),(),oO,(),()] 90):=Blk.new' e2 _ 90
 go_upto_region 4 with (fail)
 go_wp2_with (first | (refine wpB rfl 88 _ rfl #[.slice na ns.length nc,.int .i64 0,.bool false] (by kernel_rfl) ?_) | (refine wpB rfl 65 _ rfl #[.string img,.slice ta tn tc,.slice fa fln fc,.slice sa sn sc,.int .i64 0,.int .i64 0,.int .i64 0,.slice none 0 0,.slice none 0 0,.int .i64 0,.int .i64 0,.slice none 0 0,.slice none 0 0,.slice none 0 0,.int .i64 0,.slice none 0 0] (by kernel_rfl) ?_) | (refine wpB rfl 90 _ rfl #[.slice na ns.length nc,.int .i64 0,.bool false,.string img,.slice ta tn tc,.slice fa fln fc,.slice sa sn sc,.int .i64 0,.int .i64 0,.int .i64 0,.slice none 0 0,.slice none 0 0,.int .i64 0,.int .i64 0,.slice none 0 0,.slice none 0 0,.slice none 0 0,.int .i64 0,.slice none 0 0,.slice none 0 0] (by kernel_rfl) ?_) | (refine wpList_store_row rfl 90 _ _ rfl (w1.heap.size+1) #[.slice na ns.length nc,oO,.bool false,.string img,.slice ta tn tc,.slice fa fln fc,.slice sa sn sc,oO,oO,oO,(),(),oO,oO,(),(),(),oO,(),()] rfl rfl 90 #[(),oO,.bool false,.string ⟨#[]⟩,(),(),(),oO,oO,oO,(),(),oO,oO,(),(),(),oO,(),()] HRW.out (by kernel_rfl) rfl (by kernel_rfl) ?_))
 clear HRW
 clear h80a h80b h80c h80d
 generalize ((w1.alloc (Obj.cells #[.slice ta tn tc,.slice fa fln fc,.slice sa sn sc,O.1,O.2.1] 59)).alloc (Obj.cells #[(),oO,.bool false,.string ⟨#[]⟩,(),(),(),oO,oO,oO,(),(),oO,oO,(),(),(),oO,(),()] 90)).setRow (w1.heap.size+1) #[.slice na ns.length nc,oO,.bool false,.string img,.slice ta tn tc,.slice fa fln fc,.slice sa sn sc,oO,oO,oO,(),(),oO,oO,(),(),(),oO,(),()]=W3 at *
 generalize w1.alloc (Obj.cells #[.slice ta tn tc,.slice fa fln fc,.slice sa sn sc,O.1,O.2.1] 59)=W2 at *
 generalize w1.heap.size+1=tb at *
 obtain ⟨h,hh⟩:∃ a,thP (mksP img) ns (0,false)=a:=⟨_,rfl⟩
 have hhb:0<=h.1.1/\h.1.1<=4000/\0<=h.1.2.1/\h.1.2.1<=64:=by
  rw [<-hh];unfold thP;simp only
  have a:=tk_rng ns 0 4000 (List.foldl (fun s m=>(tk ns m m s).2) (0,false) (mksP img)) (by decide) (by decide)
  have b:=tk_rng ns 1 64 (tk ns 0 4000 (List.foldl (fun s m=>(tk ns m m s).2) (0,false) (mksP img))).2 (by decide) (by decide)
  exact ⟨a.1,a.2,b.1,b.2⟩
 have HH:=hid hh
 have HHB:=hid hhb
 clear hh hhb
 refine (takeHead_any HT.out hs8).mono ?_
 rw [HH.out]
 rintro ex w3 ⟨rfl,hT3⟩
 have x9:w3.cell? ⟨tb,9,none⟩=some (.int .i64 h.1.2.2):=hT3.bx.cell 9
 clear HT
 have hst:h.1.2.2=0:=by rw [<-HH.out];exact HST0.out
 have hsb:(h.1.2.2 == 0)=true:=by simp [hst]
 obtain ⟨ws,hws⟩:∃ a,twsP c ns h.1.1 h.2=a:=⟨_,rfl⟩
 obtain ⟨fr,hfr⟩:∃ a,tfrP c ns (recL c.ls 0 ws.1) h.1.2.1 ws.2=a:=⟨_,rfl⟩
 have HU:Hid (tuR c (mksP img) ns=(⟨h.1.1,h.1.2.1,0,ws.1,fr.1.1,fr.1.2,[],0,[]⟩,fr.2)):=by
  show tuR c (mksP img) ns=_
  unfold tuR;simp only;rw [HH.out,if_pos hst,hws,hfr]
 have HWS:=hid hws
 have HFR:=hid hfr
 have HST:=hid hst
 have H3:=hid hT3
 clear hT3 hws hfr hst
 go_wp2_with fail
 clear x9
 refine (takeWords_any H3.out rfl HHB.out.1 HHB.out.2.1 RO2.out.ty CB.out.ls CB.out.s5).mono ?_
 rw [show ({ heap:=h.1.1,depth:=h.1.2.1,status:=h.1.2.2,words:=[],below:=[],top:=⟨0,0,[],[]⟩,inp:=[],used:=0,out:=[] }:Rn).heap=h.1.1 from rfl,HWS.out]
 rintro ex w4 ⟨rfl,wv,rv,hT4⟩
 have H4:=hid hT4
 clear hT4 H3
 go_wp2_with fail
 refine (takeFrames_any H4.out rfl RO2.out CB.out HHB.out.2.2.1 HHB.out.2.2.2).mono ?_
 rw [show ({ heap:=h.1.1,depth:=h.1.2.1,status:=h.1.2.2,words:=ws.1,below:=[],top:=⟨0,0,[],[]⟩,inp:=[],used:=0,out:=[] }:Rn).depth=h.1.2.1 from rfl,HFR.out]
 rintro ex w5 ⟨rfl,V,hVw,hT5⟩
 have hT5':TI W2 w5 tb img (.slice na ns.length nc) (.slice ta tn tc) (.slice fa fln fc) (.slice sa sn sc) ns fr.2 ⟨h.1.1,h.1.2.1,0,ws.1,fr.1.1,fr.1.2,[],0,[]⟩ V rv (recL c.ls 0 ws.1):=by
  have:=hT5
  rw [<-HST.out];exact this
 clear hT5 H4 hVw HHB HWS HFR
 obtain ⟨R,hR⟩:∃ R:Rn,(⟨h.1.1,h.1.2.1,0,ws.1,fr.1.1,fr.1.2,[],0,[]⟩:Rn)=R:=⟨_,rfl⟩
 rw [hR] at hT5' HU
 have hRx:R.inp=[]/\R.used=0/\R.out=[]:=by rw [<-hR];exact ⟨rfl,rfl,rfl⟩
 obtain ⟨S,hS⟩:∃ S:Nat × Bool,fr.2=S:=⟨_,rfl⟩
 rw [hS] at hT5' HU
 have HTT:=hid hT5'
 have HRX:=hid hRx
 obtain ⟨wa,wc,hwv⟩:=hT5'.ww.slice
 obtain ⟨ba,bc,hbv⟩:=row_slice hT5'.bb
 obtain ⟨la,lc,hlv⟩:=hT5'.ll.slice
 obtain ⟨ka,kc,hkv⟩:=hT5'.kk.slice
 have y1:w5.cell? ⟨tb,1,none⟩=some (.int .i64 (S.1:Int)):=hT5'.bx.cell 1
 have y2:w5.cell? ⟨tb,2,none⟩=some (.bool S.2):=hT5'.bx.cell 2
 have g3:w5.cell? ⟨tb,3,none⟩=some (.string img):=hT5'.bx.cell 3
 have g4:w5.cell? ⟨tb,4,none⟩=some (.slice ta tn tc):=hT5'.bx.cell 4
 have g5:w5.cell? ⟨tb,5,none⟩=some (.slice fa fln fc):=hT5'.bx.cell 5
 have g6:w5.cell? ⟨tb,6,none⟩=some (.slice sa sn sc):=hT5'.bx.cell 6
 have g7:w5.cell? ⟨tb,7,none⟩=some (.int .i64 R.heap):=hT5'.bx.cell 7
 have g8:w5.cell? ⟨tb,8,none⟩=some (.int .i64 R.depth):=hT5'.bx.cell 8
 have g9:w5.cell? ⟨tb,9,none⟩=some (.int .i64 R.status):=hT5'.bx.cell 9
 have g10:w5.cell? ⟨tb,10,none⟩=some V.wv:=hT5'.bx.cell 10
 have g11:w5.cell? ⟨tb,11,none⟩=some V.bv:=hT5'.bx.cell 11
 have g12:w5.cell? ⟨tb,12,none⟩=some (.int .i64 R.top.fn):=hT5'.bx.cell 12
 have g13:w5.cell? ⟨tb,13,none⟩=some (.int .i64 R.top.pc):=hT5'.bx.cell 13
 have g14:w5.cell? ⟨tb,14,none⟩=some V.lv:=hT5'.bx.cell 14
 have g15:w5.cell? ⟨tb,15,none⟩=some V.kv:=hT5'.bx.cell 15
 have g16:w5.cell? ⟨tb,16,none⟩=some (.slice none 0 0):=hT5'.bx.cell 16
 have g17:w5.cell? ⟨tb,17,none⟩=some (.int .i64 0):=hT5'.bx.cell 17
 have g18:w5.cell? ⟨tb,18,none⟩=some (.slice none 0 0):=hT5'.bx.cell 18
 rw [hwv] at g10
 rw [hbv] at g11
 rw [hlv] at g14
 rw [hkv] at g15
 have B5:Blk w5 w.heap.size #[.string ⟨#[]⟩,(),(),(),oO,oO,oO,(),(),oO,oO,(),(),(),oO,()] 65:=B2'.out.chg hT5'.ch (fun q=>q)
 have BB5:=hid B5
 have K5:=hid (K2.out.trans hT5'.ch)
 obtain ⟨o0,o1,o2,o3,o4,o5,o6,o7,o8,o9,o10,o11,o12,o13,o14,o15,z0,z1,z2,z3,z4,z5,z6,z7,z8,z9,z10,z11,z12,z13,z14,z15⟩:=cells16 B5
 have HWV:=hid hwv
 have HBV:=hid hbv
 have HLV:=hid hlv
 have HKV:=hid hkv
 clear hT5' B5 hwv hbv hlv hkv hR hS hRx
 by_cases h23:S.2=true \/ S.1 < ns.length
 ·have HNO:Hid (tuP c (mksP img) ns=none):=by
   show tuP c (mksP img) ns=none
   unfold tuP;rw [HU.out];exact if_pos h23
  have hb16:Blk (w5.setRow w.heap.size #[.string ⟨#[]⟩,(),(),(),oO,oO,oO,(),(),oO,oO,(),(),(),oO,()]) w.heap.size #[.string ⟨#[]⟩,(),(),(),oO,oO,oO,(),(),oO,oO,(),(),(),oO,()] 65:=setRow_heap _ _ _ _ _ _ BB5.out
  have FIN:Hid (TuEnd w img O c ns (.returned (.tuple #[.agg #[.string ⟨#[]⟩,(),(),(),oO,oO,oO,(),(),oO,oO,(),(),(),oO,()],(5:Int)])) (w5.setRow w.heap.size #[.string ⟨#[]⟩,(),(),(),oO,oO,oO,(),(),oO,oO,(),(),(),oO,()])):=by
   have hkk:Chg (fun j=>j=w.heap.size) w5 (w5.setRow w.heap.size #[.string ⟨#[]⟩,(),(),(),oO,oO,oO,(),(),oO,oO,(),(),(),oO,()]):=(Chg.refl _ _).setRow _ _ (.inl rfl)
   exact ⟨K5.out.trans' hkk (fun i hi e=>by omega),fun q=>absurd HZ.out q,fun _=>⟨fun _=>rfl,fun R q=>by rw [HNO.out] at q;cases q⟩⟩
  have HB16:=hid hb16
  have hor:S.2=true \/ (S.2=false/\(S.1:Int) < (ns.length:Int)):=by
   cases q:S.2 with
   | true=>exact .inl rfl
   | false=>rw [q] at h23;simp at h23;exact .inr ⟨rfl,by omega⟩
  clear h23
  rcases hor with h2 | ⟨h2,h3'⟩
  all_goals
   rw [h2] at y2
   clear h2 hb16 K5 HTT HU o0 o1 o2 o3 o4 o5 o6 o7 o8 o9 o10 o11 o12 o13 o14 o15 z0 z1 z2 z3 z4 z5 z6 z7 z8 z9 z10 z11 z12 z13 z14 z15 g3 g4 g5 g6 g7 g8 g9 g10 g11 g12 g13 g14 g15 g16 g17 g18
   go_wp2_with (first | (refine wpB rfl 65 _ rfl #[.string ⟨#[]⟩,.slice none 0 0,.slice none 0 0,.slice none 0 0,.int .i64 0,.int .i64 0,.int .i64 0,.slice none 0 0,.slice none 0 0,.int .i64 0,.int .i64 0,.slice none 0 0,.slice none 0 0,.slice none 0 0,.int .i64 0,.slice none 0 0] (by kernel_rfl) ?_) | (refine wpList_store_row rfl 65 _ _ rfl w.heap.size #[.string ⟨#[]⟩,(),(),(),oO,oO,oO,(),(),oO,oO,(),(),(),oO,()] rfl rfl 65 #[.string ⟨#[]⟩,(),(),(),oO,oO,oO,(),(),oO,oO,(),(),(),oO,()] BB5.out (by kernel_rfl) rfl (by kernel_rfl) ?_))
   clear y1 y2
   generalize (w5.setRow w.heap.size #[.string ⟨#[]⟩,(),(),(),oO,oO,oO,(),(),oO,oO,(),(),(),oO,()])=wf at FIN HB16 ⊢
   have HB:=HB16.out
   have q0:wf.cell? ⟨w.heap.size,0,none⟩=some (.string ⟨#[]⟩):=HB.cell 0
   have q1:wf.cell? ⟨w.heap.size,1,none⟩=some (.slice none 0 0):=HB.cell 1
   have q2:wf.cell? ⟨w.heap.size,2,none⟩=some (.slice none 0 0):=HB.cell 2
   have q3:wf.cell? ⟨w.heap.size,3,none⟩=some (.slice none 0 0):=HB.cell 3
   have q4:wf.cell? ⟨w.heap.size,4,none⟩=some (.int .i64 0):=HB.cell 4
   have q5:wf.cell? ⟨w.heap.size,5,none⟩=some (.int .i64 0):=HB.cell 5
   have q6:wf.cell? ⟨w.heap.size,6,none⟩=some (.int .i64 0):=HB.cell 6
   have q7:wf.cell? ⟨w.heap.size,7,none⟩=some (.slice none 0 0):=HB.cell 7
   have q8:wf.cell? ⟨w.heap.size,8,none⟩=some (.slice none 0 0):=HB.cell 8
   have q9:wf.cell? ⟨w.heap.size,9,none⟩=some (.int .i64 0):=HB.cell 9
   have q10:wf.cell? ⟨w.heap.size,10,none⟩=some (.int .i64 0):=HB.cell 10
   have q11:wf.cell? ⟨w.heap.size,11,none⟩=some (.slice none 0 0):=HB.cell 11
   have q12:wf.cell? ⟨w.heap.size,12,none⟩=some (.slice none 0 0):=HB.cell 12
   have q13:wf.cell? ⟨w.heap.size,13,none⟩=some (.slice none 0 0):=HB.cell 13
   have q14:wf.cell? ⟨w.heap.size,14,none⟩=some (.int .i64 0):=HB.cell 14
   have q15:wf.cell? ⟨w.heap.size,15,none⟩=some (.slice none 0 0):=HB.cell 15
   exact bodyPost_ret (v:=.tuple #[.agg #[.string ⟨#[]⟩,(),(),(),oO,oO,oO,(),(),oO,oO,(),(),(),oO,()],(5:Int)]) (by simp [results,Try.results23,go_sem,q0,q1,q2,q3,q4,q5,q6,q7,q8,q9,q10,q11,q12,q13,q14,q15]) rfl FIN.out
 ·have h2:S.2=false:=by cases q:S.2 with | true=>exact absurd (.inl q) h23 | false=>rfl
  have h3:¬ S.1 < ns.length:=fun q=>h23 (.inr q)
  clear h23
  have HYES:Hid (tuP c (mksP img) ns=some R):=by
   show tuP c (mksP img) ns=some R
   unfold tuP;rw [HU.out];exact if_neg (by rw [h2];simpa using h3)
  have h3':(ns.length:Int)<=(S.1:Int):=by omega
  have HAR:Hid (rcs img (.slice ta tn tc) (.slice fa fln fc) (.slice sa sn sc) (.slice none 0 0) R V=#[.string img,.slice ta tn tc,.slice fa fln fc,.slice sa sn sc,.int .i64 R.heap,.int .i64 R.depth,.int .i64 R.status,.slice wa R.words.length wc,.slice ba V.xs.length bc,.int .i64 R.top.fn,.int .i64 R.top.pc,.slice la R.top.locals.length lc,.slice ka R.top.stack.length kc,.slice none 0 0,.int .i64 0,.slice none 0 0]):=by
   show rcs img (.slice ta tn tc) (.slice fa fln fc) (.slice sa sn sc) (.slice none 0 0) R V=_
   unfold rcs
   rw [HWV.out,HBV.out,HLV.out,HKV.out,HTT.out.ov,HRX.out.2.1];rfl
  have hb16:Blk (w5.setRow w.heap.size #[.string img,.slice ta tn tc,.slice fa fln fc,.slice sa sn sc,R.heap,R.depth,R.status,.slice wa R.words.length wc,.slice ba V.xs.length bc,R.top.fn,R.top.pc,.slice la R.top.locals.length lc,.slice ka R.top.stack.length kc,(),oO,()]) w.heap.size #[.string img,.slice ta tn tc,.slice fa fln fc,.slice sa sn sc,R.heap,R.depth,R.status,.slice wa R.words.length wc,.slice ba V.xs.length bc,R.top.fn,R.top.pc,.slice la R.top.locals.length lc,.slice ka R.top.stack.length kc,(),oO,()] 65:=setRow_heap _ _ _ _ _ _ BB5.out
  have hb162:Blk (W2.setRow w.heap.size #[.string img,.slice ta tn tc,.slice fa fln fc,.slice sa sn sc,R.heap,R.depth,R.status,.slice wa R.words.length wc,.slice ba V.xs.length bc,R.top.fn,R.top.pc,.slice la R.top.locals.length lc,.slice ka R.top.stack.length kc,(),oO,()]) w.heap.size #[.string img,.slice ta tn tc,.slice fa fln fc,.slice sa sn sc,R.heap,R.depth,R.status,.slice wa R.words.length wc,.slice ba V.xs.length bc,R.top.fn,R.top.pc,.slice la R.top.locals.length lc,.slice ka R.top.stack.length kc,(),oO,()] 65:=setRow_heap _ _ _ _ _ _ B2'.out
  have FIN:Hid (TuEnd w img O c ns (.returned (.tuple #[.agg #[.string img,.slice ta tn tc,.slice fa fln fc,.slice sa sn sc,R.heap,R.depth,R.status,.slice wa R.words.length wc,.slice ba V.xs.length bc,R.top.fn,R.top.pc,.slice la R.top.locals.length lc,.slice ka R.top.stack.length kc,(),oO,()],oO])) (w5.setRow w.heap.size #[.string img,.slice ta tn tc,.slice fa fln fc,.slice sa sn sc,R.heap,R.depth,R.status,.slice wa R.words.length wc,.slice ba V.xs.length bc,R.top.fn,R.top.pc,.slice la R.top.locals.length lc,.slice ka R.top.stack.length kc,(),oO,()])):=by
   have hkk:Chg (fun j=>j=w.heap.size) w5 (w5.setRow w.heap.size #[.string img,.slice ta tn tc,.slice fa fln fc,.slice sa sn sc,R.heap,R.depth,R.status,.slice wa R.words.length wc,.slice ba V.xs.length bc,R.top.fn,R.top.pc,.slice la R.top.locals.length lc,.slice ka R.top.stack.length kc,(),oO,()]):=(Chg.refl _ _).setRow _ _ (.inl rfl)
   have hkk2:Chg (fun j=>j=w.heap.size) W2 (W2.setRow w.heap.size #[.string img,.slice ta tn tc,.slice fa fln fc,.slice sa sn sc,R.heap,R.depth,R.status,.slice wa R.words.length wc,.slice ba V.xs.length bc,R.top.fn,R.top.pc,.slice la R.top.locals.length lc,.slice ka R.top.stack.length kc,(),oO,()]):=(Chg.refl _ _).setRow _ _ (.inl rfl)
   refine ⟨K5.out.trans' hkk (fun i hi e=>by omega),fun q=>absurd HZ.out q,fun _=>⟨fun q=>(by rw [HYES.out] at q;cases q),fun R' q=>?_⟩⟩
   rw [HYES.out] at q
   cases q
   exact ⟨(W2.setRow w.heap.size #[.string img,.slice ta tn tc,.slice fa fln fc,.slice sa sn sc,R.heap,R.depth,R.status,.slice wa R.words.length wc,.slice ba V.xs.length bc,R.top.fn,R.top.pc,.slice la R.top.locals.length lc,.slice ka R.top.stack.length kc,(),oO,()]),_,_,_,V,by rw [HAR.out],K2.out.trans' hkk2 (fun i hi e=>by omega),RO2.out.off B2'.out hkk2,HTT.out.li BB5.out hkk hkk2 hb162 hb16 (setRow_size _ _ _)⟩
  have HB16:=hid hb16
  rw [h2] at y2
  clear h2 hb16 hb162 K5 HTT HU K2 B2' RO2 HAR o0 o1 o2 o3 o4 o5 o6 o7 o8 o9 o10 o11 o12 o13 o14 o15 z0 z1 z2 z3 z4 z5 z6 z7 z8 z9 z10 z11 z12 z13 z14 z15
  go_wp2_with (refine wpList_store_row rfl 65 _ _ rfl w.heap.size #[.string img,.slice ta tn tc,.slice fa fln fc,.slice sa sn sc,R.heap,R.depth,R.status,.slice wa R.words.length wc,.slice ba V.xs.length bc,R.top.fn,R.top.pc,.slice la R.top.locals.length lc,.slice ka R.top.stack.length kc,(),oO,()] rfl rfl 65 #[.string ⟨#[]⟩,(),(),(),oO,oO,oO,(),(),oO,oO,(),(),(),oO,()] BB5.out (by kernel_rfl) rfl (by kernel_rfl) ?_)
  clear g3 g4 g5 g6 g7 g8 g9 g10 g11 g12 g13 g14 g15 g16 g17 g18 y1 y2
  generalize (w5.setRow w.heap.size #[.string img,.slice ta tn tc,.slice fa fln fc,.slice sa sn sc,R.heap,R.depth,R.status,.slice wa R.words.length wc,.slice ba V.xs.length bc,R.top.fn,R.top.pc,.slice la R.top.locals.length lc,.slice ka R.top.stack.length kc,(),oO,()])=wf at FIN HB16 ⊢
  have HB:=HB16.out
  have q0:wf.cell? ⟨w.heap.size,0,none⟩=some (.string img):=HB.cell 0
  have q1:wf.cell? ⟨w.heap.size,1,none⟩=some (.slice ta tn tc):=HB.cell 1
  have q2:wf.cell? ⟨w.heap.size,2,none⟩=some (.slice fa fln fc):=HB.cell 2
  have q3:wf.cell? ⟨w.heap.size,3,none⟩=some (.slice sa sn sc):=HB.cell 3
  have q4:wf.cell? ⟨w.heap.size,4,none⟩=some (.int .i64 R.heap):=HB.cell 4
  have q5:wf.cell? ⟨w.heap.size,5,none⟩=some (.int .i64 R.depth):=HB.cell 5
  have q6:wf.cell? ⟨w.heap.size,6,none⟩=some (.int .i64 R.status):=HB.cell 6
  have q7:wf.cell? ⟨w.heap.size,7,none⟩=some (.slice wa R.words.length wc):=HB.cell 7
  have q8:wf.cell? ⟨w.heap.size,8,none⟩=some (.slice ba V.xs.length bc):=HB.cell 8
  have q9:wf.cell? ⟨w.heap.size,9,none⟩=some (.int .i64 R.top.fn):=HB.cell 9
  have q10:wf.cell? ⟨w.heap.size,10,none⟩=some (.int .i64 R.top.pc):=HB.cell 10
  have q11:wf.cell? ⟨w.heap.size,11,none⟩=some (.slice la R.top.locals.length lc):=HB.cell 11
  have q12:wf.cell? ⟨w.heap.size,12,none⟩=some (.slice ka R.top.stack.length kc):=HB.cell 12
  have q13:wf.cell? ⟨w.heap.size,13,none⟩=some (.slice none 0 0):=HB.cell 13
  have q14:wf.cell? ⟨w.heap.size,14,none⟩=some (.int .i64 0):=HB.cell 14
  have q15:wf.cell? ⟨w.heap.size,15,none⟩=some (.slice none 0 0):=HB.cell 15
  exact bodyPost_ret (v:=.tuple #[.agg #[.string img,.slice ta tn tc,.slice fa fln fc,.slice sa sn sc,R.heap,R.depth,R.status,.slice wa R.words.length wc,.slice ba V.xs.length bc,R.top.fn,R.top.pc,.slice la R.top.locals.length lc,.slice ka R.top.stack.length kc,(),oO,()],oO]) (by simp [results,Try.results23,go_sem,q0,q1,q2,q3,q4,q5,q6,q7,q8,q9,q10,q11,q12,q13,q14,q15]) rfl FIN.out
end
end Go.Proofs.Ytnfnbcbadakofab
