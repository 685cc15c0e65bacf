import Derived.Test.YtnfnbcbadakofaaGreatTu4
import Derived.Test.YtnfnbcbadakofaaGreatBg2
import Derived.Test.YtnfnbcbadakofaaGreatSms
namespace Go.Proofs.YtnfnbcbadakofaaGreat
open Go.RowKit
set_option maxHeartbeats 4000000 in
set_option maxRecDepth 100000 in
theorem sE (img:ByteArray) (nv:Value) (ns:List Int) (w:World) (O:Int × Int × Pg × List aC) (hop:∀ w,Calls Tryz.prog 22 #[.string img] w (hZ w O)) (c:Cx) (hn:RdA w nv ns) (hz:O.1 ≠ 0) :
 Calls Tryz.prog 15 #[.string img,nv] w (dS w img O c ns):=by
 obtain ⟨na,nc,hnv⟩:=hn.slice
 subst hnv
 have HOP:=hid hop
 have HZ:=hid hz
 have hz':(O.1 != 0)=true:=by simp [hz]
 clear hop hn hz
 have kA:Chg () w (w.alloc (Obj.cells #[.string ⟨#[]⟩,(),(),(),oO,oO,oO,(),(),oO,oO,(),(),(),oO,()] 62)):=(Chg.refl _ w).alloc _
 have BA:=Blk.new w #[.string ⟨#[]⟩,.slice none 0 0,.slice none 0 0,.slice none 0 0,.int .i64 0,.int .i64 0,.int .i64 0,.slice none 0 0,.slice none 0 0,.int .i64 0,.int .i64 0,.slice none 0 0,.slice none 0 0,.slice none 0 0,.int .i64 0,.slice none 0 0] 62
 go_enter Tryz.func15,Tryz.ntmps15
 go_wp2_with fail
 refine (HOP.out _).mono ?_
 rintro e w1 ⟨tv,fv,sv,rfl,⟨hty,hfv,hsl,hch⟩,_⟩
 obtain ⟨ta,tc,htv⟩:=hty.slice
 obtain ⟨fa,fc,hfv'⟩:=hfv.slice
 obtain ⟨sa,sc,hsv⟩:=hsl.slice
 generalize O.2.2.1.types.length=tn at htv
 generalize O.2.2.1.funcs.length=fln at hfv'
 generalize O.2.2.2.length=sn at hsv
 subst htv hfv' hsv
 have k2:Chg () w (w1.alloc (Obj.cells #[.slice ta tn tc,.slice fa fln fc,.slice sa sn sc,O.1,O.2.1] 83)):=(kA.trans hch).alloc _
 have B2:=BA.chg (hch.alloc (Obj.cells #[.slice ta tn tc,.slice fa fln fc,.slice sa sn sc,O.1,O.2.1] 83)) (fun q=>q)
 have n80:=Blk.new w1 #[.slice ta tn tc,.slice fa fln fc,.slice sa sn sc,.int .i64 O.1,.int .i64 O.2.1] 83
 have y3:(w1.alloc (Obj.cells #[.slice ta tn tc,.slice fa fln fc,.slice sa sn sc,O.1,O.2.1] 83)).cell? ⟨w1.heap.size,3,none⟩=some (.int .i64 O.1):=n80.cell 3
 have hne:w.heap.size ≠ w1.heap.size:=B2.ne n80 (by decide)
 have hne':=hne.symm
 have hbl:=B2.lt
 have BB:=hid B2
 have K2:=hid k2
 obtain ⟨o0,o1,o2,o3,o4,o5,o6,o7,o8,o9,o10,o11,o12,o13,o14,o15,z0,z1,z2,z3,z4,z5,z6,z7,z8,z9,z10,z11,z12,z13,z14,z15⟩:=gT B2
 clear hty hfv hsl hch kA BA HOP B2 n80 k2
 go_wp2
 go_region
 obtain ⟨hkk,hb16⟩:=sy BB.out (.string ⟨#[]⟩) (.slice none 0 0) (.slice none 0 0) (.slice none 0 0) (.int .i64 0) (.int .i64 0) (.int .i64 0) (.slice none 0 0) (.slice none 0 0) (.int .i64 0) (.int .i64 0) (.slice none 0 0) (.slice none 0 0) (.slice none 0 0) (.int .i64 0) (.slice none 0 0) _ rfl
 have FIN:Hid (dS w img O c ns (.returned (.tuple #[.agg #[.string ⟨#[]⟩,(),(),(),oO,oO,oO,(),(),oO,oO,(),(),(),oO,()],O.1])) ((((((((((((((((((w1.alloc (Obj.cells #[.slice ta tn tc,.slice fa fln fc,.slice sa sn sc,O.1,O.2.1] 83)).setCell ⟨w.heap.size,0,none⟩ (.string ⟨#[]⟩)).setCell ⟨w.heap.size,1,none⟩ ()).setCell ⟨w.heap.size,2,none⟩ ()).setCell ⟨w.heap.size,3,none⟩ ()).setCell ⟨w.heap.size,4,none⟩ oO).setCell ⟨w.heap.size,5,none⟩ oO).setCell ⟨w.heap.size,6,none⟩ oO).setCell ⟨w.heap.size,7,none⟩ ()).setCell ⟨w.heap.size,8,none⟩ ()).setCell ⟨w.heap.size,9,none⟩ oO).setCell ⟨w.heap.size,10,none⟩ oO).setCell ⟨w.heap.size,11,none⟩ ()).setCell ⟨w.heap.size,12,none⟩ ()).setCell ⟨w.heap.size,13,none⟩ ()).setCell ⟨w.heap.size,14,none⟩ oO).setCell ⟨w.heap.size,15,none⟩ ())).drew):=
  ⟨(K2.out.trans' hkk (fun i hi e=>by omega)).drew,fun _=>rfl,fun q=>absurd q HZ.out⟩
 have HB16:=hid (hb16.drew)
 clear hkk hb16 o0 o1 o2 o3 o4 o5 o6 o7 o8 o9 o10 o11 o12 o13 o14 o15 z0 z1 z2 z3 z4 z5 z6 z7 z8 z9 z10 z11 z12 z13 z14 z15 y3
 go_wp2
 generalize ((((((((((((((((((w1.alloc (Obj.cells #[.slice ta tn tc,.slice fa fln fc,.slice sa sn sc,O.1,O.2.1] 83)).setCell ⟨w.heap.size,0,none⟩ (.string ⟨#[]⟩)).setCell ⟨w.heap.size,1,none⟩ ()).setCell ⟨w.heap.size,2,none⟩ ()).setCell ⟨w.heap.size,3,none⟩ ()).setCell ⟨w.heap.size,4,none⟩ oO).setCell ⟨w.heap.size,5,none⟩ oO).setCell ⟨w.heap.size,6,none⟩ oO).setCell ⟨w.heap.size,7,none⟩ ()).setCell ⟨w.heap.size,8,none⟩ ()).setCell ⟨w.heap.size,9,none⟩ oO).setCell ⟨w.heap.size,10,none⟩ oO).setCell ⟨w.heap.size,11,none⟩ ()).setCell ⟨w.heap.size,12,none⟩ ()).setCell ⟨w.heap.size,13,none⟩ ()).setCell ⟨w.heap.size,14,none⟩ oO).setCell ⟨w.heap.size,15,none⟩ ())).drew=wf at FIN HB16 ⊢
 have HB:=HB16.out
 have q0:wf.cell? ⟨w.heap.size,0,none⟩=some (.string ⟨#[]⟩):=HB.cell 0
 have q1:wf.cell? ⟨w.heap.size,1,none⟩=some (.slice none 0 0):=HB.cell 1
 have q2:wf.cell? ⟨w.heap.size,2,none⟩=some (.slice none 0 0):=HB.cell 2
 have q3:wf.cell? ⟨w.heap.size,3,none⟩=some (.slice none 0 0):=HB.cell 3
 have q4:wf.cell? ⟨w.heap.size,4,none⟩=some (.int .i64 0):=HB.cell 4
 have q5:wf.cell? ⟨w.heap.size,5,none⟩=some (.int .i64 0):=HB.cell 5
 have q6:wf.cell? ⟨w.heap.size,6,none⟩=some (.int .i64 0):=HB.cell 6
 have q7:wf.cell? ⟨w.heap.size,7,none⟩=some (.slice none 0 0):=HB.cell 7
 have q8:wf.cell? ⟨w.heap.size,8,none⟩=some (.slice none 0 0):=HB.cell 8
 have q9:wf.cell? ⟨w.heap.size,9,none⟩=some (.int .i64 0):=HB.cell 9
 have q10:wf.cell? ⟨w.heap.size,10,none⟩=some (.int .i64 0):=HB.cell 10
 have q11:wf.cell? ⟨w.heap.size,11,none⟩=some (.slice none 0 0):=HB.cell 11
 have q12:wf.cell? ⟨w.heap.size,12,none⟩=some (.slice none 0 0):=HB.cell 12
 have q13:wf.cell? ⟨w.heap.size,13,none⟩=some (.slice none 0 0):=HB.cell 13
 have q14:wf.cell? ⟨w.heap.size,14,none⟩=some (.int .i64 0):=HB.cell 14
 have q15:wf.cell? ⟨w.heap.size,15,none⟩=some (.slice none 0 0):=HB.cell 15
 exact bodyPost_ret (v:=.tuple #[.agg #[.string ⟨#[]⟩,(),(),(),oO,oO,oO,(),(),oO,oO,(),(),(),oO,()],O.1]) (by simp [results,Tryz.results15,go_sem,q0,q1,q2,q3,q4,q5,q6,q7,q8,q9,q10,q11,q12,q13,q14,q15]) rfl FIN.out
theorem jL (img:ByteArray) (nv:Value) (ns:List Int) (w:World) (O:Int × Int × Pg × List aC) (hop:∀ w,Calls Tryz.prog 22 #[.string img] w (hZ w O)) (hs:O.1=0->img.size<=800) (c:Cx) (hc:c=⟨O.2.2.1.types,O.2.2.1.funcs,O.2.2.2⟩) (cb:O.1=0->CxB c) (hn:RdA w nv ns) :
 Calls Tryz.prog 15 #[.string img,nv] w (dS w img O c ns):=by
 by_cases hz:O.1=0
 ·by_cases hst:(thP (aB img) ns (0,false)).1.2.2=0
  ·exact vH img nv ns w O hop hs c hc cb hn hz hst
  ·exact vQ img nv ns w O hop hs c hc cb hn hz hst
 ·exact sE img nv ns w O hop c hn hz
theorem bM.cxb {c:Cx} (ok:bM c):CxB c:=by
 have hfl:=fun f=>lX ok f
 have hin:∀ f i,0<=(aV (aq c.fs f) i).1/\(aV (aq c.fs f) i).1<=18:=fun f i=>by
  by_cases h:0<=f/\f < (c.fs.length:Int)
  ·have fk:=cj ok h.1 h.2
   by_cases hi:i < 0 \/ ((aq c.fs f).code.length:Int)<=i
   ·unfold aV;rw [if_pos hi];exact ⟨by decide,by decide⟩
   ·exact (fk.ok _ (ke (by omega) (by omega))).1
  ·have e:aq c.fs f=⟨0,[],0,[]⟩:=by unfold aq;rw [dif_neg (by omega)]
   rw [e];unfold aV;rw [if_pos (by simp;omega)];exact ⟨by decide,by decide⟩
 have h5:=fm (ls:=c.ls) (fun l hl=>(ok.pg.tf l hl).1)
 have har:∀ f,(aP c.fs f).length<=8:=fun f=>by
  rw [fY];have:=hfl f;unfold bT;split
  ·simp
  ·rw [List.length_take];omega
 refine ⟨by have:=ok.pg.t6;simp only at this;omega,h5,fun f=>by have:=hfl f;omega,fun f=>?_,hin,fun f i=>?_,fun f i=>?_⟩
 ·by_cases h:0<=f/\f < (c.fs.length:Int)
  ·have:=(cj ok h.1 h.2).c64;omega
  ·unfold aq;rw [dif_neg (by omega)];simp
 ·unfold skP
  cases e:spP c.sps f i with
  | none=>simp
  | some S=>have:=ok.s8 _ _ _ e;simp;omega
 ·generalize aV (aq c.fs f) i=x
  have a1:=h5 x.2.1
  have a2:=har x.2.1
  unfold ak
  repeat' split
  all_goals first
   | (simp;done)
   | omega
theorem fh (img:ByteArray) (nv:Value) (ns:List Int) (w:World) (hn:RdA w nv ns):Calls Tryz.prog 15 #[.string img,nv] w (dS w img (opF img) (cxO img) ns):=
 jL img nv ns w (opF img) (fun w=>gK img w) cQ (cxO img) rfl (fun h=>(dg h).cxb) hn
end Go.Proofs.YtnfnbcbadakofaaGreat
