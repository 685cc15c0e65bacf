import Derived.Test.YtnfnbcbadakofabTu4
import Derived.Test.YtnfnbcbadakofabStr
import Derived.Test.YtnfnbcbadakofabClr
namespace Go.Proofs.Ytnfnbcbadakofab
open Go.RowKit
set_option maxHeartbeats 4000000 in
set_option maxRecDepth 100000 in
theorem tu_err (img:ByteArray) (nv:Value) (ns:List Int) (w:World) (O:Int × Int × Pg × List Spots) (hop:∀ w,Calls Try.prog 20 #[.string img] w (OfEnd w O)) (c:Cx) (hn:RdA w nv ns) (hz:O.1 ≠ 0) :
 Calls Try.prog 23 #[.string img,nv] w (TuEnd w img O c ns):=by
 obtain ⟨na,nc,hnv⟩:=hn.slice
 subst hnv
 have HOP:=hid hop
 have HZ:=hid hz
 have hz':(O.1 != 0)=true:=by simp [hz]
 clear hop hn hz
 have kA:Chg () w (w.alloc (Obj.cells #[.string ⟨#[]⟩,(),(),(),oO,oO,oO,(),(),oO,oO,(),(),(),oO,()] 65)):=(Chg.refl _ w).alloc _
 have BA:=Blk.new w #[.string ⟨#[]⟩,.slice none 0 0,.slice none 0 0,.slice none 0 0,.int .i64 0,.int .i64 0,.int .i64 0,.slice none 0 0,.slice none 0 0,.int .i64 0,.int .i64 0,.slice none 0 0,.slice none 0 0,.slice none 0 0,.int .i64 0,.slice none 0 0] 65
 go_enter Try.func23,Try.ntmps23
 go_wp2_with fail
 refine (HOP.out _).mono ?_
 rintro e w1 ⟨tv,fv,sv,rfl,⟨hty,hfv,hsl,hch⟩,_⟩
 obtain ⟨ta,tc,htv⟩:=hty.slice
 obtain ⟨fa,fc,hfv'⟩:=hfv.slice
 obtain ⟨sa,sc,hsv⟩:=hsl.slice
 generalize O.2.2.1.types.length=tn at htv
 generalize O.2.2.1.funcs.length=fln at hfv'
 generalize O.2.2.2.length=sn at hsv
 subst htv hfv' hsv
 have k2:Chg () w (w1.alloc (Obj.cells #[.slice ta tn tc,.slice fa fln fc,.slice sa sn sc,O.1,O.2.1] 59)):=(kA.trans hch).alloc _
 have B2:=BA.chg (hch.alloc (Obj.cells #[.slice ta tn tc,.slice fa fln fc,.slice sa sn sc,O.1,O.2.1] 59)) (fun q=>q)
 have n80:=Blk.new w1 #[.slice ta tn tc,.slice fa fln fc,.slice sa sn sc,.int .i64 O.1,.int .i64 O.2.1] 59
 have y3:(w1.alloc (Obj.cells #[.slice ta tn tc,.slice fa fln fc,.slice sa sn sc,O.1,O.2.1] 59)).cell? ⟨w1.heap.size,3,none⟩=some (.int .i64 O.1):=n80.cell 3
 have hne:w.heap.size ≠ w1.heap.size:=B2.ne n80 (by decide)
 have hne':=hne.symm
 have hbl:=B2.lt
 have BB:=hid B2
 have K2:=hid k2
 obtain ⟨o0,o1,o2,o3,o4,o5,o6,o7,o8,o9,o10,o11,o12,o13,o14,o15,z0,z1,z2,z3,z4,z5,z6,z7,z8,z9,z10,z11,z12,z13,z14,z15⟩:=cells16 B2
 clear hty hfv hsl hch kA BA HOP B2 n80 k2
 go_wp2
 go_region
 obtain ⟨hkk,hb16⟩:=set16 BB.out (.string ⟨#[]⟩) (.slice none 0 0) (.slice none 0 0) (.slice none 0 0) (.int .i64 0) (.int .i64 0) (.int .i64 0) (.slice none 0 0) (.slice none 0 0) (.int .i64 0) (.int .i64 0) (.slice none 0 0) (.slice none 0 0) (.slice none 0 0) (.int .i64 0) (.slice none 0 0) _ rfl
 have FIN:Hid (TuEnd w img O c ns (.returned (.tuple #[.agg #[.string ⟨#[]⟩,(),(),(),oO,oO,oO,(),(),oO,oO,(),(),(),oO,()],O.1])) ((((((((((((((((((w1.alloc (Obj.cells #[.slice ta tn tc,.slice fa fln fc,.slice sa sn sc,O.1,O.2.1] 59)).setCell ⟨w.heap.size,0,none⟩ (.string ⟨#[]⟩)).setCell ⟨w.heap.size,1,none⟩ ()).setCell ⟨w.heap.size,2,none⟩ ()).setCell ⟨w.heap.size,3,none⟩ ()).setCell ⟨w.heap.size,4,none⟩ oO).setCell ⟨w.heap.size,5,none⟩ oO).setCell ⟨w.heap.size,6,none⟩ oO).setCell ⟨w.heap.size,7,none⟩ ()).setCell ⟨w.heap.size,8,none⟩ ()).setCell ⟨w.heap.size,9,none⟩ oO).setCell ⟨w.heap.size,10,none⟩ oO).setCell ⟨w.heap.size,11,none⟩ ()).setCell ⟨w.heap.size,12,none⟩ ()).setCell ⟨w.heap.size,13,none⟩ ()).setCell ⟨w.heap.size,14,none⟩ oO).setCell ⟨w.heap.size,15,none⟩ ())).drew):=
  ⟨(K2.out.trans' hkk (fun i hi e=>by omega)).drew,fun _=>rfl,fun q=>absurd q HZ.out⟩
 have HB16:=hid (hb16.drew)
 clear hkk hb16 o0 o1 o2 o3 o4 o5 o6 o7 o8 o9 o10 o11 o12 o13 o14 o15 z0 z1 z2 z3 z4 z5 z6 z7 z8 z9 z10 z11 z12 z13 z14 z15 y3
 go_wp2
 generalize ((((((((((((((((((w1.alloc (Obj.cells #[.slice ta tn tc,.slice fa fln fc,.slice sa sn sc,O.1,O.2.1] 59)).setCell ⟨w.heap.size,0,none⟩ (.string ⟨#[]⟩)).setCell ⟨w.heap.size,1,none⟩ ()).setCell ⟨w.heap.size,2,none⟩ ()).setCell ⟨w.heap.size,3,none⟩ ()).setCell ⟨w.heap.size,4,none⟩ oO).setCell ⟨w.heap.size,5,none⟩ oO).setCell ⟨w.heap.size,6,none⟩ oO).setCell ⟨w.heap.size,7,none⟩ ()).setCell ⟨w.heap.size,8,none⟩ ()).setCell ⟨w.heap.size,9,none⟩ oO).setCell ⟨w.heap.size,10,none⟩ oO).setCell ⟨w.heap.size,11,none⟩ ()).setCell ⟨w.heap.size,12,none⟩ ()).setCell ⟨w.heap.size,13,none⟩ ()).setCell ⟨w.heap.size,14,none⟩ oO).setCell ⟨w.heap.size,15,none⟩ ())).drew=wf at FIN HB16 ⊢
 have HB:=HB16.out
 have q0:wf.cell? ⟨w.heap.size,0,none⟩=some (.string ⟨#[]⟩):=HB.cell 0
 have q1:wf.cell? ⟨w.heap.size,1,none⟩=some (.slice none 0 0):=HB.cell 1
 have q2:wf.cell? ⟨w.heap.size,2,none⟩=some (.slice none 0 0):=HB.cell 2
 have q3:wf.cell? ⟨w.heap.size,3,none⟩=some (.slice none 0 0):=HB.cell 3
 have q4:wf.cell? ⟨w.heap.size,4,none⟩=some (.int .i64 0):=HB.cell 4
 have q5:wf.cell? ⟨w.heap.size,5,none⟩=some (.int .i64 0):=HB.cell 5
 have q6:wf.cell? ⟨w.heap.size,6,none⟩=some (.int .i64 0):=HB.cell 6
 have q7:wf.cell? ⟨w.heap.size,7,none⟩=some (.slice none 0 0):=HB.cell 7
 have q8:wf.cell? ⟨w.heap.size,8,none⟩=some (.slice none 0 0):=HB.cell 8
 have q9:wf.cell? ⟨w.heap.size,9,none⟩=some (.int .i64 0):=HB.cell 9
 have q10:wf.cell? ⟨w.heap.size,10,none⟩=some (.int .i64 0):=HB.cell 10
 have q11:wf.cell? ⟨w.heap.size,11,none⟩=some (.slice none 0 0):=HB.cell 11
 have q12:wf.cell? ⟨w.heap.size,12,none⟩=some (.slice none 0 0):=HB.cell 12
 have q13:wf.cell? ⟨w.heap.size,13,none⟩=some (.slice none 0 0):=HB.cell 13
 have q14:wf.cell? ⟨w.heap.size,14,none⟩=some (.int .i64 0):=HB.cell 14
 have q15:wf.cell? ⟨w.heap.size,15,none⟩=some (.slice none 0 0):=HB.cell 15
 exact bodyPost_ret (v:=.tuple #[.agg #[.string ⟨#[]⟩,(),(),(),oO,oO,oO,(),(),oO,oO,(),(),(),oO,()],O.1]) (by simp [results,Try.results23,go_sem,q0,q1,q2,q3,q4,q5,q6,q7,q8,q9,q10,q11,q12,q13,q14,q15]) rfl FIN.out
theorem takeUp_core (img:ByteArray) (nv:Value) (ns:List Int) (w:World) (O:Int × Int × Pg × List Spots) (hop:∀ w,Calls Try.prog 20 #[.string img] w (OfEnd w O)) (hs:O.1=0->img.size<=800) (c:Cx) (hc:c=⟨O.2.2.1.types,O.2.2.1.funcs,O.2.2.2⟩) (cb:O.1=0->CxB c) (hn:RdA w nv ns) :
 Calls Try.prog 23 #[.string img,nv] w (TuEnd w img O c ns):=by
 by_cases hz:O.1=0
 ·by_cases hst:(thP (mksP img) ns (0,false)).1.2.2=0
  ·exact tu_B img nv ns w O hop hs c hc cb hn hz hst
  ·exact tu_A img nv ns w O hop hs c hc cb hn hz hst
 ·exact tu_err img nv ns w O hop c hn hz
theorem CxOk.cxb {c:Cx} (ok:CxOk c):CxB c:=by
 have hfl:=fun f=>fnAt_l8 ok f
 have hin:∀ f i,0<=(insP (fnAt c.fs f) i).1/\(insP (fnAt c.fs f) i).1<=18:=fun f i=>by
  by_cases h:0<=f/\f < (c.fs.length:Int)
  ·have fk:=fnAt_ok ok h.1 h.2
   by_cases hi:i < 0 \/ ((fnAt c.fs f).code.length:Int)<=i
   ·unfold insP;rw [if_pos hi];exact ⟨by decide,by decide⟩
   ·exact (fk.ok _ (insP_mem (by omega) (by omega))).1
  ·have e:fnAt c.fs f=⟨0,[],0,[]⟩:=by unfold fnAt;rw [dif_neg (by omega)]
   rw [e];unfold insP;rw [if_pos (by simp;omega)];exact ⟨by decide,by decide⟩
 have h5:=flds_5 (ls:=c.ls) (fun l hl=>(ok.pg.tf l hl).1)
 have har:∀ f,(argsF c.fs f).length<=8:=fun f=>by
  rw [argsF_eq];have:=hfl f;unfold frontP;split
  ·simp
  ·rw [List.length_take];omega
 refine ⟨by have:=ok.pg.t6;simp only at this;omega,h5,fun f=>by have:=hfl f;omega,fun f=>?_,hin,fun f i=>?_,fun f i=>?_⟩
 ·by_cases h:0<=f/\f < (c.fs.length:Int)
  ·have:=(fnAt_ok ok h.1 h.2).c64;omega
  ·unfold fnAt;rw [dif_neg (by omega)];simp
 ·unfold skP
  cases e:spP c.sps f i with
  | none=>simp
  | some S=>have:=ok.s8 _ _ _ e;simp;omega
 ·generalize insP (fnAt c.fs f) i=x
  have a1:=h5 x.2.1
  have a2:=har x.2.1
  unfold ahead
  repeat' split
  all_goals first
   | (simp;done)
   | omega
theorem takeUp_any (img:ByteArray) (nv:Value) (ns:List Int) (w:World) (hn:RdA w nv ns):Calls Try.prog 23 #[.string img,nv] w (TuEnd w img (opF img) (cxO img) ns):=
 takeUp_core img nv ns w (opF img) (fun w=>openFit_any img w) opF_size (cxO img) rfl (fun h=>(cx_ok h).cxb) hn
end Go.Proofs.Ytnfnbcbadakofab
