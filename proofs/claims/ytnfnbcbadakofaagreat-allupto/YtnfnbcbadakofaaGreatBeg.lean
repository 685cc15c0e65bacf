import Derived.Test.YtnfnbcbadakofaaGreatSta
import Derived.Deep.RegionHeld3
namespace Go.Proofs.YtnfnbcbadakofaaGreat
open Go.RowKit
set_option maxHeartbeats 2000000
set_option maxRecDepth 100000
theorem sy {w:World} {b:Nat} {e:TypeId} (h:Blk w b #[.string ⟨#[]⟩,.slice none 0 0,.slice none 0 0,.slice none 0 0,.int .i64 0,.int .i64 0,.int .i64 0,.slice none 0 0,.slice none 0 0,.int .i64 0,.int .i64 0,.slice none 0 0,.slice none 0 0,.slice none 0 0,.int .i64 0,.slice none 0 0] e) (x0 x1 x2 x3 x4 x5 x6 x7 x8 x9 x10 x11 x12 x13 x14 x15:Value) (wf:World) (hwf:wf=((((((((((((((((w.setCell ⟨b,0,none⟩ x0).setCell ⟨b,1,none⟩ x1).setCell ⟨b,2,none⟩ x2).setCell ⟨b,3,none⟩ x3).setCell ⟨b,4,none⟩ x4).setCell ⟨b,5,none⟩ x5).setCell ⟨b,6,none⟩ x6).setCell ⟨b,7,none⟩ x7).setCell ⟨b,8,none⟩ x8).setCell ⟨b,9,none⟩ x9).setCell ⟨b,10,none⟩ x10).setCell ⟨b,11,none⟩ x11).setCell ⟨b,12,none⟩ x12).setCell ⟨b,13,none⟩ x13).setCell ⟨b,14,none⟩ x14).setCell ⟨b,15,none⟩ x15)):Chg (fun k=>k=b) w wf/\Blk wf b #[x0,x1,x2,x3,x4,x5,x6,x7,x8,x9,x10,x11,x12,x13,x14,x15] e:=by
 subst hwf
 refine ⟨(Chg.setCell (S:=fun k=>k=b) (Chg.setCell (S:=fun k=>k=b) (Chg.setCell (S:=fun k=>k=b) (Chg.setCell (S:=fun k=>k=b) (Chg.setCell (S:=fun k=>k=b) (Chg.setCell (S:=fun k=>k=b) (Chg.setCell (S:=fun k=>k=b) (Chg.setCell (S:=fun k=>k=b) (Chg.setCell (S:=fun k=>k=b) (Chg.setCell (S:=fun k=>k=b) (Chg.setCell (S:=fun k=>k=b) (Chg.setCell (S:=fun k=>k=b) (Chg.setCell (S:=fun k=>k=b) (Chg.setCell (S:=fun k=>k=b) (Chg.setCell (S:=fun k=>k=b) (Chg.setCell (S:=fun k=>k=b) (Chg.refl (fun k=>k=b) w) ⟨b,0,none⟩ x0 (Or.inl rfl)) ⟨b,1,none⟩ x1 (Or.inl rfl)) ⟨b,2,none⟩ x2 (Or.inl rfl)) ⟨b,3,none⟩ x3 (Or.inl rfl)) ⟨b,4,none⟩ x4 (Or.inl rfl)) ⟨b,5,none⟩ x5 (Or.inl rfl)) ⟨b,6,none⟩ x6 (Or.inl rfl)) ⟨b,7,none⟩ x7 (Or.inl rfl)) ⟨b,8,none⟩ x8 (Or.inl rfl)) ⟨b,9,none⟩ x9 (Or.inl rfl)) ⟨b,10,none⟩ x10 (Or.inl rfl)) ⟨b,11,none⟩ x11 (Or.inl rfl)) ⟨b,12,none⟩ x12 (Or.inl rfl)) ⟨b,13,none⟩ x13 (Or.inl rfl)) ⟨b,14,none⟩ x14 (Or.inl rfl)) ⟨b,15,none⟩ x15 (Or.inl rfl)),?_⟩
 have hb:=((((((((((((((((h.set 0 x0).set 1 x1).set 2 x2).set 3 x3).set 4 x4).set 5 x5).set 6 x6).set 7 x7).set 8 x8).set 9 x9).set 10 x10).set 11 x11).set 12 x12).set 13 x13).set 14 x14).set 15 x15)
 have e16:((((((((((((((((#[Value.string ⟨#[]⟩,.slice none 0 0,.slice none 0 0,.slice none 0 0,.int .i64 0,.int .i64 0,.int .i64 0,.slice none 0 0,.slice none 0 0,.int .i64 0,.int .i64 0,.slice none 0 0,.slice none 0 0,.slice none 0 0,.int .i64 0,.slice none 0 0].setIfInBounds 0 x0).setIfInBounds 1 x1).setIfInBounds 2 x2).setIfInBounds 3 x3).setIfInBounds 4 x4).setIfInBounds 5 x5).setIfInBounds 6 x6).setIfInBounds 7 x7).setIfInBounds 8 x8).setIfInBounds 9 x9).setIfInBounds 10 x10).setIfInBounds 11 x11).setIfInBounds 12 x12).setIfInBounds 13 x13).setIfInBounds 14 x14).setIfInBounds 15 x15)=#[x0,x1,x2,x3,x4,x5,x6,x7,x8,x9,x10,x11,x12,x13,x14,x15]:=by simp
 rw [e16] at hb
 exact hb
theorem gT {w:World} {b:Nat} {e:TypeId} (h:Blk w b #[.string ⟨#[]⟩,.slice none 0 0,.slice none 0 0,.slice none 0 0,.int .i64 0,.int .i64 0,.int .i64 0,.slice none 0 0,.slice none 0 0,.int .i64 0,.int .i64 0,.slice none 0 0,.slice none 0 0,.slice none 0 0,.int .i64 0,.slice none 0 0] e):w.cell? ⟨b,0,none⟩=some (.string ⟨#[]⟩)/\w.cell? ⟨b,1,none⟩=some (.slice none 0 0)/\w.cell? ⟨b,2,none⟩=some (.slice none 0 0)/\w.cell? ⟨b,3,none⟩=some (.slice none 0 0)/\w.cell? ⟨b,4,none⟩=some (.int .i64 0)/\w.cell? ⟨b,5,none⟩=some (.int .i64 0)/\w.cell? ⟨b,6,none⟩=some (.int .i64 0)/\w.cell? ⟨b,7,none⟩=some (.slice none 0 0)/\w.cell? ⟨b,8,none⟩=some (.slice none 0 0)/\w.cell? ⟨b,9,none⟩=some (.int .i64 0)/\w.cell? ⟨b,10,none⟩=some (.int .i64 0)/\w.cell? ⟨b,11,none⟩=some (.slice none 0 0)/\w.cell? ⟨b,12,none⟩=some (.slice none 0 0)/\w.cell? ⟨b,13,none⟩=some (.slice none 0 0)/\w.cell? ⟨b,14,none⟩=some (.int .i64 0)/\w.cell? ⟨b,15,none⟩=some (.slice none 0 0)/\w.frozen? ⟨b,0,none⟩=false/\w.frozen? ⟨b,1,none⟩=false/\w.frozen? ⟨b,2,none⟩=false/\w.frozen? ⟨b,3,none⟩=false/\w.frozen? ⟨b,4,none⟩=false/\w.frozen? ⟨b,5,none⟩=false/\w.frozen? ⟨b,6,none⟩=false/\w.frozen? ⟨b,7,none⟩=false/\w.frozen? ⟨b,8,none⟩=false/\w.frozen? ⟨b,9,none⟩=false/\w.frozen? ⟨b,10,none⟩=false/\w.frozen? ⟨b,11,none⟩=false/\w.frozen? ⟨b,12,none⟩=false/\w.frozen? ⟨b,13,none⟩=false/\w.frozen? ⟨b,14,none⟩=false/\w.frozen? ⟨b,15,none⟩=false:=
 ⟨h.cell 0,h.cell 1,h.cell 2,h.cell 3,h.cell 4,h.cell 5,h.cell 6,h.cell 7,h.cell 8,h.cell 9,h.cell 10,h.cell 11,h.cell 12,h.cell 13,h.cell 14,h.cell 15,h.frozen 0,h.frozen 1,h.frozen 2,h.frozen 3,h.frozen 4,h.frozen 5,h.frozen 6,h.frozen 7,h.frozen 8,h.frozen 9,h.frozen 10,h.frozen 11,h.frozen 12,h.frozen 13,h.frozen 14,h.frozen 15⟩
theorem mA {W2 w4:World} {ob fb:Nat} {a0 a1 a2 a3 a4 b0 b1 b2 b3:Value} (bo:Blk W2 ob #[a0,a1,a2,a3,a4] 83) (bf:Blk W2 fb #[b0,b1,b2,b3] 111) (k:Chg () W2.drew w4) :
 w4.cell? ⟨ob,0,none⟩=some a0/\w4.cell? ⟨ob,1,none⟩=some a1/\w4.cell? ⟨ob,2,none⟩=some a2/\w4.cell? ⟨fb,0,none⟩=some b0/\w4.cell? ⟨fb,1,none⟩=some b1/\w4.cell? ⟨fb,2,none⟩=some b2/\w4.cell? ⟨fb,3,none⟩=some b3:=
 have h1:=bo.drew.chg k (fun e=>e)
 have h2:=bf.drew.chg k (fun e=>e)
 ⟨h1.cell 0,h1.cell 1,h1.cell 2,h2.cell 0,h2.cell 1,h2.cell 2,h2.cell 3⟩
theorem mT (s:ByteArray) (ta fa sa:Option Addr) (tn tc fc sn sc:Nat) (er at_:Int) (fs:List Fn) (w:World) (b1:Nat) (hf:aj 111 135 w b1 (.slice fa fs.length fc) fs) (hll:(aq fs 0).locals.length<=10000) :
 Calls Tryz.prog 23 #[.agg #[.slice ta tn tc,.slice fa fs.length fc,.slice sa sn sc,er,at_],.string s] w fun e w'=>∃ va n vc,e=.returned (.agg #[.string s,.slice ta tn tc,.slice fa fs.length fc,.slice sa sn sc,oO,oO,oO,(),(),oO,oO,.slice va n vc,(),(),oO,()]) /\
  ad w' w.heap.size (.slice va n vc) (List.replicate (aq fs 0).locals.length 0)/\Chg () w w':=by
 have kb:Chg () w ((w.alloc (Obj.cells #[.slice ta tn tc,.slice fa fs.length fc,.slice sa sn sc,er,at_] 83)).alloc (Obj.cells #[.string ⟨#[]⟩,(),(),(),oO,oO,oO,(),(),oO,oO,(),(),(),oO,()] 62)):=((Chg.refl _ w).alloc _).alloc _
 have bo:Blk ((w.alloc (Obj.cells #[.slice ta tn tc,.slice fa fs.length fc,.slice sa sn sc,er,at_] 83)).alloc (Obj.cells #[.string ⟨#[]⟩,(),(),(),oO,oO,oO,(),(),oO,oO,(),(),(),oO,()] 62)) w.heap.size #[.slice ta tn tc,.slice fa fs.length fc,.slice sa sn sc,er,at_] 83:=(Blk.new w _ 83).alloc _
 have br:Blk ((w.alloc (Obj.cells #[.slice ta tn tc,.slice fa fs.length fc,.slice sa sn sc,er,at_] 83)).alloc (Obj.cells #[.string ⟨#[]⟩,(),(),(),oO,oO,oO,(),(),oO,oO,(),(),(),oO,()] 62)) (w.heap.size+1) #[.string ⟨#[]⟩,(),(),(),oO,oO,oO,(),(),oO,oO,(),(),(),oO,()] 62:=Blk.new' (w:=w.alloc (Obj.cells #[.slice ta tn tc,.slice fa fs.length fc,.slice sa sn sc,er,at_] 83)) (by simp) _ 62
 have hf0:=hf.chg kb (fun _ _ _ e=>e) (fun _ _ _ e=>e) (fun _ _ _ e=>e)
 clear hf
 go_enter Tryz.func23,Tryz.ntmps23
 go_wp2_with fail
 generalize ((w.alloc (Obj.cells #[.slice ta tn tc,.slice fa fs.length fc,.slice sa sn sc,er,at_] 83)).alloc (Obj.cells #[.string ⟨#[]⟩,(),(),(),oO,oO,oO,(),(),oO,oO,(),(),(),oO,()] 62))=W0 at *
 refine (fq _ fs 0 _ b1 hf0).mono ?_
 rintro e w1 ⟨lv,cv,rfl,hl,hc,k1⟩
 obtain ⟨la,lc,rfl⟩:=hl.slice
 obtain ⟨ca,cc,rfl⟩:=hc.slice
 generalize hFE:aq fs 0=f at *
 have HFE:=hid hFE
 clear hFE
 have j1:Chg () w1 (w1.alloc (Obj.cells #[f.args,.slice la f.locals.length lc,f.result,.slice ca f.code.length cc] 111)):=(Chg.refl _ w1).alloc _
 have bf:Blk (w1.alloc (Obj.cells #[f.args,.slice la f.locals.length lc,f.result,.slice ca f.code.length cc] 111)) w1.heap.size #[f.args,.slice la f.locals.length lc,f.result,.slice ca f.code.length cc] 111:=Blk.new w1 _ 111
 have k2:=k1.trans j1
 have bo2:=bo.chg k2 (fun e=>e)
 have br2:=br.chg k2 (fun e=>e)
 have hl2:=hl.chg j1 (fun _ _ _ e=>e)
 have hfb:w.heap.size+1 < w1.heap.size:=Nat.lt_of_lt_of_le br.lt k1.size
 have hfb1:w1.heap.size ≠ w.heap.size+1:=by omega
 have hfb2:w.heap.size+1 ≠ w1.heap.size:=by omega
 clear hl hc hf0 bo br j1 k1
 go_wp2_with fail
 generalize w1.alloc (Obj.cells #[f.args,.slice la f.locals.length lc,f.result,.slice ca f.code.length cc] 111)=W2 at *
 generalize w1.heap.size=fb at *
 have d0:W2.cell? ⟨w.heap.size,0,none⟩=some (.slice ta tn tc):=bo2.cell 0
 have d1:W2.cell? ⟨w.heap.size,1,none⟩=some (.slice fa fs.length fc):=bo2.cell 1
 have d2:W2.cell? ⟨w.heap.size,2,none⟩=some (.slice sa sn sc):=bo2.cell 2
 have f0:W2.cell? ⟨fb,0,none⟩=some (.int .i64 f.args):=bf.cell 0
 have f1:W2.cell? ⟨fb,1,none⟩=some (.slice la f.locals.length lc):=bf.cell 1
 have f2:W2.cell? ⟨fb,2,none⟩=some (.int .i64 f.result):=bf.cell 2
 have f3:W2.cell? ⟨fb,3,none⟩=some (.slice ca f.code.length cc):=bf.cell 3
 have HEN0:=gG 0 f _ ca f.code.length cc (.slice none 0 0) [] W2.drew b1 (aA hl2) (.inl ⟨rfl,rfl⟩) hll (by simp)
 have HEN:=hid HEN0
 clear HEN0
 go_region_held3 (fun w'=>w'.cell? ⟨w.heap.size,0,none⟩=some (.slice ta tn tc)/\w'.cell? ⟨w.heap.size,1,none⟩=some (.slice fa fs.length fc)/\w'.cell? ⟨w.heap.size,2,none⟩=some (.slice sa sn sc)/\w'.cell? ⟨fb,0,none⟩=some (.int .i64 f.args)/\w'.cell? ⟨fb,1,none⟩=some (.slice la f.locals.length lc)/\w'.cell? ⟨fb,2,none⟩=some (.int .i64 f.result)/\w'.cell? ⟨fb,3,none⟩=some (.slice ca f.code.length cc)) (go_keep) (first | (go_at_call 38;refine (Calls.mono HEN.out ?_);rintro e w4 ⟨v,rfl,hv,hch4⟩;obtain ⟨va,vc,rfl⟩:=hv.slice;obtain ⟨y0,y1,y2,y3,y4,y5,y6⟩:=mA bo2 bf hch4;obtain ⟨o0,o1,o2,o3,o4,o5,o6,o7,o8,o9,o10,o11,o12,o13,o14,o15,z0,z1,z2,z3,z4,z5,z6,z7,z8,z9,z10,z11,z12,z13,z14,z15⟩:=gT (br2.drew.chg hch4 (fun e=>e))))
 clear y0 y1 y2 y3 y4 y5 y6 d0 d1 d2 f0 f1 f2 f3 HEN
 clear o0 z0 o1 z1 o2 z2 o3 z3 o4 z4 o5 z5 o6 z6 o7 z7 o8 z8 o9 z9 o10 z10 o11 z11 o12 z12 o13 z13 o14 z14 o15 z15
 go_wp2
 have br4:=br2.drew.chg hch4 (fun e=>e)
 have kD:Chg () w w4:=(kb.trans k2).drew.trans hch4
 obtain ⟨hkk,hb16⟩:=sy br4 (.string s) (.slice ta tn tc) (.slice fa fs.length fc) (.slice sa sn sc) (.int .i64 0) (.int .i64 0) (.int .i64 0) (.slice none 0 0) (.slice none 0 0) (.int .i64 0) (.int .i64 0) (.slice va (dZ 0 f []).locals.length vc) (.slice none 0 0) (.slice none 0 0) (.int .i64 0) (.slice none 0 0) _ rfl
 have hD:=kD.trans' hkk (fun i hi e=>by omega)
 have hv':=hv.chg hkk (fun g cs hb e=>hb.ne br4 (by decide) e)
 generalize ((((((((((((((((w4.setCell ⟨w.heap.size+1,0,none⟩ (.string s)).setCell ⟨w.heap.size+1,1,none⟩ (.slice ta tn tc)).setCell ⟨w.heap.size+1,2,none⟩ (.slice fa fs.length fc)).setCell ⟨w.heap.size+1,3,none⟩ (.slice sa sn sc)).setCell ⟨w.heap.size+1,4,none⟩ oO).setCell ⟨w.heap.size+1,5,none⟩ oO).setCell ⟨w.heap.size+1,6,none⟩ oO).setCell ⟨w.heap.size+1,7,none⟩ ()).setCell ⟨w.heap.size+1,8,none⟩ ()).setCell ⟨w.heap.size+1,9,none⟩ oO).setCell ⟨w.heap.size+1,10,none⟩ oO).setCell ⟨w.heap.size+1,11,none⟩ (.slice va (dZ 0 f []).locals.length vc)).setCell ⟨w.heap.size+1,12,none⟩ ()).setCell ⟨w.heap.size+1,13,none⟩ ()).setCell ⟨w.heap.size+1,14,none⟩ oO).setCell ⟨w.heap.size+1,15,none⟩ ())=wf at *
 have q0:wf.cell? ⟨w.heap.size+1,0,none⟩=some (.string s):=hb16.cell 0
 have q1:wf.cell? ⟨w.heap.size+1,1,none⟩=some (.slice ta tn tc):=hb16.cell 1
 have q2:wf.cell? ⟨w.heap.size+1,2,none⟩=some (.slice fa fs.length fc):=hb16.cell 2
 have q3:wf.cell? ⟨w.heap.size+1,3,none⟩=some (.slice sa sn sc):=hb16.cell 3
 have q4:wf.cell? ⟨w.heap.size+1,4,none⟩=some (.int .i64 0):=hb16.cell 4
 have q5:wf.cell? ⟨w.heap.size+1,5,none⟩=some (.int .i64 0):=hb16.cell 5
 have q6:wf.cell? ⟨w.heap.size+1,6,none⟩=some (.int .i64 0):=hb16.cell 6
 have q7:wf.cell? ⟨w.heap.size+1,7,none⟩=some (.slice none 0 0):=hb16.cell 7
 have q8:wf.cell? ⟨w.heap.size+1,8,none⟩=some (.slice none 0 0):=hb16.cell 8
 have q9:wf.cell? ⟨w.heap.size+1,9,none⟩=some (.int .i64 0):=hb16.cell 9
 have q10:wf.cell? ⟨w.heap.size+1,10,none⟩=some (.int .i64 0):=hb16.cell 10
 have q11:wf.cell? ⟨w.heap.size+1,11,none⟩=some (.slice va (dZ 0 f []).locals.length vc):=hb16.cell 11
 have q12:wf.cell? ⟨w.heap.size+1,12,none⟩=some (.slice none 0 0):=hb16.cell 12
 have q13:wf.cell? ⟨w.heap.size+1,13,none⟩=some (.slice none 0 0):=hb16.cell 13
 have q14:wf.cell? ⟨w.heap.size+1,14,none⟩=some (.int .i64 0):=hb16.cell 14
 have q15:wf.cell? ⟨w.heap.size+1,15,none⟩=some (.slice none 0 0):=hb16.cell 15
 have hsz:w.heap.size<=W2.drew.heap.size:=(kb.trans k2).size
 exact bodyPost_ret (v:=.agg #[.string s,.slice ta tn tc,.slice fa fs.length fc,.slice sa sn sc,oO,oO,oO,(),(),oO,oO,.slice va (dZ 0 f []).locals.length vc,(),(),oO,()]) (by simp [results,Tryz.results23,go_sem,q0,q1,q2,q3,q4,q5,q6,q7,q8,q9,q10,q11,q12,q13,q14,q15]) rfl ⟨_,_,_,rfl,by rw [HFE.out];have:=am hv' hsz;simpa [dZ,ad] using this,hD⟩
end Go.Proofs.YtnfnbcbadakofaaGreat
