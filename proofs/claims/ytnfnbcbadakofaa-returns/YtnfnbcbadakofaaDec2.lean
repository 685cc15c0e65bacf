import Derived.Test.YtnfnbcbadakofaaDec
namespace Go.Proofs.Ytnfnbcbadakofaa
open Go.RowKit
set_option maxHeartbeats 1000000
set_option maxRecDepth 100000
def opn (s:ByteArray):Int × Int × Pg:=if 800 < s.size then (1,0,⟨[],[]⟩) else rdP (bl s)
theorem open_any (s:ByteArray) (w:World) :
 Calls Try.prog 40 #[.string s] w fun e w'=>∃ tv fv,e=.returned (.agg #[tv,fv,(),.int .i64 (opn s).1,.int .i64 (opn s).2.1])/\TypesV w' w.heap.size tv (opn s).2.2.types/\FuncsV 96 98 w' w.heap.size fv (opn s).2.2.funcs /\
  ((opn s).1 ≠ 0->tv=.slice none 0 0/\fv=.slice none 0 0)/\Chg () w w':=by
 have bo:=Blk.new w #[.slice none 0 0,.slice none 0 0,.slice none 0 0,.int .i64 0,.int .i64 0] 80
 have ka:Chg () w (w.alloc (Obj.cells #[(),(),(),oO,oO] 80)):=(Chg.refl _ w).alloc _
 by_cases hs:800 < s.size
 ·have ho:opn s=(1,0,⟨[],[]⟩):=by unfold opn;rw [if_pos hs]
  rw [ho]
  clear ho
  go_enter Try.func40,Try.ntmps40
  go_wp2
  exact bodyPost_ret (v:=.agg #[(),(),(),(1:Int),oO]) (by simp [results,Try.results40,go_sem]) rfl ⟨_,_,rfl,TypesV.nil _ _,FuncsV.nil _ _ _ _,fun _=>⟨rfl,rfl⟩,(Chg.refl _ w).alloc _⟩
 ·have ho:opn s=rdP (bl s):=by unfold opn;rw [if_neg hs]
  rw [ho]
  clear ho
  generalize hR:rdP (bl s)=R
  have HR:=hid hR
  clear hR
  go_enter Try.func40,Try.ntmps40
  go_wp2_with fail
  refine (bytesOf_any s _ (by omega)).mono ?_
  rintro e w1 ⟨nv,rfl,hnv,hch⟩
  have bo1:=bo.chg hch (fun e=>e)
  have k1:=ka.trans hch
  clear bo ka hch
  obtain ⟨na,nc,rfl⟩:=hnv.slice
  go_wp2_with fail
  refine (readProg_any _ (bl s) _ _ hnv (by rw [bl_len];omega)).mono ?_
  rw [HR.out]
  rintro e w2 ⟨tv,fv,rfl,hty,hfv,hnil,hch⟩
  have bo2:=bo1.chg hch (fun e=>e)
  have k2:=k1.trans hch
  have hty2:TypesV w2 w.heap.size tv R.2.2.types:=hty.mono k1.size
  have hfv2:FuncsV 96 98 w2 w.heap.size fv R.2.2.funcs:=hfv.mono k1.size
  have HN:=hid hnil
  clear bo1 k1 hch hty hfv hnv hnil
  obtain ⟨ta,tc,rfl⟩:=hty2.slice
  obtain ⟨fa,fc,rfl⟩:=hfv2.slice
  have o0:w2.cell? ⟨w.heap.size,0,none⟩=some (.slice none 0 0):=bo2.cell 0
  have o1:w2.cell? ⟨w.heap.size,1,none⟩=some (.slice none 0 0):=bo2.cell 1
  have o2:w2.cell? ⟨w.heap.size,2,none⟩=some (.slice none 0 0):=bo2.cell 2
  have o3:w2.cell? ⟨w.heap.size,3,none⟩=some (.int .i64 0):=bo2.cell 3
  have o4:w2.cell? ⟨w.heap.size,4,none⟩=some (.int .i64 0):=bo2.cell 4
  have z0:=bo2.frozen 0
  have z1:=bo2.frozen 1
  have z2:=bo2.frozen 2
  have z3:=bo2.frozen 3
  have z4:=bo2.frozen 4
  have hlt0:=bo2.lt
  go_wp2
  have b3:=(((((bo2.set 0 (.slice ta R.2.2.types.length tc)).set 1 (.slice fa R.2.2.funcs.length fc)).set 2 (.slice none 0 0)).set 3 (.int .i64 R.1)).set 4 (.int .i64 R.2.1))
  have hch4:=chg_set5 w2 w.heap.size (.slice ta R.2.2.types.length tc) (.slice fa R.2.2.funcs.length fc) (.slice none 0 0) (.int .i64 R.1) (.int .i64 R.2.1)
  generalize ((((w2.setCell ⟨w.heap.size,0,none⟩ (.slice ta R.2.2.types.length tc)).setCell ⟨w.heap.size,1,none⟩ (.slice fa R.2.2.funcs.length fc)).setCell ⟨w.heap.size,2,none⟩ ()).setCell ⟨w.heap.size,3,none⟩ R.1).setCell ⟨w.heap.size,4,none⟩ R.2.1=wf at *
  have hD:Chg () w wf:=k2.trans' hch4 (fun i hi e=>by omega)
  have hA:=hty2.chg hch4 (fun g cs hb e=>hb.ne bo2 (by decide) e) (fun g cs hb e=>hb.ne bo2 (by decide) e)
  have hB:=hfv2.chg hch4 (fun g cs hb e=>hb.ne bo2 (by decide) e) (fun g cs hb e=>hb.ne bo2 (by decide) e) (fun g cs hb e=>hb.ne bo2 (by decide) e)
  clear o0 o1 o2 o3 o4 z0 z1 z2 z3 z4 hch4
  have q0:wf.cell? ⟨w.heap.size,0,none⟩=some (.slice ta R.2.2.types.length tc):=b3.cell 0
  have q1:wf.cell? ⟨w.heap.size,1,none⟩=some (.slice fa R.2.2.funcs.length fc):=b3.cell 1
  have q2:wf.cell? ⟨w.heap.size,2,none⟩=some (.slice none 0 0):=b3.cell 2
  have q3:wf.cell? ⟨w.heap.size,3,none⟩=some (.int .i64 R.1):=b3.cell 3
  have q4:wf.cell? ⟨w.heap.size,4,none⟩=some (.int .i64 R.2.1):=b3.cell 4
  exact bodyPost_ret (v:=.agg #[.slice ta R.2.2.types.length tc,.slice fa R.2.2.funcs.length fc,(),R.1,R.2.1]) (by simp [results,Try.results40,go_sem,q0,q1,q2,q3,q4]) rfl ⟨_,_,rfl,hA,hB,HN.out,hD⟩
theorem decode_any (s:ByteArray) (w:World) :
 Calls Try.prog 17 #[.string s] w fun e w'=>∃ tv fv,e=.returned (.tuple #[.agg #[tv,fv],.int .i64 (opn s).1,.int .i64 (opn s).2.1])/\TypesV w' w.heap.size tv (opn s).2.2.types/\FuncsV 96 98 w' w.heap.size fv (opn s).2.2.funcs /\
  ((opn s).1 ≠ 0->tv=.slice none 0 0/\fv=.slice none 0 0)/\Chg () w w':=by
 have bo:=Blk.new w #[.slice none 0 0,.slice none 0 0] 35
 have ka:Chg () w (w.alloc (Obj.cells #[(),()] 35)):=(Chg.refl _ w).alloc _
 generalize hR:opn s=R
 have HR:=hid hR
 clear hR
 go_enter Try.func17,Try.ntmps17
 go_wp2_with fail
 refine (open_any s _).mono ?_
 rw [HR.out]
 rintro e w2 ⟨tv,fv,rfl,hty,hfv,hnil,hch⟩
 have bo2:=bo.chg hch (fun e=>e)
 have k2:=ka.trans hch
 have hty2:TypesV w2 w.heap.size tv R.2.2.types:=hty.mono ka.size
 have hfv2:FuncsV 96 98 w2 w.heap.size fv R.2.2.funcs:=hfv.mono ka.size
 have HN:=hid hnil
 clear bo ka hch hty hfv hnil
 obtain ⟨ta,tc,rfl⟩:=hty2.slice
 obtain ⟨fa,fc,rfl⟩:=hfv2.slice
 have o0:w2.cell? ⟨w.heap.size,0,none⟩=some (.slice none 0 0):=bo2.cell 0
 have o1:w2.cell? ⟨w.heap.size,1,none⟩=some (.slice none 0 0):=bo2.cell 1
 have z0:=bo2.frozen 0
 have z1:=bo2.frozen 1
 have hlt0:=bo2.lt
 go_wp2
 go_region
 go_wp2
 have b3:=((bo2.set 0 (.slice ta R.2.2.types.length tc)).set 1 (.slice fa R.2.2.funcs.length fc)).alloc (Obj.cells #[.slice ta R.2.2.types.length tc,.slice fa R.2.2.funcs.length fc,(),R.1,R.2.1] 80)
 have hch4:=(chg_set2 w2 w.heap.size (.slice ta R.2.2.types.length tc) (.slice fa R.2.2.funcs.length fc)).alloc (Obj.cells #[.slice ta R.2.2.types.length tc,.slice fa R.2.2.funcs.length fc,(),R.1,R.2.1] 80)
 generalize ((w2.setCell ⟨w.heap.size,0,none⟩ (.slice ta R.2.2.types.length tc)).setCell ⟨w.heap.size,1,none⟩ (.slice fa R.2.2.funcs.length fc)).alloc (Obj.cells #[.slice ta R.2.2.types.length tc,.slice fa R.2.2.funcs.length fc,(),R.1,R.2.1] 80)=wf at *
 have hD:Chg () w wf.drew:=(k2.trans' hch4 (fun i hi e=>by omega)).drew
 have hA:=hty2.chg hch4.drew (fun g cs hb e=>hb.ne bo2 (by decide) e) (fun g cs hb e=>hb.ne bo2 (by decide) e)
 have hB:=hfv2.chg hch4.drew (fun g cs hb e=>hb.ne bo2 (by decide) e) (fun g cs hb e=>hb.ne bo2 (by decide) e) (fun g cs hb e=>hb.ne bo2 (by decide) e)
 clear o0 o1 z0 z1 hch4
 have q0:wf.drew.cell? ⟨w.heap.size,0,none⟩=some (.slice ta R.2.2.types.length tc):=b3.cell 0
 have q1:wf.drew.cell? ⟨w.heap.size,1,none⟩=some (.slice fa R.2.2.funcs.length fc):=b3.cell 1
 generalize wf.drew=wg at *
 exact bodyPost_ret (v:=.tuple #[.agg #[.slice ta R.2.2.types.length tc,.slice fa R.2.2.funcs.length fc],R.1,R.2.1]) (by simp [results,Try.results17,go_sem,q0,q1]) rfl ⟨_,_,rfl,hA,hB,HN.out,hD⟩
end Go.Proofs.Ytnfnbcbadakofaa
