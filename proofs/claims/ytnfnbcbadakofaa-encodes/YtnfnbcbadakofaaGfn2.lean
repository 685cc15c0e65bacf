import Derived.Test.YtnfnbcbadakofaaGfn
namespace Go.Proofs.Ytnfnbcbadakofaa
open Go.RowKit
set_option maxHeartbeats 4000000 in
set_option maxRecDepth 100000 in
theorem goodFunc_rd (ta:Option Addr) (tc:Nat) (fv:Value) (ls:List (List Int)) (fs:List Fn) (k:Nat) (w:World) (ht:RdTs w (.slice ta ls.length tc) ls) (hf:RdFs w fv fs) (hk:k < fs.length) (hl6:ls.length<=6) (hl5:∀ j,(ls.getD j []).length<=10000) (hf6:fs.length<=6) (hbig:fs[k].locals.length<=17592186044416/\fs[k].code.length<=17592186044416) :
 Calls Try.prog 71 #[.agg #[.slice ta ls.length tc,fv],k] w fun e w'=>e=.returned (.bool (gFP ls fs.length k fs[k]))/\Chg () w w':=by
 rcases hf with ⟨rfl,rfl⟩ | ⟨a,fc,rfl,_,_,hcells⟩
 ·simp at hk
 obtain ⟨lv,cv,e0,e1,e2,e3,hl,hc⟩:=hcells k hk
 obtain ⟨la,lc,rfl⟩:=hl.slice
 obtain ⟨ca,cc,rfl⟩:=hc.slice
 clear hcells
 have hk':(k:Int) < (fs.length:Int):=by omega
 generalize fs[k]=f at *
 obtain ⟨hbl,hbc⟩:=hbig
 have kb:Chg () w (w.alloc (Obj.cells #[.slice ta ls.length tc,.slice (some a) fs.length fc] 28)):=(Chg.refl _ w).alloc _
 have d0:=kb.cellF e0
 have d1:=kb.cellF e1
 have d2:=kb.cellF e2
 have d3:=kb.cellF e3
 have kc:Chg () w ((w.alloc (Obj.cells #[.slice ta ls.length tc,.slice (some a) fs.length fc] 28)).alloc (Obj.cells #[f.args,.slice la f.locals.length lc,f.result,.slice ca f.code.length cc] 92)):=kb.alloc _
 have hl1:=hl.new kc
 have hc1:=hc.new kc
 have ht1:=ht.new kc
 have bp:Blk ((w.alloc (Obj.cells #[.slice ta ls.length tc,.slice (some a) fs.length fc] 28)).alloc (Obj.cells #[f.args,.slice la f.locals.length lc,f.result,.slice ca f.code.length cc] 92)) w.heap.size #[.slice ta ls.length tc,.slice (some a) fs.length fc] 28:=(Blk.new w _ 28).alloc _
 have bf:Blk ((w.alloc (Obj.cells #[.slice ta ls.length tc,.slice (some a) fs.length fc] 28)).alloc (Obj.cells #[f.args,.slice la f.locals.length lc,f.result,.slice ca f.code.length cc] 92)) (w.heap.size+1) #[f.args,.slice la f.locals.length lc,f.result,.slice ca f.code.length cc] 92:=Blk.new' (w:=(w.alloc (Obj.cells #[.slice ta ls.length tc,.slice (some a) fs.length fc] 28))) (by simp) _ 92
 clear ht hl hc e0 e1 e2 e3
 generalize hAD:a.add (k * 4)=ad at *
 have HAD:=hid hAD
 go_enter Try.func71,Try.ntmps71
 go_wp2_with fail
 clear d0 d1 d2 d3 hAD
 generalize ((w.alloc (Obj.cells #[.slice ta ls.length tc,.slice (some a) fs.length fc] 28)).alloc (Obj.cells #[f.args,.slice la f.locals.length lc,f.result,.slice ca f.code.length cc] 92))=W1 at *
 have kT:=kc
 have p0:W1.cell? ⟨w.heap.size,0,none⟩=some (.slice ta ls.length tc):=bp.cell 0
 have p1:W1.cell? ⟨w.heap.size,1,none⟩=some (.slice (some a) fs.length fc):=bp.cell 1
 have f0:W1.cell? ⟨w.heap.size+1,0,none⟩=some (.int .i64 f.args):=bf.cell 0
 have f1:W1.cell? ⟨w.heap.size+1,1,none⟩=some (.slice la f.locals.length lc):=bf.cell 1
 have f2:W1.cell? ⟨w.heap.size+1,2,none⟩=some (.int .i64 f.result):=bf.cell 2
 have f3:W1.cell? ⟨w.heap.size+1,3,none⟩=some (.slice ca f.code.length cc):=bf.cell 3
 refine (within_any _ _ _ _).mono ?_
 rintro e w' ⟨rfl,hw'⟩
 have hw':=hw'.symm
 subst hw'
 rcases hb1:wB f.args 0 4
 ·have HB1:=hid hb1
  clear hb1
  have HF:Hid (gFP ls fs.length k f=false):=by
   show gFP ls fs.length k f=false
   simp [gFP,gHead,HB1.out]
  go_wp2
  go_ret
  exact ⟨by rw [HF.out];rfl,kT⟩
 have HB1:=hid hb1
 clear hb1
 by_cases hal:(f.locals.length:Int) < f.args
 ·have HAL:Hid (¬ f.args<=(f.locals.length:Int)):=by
   show ¬ f.args<=(f.locals.length:Int)
   omega
  have HF:Hid (gFP ls fs.length k f=false):=by
   show gFP ls fs.length k f=false
   simp [gFP,gHead,HAL.out]
  go_wp2
  go_ret
  exact ⟨by rw [HF.out];rfl,kT⟩
 have hal':f.args<=(f.locals.length:Int):=by omega
 go_wp2_with fail
 refine (goodTypes_any _ f.locals 8 (ls.length:Int) _ hl1 hbl).mono ?_
 rintro e w' ⟨rfl,hw'⟩
 have hw':=hw'.symm
 subst hw'
 rcases hb3:gtP f.locals 8 (ls.length:Int)
 ·have HB3:=hid hb3
  clear hb3
  have HF:Hid (gFP ls fs.length k f=false):=by
   show gFP ls fs.length k f=false
   simp [gFP,gHead,HB3.out]
  go_wp2
  go_ret
  exact ⟨by rw [HF.out];rfl,kT⟩
 have HB3:=hid hb3
 clear hb3
 go_wp2_with fail
 refine (within_any _ _ _ _).mono ?_
 rintro e w' ⟨rfl,hw'⟩
 have hw':=hw'.symm
 subst hw'
 rcases hb4:wB f.result 0 (ls.length:Int)
 ·have HB4:=hid hb4
  clear hb4
  have HF:Hid (gFP ls fs.length k f=false):=by
   show gFP ls fs.length k f=false
   simp [gFP,gHead,HB4.out]
  go_wp2
  go_ret
  exact ⟨by rw [HF.out];rfl,kT⟩
 have HB4:=hid hb4
 clear hb4
 have HHD:Hid (gHead ls f=true):=by
  show gHead ls f=true
  simp [gHead,HB1.out,HB3.out,HB4.out,hal']
 have HLOC:Hid (f.locals.length<=8):=by
  show f.locals.length<=8
  have h:=HB3.out
  simp [gtP] at h
  omega
 have hloc:=HLOC.out
 rcases hfi:gFirst k f
 ·have HFI:=hid hfi
  have hk0:k=0/\(f.args ≠ 0 \/ f.result ≠ 0):=by
   simp [gFirst] at hfi
   exact ⟨hfi.1,by by_cases h:f.args=0;exact .inr (hfi.2 h);exact .inl h⟩
  obtain ⟨hk0,hor⟩:=hk0
  clear hfi
  have hkz:((k:Int) == 0)=true:=by simp [hk0]
  clear hk0
  by_cases ha0:f.args=0
  ·have hr0:(f.result != 0)=true:=by simp;rcases hor with h | h;exact absurd ha0 h;exact h
   have ha0':(f.args != 0)=false:=by simp [ha0]
   clear hor ha0
   have HF:Hid (gFP ls fs.length k f=false):=by
    show gFP ls fs.length k f=false
    simp [gFP,HFI.out]
   go_wp2
   go_ret
   exact ⟨by rw [HF.out];rfl,kT⟩
  ·have ha0':(f.args != 0)=true:=by simp [ha0]
   clear hor ha0
   have HF:Hid (gFP ls fs.length k f=false):=by
    show gFP ls fs.length k f=false
    simp [gFP,HFI.out]
   go_wp2
   go_ret
   exact ⟨by rw [HF.out];rfl,kT⟩
 have HFI:=hid hfi
 clear hfi
 by_cases hk0:k=0
 ·have h00:f.args=0/\f.result=0:=by
   have h:=HFI.out
   simp [gFirst,hk0] at h
   exact h
  have hkz:((k:Int) == 0)=true:=by simp [hk0]
  have ha0':(f.args != 0)=false:=by simp [h00.1]
  have hr0':(f.result != 0)=false:=by simp [h00.2]
  clear hk0 h00
  go_wp2_with fail
  refine (within_any _ _ _ _).mono ?_
  rintro e w' ⟨rfl,hw'⟩
  have hw':=hw'.symm
  subst hw'
  rcases hb5:wB (f.code.length:Int) 1 64
  ·have HF:Hid (gFP ls fs.length k f=false):=by
    show gFP ls fs.length k f=false
    simp [gFP,hb5]
   clear hb5
   go_wp2
   go_ret
   exact ⟨by rw [HF.out];rfl,kT⟩
  have hco:f.code.length<=64:=by
   have h:=hb5
   simp [wB] at h
   omega
  have HALL:Hid (gFP ls fs.length k f=f.code.all (gIP ls fs.length f.locals.length f.code.length)):=by
   show gFP ls fs.length k f=f.code.all (gIP ls fs.length f.locals.length f.code.length)
   simp [gFP,HHD.out,HFI.out,hb5]
  clear hb5
  go_wp2_with fail
  clear p0 p1 f0 f1 f2 f3
  go_loopw [6] (fun iv wr=>∃ j:Nat,j<=f.code.length/\iv=.int .i64 (j:Int)/\Chg () W1 wr/\f.code.all (gIP ls fs.length f.locals.length f.code.length)=(f.code.drop j).all (gIP ls fs.length f.locals.length f.code.length)) (fun iv _=>f.code.length - (intOf iv).toNat)
  case atStart=>exact ⟨0,Nat.zero_le _,rfl,Chg.refl _ _,by simp⟩
  case round =>
   obtain ⟨j,hj,rfl,kk,hE⟩:=hrel
   have HE:=hid hE
   clear hE
   have bp2:=bp.chg kk (fun e=>e)
   have bf2:=bf.chg kk (fun e=>e)
   have g1:wr.cell? ⟨w.heap.size+1,1,none⟩=some (.slice la f.locals.length lc):=bf2.cell 1
   have g3:wr.cell? ⟨w.heap.size+1,3,none⟩=some (.slice ca f.code.length cc):=bf2.cell 3
   have hbl2:=bp2.lt
   have hfl2:=bf2.lt
   by_cases hlt:j < f.code.length
   ·have hlt':(j:Int) < (f.code.length:Int):=by omega
    have HS:Hid ((f.code.drop j).all (gIP ls fs.length f.locals.length f.code.length)=(gIP ls fs.length f.locals.length f.code.length f.code[j] && (f.code.drop (j+1)).all (gIP ls fs.length f.locals.length f.code.length))):=by
     show (f.code.drop j).all (gIP ls fs.length f.locals.length f.code.length)=(gIP ls fs.length f.locals.length f.code.length f.code[j] && (f.code.drop (j+1)).all (gIP ls fs.length f.locals.length f.code.length))
     rw [List.drop_eq_getElem_cons hlt];rfl
    rcases hc1 with ⟨hc1,_⟩ | ⟨b,cap,hce,_,_,hins⟩
    ·simp only [Value.slice.injEq] at hc1;omega
    simp only [Value.slice.injEq] at hce
    obtain ⟨rfl,_,rfl⟩:=hce
    obtain ⟨i0,i1,i2⟩:=hins j hlt
    have i0:=kk.cellF i0
    have i1:=kk.cellF i1
    have i2:=kk.cellF i2
    clear hins
    generalize f.code[j]=x at *
    generalize hBD:b.add (j * 3)=bd at *
    go_wp2_with fail
    clear hBD i0 i1 i2
    have jx:Chg () wr (wr.alloc (Obj.cells #[x.1,x.2.1,x.2.2] 99)):=(Chg.refl _ wr).alloc _
    have bxx:Blk (wr.alloc (Obj.cells #[x.1,x.2.1,x.2.2] 99)) wr.heap.size #[x.1,x.2.1,x.2.2] 99:=Blk.new wr _ 99
    have bp3:=bp2.chg jx (fun e=>e)
    have bf3:=bf2.chg jx (fun e=>e)
    have k3:=kk.trans jx
    have hxl:wr.heap.size < (wr.alloc (Obj.cells #[x.1,x.2.1,x.2.2] 99)).heap.size:=bxx.lt
    clear g1 g3 bp2 bf2
    generalize wr.alloc (Obj.cells #[x.1,x.2.1,x.2.2] 99)=W3 at *
    generalize wr.heap.size=xb at *
    have y0:W3.cell? ⟨xb,0,none⟩=some (.int .i64 x.1):=bxx.cell 0
    have y1:W3.cell? ⟨xb,1,none⟩=some (.int .i64 x.2.1):=bxx.cell 1
    have y2:W3.cell? ⟨xb,2,none⟩=some (.int .i64 x.2.2):=bxx.cell 2
    have q0:W3.cell? ⟨w.heap.size,0,none⟩=some (.slice ta ls.length tc):=bp3.cell 0
    have q1:W3.cell? ⟨w.heap.size,1,none⟩=some (.slice (some a) fs.length fc):=bp3.cell 1
    have g1:W3.cell? ⟨w.heap.size+1,1,none⟩=some (.slice la f.locals.length lc):=bf3.cell 1
    have g3:W3.cell? ⟨w.heap.size+1,3,none⟩=some (.slice (some b) f.code.length cc):=bf3.cell 3
    refine (within_any _ _ _ _).mono ?_
    rintro e w' ⟨rfl,hw'⟩
    have hw':=hw'.symm
    subst hw'
    rcases hv1:wB x.1 0 18
    ·have HF:Hid (gFP ls fs.length k f=false):=by
      show gFP ls fs.length k f=false
      rw [HALL.out,HE.out,HS.out];simp [gIP,hv1]
     clear hv1
     go_wp2
     go_ret
     exact ⟨by rw [HF.out];rfl,kT.trans k3⟩
    have hop:0<=x.1/\x.1<=18:=by
     have h:=hv1
     simp [wB] at h
     exact h
    have HV1:=hid hv1
    clear hv1
    go_wp2_with fail
    refine (goodA_any ta (some a) ls.length tc fs.length fc (fs.length:Int) (f.locals.length:Int) (f.code.length:Int) x.1 x.2.1 _ hop.1 hop.2 (by omega) (by omega) (by omega) (by omega) (by omega) (by omega)).mono ?_
    rintro e w4 ⟨rfl,k4⟩
    have bxx4:=bxx.chg k4 (fun e=>e)
    have bp4:=bp3.chg k4 (fun e=>e)
    clear y0 y1 y2 q0 q1 g1 g3
    have y0:w4.cell? ⟨xb,0,none⟩=some (.int .i64 x.1):=bxx4.cell 0
    have y1:w4.cell? ⟨xb,1,none⟩=some (.int .i64 x.2.1):=bxx4.cell 1
    have y2:w4.cell? ⟨xb,2,none⟩=some (.int .i64 x.2.2):=bxx4.cell 2
    have q0:w4.cell? ⟨w.heap.size,0,none⟩=some (.slice ta ls.length tc):=bp4.cell 0
    have q1:w4.cell? ⟨w.heap.size,1,none⟩=some (.slice (some a) fs.length fc):=bp4.cell 1
    rcases hv2:wB x.2.1 (bA ls.length fs.length f.locals.length f.code.length x.1).1 (bA ls.length fs.length f.locals.length f.code.length x.1).2
    ·have HF:Hid (gFP ls fs.length k f=false):=by
      show gFP ls fs.length k f=false
      rw [HALL.out,HE.out,HS.out];simp [gIP,hv2]
     clear hv2
     go_wp2
     go_ret
     exact ⟨by rw [HF.out];rfl,(kT.trans k3).trans k4⟩
    have hA:(x.1=8 \/ x.1=9)->1<=x.2.1/\x.2.1<=(ls.length:Int):=by
     intro h89
     have h:=hv2
     simp only [wB,Bool.and_eq_true,decide_eq_true_eq] at h
     rcases h89 with h8 | h8 <;> simp [bA,h8] at h <;> omega
    have HV2:=hid hv2
    clear hv2
    go_wp2_with fail
    refine (goodB_rd _ _ ls x.1 x.2.1 x.2.2 _ ((ht1.new k3).new k4) ⟨_,_,_,rfl⟩ (by omega) hl5 hA).mono ?_
    rintro e w5 ⟨rfl,k5⟩
    clear y0 y1 y2 q0 q1
    rcases hv3:wB x.2.2 0 (gB ls x.1 x.2.1)
    ·have HF:Hid (gFP ls fs.length k f=false):=by
      show gFP ls fs.length k f=false
      rw [HALL.out,HE.out,HS.out];simp [gIP,hv3]
     clear hv3
     go_wp2
     go_ret
     exact ⟨by rw [HF.out];rfl,((kT.trans k3).trans k4).trans k5⟩
    have HN:Hid (f.code.all (gIP ls fs.length f.locals.length f.code.length)=(f.code.drop (j+1)).all (gIP ls fs.length f.locals.length f.code.length)):=by
     show f.code.all (gIP ls fs.length f.locals.length f.code.length)=(f.code.drop (j+1)).all (gIP ls fs.length f.locals.length f.code.length)
     rw [HE.out,HS.out];simp [gIP,HV1.out,HV2.out,hv3]
    clear hv3
    go_wp2
    exact ⟨⟨j+1,by omega,rfl,(k3.trans k4).trans k5,HN.out⟩,by simp [intOf];omega⟩
   ·have hlt':(f.code.length:Int)<=(j:Int):=by omega
    have HF:Hid (gFP ls fs.length k f=true):=by
     show gFP ls fs.length k f=true
     rw [HALL.out,HE.out,List.drop_eq_nil_of_le (by omega)];rfl
    go_wp2
    go_ret
    exact ⟨by rw [HF.out];rfl,kT.trans kk⟩
 ·have hkz:((k:Int) == 0)=false:=by simp [hk0]
  clear hk0
  go_wp2_with fail
  refine (within_any _ _ _ _).mono ?_
  rintro e w' ⟨rfl,hw'⟩
  have hw':=hw'.symm
  subst hw'
  rcases hb5:wB (f.code.length:Int) 1 64
  ·have HF:Hid (gFP ls fs.length k f=false):=by
    show gFP ls fs.length k f=false
    simp [gFP,hb5]
   clear hb5
   go_wp2
   go_ret
   exact ⟨by rw [HF.out];rfl,kT⟩
  have hco:f.code.length<=64:=by
   have h:=hb5
   simp [wB] at h
   omega
  have HALL:Hid (gFP ls fs.length k f=f.code.all (gIP ls fs.length f.locals.length f.code.length)):=by
   show gFP ls fs.length k f=f.code.all (gIP ls fs.length f.locals.length f.code.length)
   simp [gFP,HHD.out,HFI.out,hb5]
  clear hb5
  go_wp2_with fail
  clear p0 p1 f0 f1 f2 f3
  go_loopw [6] (fun iv wr=>∃ j:Nat,j<=f.code.length/\iv=.int .i64 (j:Int)/\Chg () W1 wr/\f.code.all (gIP ls fs.length f.locals.length f.code.length)=(f.code.drop j).all (gIP ls fs.length f.locals.length f.code.length)) (fun iv _=>f.code.length - (intOf iv).toNat)
  case atStart=>exact ⟨0,Nat.zero_le _,rfl,Chg.refl _ _,by simp⟩
  case round =>
   obtain ⟨j,hj,rfl,kk,hE⟩:=hrel
   have HE:=hid hE
   clear hE
   have bp2:=bp.chg kk (fun e=>e)
   have bf2:=bf.chg kk (fun e=>e)
   have g1:wr.cell? ⟨w.heap.size+1,1,none⟩=some (.slice la f.locals.length lc):=bf2.cell 1
   have g3:wr.cell? ⟨w.heap.size+1,3,none⟩=some (.slice ca f.code.length cc):=bf2.cell 3
   have hbl2:=bp2.lt
   have hfl2:=bf2.lt
   by_cases hlt:j < f.code.length
   ·have hlt':(j:Int) < (f.code.length:Int):=by omega
    have HS:Hid ((f.code.drop j).all (gIP ls fs.length f.locals.length f.code.length)=(gIP ls fs.length f.locals.length f.code.length f.code[j] && (f.code.drop (j+1)).all (gIP ls fs.length f.locals.length f.code.length))):=by
     show (f.code.drop j).all (gIP ls fs.length f.locals.length f.code.length)=(gIP ls fs.length f.locals.length f.code.length f.code[j] && (f.code.drop (j+1)).all (gIP ls fs.length f.locals.length f.code.length))
     rw [List.drop_eq_getElem_cons hlt];rfl
    rcases hc1 with ⟨hc1,_⟩ | ⟨b,cap,hce,_,_,hins⟩
    ·simp only [Value.slice.injEq] at hc1;omega
    simp only [Value.slice.injEq] at hce
    obtain ⟨rfl,_,rfl⟩:=hce
    obtain ⟨i0,i1,i2⟩:=hins j hlt
    have i0:=kk.cellF i0
    have i1:=kk.cellF i1
    have i2:=kk.cellF i2
    clear hins
    generalize f.code[j]=x at *
    generalize hBD:b.add (j * 3)=bd at *
    go_wp2_with fail
    clear hBD i0 i1 i2
    have jx:Chg () wr (wr.alloc (Obj.cells #[x.1,x.2.1,x.2.2] 99)):=(Chg.refl _ wr).alloc _
    have bxx:Blk (wr.alloc (Obj.cells #[x.1,x.2.1,x.2.2] 99)) wr.heap.size #[x.1,x.2.1,x.2.2] 99:=Blk.new wr _ 99
    have bp3:=bp2.chg jx (fun e=>e)
    have bf3:=bf2.chg jx (fun e=>e)
    have k3:=kk.trans jx
    have hxl:wr.heap.size < (wr.alloc (Obj.cells #[x.1,x.2.1,x.2.2] 99)).heap.size:=bxx.lt
    clear g1 g3 bp2 bf2
    generalize wr.alloc (Obj.cells #[x.1,x.2.1,x.2.2] 99)=W3 at *
    generalize wr.heap.size=xb at *
    have y0:W3.cell? ⟨xb,0,none⟩=some (.int .i64 x.1):=bxx.cell 0
    have y1:W3.cell? ⟨xb,1,none⟩=some (.int .i64 x.2.1):=bxx.cell 1
    have y2:W3.cell? ⟨xb,2,none⟩=some (.int .i64 x.2.2):=bxx.cell 2
    have q0:W3.cell? ⟨w.heap.size,0,none⟩=some (.slice ta ls.length tc):=bp3.cell 0
    have q1:W3.cell? ⟨w.heap.size,1,none⟩=some (.slice (some a) fs.length fc):=bp3.cell 1
    have g1:W3.cell? ⟨w.heap.size+1,1,none⟩=some (.slice la f.locals.length lc):=bf3.cell 1
    have g3:W3.cell? ⟨w.heap.size+1,3,none⟩=some (.slice (some b) f.code.length cc):=bf3.cell 3
    refine (within_any _ _ _ _).mono ?_
    rintro e w' ⟨rfl,hw'⟩
    have hw':=hw'.symm
    subst hw'
    rcases hv1:wB x.1 0 18
    ·have HF:Hid (gFP ls fs.length k f=false):=by
      show gFP ls fs.length k f=false
      rw [HALL.out,HE.out,HS.out];simp [gIP,hv1]
     clear hv1
     go_wp2
     go_ret
     exact ⟨by rw [HF.out];rfl,kT.trans k3⟩
    have hop:0<=x.1/\x.1<=18:=by
     have h:=hv1
     simp [wB] at h
     exact h
    have HV1:=hid hv1
    clear hv1
    go_wp2_with fail
    refine (goodA_any ta (some a) ls.length tc fs.length fc (fs.length:Int) (f.locals.length:Int) (f.code.length:Int) x.1 x.2.1 _ hop.1 hop.2 (by omega) (by omega) (by omega) (by omega) (by omega) (by omega)).mono ?_
    rintro e w4 ⟨rfl,k4⟩
    have bxx4:=bxx.chg k4 (fun e=>e)
    have bp4:=bp3.chg k4 (fun e=>e)
    clear y0 y1 y2 q0 q1 g1 g3
    have y0:w4.cell? ⟨xb,0,none⟩=some (.int .i64 x.1):=bxx4.cell 0
    have y1:w4.cell? ⟨xb,1,none⟩=some (.int .i64 x.2.1):=bxx4.cell 1
    have y2:w4.cell? ⟨xb,2,none⟩=some (.int .i64 x.2.2):=bxx4.cell 2
    have q0:w4.cell? ⟨w.heap.size,0,none⟩=some (.slice ta ls.length tc):=bp4.cell 0
    have q1:w4.cell? ⟨w.heap.size,1,none⟩=some (.slice (some a) fs.length fc):=bp4.cell 1
    rcases hv2:wB x.2.1 (bA ls.length fs.length f.locals.length f.code.length x.1).1 (bA ls.length fs.length f.locals.length f.code.length x.1).2
    ·have HF:Hid (gFP ls fs.length k f=false):=by
      show gFP ls fs.length k f=false
      rw [HALL.out,HE.out,HS.out];simp [gIP,hv2]
     clear hv2
     go_wp2
     go_ret
     exact ⟨by rw [HF.out];rfl,(kT.trans k3).trans k4⟩
    have hA:(x.1=8 \/ x.1=9)->1<=x.2.1/\x.2.1<=(ls.length:Int):=by
     intro h89
     have h:=hv2
     simp only [wB,Bool.and_eq_true,decide_eq_true_eq] at h
     rcases h89 with h8 | h8 <;> simp [bA,h8] at h <;> omega
    have HV2:=hid hv2
    clear hv2
    go_wp2_with fail
    refine (goodB_rd _ _ ls x.1 x.2.1 x.2.2 _ ((ht1.new k3).new k4) ⟨_,_,_,rfl⟩ (by omega) hl5 hA).mono ?_
    rintro e w5 ⟨rfl,k5⟩
    clear y0 y1 y2 q0 q1
    rcases hv3:wB x.2.2 0 (gB ls x.1 x.2.1)
    ·have HF:Hid (gFP ls fs.length k f=false):=by
      show gFP ls fs.length k f=false
      rw [HALL.out,HE.out,HS.out];simp [gIP,hv3]
     clear hv3
     go_wp2
     go_ret
     exact ⟨by rw [HF.out];rfl,((kT.trans k3).trans k4).trans k5⟩
    have HN:Hid (f.code.all (gIP ls fs.length f.locals.length f.code.length)=(f.code.drop (j+1)).all (gIP ls fs.length f.locals.length f.code.length)):=by
     show f.code.all (gIP ls fs.length f.locals.length f.code.length)=(f.code.drop (j+1)).all (gIP ls fs.length f.locals.length f.code.length)
     rw [HE.out,HS.out];simp [gIP,HV1.out,HV2.out,hv3]
    clear hv3
    go_wp2
    exact ⟨⟨j+1,by omega,rfl,(k3.trans k4).trans k5,HN.out⟩,by simp [intOf];omega⟩
   ·have hlt':(f.code.length:Int)<=(j:Int):=by omega
    have HF:Hid (gFP ls fs.length k f=true):=by
     show gFP ls fs.length k f=true
     rw [HALL.out,HE.out,List.drop_eq_nil_of_le (by omega)];rfl
    go_wp2
    go_ret
    exact ⟨by rw [HF.out];rfl,kT.trans kk⟩
end Go.Proofs.Ytnfnbcbadakofaa
