import Derived.Test.YtnfnbcbadakofaaGreatCli
import Derived.Deep.RegionHeld3
namespace Go.Proofs.YtnfnbcbadakofaaGreat
open Go.RowKit
theorem rF:(Tryz.prog.info? 3).map (fun i=>(i.zero,i.size,i.bytes))=some (some (.int .i64 0),1,8):=by kernel_rfl
theorem mn (n:Nat) (hn:n<=100000) (w:World):(Instr.makeSlice 23 (.int .i64 0) (.int .i64 (n:Int))).run Tryz.prog w=.ok (.slice w.heap.size 0 n) (w.alloc (.cells (madeCells #[oO] n) 3)):=by
 obtain ⟨i,hi1,hi2,hi3,hi4⟩:=dK
 have:=run_make (P:=Tryz.prog) w 23 3 i (.int .i64 0) Tryz.underlying23 hi1 hi2 .i64 .i64 0 (n:Int) (Int.le_refl _) (by omega) (by rw [hi4];omega) (by omega)
 rw [hi3] at this
 simpa [Value.cells] using this
structure FrB (f:Fr):Prop where
 lv:∀ v ∈ f.locals,0<=v/\v<=65535
 kv:∀ v ∈ f.stack,0<=v/\v<=65535
 ll:f.locals.length<=1000
 kl:f.stack.length<=1000
structure RB (c:Cx) (R:Rn):Prop where
 wl:R.words.length<=4000
 wv:∀ v ∈ R.words,0<=v/\v<=65535
 ls:c.ls.length<=10000
 s5:∀ t,(flds c.ls t).length<=5
 bl:R.below.length<=1000
 fb:∀ f ∈ R.below,FrB f
 tb:FrB R.top
structure Ro (w:World) (tv fv sv:Value) (c:Cx):Prop where
 ty:ai w 0 tv c.ls
 fu:aj 111 135 w 0 fv c.fs
 sp:bw w 0 sv c.sps
theorem rV (s:ByteArray) (tv fv sv iv:Value) (R:Rn) (V:RV) (f:Fr) (lu ku tov:Value) (to:List Int) (bs:List Fr) (xs:List (Fr × Value × Value)) :
 (((((rcs s tv fv sv iv R V).setIfInBounds 9 (.int .i64 f.fn)).setIfInBounds 10 (.int .i64 f.pc)).setIfInBounds 11 lu).setIfInBounds 12 ku).setIfInBounds 7 tov=rcs s tv fv sv iv { R with words:=to,below:=bs,top:=f } ⟨tov,V.bv,lu,ku,V.ov,xs⟩:=by simp [rcs]
theorem ir (c:Cx) (frm:List Int) (f:Fr) (fs:List Fr) (m:Mv):aZ c frm (f::fs) m=((cK c frm f m).1::(aZ c frm fs (cK c frm f m).2).1,(aZ c frm fs (cK c frm f m).2).2):=rfl
section
variable {W1 w:World} {rb:Nat} {s:ByteArray} {tv fv sv iv:Value} {R:Rn} {V:RV} {c:Cx}
set_option maxHeartbeats 4000000 in
set_option maxRecDepth 100000 in
theorem gm (h:RI W1 w rb s tv fv sv iv R V) (ro:Ro w tv fv sv c) (hb:RB c R):Calls Tryz.prog 16 #[.pointer rb] w (aS W1 w rb s tv fv sv iv (a9 c R)):=by
 have x1:w.cell? ⟨rb,1,none⟩=some tv:=h.bx.cell 1
 have x7:w.cell? ⟨rb,7,none⟩=some V.wv:=h.bx.cell 7
 obtain ⟨wa,wc,hwv⟩:=h.ww.slice
 rw [hwv] at x7
 obtain ⟨ta,tc,htv⟩:=ro.ty.slice
 generalize c.ls.length=tn at htv
 subst htv
 have hl:=hb.wl
 have hmk1:=mn R.words.length (by omega)
 have hmk2:=run_make_row' (P:=Tryz.prog) 23 3 (.int .i64 0) 8 Tryz.underlying23 rF rfl .i64 .i64 R.words.length (by omega) (by omega)
 have H:=hid h
 have HRo:=hid ro
 have HRB:=hid hb
 have HS:Hid (cT (Cst rb V.bv) w):=h.onlyF
 have HMR:Hid (MRo (Cst rb V.bv) w (.slice ta tn tc) V.wv c.ls R.words):=HS.out.ro ro.ty (am h.ww (Nat.zero_le _))
 obtain ⟨BB,hBB⟩:∃ r,aZ c R.words R.below ⟨[],List.replicate R.words.length 0⟩=r:=⟨_,rfl⟩
 obtain ⟨TT,hTT⟩:∃ r,cK c R.words R.top BB.2=r:=⟨_,rfl⟩
 have eR:a9 c R = { R with words:=(mvW c.ls R.words (6 * R.words.length) 0 [] 0 TT.2).to,below:=BB.1,top:=TT.1 }:=by
  unfold a9 mvA;simp only [hBB,hTT]
 rw [eR]
 clear eR
 have HBB:=hid hBB
 have HTT:=hid hTT
 obtain ⟨WW,hWW⟩:∃ r,mvW c.ls R.words (6 * R.words.length) 0 [] 0 TT.2=r:=⟨_,rfl⟩
 rw [hWW]
 have HWW:=hid hWW
 clear h ro hb hBB hTT hWW
 go_enter Tryz.func16,Tryz.ntmps16
 go_wp2_with fail
 rename_i K aK
 apply vx (K:=K) (C:=fun W mb to re=>CI W1 w W rb (.slice ta tn tc) V.bv V.wv mb (.slice (some ⟨to,0,none⟩) 0 R.words.length) (.slice (some ⟨re,0,none⟩) R.words.length R.words.length) ⟨[],List.replicate R.words.length 0⟩ (rcs s (.slice ta tn tc) fv sv iv R V) [] V.xs.length V.xs)
 case h2 =>
  intro key
  go_region_held3 (fun w'=>w'.cell? ⟨rb,1,none⟩=some (.slice ta tn tc)/\w'.cell? ⟨rb,7,none⟩=some (.slice wa R.words.length wc)) (constructor <;> refine Chg.cellF (w:=w) ?_ (by assumption) <;> repeat (first | exact Chg.refl _ _ | refine Chg.drew ?_ | refine Chg.alloc ?_ _ | refine Chg.setCell ?_ _ _ (.inr (by simp)))) (first | fail)
  ·obtain ⟨b0,b1,b2,k⟩:=dt w (madeCells #[oO] R.words.length) (madeCells #[oO] R.words.length) #[.slice ta tn tc,.slice wa R.words.length wc,.slice w.heap.size 0 R.words.length,.slice (some ⟨w.heap.size+1,0,none⟩) R.words.length R.words.length] 3 3 100
   generalize (((w.alloc (Obj.cells (madeCells #[oO] R.words.length) 3)).alloc (Obj.cells (madeCells #[oO] R.words.length) 3)).alloc (Obj.cells #[.slice ta tn tc,.slice wa R.words.length wc,.slice w.heap.size 0 R.words.length,.slice (some ⟨w.heap.size+1,0,none⟩) R.words.length R.words.length] 100)).drew=W at b0 b1 b2 k ⊢
   generalize h2:w.heap.size+1+1=mb at b0 b1 b2 ⊢
   generalize h1:w.heap.size+1=re at b0 b1 b2 ⊢
   generalize h0:w.heap.size=to at b0 b1 b2 ⊢
   exact key W mb to re (CI.start H.out k b0 b1 (by rw [hwv];exact b2) (by omega) (by omega) (by omega) (by omega) hl)
  ·obtain ⟨b0,b1,b2,k⟩:=dt w (madeCells #[oO] R.words.length) #[.slice ta tn tc,.slice wa R.words.length wc,.slice w.heap.size 0 R.words.length,.slice (some ⟨w.heap.size+1+1,0,none⟩) R.words.length R.words.length] (madeCells #[oO] R.words.length) 3 100 3
   generalize (((w.alloc (Obj.cells (madeCells #[oO] R.words.length) 3)).alloc (Obj.cells #[.slice ta tn tc,.slice wa R.words.length wc,.slice w.heap.size 0 R.words.length,.slice (some ⟨w.heap.size+1+1,0,none⟩) R.words.length R.words.length] 100)).alloc (Obj.cells (madeCells #[oO] R.words.length) 3)).drew=W at b0 b1 b2 k ⊢
   generalize h2:w.heap.size+1+1=re at b0 b1 b2 ⊢
   generalize h1:w.heap.size+1=mb at b0 b1 b2 ⊢
   generalize h0:w.heap.size=to at b0 b1 b2 ⊢
   exact key W mb to re (CI.start H.out k b0 b2 (by rw [hwv];exact b1) (by omega) (by omega) (by omega) (by omega) hl)
  ·obtain ⟨b0,b1,b2,k⟩:=dt w (madeCells #[oO] R.words.length) (madeCells #[oO] R.words.length) #[.slice ta tn tc,.slice wa R.words.length wc,.slice (some ⟨w.heap.size+1,0,none⟩) 0 R.words.length,.slice w.heap.size R.words.length R.words.length] 3 3 100
   generalize (((w.alloc (Obj.cells (madeCells #[oO] R.words.length) 3)).alloc (Obj.cells (madeCells #[oO] R.words.length) 3)).alloc (Obj.cells #[.slice ta tn tc,.slice wa R.words.length wc,.slice (some ⟨w.heap.size+1,0,none⟩) 0 R.words.length,.slice w.heap.size R.words.length R.words.length] 100)).drew=W at b0 b1 b2 k ⊢
   generalize h2:w.heap.size+1+1=mb at b0 b1 b2 ⊢
   generalize h1:w.heap.size+1=to at b0 b1 b2 ⊢
   generalize h0:w.heap.size=re at b0 b1 b2 ⊢
   exact key W mb to re (CI.start H.out k b1 b0 (by rw [hwv];exact b2) (by omega) (by omega) (by omega) (by omega) hl)
  ·obtain ⟨b0,b1,b2,k⟩:=dt w (madeCells #[oO] R.words.length) #[.slice ta tn tc,.slice wa R.words.length wc,.slice (some ⟨w.heap.size+1+1,0,none⟩) 0 R.words.length,.slice w.heap.size R.words.length R.words.length] (madeCells #[oO] R.words.length) 3 100 3
   generalize (((w.alloc (Obj.cells (madeCells #[oO] R.words.length) 3)).alloc (Obj.cells #[.slice ta tn tc,.slice wa R.words.length wc,.slice (some ⟨w.heap.size+1+1,0,none⟩) 0 R.words.length,.slice w.heap.size R.words.length R.words.length] 100)).alloc (Obj.cells (madeCells #[oO] R.words.length) 3)).drew=W at b0 b1 b2 k ⊢
   generalize h2:w.heap.size+1+1=to at b0 b1 b2 ⊢
   generalize h1:w.heap.size+1=mb at b0 b1 b2 ⊢
   generalize h0:w.heap.size=re at b0 b1 b2 ⊢
   exact key W mb to re (CI.start H.out k b2 b0 (by rw [hwv];exact b1) (by omega) (by omega) (by omega) (by omega) hl)
  ·obtain ⟨b0,b1,b2,k⟩:=dt w #[.slice ta tn tc,.slice wa R.words.length wc,.slice (some ⟨w.heap.size+1,0,none⟩) 0 R.words.length,.slice (some ⟨w.heap.size+1+1,0,none⟩) R.words.length R.words.length] (madeCells #[oO] R.words.length) (madeCells #[oO] R.words.length) 100 3 3
   generalize (((w.alloc (Obj.cells #[.slice ta tn tc,.slice wa R.words.length wc,.slice (some ⟨w.heap.size+1,0,none⟩) 0 R.words.length,.slice (some ⟨w.heap.size+1+1,0,none⟩) R.words.length R.words.length] 100)).alloc (Obj.cells (madeCells #[oO] R.words.length) 3)).alloc (Obj.cells (madeCells #[oO] R.words.length) 3)).drew=W at b0 b1 b2 k ⊢
   generalize h2:w.heap.size+1+1=re at b0 b1 b2 ⊢
   generalize h1:w.heap.size+1=to at b0 b1 b2 ⊢
   generalize h0:w.heap.size=mb at b0 b1 b2 ⊢
   exact key W mb to re (CI.start H.out k b1 b2 (by rw [hwv];exact b0) (by omega) (by omega) (by omega) (by omega) hl)
  ·obtain ⟨b0,b1,b2,k⟩:=dt w #[.slice ta tn tc,.slice wa R.words.length wc,.slice (some ⟨w.heap.size+1+1,0,none⟩) 0 R.words.length,.slice (some ⟨w.heap.size+1,0,none⟩) R.words.length R.words.length] (madeCells #[oO] R.words.length) (madeCells #[oO] R.words.length) 100 3 3
   generalize (((w.alloc (Obj.cells #[.slice ta tn tc,.slice wa R.words.length wc,.slice (some ⟨w.heap.size+1+1,0,none⟩) 0 R.words.length,.slice (some ⟨w.heap.size+1,0,none⟩) R.words.length R.words.length] 100)).alloc (Obj.cells (madeCells #[oO] R.words.length) 3)).alloc (Obj.cells (madeCells #[oO] R.words.length) 3)).drew=W at b0 b1 b2 k ⊢
   generalize h2:w.heap.size+1+1=to at b0 b1 b2 ⊢
   generalize h1:w.heap.size+1=re at b0 b1 b2 ⊢
   generalize h0:w.heap.size=mb at b0 b1 b2 ⊢
   exact key W mb to re (CI.start H.out k b2 b1 (by rw [hwv];exact b0) (by omega) (by omega) (by omega) (by omega) hl)
 case h1 =>
  intro W mb to re hC
  clear hmk1 hmk2 x1 x7
  obtain ⟨ba,bc,hbv⟩:=cF hC.bb
  have x8:W.cell? ⟨rb,8,none⟩=some V.bv:=hC.bx.cell 8
  rw [hbv] at x8
  generalize (Value.slice to 0 R.words.length)=tov0 at hC
  generalize hrv:(Value.slice re R.words.length R.words.length)=rv at hC
  have HC:=hid hC
  clear hC hrv
  have HBE:Hid (V.xs.length=R.below.length):=by show _=_;rw [<-H.out.be,List.length_map]
  have hbl:V.xs.length<=1000:=by rw [HBE.out];exact HRB.out.bl
  go_wp2
  go_loopw [34] (fun iv' wr=>∃ (xs:List (Fr × Value × Value)) (tov:Value) (m:Mv),xs.length<=V.xs.length/\iv'=.int .i64 (xs.length:Int)/\CI W1 w wr rb (.slice ta tn tc) V.bv V.wv mb tov rv m (rcs s (.slice ta tn tc) fv sv iv R V) xs V.xs.length (xs++V.xs.drop xs.length)/\MB R.words m/\(xs.map (·.1)++(aZ c R.words (R.below.drop xs.length) m).1,(aZ c R.words (R.below.drop xs.length) m).2)=BB) (fun iv' _=>V.xs.length - (intOf iv').toNat)
  case atStart=>exact ⟨[],tov0,_,Nat.zero_le _,rfl,HC.out,MB.start _,by rw [<-HBB.out];rfl⟩
  case round =>
   obtain ⟨xs,tov,m,hk,rfl,hC,hM,hE⟩:=hrel
   have HC:=hid hC
   have HM:=hid hM
   have HE:=hid hE
   clear hM hE
   by_cases hlt:xs.length < V.xs.length
   ·have hlt':(xs.length:Int) < (V.xs.length:Int):=by omega
    have ed:V.xs.drop xs.length=V.xs[xs.length]::V.xs.drop (xs.length+1):=List.drop_eq_getElem_cons hlt
    have eb:R.below.drop xs.length=V.xs[xs.length].1::R.below.drop (xs.length+1):=by
     have:xs.length < R.below.length:=by rw [<-HBE.out];exact hlt
     rw [List.drop_eq_getElem_cons this]
     congr 1
     simp [<-H.out.be]
    have hz:=H.out.xx V.xs[xs.length] (List.getElem_mem hlt)
    have hzb:=HRB.out.fb V.xs[xs.length].1 (by rw [<-H.out.be];exact List.mem_map_of_mem (List.getElem_mem hlt))
    have HE2:Hid (((xs.map (·.1)++(cK c R.words V.xs[xs.length].1 m).1::(aZ c R.words (R.below.drop (xs.length+1)) (cK c R.words V.xs[xs.length].1 m).2).1),(aZ c R.words (R.below.drop (xs.length+1)) (cK c R.words V.xs[xs.length].1 m).2).2)=BB):=by
     show _=BB
     rw [<-HE.out,eb,ir]
    rw [ed] at hC
    have HMB:=fW HRB.out.wv hl HRB.out.s5 V.xs[xs.length].1 m HM.out
    generalize V.xs[xs.length]=z at *
    obtain ⟨f,lv,kv⟩:=z
    simp only at hz hzb HE2 HMB hC
    obtain ⟨la,lc,rfl⟩:=hz.1.slice
    obtain ⟨ka,kc,rfl⟩:=hz.2.slice
    obtain ⟨g,bc',hbv',hcap,c0,c1,c2,c3,cr,hbr⟩:=hC.cells hlt
    rw [hbv] at hbv'
    simp only [Value.slice.injEq] at hbv'
    obtain ⟨rfl,_,rfl⟩:=hbv'
    have kA:Chg () wr (wr.alloc (Obj.cells #[f.fn,f.pc,.slice la f.locals.length lc,.slice ka f.stack.length kc] 60)):=(Chg.refl _ wr).alloc _
    have HA:=hid (hC.new kA)
    have HZ1:Hid (ad w 0 (.slice la f.locals.length lc) f.locals):=am hz.1 (Nat.zero_le _)
    have HZ2:Hid (ad w 0 (.slice ka f.stack.length kc) f.stack):=am hz.2 (Nat.zero_le _)
    have HZB:=hid hzb
    have HMB2:=hid HMB
    clear hC HC HE ed eb hz hzb kA hbr HMB
    go_wp2_with fail
    refine (eS HA.out.mi HMR.out HS.out HM.out HRB.out.wv hl HRB.out.ls HRB.out.s5 HRo.out.fu HRo.out.sp _ HA.out.bx rfl rfl f la ka lc kc HZ1.out HZ2.out HZB.out.lv HZB.out.kv HZB.out.ll HZB.out.kl).mono ?_
    rintro e w2 ⟨lu,ku,tov2,rfl,hlu,hku,s1,s2,s3,hM,hL,hC2⟩
    have hF:=HA.out.frame hlu hku s1 s2 s3 hM hL hC2
    obtain ⟨lua,luc,rfl⟩:=hlu.slice
    obtain ⟨kua,kuc,rfl⟩:=hku.slice
    clear hlu hku s1 s2 s3 hM hL hC2 c0 c1 c2 c3
    generalize hX:cK c R.words f m=X at *
    obtain ⟨f',m'⟩:=X
    simp only at hF HE2 HMB2 ⊢
    have k3:Chg () w2 (w2.alloc (Obj.cells #[f'.fn,f'.pc,.slice lua f'.locals.length luc,.slice kua f'.stack.length kuc] 60)):=(Chg.refl _ w2).alloc _
    have hG:=hF.new k3
    have hx:=Blk.new w2 #[.int .i64 f'.fn,.int .i64 f'.pc,.slice lua f'.locals.length luc,.slice kua f'.stack.length kuc] 60
    clear hF k3
    go_wp2_with fail
    generalize w2.alloc (Obj.cells #[f'.fn,f'.pc,.slice lua f'.locals.length luc,.slice kua f'.stack.length kuc] 60)=w3 at *
    generalize w2.heap.size=xb at *
    obtain ⟨y0,y1,y2,y3,_,_,_,_⟩:=aL hx
    have x8':w3.cell? ⟨rb,8,none⟩=some V.bv:=hG.bx.cell 8
    rw [hbv] at x8'
    obtain ⟨g',bc',hbv',_,c0,c1,c2,c3,cr,hbr⟩:=hG.cells hlt
    rw [hbv] at hbv'
    simp only [Value.slice.injEq,Option.some.injEq,Addr.mk.injEq] at hbv'
    obtain ⟨⟨rfl,_⟩,_,rfl⟩:=hbv'
    have z0:=hbr.frozen (xs.length * 4)
    have z1:=hbr.frozen (xs.length * 4+1)
    have z2:=hbr.frozen (xs.length * 4+2)
    have z3:=hbr.frozen (xs.length * 4+3)
    have HG:Hid _:=hG
    clear hG hx hbr
    go_region
    have HRW:Hid (CI W1 w ((((w3.setCell ⟨g,xs.length * 4,none⟩ f'.fn).setCell ⟨g,xs.length * 4+1,none⟩ f'.pc).setCell ⟨g,xs.length * 4+2,none⟩ (.slice lua f'.locals.length luc)).setCell ⟨g,xs.length * 4+3,none⟩ (.slice kua f'.stack.length kuc)).drew rb (.slice ta tn tc) V.bv V.wv mb tov2 rv m' (rcs s (.slice ta tn tc) fv sv iv R V) (xs++[(f',.slice lua f'.locals.length luc,.slice kua f'.stack.length kuc)]) V.xs.length ((xs++[(f',.slice lua f'.locals.length luc,.slice kua f'.stack.length kuc)])++V.xs.drop (xs++[(f',Value.slice lua f'.locals.length luc,Value.slice kua f'.stack.length kuc)]).length)):=by
     have:=HG.out
     rw [hbv] at this
     have:=(this.row hlt f' (.slice lua f'.locals.length luc) (.slice kua f'.stack.length kuc)).new ((Chg.refl _ _).drew)
     show CI _ _ _ _ _ _ _ _ _ _ _ _ _ _ _
     rw [hbv,List.length_append,List.append_assoc]
     exact this
    go_wp2
    refine ⟨⟨xs++[(f',.slice lua f'.locals.length luc,.slice kua f'.stack.length kuc)],tov2,m',by simp;omega,by simp,HRW.out,HMB2.out,?_⟩,by simp [intOf];omega⟩
    rw [<-HE2.out];simp
   ·have hkk:xs.length=V.xs.length:=by omega
    have hlt':(V.xs.length:Int)<=(xs.length:Int):=by omega
    have HB1:Hid (xs.map (·.1)=BB.1):=by
     show _=_
     rw [<-HE.out,hkk,HBE.out,List.drop_eq_nil_of_le (Nat.le_refl _)];simp [aZ]
    have HB2:Hid (m=BB.2):=by
     show _=_
     rw [<-HE.out,hkk,HBE.out,List.drop_eq_nil_of_le (Nat.le_refl _)];simp [aZ]
    clear HE x8
    have HC1:Hid (CI W1 w wr rb (.slice ta tn tc) V.bv V.wv mb tov rv m (rcs s (.slice ta tn tc) fv sv iv R V) xs V.xs.length xs):=by
     have:=HC.out
     rw [hkk,List.drop_eq_nil_of_le (Nat.le_refl _),List.append_nil] at this
     exact this
    have t9:wr.cell? ⟨rb,9,none⟩=some (.int .i64 R.top.fn):=hC.bx.cell 9
    have t10:wr.cell? ⟨rb,10,none⟩=some (.int .i64 R.top.pc):=hC.bx.cell 10
    have t11:wr.cell? ⟨rb,11,none⟩=some V.lv:=hC.bx.cell 11
    have t12:wr.cell? ⟨rb,12,none⟩=some V.kv:=hC.bx.cell 12
    obtain ⟨la,lc,hlv⟩:=H.out.ll.slice
    obtain ⟨ka,kc,hkv⟩:=H.out.kk.slice
    rw [hlv] at t11
    rw [hkv] at t12
    have HZ1:Hid (ad w 0 (.slice la R.top.locals.length lc) R.top.locals):=by rw [<-hlv];exact am H.out.ll (Nat.zero_le _)
    have HZ2:Hid (ad w 0 (.slice ka R.top.stack.length kc) R.top.stack):=by rw [<-hkv];exact am H.out.kk (Nat.zero_le _)
    have HMB:=fW HRB.out.wv hl HRB.out.s5 R.top m HM.out
    have eT:cK c R.words R.top m=TT:=by rw [<-HTT.out,HB2.out]
    rw [eT] at HMB
    clear hC HC
    go_wp2_with fail
    refine (eS HC1.out.mi HMR.out HS.out HM.out HRB.out.wv hl HRB.out.ls HRB.out.s5 HRo.out.fu HRo.out.sp _ HC1.out.bx rfl rfl R.top la ka lc kc HZ1.out HZ2.out HRB.out.tb.lv HRB.out.tb.kv HRB.out.tb.ll HRB.out.tb.kl).mono ?_
    rw [eT]
    rintro e w2 ⟨lu,ku,tov2,rfl,hlu,hku,s1,s2,s3,hM,hL,hC2⟩
    have hF:=HC1.out.frame hlu hku s1 s2 s3 hM hL hC2
    obtain ⟨lua,luc,rfl⟩:=hlu.slice
    obtain ⟨kua,kuc,rfl⟩:=hku.slice
    clear hlu hku s1 s2 s3 hM hL hC2 t9 t10 t11 t12 eT HTT
    obtain ⟨f',m'⟩:=TT
    simp only at hF HMB HWW ⊢
    have k3:Chg () w2 (w2.alloc (Obj.cells #[f'.fn,f'.pc,.slice lua f'.locals.length luc,.slice kua f'.stack.length kuc] 60)):=(Chg.refl _ w2).alloc _
    have hG:=hF.new k3
    have hx:=Blk.new w2 #[.int .i64 f'.fn,.int .i64 f'.pc,.slice lua f'.locals.length luc,.slice kua f'.stack.length kuc] 60
    have hne:rb ≠ w2.heap.size:=Nat.ne_of_lt hF.bx.lt
    have hne':=hne.symm
    have r9:(w2.alloc (Obj.cells #[f'.fn,f'.pc,.slice lua f'.locals.length luc,.slice kua f'.stack.length kuc] 60)).cell? ⟨rb,9,none⟩=some (.int .i64 R.top.fn):=hG.bx.cell 9
    have r10:(w2.alloc (Obj.cells #[f'.fn,f'.pc,.slice lua f'.locals.length luc,.slice kua f'.stack.length kuc] 60)).cell? ⟨rb,10,none⟩=some (.int .i64 R.top.pc):=hG.bx.cell 10
    have r11:(w2.alloc (Obj.cells #[f'.fn,f'.pc,.slice lua f'.locals.length luc,.slice kua f'.stack.length kuc] 60)).cell? ⟨rb,11,none⟩=some V.lv:=hG.bx.cell 11
    have r12:(w2.alloc (Obj.cells #[f'.fn,f'.pc,.slice lua f'.locals.length luc,.slice kua f'.stack.length kuc] 60)).cell? ⟨rb,12,none⟩=some V.kv:=hG.bx.cell 12
    have q9:=hG.bx.frozen 9
    have q10:=hG.bx.frozen 10
    have q11:=hG.bx.frozen 11
    have q12:=hG.bx.frozen 12
    obtain ⟨y0,y1,y2,y3,_,_,_,_⟩:=aL hx
    have k4:Chg (fun j=>j=rb) (w2.alloc (Obj.cells #[f'.fn,f'.pc,.slice lua f'.locals.length luc,.slice kua f'.stack.length kuc] 60)) (((((w2.alloc (Obj.cells #[f'.fn,f'.pc,.slice lua f'.locals.length luc,.slice kua f'.stack.length kuc] 60)).setCell ⟨rb,9,none⟩ f'.fn).setCell ⟨rb,10,none⟩ f'.pc).setCell ⟨rb,11,none⟩ (.slice lua f'.locals.length luc)).setCell ⟨rb,12,none⟩ (.slice kua f'.stack.length kuc)):=((((Chg.refl (fun j=>j=rb) _).setCell ⟨rb,_,none⟩ _ (.inl rfl)).setCell ⟨rb,_,none⟩ _ (.inl rfl)).setCell ⟨rb,_,none⟩ _ (.inl rfl)).setCell ⟨rb,_,none⟩ _ (.inl rfl)
    have HG:Hid (CI W1 w (((((w2.alloc (Obj.cells #[f'.fn,f'.pc,.slice lua f'.locals.length luc,.slice kua f'.stack.length kuc] 60)).setCell ⟨rb,9,none⟩ f'.fn).setCell ⟨rb,10,none⟩ f'.pc).setCell ⟨rb,11,none⟩ (.slice lua f'.locals.length luc)).setCell ⟨rb,12,none⟩ (.slice kua f'.stack.length kuc)) rb (.slice ta tn tc) V.bv V.wv mb tov2 rv m' (((((rcs s (.slice ta tn tc) fv sv iv R V).setIfInBounds 9 (.int .i64 f'.fn)).setIfInBounds 10 (.int .i64 f'.pc)).setIfInBounds 11 (.slice lua f'.locals.length luc)).setIfInBounds 12 (.slice kua f'.stack.length kuc)) (xs++[(f',.slice lua f'.locals.length luc,.slice kua f'.stack.length kuc)]) V.xs.length xs):=
     hG.turn hG.bx (.inr rfl) (.inl rfl) k4 ((((hG.bx.set 9 _).set 10 _).set 11 _).set 12 _) (af hG.bb k4 (fun g hg q=>ao hG.bb hG.bx (by decide) (by rw [hg,q])))
    have HMB:=hid HMB
    clear hF k3 hG hx k4
    go_wp2_with fail
    generalize (((((w2.alloc (Obj.cells #[f'.fn,f'.pc,.slice lua f'.locals.length luc,.slice kua f'.stack.length kuc] 60)).setCell ⟨rb,9,none⟩ f'.fn).setCell ⟨rb,10,none⟩ f'.pc).setCell ⟨rb,11,none⟩ (.slice lua f'.locals.length luc)).setCell ⟨rb,12,none⟩ (.slice kua f'.stack.length kuc))=w4 at HG ⊢
    clear r9 r10 r11 r12 q9 q10 q11 q12 y0 y1 y2 y3
    refine (ig HG.out.mi HRo.out.ty (am H.out.ww (Nat.zero_le _)) HS.out HMB.out HRB.out.wv hl HRB.out.ls HRB.out.s5).mono ?_
    rw [HWW.out]
    rintro e w5 ⟨rfl,tov5,hM5,hL5,hC5⟩
    have hJ:=HG.out.mv hM5 hL5 hC5
    obtain ⟨oa,oc,rfl⟩:=hM5.tt.slice
    have m2:w5.cell? ⟨mb,2,none⟩=some (.slice oa WW.to.length oc):=hM5.bx.cell 2
    have b7:=hJ.bx.cell 7
    have r7:w5.cell? ⟨rb,7,none⟩=some V.wv:=by rw [b7];simp [rcs]
    have q7:=hJ.bx.frozen 7
    have k7:Chg (fun j=>j=rb) w5 (w5.setCell ⟨rb,7,none⟩ (.slice oa WW.to.length oc)):=(Chg.refl (fun j=>j=rb) _).setCell ⟨rb,_,none⟩ _ (.inl rfl)
    have b8:Blk (w5.setCell ⟨rb,7,none⟩ (.slice oa WW.to.length oc)) rb _ 62:=hJ.bx.set 7 (.slice oa WW.to.length oc)
    rw [rV s (.slice ta tn tc) fv sv iv R V f' (.slice lua f'.locals.length luc) (.slice kua f'.stack.length kuc) (.slice oa WW.to.length oc) WW.to (xs.map (·.1)) xs] at b8
    have HJ:=hJ.turn hJ.bx (.inr rfl) (.inl rfl) k7 b8 (af hJ.bb k7 (fun g hg q=>ao hJ.bb hJ.bx (by decide) (by rw [hg,q])))
    have FIN:=HJ.fin H.out hkk
    rw [HB1.out] at FIN
    have FIN:Hid _:=FIN
    rw [hwv] at r7
    clear hM5 hL5 hC5 hJ HJ k7 b7 b8 HG HC1 HC HMB
    go_wp2
    exact bodyPost_end (v:=.tuple #[]) (by simp [results,Tryz.results16]) rfl ⟨rfl,FIN.out.1,_,FIN.out.2⟩
end
end Go.Proofs.YtnfnbcbadakofaaGreat
