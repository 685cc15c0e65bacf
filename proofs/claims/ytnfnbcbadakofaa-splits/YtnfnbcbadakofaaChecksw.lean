import Derived.Test.YtnfnbcbadakofaaRspr2
import Derived.Deep.OwnRows
import Derived.Test.YtnfnbcbadakofaaOfit
import Derived.Test.YtnfnbcbadakofaaSame
import Derived.Deep.RegionHeld3
import Derived.Deep.RegionLaw
namespace Go.Proofs.Ytnfnbcbadakofaa
open Go.RowKit
theorem mkInfo4:(Try.prog.info? 4).map (fun i=>(i.zero,i.size,i.bytes))=some (some (.bool false),1,1):=by kernel_rfl
theorem mkInfo47:(Try.prog.info? 47).map (fun i=>(i.zero,i.size,i.bytes))=some (some (.slice none 0 0),1,24):=by kernel_rfl
theorem made_list (z:Value) (n:Nat):(madeCells #[z] n).toList=List.replicate n z:=by
 apply List.ext_getElem?
 intro i
 rw [Array.getElem?_toList]
 rcases Nat.lt_or_ge i n with h | h
 ·simp [madeCells,h,Nat.mod_one]
 ·rw [Array.getElem?_eq_none (by rw [size_madeCells];exact h),List.getElem?_eq_none (by simpa using h)]
theorem own_made {W:World} {e:TypeId} {z:Value} {n b base:Nat} (hz:Blk W b (madeCells #[z] n) e) (hb:base<=b) (hn:n<=maxLen):W.ownsRow base e 1 (.slice (some ⟨b,0,none⟩) n n) n (List.replicate n z):=
 ⟨by simp,.inr ⟨b,n,_,rfl,hb,hz,Nat.le_refl _,hn,by rw [size_madeCells,Nat.mul_one],by rw [Nat.mul_one,made_list];simp⟩⟩
theorem SS.start {w0 W:World} {b0 sb gh go n:Nat} (hn:0 < n) (hm:n<=maxLen) (k:Chg (fun _=>False) w0 W) (b1:Blk W gh (madeCells #[.bool false] n) 4) (b2:Blk W go (madeCells #[.slice none 0 0] n) 47) (b3:Blk W sb #[.slice (some ⟨gh,0,none⟩) n n,.slice (some ⟨go,0,none⟩) n n] 112) (h1:w0.heap.size<=gh) (h2:w0.heap.size<=go) (h3:w0.heap.size<=sb) :
 SS w0 (W.setCell ⟨gh,0,none⟩ (.bool true)) b0 sb gh go n n ((List.replicate n (none,.slice none 0 0)).set 0 (some [],.slice none 0 0)):=by
 have o1:=own_made b1 h1 hm
 have o2:=own_made b2 h2 hm
 have hl:((List.replicate n ((none:Option (List Int)),Value.slice none 0 0)).set 0 (some [],.slice none 0 0)).length=n:=by simp
 refine ⟨by rw [hl];exact b3.setOther _ _ (b3.ne b1 (by decide)),?_,?_,fun x m l hx=>?_,k.setCell _ _ (.inr h1),h3⟩
 ·rw [hl,List.map_set,List.map_replicate]
  exact own_setIn o1 0 (by omega) (.bool true)
 ·rw [hl,List.map_set,List.map_replicate]
  have e:(List.replicate n (Value.slice none 0 0)).set 0 (.slice none 0 0)=List.replicate n (.slice none 0 0):=by
   apply List.ext_getElem?
   intro i
   rw [List.getElem?_set]
   split
   ·subst_vars;simp [List.getElem?_replicate]
   ·rfl
  simp only [e]
  exact own_set o2 ⟨gh,0,none⟩ (.bool true) (own_ne o2 b1 (by decide))
 ·rcases List.mem_or_eq_of_mem_set m with m | rfl
  ·rw [List.mem_replicate] at m;rw [m.2] at hx;cases hx
  ·simp only [Option.some.injEq] at hx;subst hx;exact World.ownsRow_nil _ _ _ _
theorem SS.base {w W w':World} {b0 sb gh go ch co:Nat} {xs:List (Option (List Int) × Value)} (h:SS W w' b0 sb gh go ch co xs) (k:Chg (fun _=>False) w W):SS w w' b0 sb gh go ch co xs:=
 ⟨h.box,own_mono h.has k.size,own_mono h.of k.size,h.stk,k.trans h.ch,Nat.le_trans k.size h.sb⟩
theorem put_len {n:Nat} {t:List Int} (ks:List Int):∀ {sp sp':Spots},put n t sp ks=some sp'->sp'.length=sp.length:=by
 induction ks with
 | nil=>intro sp sp' h;simp only [put,Option.some.injEq] at h;rw [h]
 | cons k ks ih =>
  intro sp sp' h
  unfold put at h
  by_cases hn:(n:Int)<=k
  ·rw [if_pos hn] at h;cases h
  rw [if_neg hn] at h
  rcases hg:sp.getD k.toNat none with _ | u
  ·rw [hg] at h;have:=ih h;simpa using this
  ·rw [hg] at h
   by_cases hut:(u == t)=true
   ·simp only [hut,if_true] at h;have:=ih h;simpa using this
   ·simp only [hut] at h;simp at h
theorem rnd_len {n:Nat} {aft:Nat->List Int->Option (List Int)} {wy:Nat->List Int} (c:Nat):∀ (i:Nat) {sp sp':Spots},rnd n aft wy c i sp=some sp'->sp'.length=sp.length:=by
 induction c with
 | zero=>intro i sp sp' h;simp only [rnd,Option.some.injEq] at h;rw [h]
 | succ c ih =>
  intro i sp sp' h
  unfold rnd at h
  rcases hg:sp.getD i none with _ | s
  ·rw [hg] at h;exact ih (i+1) h
  ·rw [hg] at h
   rcases ha:aft i s with _ | t
   ·simp only [ha] at h;cases h
   ·simp only [ha] at h
    rcases hp:put n t sp (wy i) with _ | sp1
    ·simp only [hp] at h;cases h
    ·simp only [hp] at h
     rw [ih (i+1) h,put_len _ hp]
def FtPost (w0 w':World) (b0:Nat) (pv:Value) (b:Bool) (RR:Option Spots):Prop:=
 Chg (fun _=>False) w0 w'/\(RR=none->b=false)/\∀ sp,RR=some sp->b=true/\∃ sb gh go ch co xs,pv=.pointer (some ⟨sb,0,none⟩)/\xs.map (·.1)=sp/\SS w0 w' b0 sb gh go ch co xs
theorem rnds_step {n:Nat} {aft:Nat->List Int->Option (List Int)} {wy:Nat->List Int} {r:Nat} {sp:Spots} {RR:Option Spots} (hr:r<=n) (h:rnds n aft wy (n+1 - r) sp=RR) :
 (rnd n aft wy n 0 sp=none->RR=none)/\∀ sp',rnd n aft wy n 0 sp=some sp'->rnds n aft wy (n+1 - (r+1)) sp'=RR:=by
 have e:n+1 - r=(n+1 - (r+1))+1:=by omega
 rw [e] at h
 unfold rnds at h
 exact ⟨fun hp=>by simp only [hp] at h;exact h.symm,fun sp' hp=>by simp only [hp] at h;exact h⟩
set_option maxHeartbeats 2000000 in
set_option maxRecDepth 100000 in
theorem fit_core (w:World) (b0:Nat) (ta fa:Option Addr) (tc fc:Nat) (ls:List (List Int)) (fs:List Fn) (fi:Nat) (hfi:fi < fs.length) (hb0:b0<=w.heap.size)
 (ht:TypesV w b0 (.slice ta ls.length tc) ls) (hf:FuncsV 92 99 w b0 (.slice fa fs.length fc) fs) (hn:ls.length<=10000) (f:Fn) (hF:f=fs[fi]) (hcl:0 < f.code.length) (hcl2:f.code.length<=10000) (hargs:∀ f ∈ fs,0<=f.args/\f.args<=(f.locals.length:Int))
 (hok:∀ j (hj:j < f.code.length),CodeOk ls fs f f.code[j]) (RR:Option Spots) (HR:Hid (rnds f.code.length (aftC ls fs f) (wayC f) (f.code.length+1) ((List.replicate f.code.length none).set 0 (some []))=RR)) :
 Calls Try.prog 39 #[.agg #[.slice ta ls.length tc,.slice fa fs.length fc],.int .i64 (fi:Int)] w fun e w'=>∃ pv b,e=.returned (.tuple #[pv,.bool b])/\FtPost w w' b0 pv b RR:=by
 have kb:Chg (fun _=>False) w (w.alloc (Obj.cells #[.slice ta ls.length tc,.slice fa fs.length fc] 28)):=(Chg.refl (fun _=>False) w).alloc _
 have bx:Blk (w.alloc (Obj.cells #[.slice ta ls.length tc,.slice fa fs.length fc] 28)) w.heap.size #[.slice ta ls.length tc,.slice fa fs.length fc] 28:=Blk.new' rfl _ 28
 obtain ⟨g,cap,hv,_,hcells⟩:=(hf.chg kb (fun _ _ _ e=>e) (fun _ _ _ e=>e) (fun _ _ _ e=>e)).formS (by omega)
 simp only [Value.slice.injEq] at hv
 obtain ⟨rfl,_,rfl⟩:=hv
 obtain ⟨lv,cv,-,-,-,cc3,-,hci⟩:=hcells fi hfi
 rw [<-hF] at hci
 obtain ⟨gk,kc,rfl,_,hkc,_,hcode⟩:=hci.form hcl
 clear hcells
 have hfi':(fi:Int) < (fs.length:Int):=by omega
 have HSP:Hid (∀ (w':World) (sb gh go ch co:Nat) (xs:List (Option (List Int) × Value)),SS (w.alloc (Obj.cells #[.slice ta ls.length tc,.slice (some ⟨g,0,none⟩) fs.length fc] 28)) w' b0 sb gh go ch co xs->xs.length=f.code.length->(∀ x ∈ xs,∀ l,x.1=some l->l.length<=10000) ->
  Calls Try.prog 65 #[.pointer (some ⟨sb,0,none⟩),.agg #[.slice ta ls.length tc,.slice (some ⟨g,0,none⟩) fs.length fc],.int .i64 (fi:Int)] w' fun e w''=>∃ b,e=.returned (.bool b)/\SpPost (w.alloc (Obj.cells #[.slice ta ls.length tc,.slice (some ⟨g,0,none⟩) fs.length fc] 28)) w'' b0 sb gh go ch co b (rnd f.code.length (aftC ls fs f) (wayC f) f.code.length 0 (xs.map (·.1)))):=
  fun w' sb gh go ch co xs h hxl hsx=>spread_core _ w' b0 sb gh go ch co xs h ta _ tc fc ls fs fi hfi (Nat.le_trans hb0 kb.size) (ht.new kb) (hf.chg kb (fun _ _ _ e=>e) (fun _ _ _ e=>e) (fun _ _ _ e=>e)) hn f hF hxl hcl hcl2 hargs hok hsx _ rfl
 clear hok hargs hF ht hf hci hcode hkc
 have hmk1:=run_make_row' (P:=Try.prog) 110 4 (.bool false) 1 Try.underlying110 mkInfo4 rfl .i64 .i64 f.code.length (by omega) (by omega)
 have hmk2:=run_make_row' (P:=Try.prog) 25 47 (.slice none 0 0) 24 Try.underlying25 mkInfo47 rfl .i64 .i64 f.code.length (by omega) (by omega)
 generalize hnn:f.code.length=n at *
 clear hnn
 go_enter Try.func39,Try.ntmps39
 go_wp2_with fail
 generalize (w.alloc (Obj.cells #[.slice ta ls.length tc,.slice (some ⟨g,0,none⟩) fs.length fc] 28))=W at *
 clear cc3
 have hws:=kb.size
 have hBW:Hid (Blk W w.heap.size #[.slice ta ls.length tc,.slice (some ⟨g,0,none⟩) fs.length fc] 28):=bx
 go_region
 ·have kV:Chg (fun _=>False) W (((W.alloc (Obj.cells (madeCells #[.bool false] n) 4)).alloc (Obj.cells (madeCells #[.slice none 0 0] n) 47)).alloc (Obj.cells #[.slice (some ⟨W.heap.size,0,none⟩) n n,.slice (some ⟨(W.heap.size+1),0,none⟩) n n] 112)).drew:=((((Chg.refl _ W).alloc _).alloc _).alloc _).drew
  have bh:Blk (((W.alloc (Obj.cells (madeCells #[.bool false] n) 4)).alloc (Obj.cells (madeCells #[.slice none 0 0] n) 47)).alloc (Obj.cells #[.slice (some ⟨W.heap.size,0,none⟩) n n,.slice (some ⟨(W.heap.size+1),0,none⟩) n n] 112)).drew W.heap.size (madeCells #[.bool false] n) 4:=(((Blk.new W _ 4).alloc (Obj.cells (madeCells #[.slice none 0 0] n) 47)).alloc (Obj.cells #[.slice (some ⟨W.heap.size,0,none⟩) n n,.slice (some ⟨(W.heap.size+1),0,none⟩) n n] 112)).drew
  have bo:Blk (((W.alloc (Obj.cells (madeCells #[.bool false] n) 4)).alloc (Obj.cells (madeCells #[.slice none 0 0] n) 47)).alloc (Obj.cells #[.slice (some ⟨W.heap.size,0,none⟩) n n,.slice (some ⟨(W.heap.size+1),0,none⟩) n n] 112)).drew (W.heap.size+1) (madeCells #[.slice none 0 0] n) 47:=((Blk.new' (w:=W.alloc (Obj.cells (madeCells #[.bool false] n) 4)) (by simp) _ 47).alloc (Obj.cells #[.slice (some ⟨W.heap.size,0,none⟩) n n,.slice (some ⟨(W.heap.size+1),0,none⟩) n n] 112)).drew
  have bs:Blk (((W.alloc (Obj.cells (madeCells #[.bool false] n) 4)).alloc (Obj.cells (madeCells #[.slice none 0 0] n) 47)).alloc (Obj.cells #[.slice (some ⟨W.heap.size,0,none⟩) n n,.slice (some ⟨(W.heap.size+1),0,none⟩) n n] 112)).drew (W.heap.size+1+1) #[.slice (some ⟨W.heap.size,0,none⟩) n n,.slice (some ⟨(W.heap.size+1),0,none⟩) n n] 112:=(Blk.new' (w:=(W.alloc (Obj.cells (madeCells #[.bool false] n) 4)).alloc (Obj.cells (madeCells #[.slice none 0 0] n) 47)) (by simp) _ 112).drew
  have hx1:W.heap.size<=W.heap.size:=by omega
  have hx2:W.heap.size<=(W.heap.size+1):=by omega
  have hx3:W.heap.size<=W.heap.size+1+1:=by omega
  have hSS:=SS.start (b0:=b0) hcl (by unfold maxLen;omega) kV bh bo bs hx1 hx2 hx3
  have bx2:=(bx.chg kV (fun e=>e))
  have bx3:=bx2.setOther ⟨W.heap.size,0,none⟩ (.bool true) (bx2.ne bh (by decide))
  have y0:=bs.cell 0
  have y1:((((W.alloc (Obj.cells (madeCells #[.bool false] n) 4)).alloc (Obj.cells (madeCells #[.slice none 0 0] n) 47)).alloc (Obj.cells #[.slice (some ⟨W.heap.size,0,none⟩) n n,.slice (some ⟨(W.heap.size+1),0,none⟩) n n] 112)).drew).cell? ⟨W.heap.size,0,none⟩=some (.bool false):=by rw [bh.cell 0];simp [madeCells,hcl,Nat.mod_one]
  have y2:=bh.frozen 0
  have HSS:Hid _:=hSS
  have HBX:Hid _:=bx3
  clear kV bh bo bs hSS bx2 bx3
  generalize (((W.alloc (Obj.cells (madeCells #[.bool false] n) 4)).alloc (Obj.cells (madeCells #[.slice none 0 0] n) 47)).alloc (Obj.cells #[.slice (some ⟨W.heap.size,0,none⟩) n n,.slice (some ⟨(W.heap.size+1),0,none⟩) n n] 112)).drew=V at *
  generalize W.heap.size+1+1=sb at *
  generalize W.heap.size+1=go at *
  generalize W.heap.size=gh at *
  have y0:V.cell? ⟨sb,0,none⟩=some (.slice (some ⟨gh,0,none⟩) n n):=y0
  have hSS:=HSS.out
  have hBX:=HBX.out
  have hn0:(0:Int) < (n:Int):=by omega
  clear HSS HBX hmk1 hmk2 hws bx hx1 hx2 hx3
  go_wp2_with fail
  generalize V.setCell ⟨gh,0,none⟩ (.bool true)=U at *
  clear y0 y1 y2
  go_loopw [8] (fun iv wr=>∃ (r:Nat) (ys:List (Option (List Int) × Value)),r<=n+1/\iv=.int .i64 (r:Int)/\SS W wr b0 sb gh go n n ys/\Blk wr w.heap.size #[.slice ta ls.length tc,.slice (some ⟨g,0,none⟩) fs.length fc] 28/\ys.length=n/\(∀ x ∈ ys,∀ l,x.1=some l->l.length<=10000)/\rnds n (aftC ls fs f) (wayC f) (n+1 - r) (ys.map (·.1))=RR) (fun iv _=>n+1 - (intOf iv).toNat)
  case atStart =>
   refine ⟨0,_,Nat.zero_le _,rfl,hSS,hBX,by simp,fun x m l hl=>?_,?_⟩
   ·rcases List.mem_or_eq_of_mem_set m with m | rfl
    ·rw [List.mem_replicate] at m;rw [m.2] at hl;cases hl
    ·simp only [Option.some.injEq] at hl;subst hl;simp
   ·rw [List.map_set,List.map_replicate];exact HR.out
  case round =>
   obtain ⟨r,ys,hr,rfl,hS,hB,hyl,hys,hrn⟩:=hrel
   have HRN:Hid (rnds n (aftC ls fs f) (wayC f) (n+1 - r) (ys.map (·.1))=RR):=hrn
   have HYL:Hid (ys.length=n):=hyl
   have HYS:Hid (∀ x ∈ ys,∀ l,x.1=some l->l.length<=10000):=hys
   clear hrn hys hyl hSS hBX HR
   by_cases hlt:r<=n
   ·have hlt':(r:Int)<=(n:Int):=by omega
    have b0':wr.cell? ⟨w.heap.size,0,none⟩=some (.slice ta ls.length tc):=hB.cell 0
    have b1':wr.cell? ⟨w.heap.size,1,none⟩=some (.slice (some ⟨g,0,none⟩) fs.length fc):=hB.cell 1
    obtain ⟨st1,st2⟩:=rnds_step hlt HRN.out
    have HST1:Hid _:=st1
    have HST2:Hid _:=st2
    clear st1 st2 HRN
    go_wp2_with fail
    refine (HSP.out wr sb gh go n n ys hS HYL.out HYS.out).mono ?_
    rintro e w5 ⟨b,rfl,hch,h0,h1⟩
    rcases hrd:rnd n (aftC ls fs f) (wayC f) n 0 (ys.map (·.1)) with _ | sp'
    ·have hb:=h0 hrd
     subst hb
     have HRR:Hid (RR=none):=HST1.out hrd
     clear h0 h1 hrd HST1 HST2
     go_wp2
     exact bodyPost_ret (v:=.tuple #[.pointer none,.bool false]) (by simp [results,Try.results39,go_sem]) rfl ⟨_,_,rfl,kb.trans hch,fun _=>rfl,fun sp e=>by rw [HRR.out] at e;cases e⟩
    ·obtain ⟨hb,zs,hzm,hSz,hzs⟩:=h1 sp' hrd
     subst hb
     have HRR:Hid _:=HST2.out sp' hrd
     have hzl:zs.length=n:=by
      have e1:=rnd_len _ _ hrd
      rw [<-hzm,List.length_map,List.length_map] at e1
      rw [e1];exact HYL.out
     clear h0 h1 hrd HST1 HST2
     have hB5:=hBW.out.chg hch (fun e=>e)
     go_wp2
     exact ⟨⟨r+1,zs,by omega,rfl,hSz,hB5,hzl,hzs,by rw [hzm];exact HRR.out⟩,by simp [intOf];omega⟩
   ·have hre:n+1 - r=0:=by omega
    have HN:Hid (some (ys.map (·.1))=RR):=by have:=HRN.out;rw [hre] at this;exact this
    have hlt':(n:Int) < (r:Int):=by omega
    clear HRN hre
    go_wp2
    refine bodyPost_ret (v:=.tuple #[.pointer (some ⟨sb,0,none⟩),.bool true]) (by simp [results,Try.results39,go_sem]) rfl ⟨_,_,rfl,kb.trans hS.ch,fun e=>?_,fun sp e=>⟨rfl,sb,gh,go,n,n,ys,rfl,?_,hS.base kb⟩⟩
    ·have:=HN.out;rw [e] at this;cases this
    ·have:=HN.out;rw [e] at this;simpa using this
 ·have kV:Chg (fun _=>False) W (((W.alloc (Obj.cells (madeCells #[.slice none 0 0] n) 47)).alloc (Obj.cells (madeCells #[.bool false] n) 4)).alloc (Obj.cells #[.slice (some ⟨(W.heap.size+1),0,none⟩) n n,.slice (some ⟨W.heap.size,0,none⟩) n n] 112)).drew:=((((Chg.refl _ W).alloc _).alloc _).alloc _).drew
  have bh:Blk (((W.alloc (Obj.cells (madeCells #[.slice none 0 0] n) 47)).alloc (Obj.cells (madeCells #[.bool false] n) 4)).alloc (Obj.cells #[.slice (some ⟨(W.heap.size+1),0,none⟩) n n,.slice (some ⟨W.heap.size,0,none⟩) n n] 112)).drew (W.heap.size+1) (madeCells #[.bool false] n) 4:=((Blk.new' (w:=W.alloc (Obj.cells (madeCells #[.slice none 0 0] n) 47)) (by simp) _ 4).alloc (Obj.cells #[.slice (some ⟨(W.heap.size+1),0,none⟩) n n,.slice (some ⟨W.heap.size,0,none⟩) n n] 112)).drew
  have bo:Blk (((W.alloc (Obj.cells (madeCells #[.slice none 0 0] n) 47)).alloc (Obj.cells (madeCells #[.bool false] n) 4)).alloc (Obj.cells #[.slice (some ⟨(W.heap.size+1),0,none⟩) n n,.slice (some ⟨W.heap.size,0,none⟩) n n] 112)).drew W.heap.size (madeCells #[.slice none 0 0] n) 47:=(((Blk.new W _ 47).alloc (Obj.cells (madeCells #[.bool false] n) 4)).alloc (Obj.cells #[.slice (some ⟨(W.heap.size+1),0,none⟩) n n,.slice (some ⟨W.heap.size,0,none⟩) n n] 112)).drew
  have bs:Blk (((W.alloc (Obj.cells (madeCells #[.slice none 0 0] n) 47)).alloc (Obj.cells (madeCells #[.bool false] n) 4)).alloc (Obj.cells #[.slice (some ⟨(W.heap.size+1),0,none⟩) n n,.slice (some ⟨W.heap.size,0,none⟩) n n] 112)).drew (W.heap.size+1+1) #[.slice (some ⟨(W.heap.size+1),0,none⟩) n n,.slice (some ⟨W.heap.size,0,none⟩) n n] 112:=(Blk.new' (w:=(W.alloc (Obj.cells (madeCells #[.slice none 0 0] n) 47)).alloc (Obj.cells (madeCells #[.bool false] n) 4)) (by simp) _ 112).drew
  have hx1:W.heap.size<=(W.heap.size+1):=by omega
  have hx2:W.heap.size<=W.heap.size:=by omega
  have hx3:W.heap.size<=W.heap.size+1+1:=by omega
  have hSS:=SS.start (b0:=b0) hcl (by unfold maxLen;omega) kV bh bo bs hx1 hx2 hx3
  have bx2:=(bx.chg kV (fun e=>e))
  have bx3:=bx2.setOther ⟨(W.heap.size+1),0,none⟩ (.bool true) (bx2.ne bh (by decide))
  have y0:=bs.cell 0
  have y1:((((W.alloc (Obj.cells (madeCells #[.slice none 0 0] n) 47)).alloc (Obj.cells (madeCells #[.bool false] n) 4)).alloc (Obj.cells #[.slice (some ⟨(W.heap.size+1),0,none⟩) n n,.slice (some ⟨W.heap.size,0,none⟩) n n] 112)).drew).cell? ⟨(W.heap.size+1),0,none⟩=some (.bool false):=by rw [bh.cell 0];simp [madeCells,hcl,Nat.mod_one]
  have y2:=bh.frozen 0
  have HSS:Hid _:=hSS
  have HBX:Hid _:=bx3
  clear kV bh bo bs hSS bx2 bx3
  generalize (((W.alloc (Obj.cells (madeCells #[.slice none 0 0] n) 47)).alloc (Obj.cells (madeCells #[.bool false] n) 4)).alloc (Obj.cells #[.slice (some ⟨(W.heap.size+1),0,none⟩) n n,.slice (some ⟨W.heap.size,0,none⟩) n n] 112)).drew=V at *
  generalize W.heap.size+1+1=sb at *
  generalize W.heap.size+1=gh at *
  generalize W.heap.size=go at *
  have y0:V.cell? ⟨sb,0,none⟩=some (.slice (some ⟨gh,0,none⟩) n n):=y0
  have hSS:=HSS.out
  have hBX:=HBX.out
  have hn0:(0:Int) < (n:Int):=by omega
  clear HSS HBX hmk1 hmk2 hws bx hx1 hx2 hx3
  go_wp2_with fail
  generalize V.setCell ⟨gh,0,none⟩ (.bool true)=U at *
  clear y0 y1 y2
  go_loopw [8] (fun iv wr=>∃ (r:Nat) (ys:List (Option (List Int) × Value)),r<=n+1/\iv=.int .i64 (r:Int)/\SS W wr b0 sb gh go n n ys/\Blk wr w.heap.size #[.slice ta ls.length tc,.slice (some ⟨g,0,none⟩) fs.length fc] 28/\ys.length=n/\(∀ x ∈ ys,∀ l,x.1=some l->l.length<=10000)/\rnds n (aftC ls fs f) (wayC f) (n+1 - r) (ys.map (·.1))=RR) (fun iv _=>n+1 - (intOf iv).toNat)
  case atStart =>
   refine ⟨0,_,Nat.zero_le _,rfl,hSS,hBX,by simp,fun x m l hl=>?_,?_⟩
   ·rcases List.mem_or_eq_of_mem_set m with m | rfl
    ·rw [List.mem_replicate] at m;rw [m.2] at hl;cases hl
    ·simp only [Option.some.injEq] at hl;subst hl;simp
   ·rw [List.map_set,List.map_replicate];exact HR.out
  case round =>
   obtain ⟨r,ys,hr,rfl,hS,hB,hyl,hys,hrn⟩:=hrel
   have HRN:Hid (rnds n (aftC ls fs f) (wayC f) (n+1 - r) (ys.map (·.1))=RR):=hrn
   have HYL:Hid (ys.length=n):=hyl
   have HYS:Hid (∀ x ∈ ys,∀ l,x.1=some l->l.length<=10000):=hys
   clear hrn hys hyl hSS hBX HR
   by_cases hlt:r<=n
   ·have hlt':(r:Int)<=(n:Int):=by omega
    have b0':wr.cell? ⟨w.heap.size,0,none⟩=some (.slice ta ls.length tc):=hB.cell 0
    have b1':wr.cell? ⟨w.heap.size,1,none⟩=some (.slice (some ⟨g,0,none⟩) fs.length fc):=hB.cell 1
    obtain ⟨st1,st2⟩:=rnds_step hlt HRN.out
    have HST1:Hid _:=st1
    have HST2:Hid _:=st2
    clear st1 st2 HRN
    go_wp2_with fail
    refine (HSP.out wr sb gh go n n ys hS HYL.out HYS.out).mono ?_
    rintro e w5 ⟨b,rfl,hch,h0,h1⟩
    rcases hrd:rnd n (aftC ls fs f) (wayC f) n 0 (ys.map (·.1)) with _ | sp'
    ·have hb:=h0 hrd
     subst hb
     have HRR:Hid (RR=none):=HST1.out hrd
     clear h0 h1 hrd HST1 HST2
     go_wp2
     exact bodyPost_ret (v:=.tuple #[.pointer none,.bool false]) (by simp [results,Try.results39,go_sem]) rfl ⟨_,_,rfl,kb.trans hch,fun _=>rfl,fun sp e=>by rw [HRR.out] at e;cases e⟩
    ·obtain ⟨hb,zs,hzm,hSz,hzs⟩:=h1 sp' hrd
     subst hb
     have HRR:Hid _:=HST2.out sp' hrd
     have hzl:zs.length=n:=by
      have e1:=rnd_len _ _ hrd
      rw [<-hzm,List.length_map,List.length_map] at e1
      rw [e1];exact HYL.out
     clear h0 h1 hrd HST1 HST2
     have hB5:=hBW.out.chg hch (fun e=>e)
     go_wp2
     exact ⟨⟨r+1,zs,by omega,rfl,hSz,hB5,hzl,hzs,by rw [hzm];exact HRR.out⟩,by simp [intOf];omega⟩
   ·have hre:n+1 - r=0:=by omega
    have HN:Hid (some (ys.map (·.1))=RR):=by have:=HRN.out;rw [hre] at this;exact this
    have hlt':(n:Int) < (r:Int):=by omega
    clear HRN hre
    go_wp2
    refine bodyPost_ret (v:=.tuple #[.pointer (some ⟨sb,0,none⟩),.bool true]) (by simp [results,Try.results39,go_sem]) rfl ⟨_,_,rfl,kb.trans hS.ch,fun e=>?_,fun sp e=>⟨rfl,sb,gh,go,n,n,ys,rfl,?_,hS.base kb⟩⟩
    ·have:=HN.out;rw [e] at this;cases this
    ·have:=HN.out;rw [e] at this;simpa using this
end Go.Proofs.Ytnfnbcbadakofaa
namespace Go.Proofs.Ytnfnbcbadakofaa
open Go.RowKit
theorem fitF_rnds {p:Pg} (h:PgWf p) {f:Fn} (hf:f ∈ p.funcs) :
 ((fitF p f).2.2=true->rnds f.code.length (aftC p.types p.funcs f) (wayC f) (f.code.length+1) ((List.replicate f.code.length none).set 0 (some []))=none) /\
 ((fitF p f).2.2=false->rnds f.code.length (aftC p.types p.funcs f) (wayC f) (f.code.length+1) ((List.replicate f.code.length none).set 0 (some []))=some (fitF p f).1):=by
 obtain ⟨b,hb⟩:=h.fn hf
 exact fit_same (h.way hf) (by have:=hb.c1;omega)
structure CS (w wk:World) (pb:Nat) (tv fv:Value):Prop where
 rb:Blk wk w.heap.size #[.slice none 0 0,.slice none 0 0] 28
 bx:Blk wk pb #[tv,fv] 28
 lt:w.heap.size < pb
 ch:Chg (fun _=>False) w wk
theorem CS.new {w wk wk':World} {pb:Nat} {tv fv:Value} (h:CS w wk pb tv fv) (k:Chg (fun _=>False) wk wk'):CS w wk' pb tv fv:=⟨h.rb.chg k (fun e=>e),h.bx.chg k (fun e=>e),h.lt,h.ch.trans k⟩
set_option maxHeartbeats 4000000 in
set_option maxRecDepth 100000 in
theorem rcheck_core (s:ByteArray) (w:World) (R:Int × Int × Pg) (HR:Hid (opn s=R)) (hwf:R.1=0->PgWf R.2.2) (A:Nat ⊕ List Spots) (HA:Hid (fitAll R.2.2 R.2.2.funcs 0 []=A)) (O:Int × Int × Pg × List Spots)
 (HO1:Hid (R.1 ≠ 0->O=(R.1,R.2.1,⟨[],[]⟩,[]))) (HO2:Hid (R.1=0->∀ k:Nat,A=.inl k->O=(3,(k:Int),⟨[],[]⟩,[]))) (HO3:Hid (R.1=0->∀ sps,A=.inr sps->O=(0,0,R.2.2,sps))) :
 Calls Try.prog 15 #[.string s] w fun e w'=>∃ tv fv,e=.returned (.tuple #[.agg #[tv,fv],.int .i64 O.1,.int .i64 O.2.1])/\TypesV w' w.heap.size tv O.2.2.1.types/\FuncsV 92 99 w' w.heap.size fv O.2.2.1.funcs/\Chg (fun _=>False) w w':=by
 have HW:Hid (R.1=0->PgWf R.2.2):=hwf
 clear hwf
 have hrd:=fun w=>rdecode_any s w
 rw [<-opn_nxD s,HR.out] at hrd
 have HRD:Hid _:=hrd
 clear hrd
 go_enter Try.func15,Try.ntmps15
 go_wp2_with fail
 have ka:Chg (fun _=>False) w (w.alloc (Obj.cells #[.slice none 0 0,.slice none 0 0] 28)):=(Chg.refl _ w).alloc _
 have bo:=Blk.new w #[.slice none 0 0,.slice none 0 0] 28
 refine (HRD.out _).mono ?_
 rintro e w1 ⟨tv,fv,rfl,hty,hfv,hch⟩
 have bo1:=bo.chg hch (fun e=>e)
 have k1:=ka.trans hch
 have hty1:TypesV w1 w.heap.size tv R.2.2.types:=hty.mono ka.size
 have hfv1:FuncsV 92 99 w1 w.heap.size fv R.2.2.funcs:=hfv.mono ka.size
 clear bo ka hch hty hfv HRD
 obtain ⟨ta,tc,rfl⟩:=hty1.slice
 obtain ⟨fa,fc,rfl⟩:=hfv1.slice
 have hlt1:=bo1.lt
 by_cases hz:R.1=0
 ·have hw:=HW.out hz
  have HO2':Hid (∀ k:Nat,A=.inl k->O=(3,(k:Int),⟨[],[]⟩,[])):=HO2.out hz
  have HO3':Hid (∀ sps,A=.inr sps->O=(0,0,R.2.2,sps)):=HO3.out hz
  have hz':(R.1 != 0)=false:=by simp [hz]
  have kc:Chg (fun _=>False) w1 (w1.alloc (Obj.cells #[.slice ta R.2.2.types.length tc,.slice fa R.2.2.funcs.length fc] 28)):=(Chg.refl _ w1).alloc _
  have cs0:CS w (w1.alloc (Obj.cells #[.slice ta R.2.2.types.length tc,.slice fa R.2.2.funcs.length fc] 28)) w1.heap.size (.slice ta R.2.2.types.length tc) (.slice fa R.2.2.funcs.length fc):=⟨bo1.chg kc (fun e=>e),Blk.new w1 _ 28,hlt1,k1.trans kc⟩
  have hty2:=hty1.new kc
  have hfv2:=hfv1.chg kc (fun _ _ _ e=>e) (fun _ _ _ e=>e) (fun _ _ _ e=>e)
  clear kc bo1 k1 hty1 hfv1 HO1 HO2 HO3 HR HW
  have HZ:Hid (R.1=0):=hz
  clear hz
  go_wp2_with fail
  generalize w1.alloc (Obj.cells #[.slice ta R.2.2.types.length tc,.slice fa R.2.2.funcs.length fc] 28)=w2 at *
  generalize w1.heap.size=pb at *
  generalize R.2.2=p at *
  clear HZ hz'
  go_loopw [8] (fun iv wr=>∃ (k:Nat) (acc:List Spots),k<=p.funcs.length/\iv=.int .i64 (k:Int)/\CS w wr pb (.slice ta p.types.length tc) (.slice fa p.funcs.length fc)/\TypesV wr w.heap.size (.slice ta p.types.length tc) p.types/\FuncsV 92 99 wr w.heap.size (.slice fa p.funcs.length fc) p.funcs/\fitAll p (p.funcs.drop k) k acc=A) (fun iv _=>p.funcs.length - (intOf iv).toNat)
  case atStart=>exact ⟨0,[],Nat.zero_le _,rfl,cs0,hty2,hfv2,HA.out⟩
  case round =>
   clear cs0 hty2 hfv2 HA hlt1
   obtain ⟨k,acc,hk,rfl,cs,hty,hfv,hfa⟩:=hrel
   have p0:wr.cell? ⟨pb,0,none⟩=some (.slice ta p.types.length tc):=cs.bx.cell 0
   have p1:wr.cell? ⟨pb,1,none⟩=some (.slice fa p.funcs.length fc):=cs.bx.cell 1
   have hf6:=hw.f6
   by_cases hlt:k < p.funcs.length
   ·have hlt':(k:Int) < (p.funcs.length:Int):=by omega
    obtain ⟨st1,st2⟩:=fitAll_step hlt hfa
    have ST1:Hid _:=st1
    have ST2:Hid _:=st2
    clear st1 st2 hfa
    have hmem:p.funcs[k] ∈ p.funcs:=List.getElem_mem hlt
    obtain ⟨bb,hfo⟩:=hw.fn hmem
    have hc1:=hfo.c1
    have hc64:=hfo.c64
    have hsz:=cs.ch.size
    obtain ⟨g1,g2⟩:=fitF_rnds hw hmem
    have G1:Hid _:=g1
    have G2:Hid _:=g2
    clear g1 g2 hfo
    go_wp2_with fail
    refine (fit_core wr w.heap.size ta fa tc fc p.types p.funcs k hlt hsz hty hfv (by have:=hw.t6;omega) p.funcs[k] rfl (by omega) (by omega) hw.args (fun j hj=>hw.code hmem _ (List.getElem_mem hj)) _ rfl).mono ?_
    rintro e w5 ⟨pv,b,rfl,hch,h0,h1⟩
    have cs5:=cs.new hch
    have hty5:=hty.new hch
    have hfv5:=hfv.chg hch (fun _ _ _ e=>e) (fun _ _ _ e=>e) (fun _ _ _ e=>e)
    clear cs hty hfv hch p0 p1
    have o0:w5.cell? ⟨w.heap.size,0,none⟩=some (.slice none 0 0):=cs5.rb.cell 0
    have o1:w5.cell? ⟨w.heap.size,1,none⟩=some (.slice none 0 0):=cs5.rb.cell 1
    have z0:=cs5.rb.frozen 0
    have z1:=cs5.rb.frozen 1
    rcases hF:(fitF p p.funcs[k]).2.2
    ·obtain ⟨hb,_⟩:=h1 _ (G2.out hF)
     subst hb
     have HN:Hid _:=ST2.out hF
     clear h0 h1 ST1 ST2 G1 G2 hF o0 o1 z0 z1
     go_wp2
     exact ⟨⟨k+1,_,by omega,rfl,cs5,hty5,hfv5,HN.out⟩,by simp [intOf];omega⟩
    ·have hb:=h0 (G1.out hF)
     subst hb
     have HO:Hid _:=HO2'.out k (ST1.out hF)
     clear h0 h1 ST1 ST2 G1 G2 hF
     go_wp2
     have b3:=(cs5.rb.set 0 (.slice none 0 0)).set 1 (.slice none 0 0)
     have hk:=chg_set2 w5 w.heap.size (.slice none 0 0) (.slice none 0 0)
     have hD:=cs5.ch.trans' hk (fun i hi e=>by omega)
     generalize (w5.setCell ⟨w.heap.size,0,none⟩ (.slice none 0 0)).setCell ⟨w.heap.size,1,none⟩ (.slice none 0 0)=wf at *
     have q0:wf.cell? ⟨w.heap.size,0,none⟩=some (.slice none 0 0):=b3.cell 0
     have q1:wf.cell? ⟨w.heap.size,1,none⟩=some (.slice none 0 0):=b3.cell 1
     have hO:=HO.out
     subst hO
     exact bodyPost_ret (v:=.tuple #[.agg #[.slice none 0 0,.slice none 0 0],.int .i64 3,.int .i64 (k:Int)]) (by simp [results,Try.results15,go_sem,q0,q1]) rfl ⟨_,_,rfl,TypesV.nil _ _,FuncsV.nil _ _ _ _,hD⟩
   ·have hkk:k=p.funcs.length:=by omega
    have HO:Hid (O=(0,0,p,acc)):=HO3'.out acc (by rw [hkk,List.drop_length] at hfa;exact hfa.symm)
    have hlt':(p.funcs.length:Int)<=(k:Int):=by omega
    clear hfa hkk
    have o0:wr.cell? ⟨w.heap.size,0,none⟩=some (.slice none 0 0):=cs.rb.cell 0
    have o1:wr.cell? ⟨w.heap.size,1,none⟩=some (.slice none 0 0):=cs.rb.cell 1
    have z0:=cs.rb.frozen 0
    have z1:=cs.rb.frozen 1
    have hltp:=cs.lt
    go_wp2
    have b3:=(cs.rb.set 0 (.slice ta p.types.length tc)).set 1 (.slice fa p.funcs.length fc)
    have hk:=chg_set2 wr w.heap.size (.slice ta p.types.length tc) (.slice fa p.funcs.length fc)
    have hD:=cs.ch.trans' hk (fun i hi e=>by omega)
    have hA:=hty.chg hk (fun g cs' hb e=>hb.ne cs.rb (by decide) e) (fun g cs' hb e=>hb.ne cs.rb (by decide) e)
    have hB:=hfv.chg hk (fun g cs' hb e=>hb.ne cs.rb (by decide) e) (fun g cs' hb e=>hb.ne cs.rb (by decide) e) (fun g cs' hb e=>hb.ne cs.rb (by decide) e)
    generalize (wr.setCell ⟨w.heap.size,0,none⟩ (.slice ta p.types.length tc)).setCell ⟨w.heap.size,1,none⟩ (.slice fa p.funcs.length fc)=wf at *
    have q0:wf.cell? ⟨w.heap.size,0,none⟩=some (.slice ta p.types.length tc):=b3.cell 0
    have q1:wf.cell? ⟨w.heap.size,1,none⟩=some (.slice fa p.funcs.length fc):=b3.cell 1
    have hO:=HO.out
    subst hO
    exact bodyPost_ret (v:=.tuple #[.agg #[.slice ta p.types.length tc,.slice fa p.funcs.length fc],.int .i64 0,.int .i64 0]) (by simp [results,Try.results15,go_sem,q0,q1]) rfl ⟨_,_,rfl,hA,hB,hD⟩
 ·have hz':(R.1 != 0)=true:=by simp [hz]
  have HO:Hid _:=HO1.out hz
  have o0:w1.cell? ⟨w.heap.size,0,none⟩=some (.slice none 0 0):=bo1.cell 0
  have o1:w1.cell? ⟨w.heap.size,1,none⟩=some (.slice none 0 0):=bo1.cell 1
  have z0:=bo1.frozen 0
  have z1:=bo1.frozen 1
  clear hz
  go_wp2
  have b3:=((bo1.set 0 (.slice none 0 0)).set 1 (.slice none 0 0)).alloc (Obj.cells #[.slice ta R.2.2.types.length tc,.slice fa R.2.2.funcs.length fc] 28)
  have hk:=(chg_set2 w1 w.heap.size (.slice none 0 0) (.slice none 0 0)).alloc (Obj.cells #[.slice ta R.2.2.types.length tc,.slice fa R.2.2.funcs.length fc] 28)
  have hD:=k1.trans' hk (fun i hi e=>by omega)
  generalize ((w1.setCell ⟨w.heap.size,0,none⟩ (.slice none 0 0)).setCell ⟨w.heap.size,1,none⟩ (.slice none 0 0)).alloc (Obj.cells #[.slice ta R.2.2.types.length tc,.slice fa R.2.2.funcs.length fc] 28)=wf at *
  have q0:wf.cell? ⟨w.heap.size,0,none⟩=some (.slice none 0 0):=b3.cell 0
  have q1:wf.cell? ⟨w.heap.size,1,none⟩=some (.slice none 0 0):=b3.cell 1
  have hO:=HO.out
  subst hO
  exact bodyPost_ret (v:=.tuple #[.agg #[.slice none 0 0,.slice none 0 0],.int .i64 R.1,.int .i64 R.2.1]) (by simp [results,Try.results15,go_sem,q0,q1]) rfl ⟨_,_,rfl,TypesV.nil _ _,FuncsV.nil _ _ _ _,hD⟩
end Go.Proofs.Ytnfnbcbadakofaa
namespace Go.Proofs.Ytnfnbcbadakofaa
open Go.RowKit
set_option maxHeartbeats 400000 in
theorem num_any (n:Int) (w:World):Calls Try.prog 16 #[.int .i64 n] w fun e w'=>e=.returned (.int .i64 n)/\w'=w:=by
 go_enter Try.func16,Try.ntmps16
 go_wp2
 go_ret
 exact ⟨rfl,rfl⟩
end Go.Proofs.Ytnfnbcbadakofaa
namespace Go.Proofs.Ytnfnbcbadakofaa
open Go.RowKit
theorem opn_place {s:ByteArray} (h:(opn s).1=0):(opn s).2.1=0:=by
 unfold opn at *
 by_cases h1:800 < s.size
 ·rw [if_pos h1] at h;cases h
 rw [if_neg h1] at h ⊢
 have e2:rdP (bl s)=if (tkP (bl s) (0,false)).2.2=true \/ (tkP (bl s) (0,false)).2.1 < (bl s).length then (2,((tkP (bl s) (0,false)).2.1:Int),⟨[],[]⟩) else (0,0,(tkP (bl s) (0,false)).1):=rfl
 rw [e2] at h ⊢
 by_cases h2:(tkP (bl s) (0,false)).2.2=true \/ (tkP (bl s) (0,false)).2.1 < (bl s).length
 ·rw [if_pos h2] at h;cases h
 rw [if_neg h2]
theorem opF_1 {s:ByteArray} (h:(opn s).1 ≠ 0):opF s=((opn s).1,(opn s).2.1,⟨[],[]⟩,[]):=by
 unfold opF;rw [if_pos h]
theorem opF_2 {s:ByteArray} (h:(opn s).1=0) (k:Nat) (hA:fitAll (opn s).2.2 (opn s).2.2.funcs 0 []=.inl k):opF s=(3,(k:Int),⟨[],[]⟩,[]):=by
 unfold opF;rw [if_neg (by simpa using h),hA]
theorem opF_3 {s:ByteArray} (h:(opn s).1=0) (sps:List Spots) (hA:fitAll (opn s).2.2 (opn s).2.2.funcs 0 []=.inr sps):opF s=(0,0,(opn s).2.2,sps):=by
 unfold opF;rw [if_neg (by simpa using h),hA]
theorem openFit_any (s:ByteArray) (w:World):Calls Try.prog 38 #[.string s] w (OfEnd w (opF s)):=
 openFit_core s w (opn s) rfl opn_wf _ rfl (opF s) opn_place opF_1 (fun h k hA=>opF_2 h k hA) (fun h sps hA=>opF_3 h sps hA)
theorem rcheck_any (s:ByteArray) (w:World) :
 Calls Try.prog 15 #[.string s] w fun e w'=>∃ tv fv,e=.returned (.tuple #[.agg #[tv,fv],.int .i64 (opF s).1,.int .i64 (opF s).2.1])/\TypesV w' w.heap.size tv (opF s).2.2.1.types/\FuncsV 92 99 w' w.heap.size fv (opF s).2.2.1.funcs/\Chg (fun _=>False) w w':=
 rcheck_core s w (opn s) rfl opn_wf _ rfl (opF s) opF_1 (fun h k hA=>opF_2 h k hA) (fun h sps hA=>opF_3 h sps hA)
end Go.Proofs.Ytnfnbcbadakofaa
