import Derived.Test.YtnfnbcbadakofabFend
import Derived.Deep.OwnRows
import Derived.Laws.MakeOwn
namespace Go.Proofs.Ytnfnbcbadakofab
open Go.RowKit
theorem mkInfo107:(Try.prog.info? 125).map (fun i=>(i.zero,i.size,i.bytes))=some (some (.agg #[.bool false,()]),2,32):=by kernel_rfl
theorem run_make_two {P:Program} (t e:TypeId) (z a b:Value) (bytes:Nat) (ht:P.underlying t=some (.slice e)) (hinfo:(P.info? e).map (fun i=>(i.zero,i.size,i.bytes))=some (some z,2,bytes)) (hz1:z.cells=#[a,b])
 (kl kc:IntKind) (n:Nat) (hbytes:bytes * n<=281474976710656) (h63:n<=9223372036854775807) (w:World) :
 (Instr.makeSlice t (.int kl (n:Int)) (.int kc (n:Int))).run P w=.ok (.slice w.heap.size n n) (w.alloc (.cells (madeCells #[a,b] (n * 2)) e)):=by
 obtain ⟨i,hi,hzz⟩:=Option.map_eq_some_iff.1 hinfo
 simp only [Prod.mk.injEq] at hzz
 obtain ⟨hz,hs,hb⟩:=hzz
 have hb':(i.bytes:Int) * (n:Int)<=281474976710656:=by
  have h:((i.bytes * n:Nat):Int)<=281474976710656:=by rw [hb];omega
  rwa [Int.natCast_mul] at h
 have hr:=run_make (P:=P) w t e i z ht hi hz kl kc n n (by omega) (Int.le_refl _) hb' (by omega)
 simp only [Int.toNat_natCast,hs,hz1] at hr
 exact hr
theorem made_spots (n:Nat):(madeCells #[.bool false,()] (n * 2)).toList=spC (List.replicate n (none,.slice none 0 0)):=by
 apply List.ext_getElem?
 intro i
 rw [Array.getElem?_toList]
 rcases Nat.lt_or_ge i (n * 2) with h | h
 ·have e1:(madeCells #[Value.bool false,()] (n * 2))[i]?=some (#[Value.bool false,.slice none 0 0][i % 2]!):=by simp [madeCells,h]
  rw [e1]
  have hj:i / 2 < (List.replicate n ((none:Option (List Int)),Value.slice none 0 0)).length:=by simp;omega
  obtain ⟨g1,g2⟩:=spC_get (List.replicate n (none,.slice none 0 0)) (i / 2) hj
  rcases Nat.mod_two_eq_zero_or_one i with hm | hm
  ·have:i=i / 2 * 2:=by omega
   rw [hm,this,g1];simp
  ·have:i=i / 2 * 2+1:=by omega
   rw [hm,this,g2];simp
 ·rw [Array.getElem?_eq_none (by rw [size_madeCells];exact h),List.getElem?_eq_none (by rw [spC_len];simpa using h)]
theorem own_spots {W:World} {n b base:Nat} (hz:Blk W b (madeCells #[.bool false,()] (n * 2)) 125) (hb:base<=b) (hn:n<=maxLen):W.ownsRow base 125 2 (.slice b n n) n (spC (List.replicate n (none,.slice none 0 0))):=
 ⟨by rw [spC_len];simp,.inr ⟨b,n,_,rfl,hb,hz,Nat.le_refl _,hn,by rw [size_madeCells],by rw [<-made_spots,List.take_of_length_le (by rw [Array.length_toList,size_madeCells];exact Nat.le_refl _)]⟩⟩
theorem QI.start {n:Nat} (hn:0 < n):QI ((List.replicate n (none:Option (List Int))).set 0 (some [])) [0]:=by
 have hz:(List.replicate n (none:Option (List Int)))[0]?=some none:=by rw [List.getElem?_replicate,if_pos hn]
 have hc0:cnt (List.replicate n none)=0:=by unfold cnt;rw [List.countP_replicate];rfl
 have h:QI (List.replicate n (none:Option (List Int))) []:=⟨hc0.symm,fun i s h=>by rw [List.getElem?_replicate] at h;split at h <;> simp at h,fun j hj=>by simp at hj⟩
 have:=h.push (k:=0) (Int.le_refl _) [] hz
 simpa using this
theorem gos_ok {t:List Int} {M:Nat} (ht:t.length<=M) (ks:List Int):∀ (st:Fits),(∀ o ∈ st.1,∀ s,o=some s->s.length<=M)->(∀ o ∈ (gos t st ks).1,∀ s,o=some s->s.length<=M)/\(gos t st ks).1.length=st.1.length:=by
 induction ks with
 | nil=>intro st h;exact ⟨h,rfl⟩
 | cons k ks ih =>
  intro st h
  obtain ⟨a,b,c⟩:=goP_ok (q:=st.2.1) (wr:=st.2.2) (i:=k) h ht
  obtain ⟨d,e⟩:=ih (goP st.1 st.2.1 st.2.2 k t) a
  exact ⟨d,e.trans c⟩
theorem pass_inv {n M:Nat} {aft:Nat->List Int->Option (List Int)} {wy:Nat->List Int} (h0:∀ i,∀ k ∈ wy i,0<=k) (ha:∀ i s t,aft i s=some t->t.length<=M) {sp:Spots} {q:List Int} (hl:sp.length=n) (hq:QI sp q) (hM:∀ o ∈ sp,∀ s,o=some s->s.length<=M) (i:Nat) :
 (passA aft wy i (sp,q,false)).1.length=n/\(∀ o ∈ (passA aft wy i (sp,q,false)).1,∀ s,o=some s->s.length<=M)/\((passA aft wy i (sp,q,false)).2.2=false->QI (passA aft wy i (sp,q,false)).1 (passA aft wy i (sp,q,false)).2.1):=by
 unfold passA
 rcases hg:sp.getD i none with _ | s
 ·exact ⟨hl,hM,fun _=>hq⟩
 ·simp only
  rcases he:aft i s with _ | t
  ·exact ⟨hl,hM,fun e=>by cases e⟩
  ·simp only
   obtain ⟨g1,g2⟩:=gos_put (t:=t) (h0 i) hl hq
   obtain ⟨o1,o2⟩:=gos_ok (ha i s t he) (wy i) (sp,q,false) hM
   refine ⟨o2.trans hl,o1,fun e=>?_⟩
   rcases hp:put n t sp (wy i) with _ | sp1
   ·rw [g2 hp] at e;cases e
   ·obtain ⟨e',g3,g4⟩:=g1 sp1 hp
    rw [g3];exact g4
theorem aftC_le {ls:List (List Int)} {fs:List Fn} {f:Fn} {i:Nat} {s t:List Int} (h:aftC ls fs f i s=some t):t.length<=8:=afterP_len h
theorem TS.start {w0 V:World} {tb g n:Nat} {s0 s1 s2 s3 s4 s5:Value} (hm:n<=maxLen) (k:Chg () w0 V) (b1:Blk V g (madeCells #[.bool false,()] (n * 2)) 125) (b2:Blk V tb #[s0,s1,s2,s3,s4,s5,.slice g n n,.slice none 0 0,.bool false] 81) (h1:w0.heap.size<=g) (h2:w0.heap.size<=tb) :
 TS w0 V tb #[s0,s1,s2,s3,s4,s5] (.slice g n n) (.slice none 0 0) (List.replicate n (none,.slice none 0 0)) [] false:=by
 refine ⟨b2,rfl,?_,fun x m l hl=>?_,World.ownsRow_nil _ _ _ _,k,h2⟩
 ·have:=own_spots b1 h1 hm
  simpa using this
 ·rw [List.mem_replicate] at m
  obtain ⟨_,rfl⟩:=m
  simp only [Option.getD_none] at hl
  subst hl
  exact ⟨World.ownsRow_nil _ _ _ _,fun g h=>by cases h⟩
theorem fitL_step {aft:Nat->List Int->Option (List Int)} {wy:Nat->List Int} {n k:Nat} {sp:Spots} {q:List Int} {b:Bool} {RR:Fits} (hk:k < n) (h:fitL aft wy (n - k) k (sp,q,b)=RR) :
 (b=true->RR=(sp,q,b))/\(q.length<=k->RR=(sp,q,b))/\(b=false->k < q.length->fitL aft wy (n - (k+1)) (k+1) (passA aft wy (q.getD k 0).toNat (sp,q,b))=RR):=by
 have e:n - k=(n - (k+1))+1:=by omega
 rw [e] at h
 unfold fitL at h
 refine ⟨fun hb=>?_,fun hq=>?_,fun hb hq=>?_⟩
 ·rw [if_pos (.inl hb)] at h;exact h.symm
 ·rw [if_pos (.inr hq)] at h;exact h.symm
 ·rw [if_neg (by subst hb;simp;omega)] at h;exact h
def SfEnd (w:World) (st:List Value) (RR:Fits) (e:Ending) (w':World):Prop:=
 ∃ sv qa qn qc,e=.returned (.agg (st++[sv,.slice qa qn qc,.bool RR.2.2]).toArray)/\SpotsV w' w.heap.size sv RR.1/\Chg () w w'
set_option maxHeartbeats 4000000 in
set_option maxRecDepth 100000 in
theorem sfit_core (w:World) (b0:Nat) (ta fa la:Option Addr) (tc fc lc gk cc:Nat) (p:Pg) (hw:PgWf p) (f:Fn) (hf:f ∈ p.funcs) (hb0:b0<=w.heap.size)
 (ht:TypesV w b0 (.slice ta p.types.length tc) p.types) (hfs:FuncsV 78 93 w b0 (.slice fa p.funcs.length fc) p.funcs) (hl:IntsV w b0 (.slice la f.locals.length lc) f.locals) (hc:InsV 93 w b0 (.slice gk f.code.length cc) f.code) (RR:Fits)
 (HR:Hid (fitL (aftC p.types p.funcs f) (wayC f) f.code.length 0 (goP (List.replicate f.code.length none) [] false 0 [])=RR)) :
 Calls Try.prog 31 #[.agg #[.slice ta p.types.length tc,.slice fa p.funcs.length fc],.agg #[f.args,.slice la f.locals.length lc,f.result,.slice gk f.code.length cc]] w (SfEnd w [.slice ta p.types.length tc,.slice fa p.funcs.length fc,.int .i64 f.args,.slice la f.locals.length lc,.int .i64 f.result,.slice gk f.code.length cc] RR):=by
 obtain ⟨bb,hfo⟩:=hw.fn hf
 have hc1:=hfo.c1
 have hc64:=hfo.c64
 have kb:Chg () w (((w.alloc (Obj.cells #[.slice ta p.types.length tc,.slice fa p.funcs.length fc] 56)).alloc (Obj.cells #[f.args,.slice la f.locals.length lc,f.result,.slice gk f.code.length cc] 78)).alloc (Obj.cells #[(),(),oO,(),oO,(),(),(),.bool false] 81)):=(((Chg.refl () w).alloc _).alloc _).alloc _
 have hB1:Blk (((w.alloc (Obj.cells #[.slice ta p.types.length tc,.slice fa p.funcs.length fc] 56)).alloc (Obj.cells #[f.args,.slice la f.locals.length lc,f.result,.slice gk f.code.length cc] 78)).alloc (Obj.cells #[(),(),oO,(),oO,(),(),(),.bool false] 81)) (w.heap.size+1) #[f.args,.slice la f.locals.length lc,f.result,.slice gk f.code.length cc] 78:=(Blk.new' (w:=w.alloc (Obj.cells #[.slice ta p.types.length tc,.slice fa p.funcs.length fc] 56)) (by simp) #[f.args,.slice la f.locals.length lc,f.result,.slice gk f.code.length cc] 78).alloc _
 have hB2:Blk (((w.alloc (Obj.cells #[.slice ta p.types.length tc,.slice fa p.funcs.length fc] 56)).alloc (Obj.cells #[f.args,.slice la f.locals.length lc,f.result,.slice gk f.code.length cc] 78)).alloc (Obj.cells #[(),(),oO,(),oO,(),(),(),.bool false] 81)) (w.heap.size+1+1) #[(),(),oO,(),oO,(),(),(),.bool false] 81:=Blk.new' (w:=(w.alloc (Obj.cells #[.slice ta p.types.length tc,.slice fa p.funcs.length fc] 56)).alloc (Obj.cells #[f.args,.slice la f.locals.length lc,f.result,.slice gk f.code.length cc] 78)) (by simp) #[(),(),oO,(),oO,(),(),(),.bool false] 81
 have hsz:(((w.alloc (Obj.cells #[.slice ta p.types.length tc,.slice fa p.funcs.length fc] 56)).alloc (Obj.cells #[f.args,.slice la f.locals.length lc,f.result,.slice gk f.code.length cc] 78)).alloc (Obj.cells #[(),(),oO,(),oO,(),(),(),.bool false] 81)).heap.size=w.heap.size+1+1+1:=by simp
 have HPA:Hid (∀ (tb g:Nat) (w':World) (qv:Value) (xs:List (Option (List Int) × Value)) (q:List Int) (k:Nat) (s:List Int) (hk:k < xs.length),TS (((w.alloc (Obj.cells #[.slice ta p.types.length tc,.slice fa p.funcs.length fc] 56)).alloc (Obj.cells #[f.args,.slice la f.locals.length lc,f.result,.slice gk f.code.length cc] 78)).alloc (Obj.cells #[(),(),oO,(),oO,(),(),(),.bool false] 81)) w' tb #[.slice ta p.types.length tc,.slice fa p.funcs.length fc,.int .i64 f.args,.slice la f.locals.length lc,.int .i64 f.result,.slice gk f.code.length cc] (.slice g f.code.length f.code.length) qv xs q false->xs.length=f.code.length->q.length<=9000->(∀ x ∈ xs,∀ s,x.1=some s->s.length<=8)->xs[k].1=some s ->
  Calls Try.prog 50 #[.pointer tb,k] w' fun e w''=>e=.returned (.tuple #[])/\PaPost (((w.alloc (Obj.cells #[.slice ta p.types.length tc,.slice fa p.funcs.length fc] 56)).alloc (Obj.cells #[f.args,.slice la f.locals.length lc,f.result,.slice gk f.code.length cc] 78)).alloc (Obj.cells #[(),(),oO,(),oO,(),(),(),.bool false] 81)) tb #[.slice ta p.types.length tc,.slice fa p.funcs.length fc,.int .i64 f.args,.slice la f.locals.length lc,.int .i64 f.result,.slice gk f.code.length cc] (.slice g f.code.length f.code.length) (passP p.types p.funcs f k (f.code.getD k (0,0,0)) s (xs.map (·.1)) q false) w''):=by
  intro tb g w' qv xs q k s hk h hxl hql hsx hx
  obtain ⟨gk',cc',he,_,_,_,hcode⟩:=(hc.chg kb (fun _ _ _ e=>e)).form (by omega)
  simp only [Value.slice.injEq,Option.some.injEq,Addr.mk.injEq] at he
  obtain ⟨⟨rfl,_,_⟩,_,rfl⟩:=he
  have hkc:k < f.code.length:=by omega
  obtain ⟨y0,y1,y2⟩:=hcode k hkc
  have hg:f.code.getD k (0,0,0)=f.code[k]:=by rw [List.getD_eq_getElem?_getD,List.getElem?_eq_getElem hkc];rfl
  obtain ⟨o1,o2,o3,o4,o5,_⟩:=hw.code hf _ (List.getElem_mem hkc)
  have:=pass_core _ w' tb b0 _ _ _ gk cc p.types p.funcs f g f.code.length qv xs q false k s _ _ _ (by rw [hxl];exact h) (Nat.le_trans hb0 kb.size) (ht.new kb) (hfs.chg kb (fun _ _ _ e=>e) (fun _ _ _ e=>e) (fun _ _ _ e=>e)) (hl.chg kb (fun _ _ _ e=>e)) (by have:=hw.t6;omega)
   hk hkc hx (by have:=hsx _ (List.getElem_mem hk) s hx;omega) o4 o5 ⟨o1,o2⟩ hql (by omega) (fun x m s' hs'=>by have:=hsx x m s' hs';omega) y0 y1 y2 _ rfl
  rw [hxl] at this
  rw [hg]
  exact this
 have HWY:Hid (∀ i,∀ k ∈ wayC f i,0<=k):=hw.way hf
 have hmk:=run_make_two (P:=Try.prog) 79 125 (.agg #[.bool false,()]) (.bool false) (.slice none 0 0) 32 Try.underlying79 mkInfo107 rfl .i64 .i64 f.code.length (by omega) (by omega)
 clear ht hfs hl hc hfo hw hf
 generalize hnn:f.code.length=n at *
 clear hnn
 go_enter Try.func31,Try.ntmps31
 go_wp2_with fail
 go_region
 ·generalize (((w.alloc (Obj.cells #[.slice ta p.types.length tc,.slice fa p.funcs.length fc] 56)).alloc (Obj.cells #[f.args,.slice la f.locals.length lc,f.result,.slice gk n cc] 78)).alloc (Obj.cells #[(),(),oO,(),oO,(),(),(),.bool false] 81))=W at *
  have kV:Chg () W ((W.alloc (Obj.cells (madeCells #[.bool false,()] (n * 2)) 125)).alloc (Obj.cells #[.slice ta p.types.length tc,.slice fa p.funcs.length fc,f.args,.slice la f.locals.length lc,f.result,.slice gk n cc,.slice (some ⟨(w.heap.size+1+1+1),0,none⟩) n n,(),.bool false] 81)).drew:=(((Chg.refl _ W).alloc _).alloc _).drew
  have bg:Blk ((W.alloc (Obj.cells (madeCells #[.bool false,()] (n * 2)) 125)).alloc (Obj.cells #[.slice ta p.types.length tc,.slice fa p.funcs.length fc,f.args,.slice la f.locals.length lc,f.result,.slice gk n cc,.slice (some ⟨(w.heap.size+1+1+1),0,none⟩) n n,(),.bool false] 81)).drew (w.heap.size+1+1+1) (madeCells #[.bool false,()] (n * 2)) 125:=((Blk.new' (w:=W) hsz _ 125).alloc (Obj.cells #[.slice ta p.types.length tc,.slice fa p.funcs.length fc,f.args,.slice la f.locals.length lc,f.result,.slice gk n cc,.slice (some ⟨(w.heap.size+1+1+1),0,none⟩) n n,(),.bool false] 81)).drew
  have bt:Blk ((W.alloc (Obj.cells (madeCells #[.bool false,()] (n * 2)) 125)).alloc (Obj.cells #[.slice ta p.types.length tc,.slice fa p.funcs.length fc,f.args,.slice la f.locals.length lc,f.result,.slice gk n cc,.slice (some ⟨(w.heap.size+1+1+1),0,none⟩) n n,(),.bool false] 81)).drew (w.heap.size+1+1+1+1) #[.slice ta p.types.length tc,.slice fa p.funcs.length fc,f.args,.slice la f.locals.length lc,f.result,.slice gk n cc,.slice (some ⟨(w.heap.size+1+1+1),0,none⟩) n n,(),.bool false] 81:=(Blk.new' (w:=W.alloc (Obj.cells (madeCells #[.bool false,()] (n * 2)) 125)) (by simp [hsz]) _ 81).drew
  have hT0:=TS.start (w0:=W) (by unfold maxLen;omega) kV bg bt (by omega) (by omega)
  have HT0:Hid _:=hT0
  have hlg:W.heap.size<=(w.heap.size+1+1+1+1):=by omega
  clear bg bt hT0 kV hmk
  generalize ((W.alloc (Obj.cells (madeCells #[.bool false,()] (n * 2)) 125)).alloc (Obj.cells #[.slice ta p.types.length tc,.slice fa p.funcs.length fc,f.args,.slice la f.locals.length lc,f.result,.slice gk n cc,.slice (some ⟨(w.heap.size+1+1+1),0,none⟩) n n,(),.bool false] 81)).drew=V at *
  generalize w.heap.size+1+1+1+1=tb at *
  generalize w.heap.size+1+1+1=g at *
  generalize hrbe:w.heap.size+1+1=rb at *
  have hrb:w.heap.size<=rb:=by omega
  have hrl:rb < W.heap.size:=hB2.lt
  have hne:tb ≠ rb:=by omega
  have hne':rb ≠ tb:=by omega
  clear hrbe
  go_wp2_with fail
  refine (goOn_any W V tb _ _ _ (List.replicate n (none,.slice none 0 0)) [] false 0 (.slice none 0 0) [] HT0.out (Sk.nil _ _ _) (by simp) (by simp;omega) (fun x m s hs=>by rw [List.mem_replicate] at m;rw [m.2] at hs;cases hs)).mono ?_
  rintro e w1 ⟨rfl,qv1,xs1,hm1,hT1,_,_⟩
  rw [List.map_replicate] at hm1 hT1
  have e0:goP (List.replicate n none) [] false 0 []=((List.replicate n none).set 0 (some []),[0],false):=by
   unfold goP;rw [if_neg (by simp;omega)]
   have:(List.replicate n (none:Option (List Int))).getD (0:Int).toNat none=none:=by
    rw [List.getD_eq_getElem?_getD,List.getElem?_replicate];split <;> rfl
   rw [this];rfl
  rw [e0] at hm1 hT1
  have hR:=HR.out
  rw [e0] at hR
  have HR1:=hid hR
  have HM1:=hid hm1
  clear hR hm1 e0 HT0 HR
  go_wp2_with fail
  go_loopw [6] (fun iv wr=>∃ (k:Nat) (qv:Value) (ys:List (Option (List Int) × Value)) (q:List Int) (b:Bool),k<=n/\iv=.int .i64 (k:Int)/\TS W wr tb #[.slice ta p.types.length tc,.slice fa p.funcs.length fc,.int .i64 f.args,.slice la f.locals.length lc,.int .i64 f.result,.slice gk n cc] (.slice g n n) qv ys q b/\ys.length=n/\(b=false->QI (ys.map (·.1)) q)/\(∀ x ∈ ys,∀ l,x.1=some l->l.length<=8)/\fitL (aftC p.types p.funcs f) (wayC f) (n - k) k (ys.map (·.1),q,b)=RR) (fun iv _=>n - (intOf iv).toNat)
  case atStart =>
   refine ⟨0,qv1,xs1,[0],false,Nat.zero_le _,rfl,hT1,?_,fun _=>?_,?_,?_⟩
   ·have:=congrArg List.length HM1.out;simpa using this
   ·rw [HM1.out];exact QI.start (by omega)
   ·intro x m l hl
    have:x.1 ∈ xs1.map (·.1):=List.mem_map_of_mem m
    rw [HM1.out] at this
    rcases List.mem_or_eq_of_mem_set this with h | h
    ·rw [List.mem_replicate] at h;rw [h.2] at hl;cases hl
    ·rw [h] at hl;cases hl;simp
   ·rw [HM1.out];exact HR1.out
  case round =>
   obtain ⟨k,qv,ys,q,b,hkn,rfl,hT,hyl,hqi,hys,hfl⟩:=hrel
   have HFL:=hid hfl
   have HYL:=hid hyl
   have HQI:=hid hqi
   have HYS:=hid hys
   clear hfl hyl hqi hys HR1 HM1 hT1
   have f3:wr.cell? ⟨w.heap.size+1,3,none⟩=some (.slice gk n cc):=(hB1.chg hT.ch (fun e=>e)).cell 3
   obtain ⟨qa,qc,rfl⟩:=hT.q.slice
   have c7:wr.cell? ⟨tb,7,none⟩=some (.slice qa q.length qc):=hT.box.cell 7
   have c8:wr.cell? ⟨tb,8,none⟩=some (.bool b):=hT.box.cell 8
   by_cases hlt:k < n
   ·have hlt':(k:Int) < (n:Int):=by omega
    obtain ⟨s1,s2,s3⟩:=fitL_step hlt HFL.out
    cases b with
    | true =>
     have HE:Hid (RR=(ys.map (·.1),q,true)):=s1 rfl
     clear s1 s2 s3 HFL
     have c0:wr.cell? ⟨tb,0,none⟩=some (.slice ta p.types.length tc):=hT.box.cell 0
     have c1:wr.cell? ⟨tb,1,none⟩=some (.slice fa p.funcs.length fc):=hT.box.cell 1
     have c2:wr.cell? ⟨tb,2,none⟩=some (.int .i64 f.args):=hT.box.cell 2
     have c3:wr.cell? ⟨tb,3,none⟩=some (.slice la f.locals.length lc):=hT.box.cell 3
     have c4:wr.cell? ⟨tb,4,none⟩=some (.int .i64 f.result):=hT.box.cell 4
     have c5:wr.cell? ⟨tb,5,none⟩=some (.slice gk n cc):=hT.box.cell 5
     have c6:wr.cell? ⟨tb,6,none⟩=some (.slice g n n):=hT.box.cell 6
     have hRb:=hB2.chg hT.ch (fun e=>e)
     have r0:=hRb.cell 0
     have r1:=hRb.cell 1
     have r2:=hRb.cell 2
     have r3:=hRb.cell 3
     have r4:=hRb.cell 4
     have r5:=hRb.cell 5
     have r6:=hRb.cell 6
     have r7:=hRb.cell 7
     have r8:=hRb.cell 8
     have z0:=hRb.frozen 0
     have z1:=hRb.frozen 1
     have z2:=hRb.frozen 2
     have z3:=hRb.frozen 3
     have z4:=hRb.frozen 4
     have z5:=hRb.frozen 5
     have z6:=hRb.frozen 6
     have z7:=hRb.frozen 7
     have z8:=hRb.frozen 8
     clear hRb
     go_wp2
     obtain ⟨hS,hC,q0,q1,q2,q3,q4,q5,q6,q7,q8⟩:=fit_end hT kb hB2 hrb _ rfl
     generalize (((((((((wr.setCell ⟨rb,0,none⟩ (.slice ta p.types.length tc)).setCell ⟨rb,1,none⟩ (.slice fa p.funcs.length fc)).setCell ⟨rb,2,none⟩ f.args).setCell ⟨rb,3,none⟩ (.slice la f.locals.length lc)).setCell ⟨rb,4,none⟩ f.result).setCell ⟨rb,5,none⟩ (.slice gk n cc)).setCell ⟨rb,6,none⟩ (.slice g n n)).setCell ⟨rb,7,none⟩ (.slice qa q.length qc)).setCell ⟨rb,8,none⟩ (.bool true))=wf at *
     clear c0 c1 c2 c3 c4 c5 c6 r0 r1 r2 r3 r4 r5 r6 r7 r8 z0 z1 z2 z3 z4 z5 z6 z7 z8
     have hE:=HE.out
     subst hE
     exact bodyPost_ret (v:=.agg #[.slice ta p.types.length tc,.slice fa p.funcs.length fc,f.args,.slice la f.locals.length lc,f.result,.slice gk n cc,.slice g n n,.slice qa q.length qc,.bool true]) (by simp [results,Try.results31,go_sem,q0,q1,q2,q3,q4,q5,q6,q7,q8]) rfl ⟨_,_,_,_,rfl,hS,hC⟩
    | false =>
     by_cases hq:q.length<=k
     ·have HE:Hid (RR=(ys.map (·.1),q,false)):=s2 hq
      have hq':(q.length:Int)<=(k:Int):=by omega
      clear s1 s2 s3 HFL
      have c0:wr.cell? ⟨tb,0,none⟩=some (.slice ta p.types.length tc):=hT.box.cell 0
      have c1:wr.cell? ⟨tb,1,none⟩=some (.slice fa p.funcs.length fc):=hT.box.cell 1
      have c2:wr.cell? ⟨tb,2,none⟩=some (.int .i64 f.args):=hT.box.cell 2
      have c3:wr.cell? ⟨tb,3,none⟩=some (.slice la f.locals.length lc):=hT.box.cell 3
      have c4:wr.cell? ⟨tb,4,none⟩=some (.int .i64 f.result):=hT.box.cell 4
      have c5:wr.cell? ⟨tb,5,none⟩=some (.slice gk n cc):=hT.box.cell 5
      have c6:wr.cell? ⟨tb,6,none⟩=some (.slice g n n):=hT.box.cell 6
      have hRb:=hB2.chg hT.ch (fun e=>e)
      have r0:=hRb.cell 0
      have r1:=hRb.cell 1
      have r2:=hRb.cell 2
      have r3:=hRb.cell 3
      have r4:=hRb.cell 4
      have r5:=hRb.cell 5
      have r6:=hRb.cell 6
      have r7:=hRb.cell 7
      have r8:=hRb.cell 8
      have z0:=hRb.frozen 0
      have z1:=hRb.frozen 1
      have z2:=hRb.frozen 2
      have z3:=hRb.frozen 3
      have z4:=hRb.frozen 4
      have z5:=hRb.frozen 5
      have z6:=hRb.frozen 6
      have z7:=hRb.frozen 7
      have z8:=hRb.frozen 8
      clear hRb
      go_wp2
      obtain ⟨hS,hC,q0,q1,q2,q3,q4,q5,q6,q7,q8⟩:=fit_end hT kb hB2 hrb _ rfl
      generalize (((((((((wr.setCell ⟨rb,0,none⟩ (.slice ta p.types.length tc)).setCell ⟨rb,1,none⟩ (.slice fa p.funcs.length fc)).setCell ⟨rb,2,none⟩ f.args).setCell ⟨rb,3,none⟩ (.slice la f.locals.length lc)).setCell ⟨rb,4,none⟩ f.result).setCell ⟨rb,5,none⟩ (.slice gk n cc)).setCell ⟨rb,6,none⟩ (.slice g n n)).setCell ⟨rb,7,none⟩ (.slice qa q.length qc)).setCell ⟨rb,8,none⟩ (.bool false))=wf at *
      clear c0 c1 c2 c3 c4 c5 c6 r0 r1 r2 r3 r4 r5 r6 r7 r8 z0 z1 z2 z3 z4 z5 z6 z7 z8
      have hE:=HE.out
      subst hE
      exact bodyPost_ret (v:=.agg #[.slice ta p.types.length tc,.slice fa p.funcs.length fc,f.args,.slice la f.locals.length lc,f.result,.slice gk n cc,.slice g n n,.slice qa q.length qc,.bool false]) (by simp [results,Try.results31,go_sem,q0,q1,q2,q3,q4,q5,q6,q7,q8]) rfl ⟨_,_,_,_,rfl,hS,hC⟩
     ·have hkq:k < q.length:=by omega
      have hq':(k:Int) < (q.length:Int):=by omega
      have HST:Hid _:=s3 rfl hkq
      have hqi:=HQI.out rfl
      have hq9:q.length<=9000:=by have h1:cnt (ys.map (·.1))<=(ys.map (·.1)).length:=List.countP_le_length;have h2:=hqi.len;rw [List.length_map,HYL.out] at h1;omega
      obtain ⟨qg,qcap,hqv,_,_,_,hqc⟩:=hT.q.form (by omega)
      simp only [Value.slice.injEq] at hqv
      obtain ⟨rfl,_,rfl⟩:=hqv
      have y0:=hqc k hkq
      obtain ⟨x0,s,hs⟩:=hqi.has (q.getD k 0) (by rw [List.getD_eq_getElem?_getD,List.getElem?_eq_getElem hkq];exact List.getElem_mem hkq)
      generalize q.getD k 0=x at *
      obtain ⟨j,rfl⟩:∃ j:Nat,x=(j:Int):=⟨x.toNat,by omega⟩
      have hjl:j < ys.length:=by
       rcases Nat.lt_or_ge j ys.length with h | h
       ·exact h
       ·rw [Int.toNat_natCast,List.getElem?_eq_none (by simpa using h)] at hs;cases hs
      have hx:ys[j].1=some s:=by
       rw [Int.toNat_natCast,List.getElem?_map,List.getElem?_eq_getElem hjl] at hs
       simpa using hs
      have HX:=hid hx
      have HEQ:Hid (passA (aftC p.types p.funcs f) (wayC f) j (ys.map (·.1),q,false)=passP p.types p.funcs f j (f.code.getD j (0,0,0)) s (ys.map (·.1)) q false):=
       passA_passP _ _ _ _ _ _ _ (by rw [List.getD_eq_getElem?_getD,List.getElem?_map,List.getElem?_eq_getElem hjl];simpa using hx)
      have HIN:Hid _:=pass_inv (M:=8) (aft:=aftC p.types p.funcs f) (wy:=wayC f) HWY.out (fun i s t h=>aftC_le h) (show (ys.map (·.1)).length=n by rw [List.length_map];exact HYL.out) hqi (fun o m s' hs'=>by
       obtain ⟨x,hx1,hx2⟩:=List.mem_map.1 m
       exact HYS.out x hx1 s' (by rw [hx2];exact hs')) j
      clear s1 s2 s3 HFL hqc hqi hs hx
      go_wp2_with fail
      refine (HPA.out tb g wr _ ys q j s hjl hT HYL.out hq9 HYS.out HX.out).mono ?_
      rintro e w5 ⟨rfl,qv',zs,hzm,hT5⟩
      have hst:=HST.out
      have hin:=HIN.out
      rw [Int.toNat_natCast] at hst
      rw [HEQ.out] at hst hin
      generalize passP p.types p.funcs f j (f.code.getD j (0,0,0)) s (ys.map (·.1)) q false=R at *
      have H1:Hid _:=hst
      have H2:Hid _:=hin
      have H3:Hid _:=hzm
      clear hst hin hzm HEQ HIN HST HX y0 c7 c8 f3 hT
      go_wp2
      refine ⟨⟨k+1,qv',zs,R.2.1,R.2.2,by omega,rfl,hT5,?_,fun hb=>?_,fun x m l hl=>?_,?_⟩,by simp [intOf];omega⟩
      ·have h1:=H2.out.1;have h3:=congrArg List.length H3.out;rw [List.length_map] at h3;omega
      ·rw [H3.out];exact H2.out.2.2 hb
      ·exact H2.out.2.1 x.1 (by rw [<-H3.out];exact List.mem_map_of_mem m) l hl
      ·rw [H3.out];exact H1.out
   ·have hkk:k=n:=by omega
    have HE:Hid (RR=(ys.map (·.1),q,b)):=by have h:=HFL.out;rw [hkk,Nat.sub_self] at h;exact h.symm
    have hlt':(n:Int)<=(k:Int):=by omega
    clear HFL hkk
    have c0:wr.cell? ⟨tb,0,none⟩=some (.slice ta p.types.length tc):=hT.box.cell 0
    have c1:wr.cell? ⟨tb,1,none⟩=some (.slice fa p.funcs.length fc):=hT.box.cell 1
    have c2:wr.cell? ⟨tb,2,none⟩=some (.int .i64 f.args):=hT.box.cell 2
    have c3:wr.cell? ⟨tb,3,none⟩=some (.slice la f.locals.length lc):=hT.box.cell 3
    have c4:wr.cell? ⟨tb,4,none⟩=some (.int .i64 f.result):=hT.box.cell 4
    have c5:wr.cell? ⟨tb,5,none⟩=some (.slice gk n cc):=hT.box.cell 5
    have c6:wr.cell? ⟨tb,6,none⟩=some (.slice g n n):=hT.box.cell 6
    have hRb:=hB2.chg hT.ch (fun e=>e)
    have r0:=hRb.cell 0
    have r1:=hRb.cell 1
    have r2:=hRb.cell 2
    have r3:=hRb.cell 3
    have r4:=hRb.cell 4
    have r5:=hRb.cell 5
    have r6:=hRb.cell 6
    have r7:=hRb.cell 7
    have r8:=hRb.cell 8
    have z0:=hRb.frozen 0
    have z1:=hRb.frozen 1
    have z2:=hRb.frozen 2
    have z3:=hRb.frozen 3
    have z4:=hRb.frozen 4
    have z5:=hRb.frozen 5
    have z6:=hRb.frozen 6
    have z7:=hRb.frozen 7
    have z8:=hRb.frozen 8
    clear hRb
    go_wp2
    obtain ⟨hS,hC,q0,q1,q2,q3,q4,q5,q6,q7,q8⟩:=fit_end hT kb hB2 hrb _ rfl
    generalize (((((((((wr.setCell ⟨rb,0,none⟩ (.slice ta p.types.length tc)).setCell ⟨rb,1,none⟩ (.slice fa p.funcs.length fc)).setCell ⟨rb,2,none⟩ f.args).setCell ⟨rb,3,none⟩ (.slice la f.locals.length lc)).setCell ⟨rb,4,none⟩ f.result).setCell ⟨rb,5,none⟩ (.slice gk n cc)).setCell ⟨rb,6,none⟩ (.slice g n n)).setCell ⟨rb,7,none⟩ (.slice qa q.length qc)).setCell ⟨rb,8,none⟩ (.bool b))=wf at *
    clear c0 c1 c2 c3 c4 c5 c6 r0 r1 r2 r3 r4 r5 r6 r7 r8 z0 z1 z2 z3 z4 z5 z6 z7 z8
    have hE:=HE.out
    subst hE
    exact bodyPost_ret (v:=.agg #[.slice ta p.types.length tc,.slice fa p.funcs.length fc,f.args,.slice la f.locals.length lc,f.result,.slice gk n cc,.slice g n n,.slice qa q.length qc,.bool b]) (by simp [results,Try.results31,go_sem,q0,q1,q2,q3,q4,q5,q6,q7,q8]) rfl ⟨_,_,_,_,rfl,hS,hC⟩
 ·generalize (((w.alloc (Obj.cells #[.slice ta p.types.length tc,.slice fa p.funcs.length fc] 56)).alloc (Obj.cells #[f.args,.slice la f.locals.length lc,f.result,.slice gk n cc] 78)).alloc (Obj.cells #[(),(),oO,(),oO,(),(),(),.bool false] 81))=W at *
  have kV:Chg () W ((W.alloc (Obj.cells #[.slice ta p.types.length tc,.slice fa p.funcs.length fc,f.args,.slice la f.locals.length lc,f.result,.slice gk n cc,.slice (some ⟨(w.heap.size+1+1+1+1),0,none⟩) n n,(),.bool false] 81)).alloc (Obj.cells (madeCells #[.bool false,()] (n * 2)) 125)).drew:=(((Chg.refl _ W).alloc _).alloc _).drew
  have bg:Blk ((W.alloc (Obj.cells #[.slice ta p.types.length tc,.slice fa p.funcs.length fc,f.args,.slice la f.locals.length lc,f.result,.slice gk n cc,.slice (some ⟨(w.heap.size+1+1+1+1),0,none⟩) n n,(),.bool false] 81)).alloc (Obj.cells (madeCells #[.bool false,()] (n * 2)) 125)).drew (w.heap.size+1+1+1+1) (madeCells #[.bool false,()] (n * 2)) 125:=(Blk.new' (w:=W.alloc (Obj.cells #[.slice ta p.types.length tc,.slice fa p.funcs.length fc,f.args,.slice la f.locals.length lc,f.result,.slice gk n cc,.slice (some ⟨(w.heap.size+1+1+1+1),0,none⟩) n n,(),.bool false] 81)) (by simp [hsz]) _ 125).drew
  have bt:Blk ((W.alloc (Obj.cells #[.slice ta p.types.length tc,.slice fa p.funcs.length fc,f.args,.slice la f.locals.length lc,f.result,.slice gk n cc,.slice (some ⟨(w.heap.size+1+1+1+1),0,none⟩) n n,(),.bool false] 81)).alloc (Obj.cells (madeCells #[.bool false,()] (n * 2)) 125)).drew (w.heap.size+1+1+1) #[.slice ta p.types.length tc,.slice fa p.funcs.length fc,f.args,.slice la f.locals.length lc,f.result,.slice gk n cc,.slice (some ⟨(w.heap.size+1+1+1+1),0,none⟩) n n,(),.bool false] 81:=((Blk.new' (w:=W) hsz _ 81).alloc (Obj.cells (madeCells #[.bool false,()] (n * 2)) 125)).drew
  have hT0:=TS.start (w0:=W) (by unfold maxLen;omega) kV bg bt (by omega) (by omega)
  have HT0:Hid _:=hT0
  have hlg:W.heap.size<=(w.heap.size+1+1+1):=by omega
  clear bg bt hT0 kV hmk
  generalize ((W.alloc (Obj.cells #[.slice ta p.types.length tc,.slice fa p.funcs.length fc,f.args,.slice la f.locals.length lc,f.result,.slice gk n cc,.slice (some ⟨(w.heap.size+1+1+1+1),0,none⟩) n n,(),.bool false] 81)).alloc (Obj.cells (madeCells #[.bool false,()] (n * 2)) 125)).drew=V at *
  generalize w.heap.size+1+1+1+1=g at *
  generalize w.heap.size+1+1+1=tb at *
  generalize hrbe:w.heap.size+1+1=rb at *
  have hrb:w.heap.size<=rb:=by omega
  have hrl:rb < W.heap.size:=hB2.lt
  have hne:tb ≠ rb:=by omega
  have hne':rb ≠ tb:=by omega
  clear hrbe
  go_wp2_with fail
  refine (goOn_any W V tb _ _ _ (List.replicate n (none,.slice none 0 0)) [] false 0 (.slice none 0 0) [] HT0.out (Sk.nil _ _ _) (by simp) (by simp;omega) (fun x m s hs=>by rw [List.mem_replicate] at m;rw [m.2] at hs;cases hs)).mono ?_
  rintro e w1 ⟨rfl,qv1,xs1,hm1,hT1,_,_⟩
  rw [List.map_replicate] at hm1 hT1
  have e0:goP (List.replicate n none) [] false 0 []=((List.replicate n none).set 0 (some []),[0],false):=by
   unfold goP;rw [if_neg (by simp;omega)]
   have:(List.replicate n (none:Option (List Int))).getD (0:Int).toNat none=none:=by
    rw [List.getD_eq_getElem?_getD,List.getElem?_replicate];split <;> rfl
   rw [this];rfl
  rw [e0] at hm1 hT1
  have hR:=HR.out
  rw [e0] at hR
  have HR1:=hid hR
  have HM1:=hid hm1
  clear hR hm1 e0 HT0 HR
  go_wp2_with fail
  go_loopw [6] (fun iv wr=>∃ (k:Nat) (qv:Value) (ys:List (Option (List Int) × Value)) (q:List Int) (b:Bool),k<=n/\iv=.int .i64 (k:Int)/\TS W wr tb #[.slice ta p.types.length tc,.slice fa p.funcs.length fc,.int .i64 f.args,.slice la f.locals.length lc,.int .i64 f.result,.slice gk n cc] (.slice g n n) qv ys q b/\ys.length=n/\(b=false->QI (ys.map (·.1)) q)/\(∀ x ∈ ys,∀ l,x.1=some l->l.length<=8)/\fitL (aftC p.types p.funcs f) (wayC f) (n - k) k (ys.map (·.1),q,b)=RR) (fun iv _=>n - (intOf iv).toNat)
  case atStart =>
   refine ⟨0,qv1,xs1,[0],false,Nat.zero_le _,rfl,hT1,?_,fun _=>?_,?_,?_⟩
   ·have:=congrArg List.length HM1.out;simpa using this
   ·rw [HM1.out];exact QI.start (by omega)
   ·intro x m l hl
    have:x.1 ∈ xs1.map (·.1):=List.mem_map_of_mem m
    rw [HM1.out] at this
    rcases List.mem_or_eq_of_mem_set this with h | h
    ·rw [List.mem_replicate] at h;rw [h.2] at hl;cases hl
    ·rw [h] at hl;cases hl;simp
   ·rw [HM1.out];exact HR1.out
  case round =>
   obtain ⟨k,qv,ys,q,b,hkn,rfl,hT,hyl,hqi,hys,hfl⟩:=hrel
   have HFL:=hid hfl
   have HYL:=hid hyl
   have HQI:=hid hqi
   have HYS:=hid hys
   clear hfl hyl hqi hys HR1 HM1 hT1
   have f3:wr.cell? ⟨w.heap.size+1,3,none⟩=some (.slice gk n cc):=(hB1.chg hT.ch (fun e=>e)).cell 3
   obtain ⟨qa,qc,rfl⟩:=hT.q.slice
   have c7:wr.cell? ⟨tb,7,none⟩=some (.slice qa q.length qc):=hT.box.cell 7
   have c8:wr.cell? ⟨tb,8,none⟩=some (.bool b):=hT.box.cell 8
   by_cases hlt:k < n
   ·have hlt':(k:Int) < (n:Int):=by omega
    obtain ⟨s1,s2,s3⟩:=fitL_step hlt HFL.out
    cases b with
    | true =>
     have HE:Hid (RR=(ys.map (·.1),q,true)):=s1 rfl
     clear s1 s2 s3 HFL
     have c0:wr.cell? ⟨tb,0,none⟩=some (.slice ta p.types.length tc):=hT.box.cell 0
     have c1:wr.cell? ⟨tb,1,none⟩=some (.slice fa p.funcs.length fc):=hT.box.cell 1
     have c2:wr.cell? ⟨tb,2,none⟩=some (.int .i64 f.args):=hT.box.cell 2
     have c3:wr.cell? ⟨tb,3,none⟩=some (.slice la f.locals.length lc):=hT.box.cell 3
     have c4:wr.cell? ⟨tb,4,none⟩=some (.int .i64 f.result):=hT.box.cell 4
     have c5:wr.cell? ⟨tb,5,none⟩=some (.slice gk n cc):=hT.box.cell 5
     have c6:wr.cell? ⟨tb,6,none⟩=some (.slice g n n):=hT.box.cell 6
     have hRb:=hB2.chg hT.ch (fun e=>e)
     have r0:=hRb.cell 0
     have r1:=hRb.cell 1
     have r2:=hRb.cell 2
     have r3:=hRb.cell 3
     have r4:=hRb.cell 4
     have r5:=hRb.cell 5
     have r6:=hRb.cell 6
     have r7:=hRb.cell 7
     have r8:=hRb.cell 8
     have z0:=hRb.frozen 0
     have z1:=hRb.frozen 1
     have z2:=hRb.frozen 2
     have z3:=hRb.frozen 3
     have z4:=hRb.frozen 4
     have z5:=hRb.frozen 5
     have z6:=hRb.frozen 6
     have z7:=hRb.frozen 7
     have z8:=hRb.frozen 8
     clear hRb
     go_wp2
     obtain ⟨hS,hC,q0,q1,q2,q3,q4,q5,q6,q7,q8⟩:=fit_end hT kb hB2 hrb _ rfl
     generalize (((((((((wr.setCell ⟨rb,0,none⟩ (.slice ta p.types.length tc)).setCell ⟨rb,1,none⟩ (.slice fa p.funcs.length fc)).setCell ⟨rb,2,none⟩ f.args).setCell ⟨rb,3,none⟩ (.slice la f.locals.length lc)).setCell ⟨rb,4,none⟩ f.result).setCell ⟨rb,5,none⟩ (.slice gk n cc)).setCell ⟨rb,6,none⟩ (.slice g n n)).setCell ⟨rb,7,none⟩ (.slice qa q.length qc)).setCell ⟨rb,8,none⟩ (.bool true))=wf at *
     clear c0 c1 c2 c3 c4 c5 c6 r0 r1 r2 r3 r4 r5 r6 r7 r8 z0 z1 z2 z3 z4 z5 z6 z7 z8
     have hE:=HE.out
     subst hE
     exact bodyPost_ret (v:=.agg #[.slice ta p.types.length tc,.slice fa p.funcs.length fc,f.args,.slice la f.locals.length lc,f.result,.slice gk n cc,.slice g n n,.slice qa q.length qc,.bool true]) (by simp [results,Try.results31,go_sem,q0,q1,q2,q3,q4,q5,q6,q7,q8]) rfl ⟨_,_,_,_,rfl,hS,hC⟩
    | false =>
     by_cases hq:q.length<=k
     ·have HE:Hid (RR=(ys.map (·.1),q,false)):=s2 hq
      have hq':(q.length:Int)<=(k:Int):=by omega
      clear s1 s2 s3 HFL
      have c0:wr.cell? ⟨tb,0,none⟩=some (.slice ta p.types.length tc):=hT.box.cell 0
      have c1:wr.cell? ⟨tb,1,none⟩=some (.slice fa p.funcs.length fc):=hT.box.cell 1
      have c2:wr.cell? ⟨tb,2,none⟩=some (.int .i64 f.args):=hT.box.cell 2
      have c3:wr.cell? ⟨tb,3,none⟩=some (.slice la f.locals.length lc):=hT.box.cell 3
      have c4:wr.cell? ⟨tb,4,none⟩=some (.int .i64 f.result):=hT.box.cell 4
      have c5:wr.cell? ⟨tb,5,none⟩=some (.slice gk n cc):=hT.box.cell 5
      have c6:wr.cell? ⟨tb,6,none⟩=some (.slice g n n):=hT.box.cell 6
      have hRb:=hB2.chg hT.ch (fun e=>e)
      have r0:=hRb.cell 0
      have r1:=hRb.cell 1
      have r2:=hRb.cell 2
      have r3:=hRb.cell 3
      have r4:=hRb.cell 4
      have r5:=hRb.cell 5
      have r6:=hRb.cell 6
      have r7:=hRb.cell 7
      have r8:=hRb.cell 8
      have z0:=hRb.frozen 0
      have z1:=hRb.frozen 1
      have z2:=hRb.frozen 2
      have z3:=hRb.frozen 3
      have z4:=hRb.frozen 4
      have z5:=hRb.frozen 5
      have z6:=hRb.frozen 6
      have z7:=hRb.frozen 7
      have z8:=hRb.frozen 8
      clear hRb
      go_wp2
      obtain ⟨hS,hC,q0,q1,q2,q3,q4,q5,q6,q7,q8⟩:=fit_end hT kb hB2 hrb _ rfl
      generalize (((((((((wr.setCell ⟨rb,0,none⟩ (.slice ta p.types.length tc)).setCell ⟨rb,1,none⟩ (.slice fa p.funcs.length fc)).setCell ⟨rb,2,none⟩ f.args).setCell ⟨rb,3,none⟩ (.slice la f.locals.length lc)).setCell ⟨rb,4,none⟩ f.result).setCell ⟨rb,5,none⟩ (.slice gk n cc)).setCell ⟨rb,6,none⟩ (.slice g n n)).setCell ⟨rb,7,none⟩ (.slice qa q.length qc)).setCell ⟨rb,8,none⟩ (.bool false))=wf at *
      clear c0 c1 c2 c3 c4 c5 c6 r0 r1 r2 r3 r4 r5 r6 r7 r8 z0 z1 z2 z3 z4 z5 z6 z7 z8
      have hE:=HE.out
      subst hE
      exact bodyPost_ret (v:=.agg #[.slice ta p.types.length tc,.slice fa p.funcs.length fc,f.args,.slice la f.locals.length lc,f.result,.slice gk n cc,.slice g n n,.slice qa q.length qc,.bool false]) (by simp [results,Try.results31,go_sem,q0,q1,q2,q3,q4,q5,q6,q7,q8]) rfl ⟨_,_,_,_,rfl,hS,hC⟩
     ·have hkq:k < q.length:=by omega
      have hq':(k:Int) < (q.length:Int):=by omega
      have HST:Hid _:=s3 rfl hkq
      have hqi:=HQI.out rfl
      have hq9:q.length<=9000:=by have h1:cnt (ys.map (·.1))<=(ys.map (·.1)).length:=List.countP_le_length;have h2:=hqi.len;rw [List.length_map,HYL.out] at h1;omega
      obtain ⟨qg,qcap,hqv,_,_,_,hqc⟩:=hT.q.form (by omega)
      simp only [Value.slice.injEq] at hqv
      obtain ⟨rfl,_,rfl⟩:=hqv
      have y0:=hqc k hkq
      obtain ⟨x0,s,hs⟩:=hqi.has (q.getD k 0) (by rw [List.getD_eq_getElem?_getD,List.getElem?_eq_getElem hkq];exact List.getElem_mem hkq)
      generalize q.getD k 0=x at *
      obtain ⟨j,rfl⟩:∃ j:Nat,x=(j:Int):=⟨x.toNat,by omega⟩
      have hjl:j < ys.length:=by
       rcases Nat.lt_or_ge j ys.length with h | h
       ·exact h
       ·rw [Int.toNat_natCast,List.getElem?_eq_none (by simpa using h)] at hs;cases hs
      have hx:ys[j].1=some s:=by
       rw [Int.toNat_natCast,List.getElem?_map,List.getElem?_eq_getElem hjl] at hs
       simpa using hs
      have HX:=hid hx
      have HEQ:Hid (passA (aftC p.types p.funcs f) (wayC f) j (ys.map (·.1),q,false)=passP p.types p.funcs f j (f.code.getD j (0,0,0)) s (ys.map (·.1)) q false):=
       passA_passP _ _ _ _ _ _ _ (by rw [List.getD_eq_getElem?_getD,List.getElem?_map,List.getElem?_eq_getElem hjl];simpa using hx)
      have HIN:Hid _:=pass_inv (M:=8) (aft:=aftC p.types p.funcs f) (wy:=wayC f) HWY.out (fun i s t h=>aftC_le h) (show (ys.map (·.1)).length=n by rw [List.length_map];exact HYL.out) hqi (fun o m s' hs'=>by
       obtain ⟨x,hx1,hx2⟩:=List.mem_map.1 m
       exact HYS.out x hx1 s' (by rw [hx2];exact hs')) j
      clear s1 s2 s3 HFL hqc hqi hs hx
      go_wp2_with fail
      refine (HPA.out tb g wr _ ys q j s hjl hT HYL.out hq9 HYS.out HX.out).mono ?_
      rintro e w5 ⟨rfl,qv',zs,hzm,hT5⟩
      have hst:=HST.out
      have hin:=HIN.out
      rw [Int.toNat_natCast] at hst
      rw [HEQ.out] at hst hin
      generalize passP p.types p.funcs f j (f.code.getD j (0,0,0)) s (ys.map (·.1)) q false=R at *
      have H1:Hid _:=hst
      have H2:Hid _:=hin
      have H3:Hid _:=hzm
      clear hst hin hzm HEQ HIN HST HX y0 c7 c8 f3 hT
      go_wp2
      refine ⟨⟨k+1,qv',zs,R.2.1,R.2.2,by omega,rfl,hT5,?_,fun hb=>?_,fun x m l hl=>?_,?_⟩,by simp [intOf];omega⟩
      ·have h1:=H2.out.1;have h3:=congrArg List.length H3.out;rw [List.length_map] at h3;omega
      ·rw [H3.out];exact H2.out.2.2 hb
      ·exact H2.out.2.1 x.1 (by rw [<-H3.out];exact List.mem_map_of_mem m) l hl
      ·rw [H3.out];exact H1.out
   ·have hkk:k=n:=by omega
    have HE:Hid (RR=(ys.map (·.1),q,b)):=by have h:=HFL.out;rw [hkk,Nat.sub_self] at h;exact h.symm
    have hlt':(n:Int)<=(k:Int):=by omega
    clear HFL hkk
    have c0:wr.cell? ⟨tb,0,none⟩=some (.slice ta p.types.length tc):=hT.box.cell 0
    have c1:wr.cell? ⟨tb,1,none⟩=some (.slice fa p.funcs.length fc):=hT.box.cell 1
    have c2:wr.cell? ⟨tb,2,none⟩=some (.int .i64 f.args):=hT.box.cell 2
    have c3:wr.cell? ⟨tb,3,none⟩=some (.slice la f.locals.length lc):=hT.box.cell 3
    have c4:wr.cell? ⟨tb,4,none⟩=some (.int .i64 f.result):=hT.box.cell 4
    have c5:wr.cell? ⟨tb,5,none⟩=some (.slice gk n cc):=hT.box.cell 5
    have c6:wr.cell? ⟨tb,6,none⟩=some (.slice g n n):=hT.box.cell 6
    have hRb:=hB2.chg hT.ch (fun e=>e)
    have r0:=hRb.cell 0
    have r1:=hRb.cell 1
    have r2:=hRb.cell 2
    have r3:=hRb.cell 3
    have r4:=hRb.cell 4
    have r5:=hRb.cell 5
    have r6:=hRb.cell 6
    have r7:=hRb.cell 7
    have r8:=hRb.cell 8
    have z0:=hRb.frozen 0
    have z1:=hRb.frozen 1
    have z2:=hRb.frozen 2
    have z3:=hRb.frozen 3
    have z4:=hRb.frozen 4
    have z5:=hRb.frozen 5
    have z6:=hRb.frozen 6
    have z7:=hRb.frozen 7
    have z8:=hRb.frozen 8
    clear hRb
    go_wp2
    obtain ⟨hS,hC,q0,q1,q2,q3,q4,q5,q6,q7,q8⟩:=fit_end hT kb hB2 hrb _ rfl
    generalize (((((((((wr.setCell ⟨rb,0,none⟩ (.slice ta p.types.length tc)).setCell ⟨rb,1,none⟩ (.slice fa p.funcs.length fc)).setCell ⟨rb,2,none⟩ f.args).setCell ⟨rb,3,none⟩ (.slice la f.locals.length lc)).setCell ⟨rb,4,none⟩ f.result).setCell ⟨rb,5,none⟩ (.slice gk n cc)).setCell ⟨rb,6,none⟩ (.slice g n n)).setCell ⟨rb,7,none⟩ (.slice qa q.length qc)).setCell ⟨rb,8,none⟩ (.bool b))=wf at *
    clear c0 c1 c2 c3 c4 c5 c6 r0 r1 r2 r3 r4 r5 r6 r7 r8 z0 z1 z2 z3 z4 z5 z6 z7 z8
    have hE:=HE.out
    subst hE
    exact bodyPost_ret (v:=.agg #[.slice ta p.types.length tc,.slice fa p.funcs.length fc,f.args,.slice la f.locals.length lc,f.result,.slice gk n cc,.slice g n n,.slice qa q.length qc,.bool b]) (by simp [results,Try.results31,go_sem,q0,q1,q2,q3,q4,q5,q6,q7,q8]) rfl ⟨_,_,_,_,rfl,hS,hC⟩
end Go.Proofs.Ytnfnbcbadakofab
