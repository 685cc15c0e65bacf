import Derived.Test.YtnfnbcbadakofaaOrd
namespace Go.Proofs.Ytnfnbcbadakofaa
open Go.RowKit
structure QS (w wk:World) (pc qc:Array Value):Prop where
 pb:Blk wk w.heap.size pc 35
 ob:Blk wk (w.heap.size+1) #[(),()] 28
 qb:Blk wk (w.heap.size+2) qc 28
 ch:Chg () w wk
section
variable {w wk wk':World} {pc qc:Array Value}
theorem QS.new (h:QS w wk pc qc) (k:Chg () wk wk'):QS w wk' pc qc:=
 ⟨h.pb.chg k (fun e=>e),h.ob.chg k (fun e=>e),h.qb.chg k (fun e=>e),h.ch.trans k⟩
theorem QS.setQ (h:QS w wk pc qc) (i:Nat) (v:Value):QS w (wk.setCell ⟨w.heap.size+2,i,none⟩ v) pc (qc.setIfInBounds i v):=
 ⟨h.pb.setOther _ _ (by simp),h.ob.setOther _ _ (by simp),h.qb.set i v,h.ch.setCell _ _ (.inr (by simp))⟩
theorem QS.grow {eF:TypeId} {size:Nat} {cv:Value} {n:Nat} {xs:List Value} (h:QS w wk pc qc) (h1:35 ≠ eF) (h3:28 ≠ eF)
 (hcv:wk.ownsRow w.heap.size eF size cv n xs) (k:Chg (fun k=>some k=cv.ownBlock) wk wk'):QS w wk' pc qc:=by
 have ne:∀ g cs e,Blk wk g cs e->e ≠ eF->¬ some g=cv.ownBlock:=fun g cs e hb he hg=>by
  obtain ⟨cs',hb'⟩:=own_blk hcv hg.symm
  exact hb.ne hb' he rfl
 exact ⟨h.pb.chg k (ne _ _ _ h.pb h1),h.ob.chg k (ne _ _ _ h.ob h3),h.qb.chg k (ne _ _ _ h.qb h3),
  h.ch.trans' k (fun i hi e=>by have:=(hcv.lt i e.symm).1;omega)⟩
end
def TypesW (w:World) (base b1:Nat) (v:Value) (ls:List (List Int)):Prop:=
 ∃ vs:List Value,w.ownsRow base 47 1 v ls.length vs/\∀ j u,vs[j]?=some u->IntsV w b1 u (ls.getD j [])
theorem TypesW.chg {S:Nat->Prop} {w w':World} {base b1:Nat} {v:Value} {ls:List (List Int)} (h:TypesW w base b1 v ls) (k:Chg S w w') (h3:∀ g cs,Blk w g cs 3->¬ S g) (h47:∀ g cs,Blk w g cs 47->¬ S g):TypesW w' base b1 v ls:=by
 obtain ⟨vs,h,hk⟩:=h
 exact ⟨vs,own_chg h k (fun g hg=>by obtain ⟨cs,hb⟩:=own_blk h hg;exact h47 g cs hb),fun j u hj=>(hk j u hj).chg k h3⟩
theorem TypesW.toV {w:World} {base b1:Nat} {v:Value} {ls:List (List Int)} (h:TypesW w base b1 v ls) (hb:b1<=base):TypesV w b1 v ls:=by
 obtain ⟨vs,h,hk⟩:=h
 exact ⟨vs,own_mono h hb,hk⟩
theorem TypesW.snoc {w w':World} {base b1 n:Nat} {v v':Value} {vs:List Value} {ls:List (List Int)} {u:Value} {l:List Int} (hv:w.ownsRow base 47 1 v ls.length vs) (hk:∀ j x,vs[j]?=some x->IntsV w b1 x (ls.getD j []))
 (hn:n=ls.length+1) (hown:w'.ownsRow base 47 1 v' n (vs++[u])) (k:Chg (fun j=>some j=v.ownBlock) w w') (hu:IntsV w b1 u l):TypesW w' base b1 v' (ls++[l]):=by
 have ne:∀ g cs,Blk w g cs 3->¬ some g=v.ownBlock:=fun g cs hb hg=>by
  obtain ⟨cs',hb'⟩:=own_blk hv hg.symm
  exact hb.ne hb' (by decide) rfl
 have hlen:vs.length=ls.length:=by have:=hv.1;omega
 subst hn
 refine ⟨vs++[u],by simpa using hown,fun j x hj=>?_⟩
 rw [List.getElem?_append] at hj
 split at hj
 ·rename_i hlt
  have:=(hk j x hj).chg k ne
  rw [List.getD_eq_getElem?_getD,List.getElem?_append_left (by omega),<-List.getD_eq_getElem?_getD]
  exact this
 ·rename_i hlt
  have hj0:j=ls.length:=by
   rcases Nat.lt_or_ge (j - vs.length) 1 with h | h
   ·omega
   ·rw [List.getElem?_eq_none (by simpa using h)] at hj;cases hj
  subst hj0
  rw [hlen,Nat.sub_self] at hj
  simp at hj
  subst hj
  rw [List.getD_eq_getElem?_getD,List.getElem?_append_right (Nat.le_refl _)]
  simpa using hu.chg k ne
theorem TypesW.set {w:World} {base b1:Nat} {v:Value} {ls:List (List Int)} (h:TypesW w base b1 v ls) {b:Nat} {cs:Array Value} {e:TypeId} (hb:Blk w b cs e) (he:3 ≠ e) (he':47 ≠ e) (i:Nat) (u:Value):TypesW (w.setCell ⟨b,i,none⟩ u) base b1 v ls:=by
 obtain ⟨vs,h,hk⟩:=h
 exact ⟨vs,own_set h _ _ (own_ne h hb he'),fun j x hj=>IntsV.set (hk j x hj) hb he i u⟩
def FuncsW (w:World) (base b1:Nat) (v:Value) (fs:List Fn):Prop:=
 ∃ xs:List (Fn × Value × Value),xs.map (·.1)=fs/\w.ownsRow base 92 4 v xs.length (fnC xs)/\∀ x,x ∈ xs->IntsV w b1 x.2.1 x.1.locals/\InsV 99 w b1 x.2.2 x.1.code
theorem FuncsW.chg {S:Nat->Prop} {w w':World} {base b1:Nat} {v:Value} {fs:List Fn} (h:FuncsW w base b1 v fs) (k:Chg S w w') (h3:∀ g cs,Blk w g cs 3->¬ S g) (hI:∀ g cs,Blk w g cs 99->¬ S g) (hF:∀ g cs,Blk w g cs 92->¬ S g) :
 FuncsW w' base b1 v fs:=by
 obtain ⟨xs,h0,h,hx⟩:=h
 exact ⟨xs,h0,own_chg h k (fun g hg=>by obtain ⟨cs,hb⟩:=own_blk h hg;exact hF g cs hb),fun x m=>⟨(hx x m).1.chg k h3,(hx x m).2.chg k hI⟩⟩
theorem FuncsW.toV {w:World} {base b1:Nat} {v:Value} {fs:List Fn} (h:FuncsW w base b1 v fs) (hb:b1<=base):FuncsV 92 99 w b1 v fs:=by
 obtain ⟨xs,h0,h,hx⟩:=h
 exact ⟨xs,h0,own_mono h hb,hx⟩
theorem FuncsW.nil (w:World) (base b1:Nat):FuncsW w base b1 (.slice none 0 0) []:=⟨[],rfl,World.ownsRow_nil _ _ _ _,fun x m=>by cases m⟩
theorem FuncsW.slice {w:World} {base b1:Nat} {v:Value} {fs:List Fn} (h:FuncsW w base b1 v fs):∃ a cap,v=.slice a fs.length cap:=by
 obtain ⟨xs,h0,h,_⟩:=h
 have hl:xs.length=fs.length:=by rw [<-h0];simp
 rw [hl] at h
 rcases h.2 with ⟨h1,h2⟩ | ⟨g,cap,cur,rfl,_⟩
 ·exact ⟨none,0,by rw [h1,h2]⟩
 ·exact ⟨_,_,rfl⟩
theorem FuncsW.snoc {w w':World} {base b1 n:Nat} {v v':Value} {xs:List (Fn × Value × Value)} {f:Fn} {lv cv:Value} (hv:w.ownsRow base 92 4 v xs.length (fnC xs))
 (hk:∀ x,x ∈ xs->IntsV w b1 x.2.1 x.1.locals/\InsV 99 w b1 x.2.2 x.1.code)
 (hn:n=xs.length+1) (hown:w'.ownsRow base 92 4 v' n (fnC xs++[.int .i64 f.args,lv,.int .i64 f.result,cv])) (k:Chg (fun j=>some j=v.ownBlock) w w') (hl:IntsV w b1 lv f.locals) (hc:InsV 99 w b1 cv f.code) :
 FuncsW w' base b1 v' (xs.map (·.1)++[f]):=by
 have ne:∀ e,e ≠ 92->∀ g cs,Blk w g cs e->¬ some g=v.ownBlock:=fun e he g cs hb hg=>by
  obtain ⟨cs',hb'⟩:=own_blk hv hg.symm
  exact hb.ne hb' he rfl
 subst hn
 refine ⟨xs++[(f,lv,cv)],by simp,by rw [fnC_snoc];simpa using hown,fun x m=>?_⟩
 rw [List.mem_append] at m
 rcases m with m | m
 ·exact ⟨(hk x m).1.chg k (ne 3 (by decide)),(hk x m).2.chg k (ne 99 (by decide))⟩
 ·simp at m;subst m
  exact ⟨hl.chg k (ne 3 (by decide)),hc.chg k (ne 99 (by decide))⟩
theorem FuncsW.setNew {w:World} {base b1:Nat} {v:Value} {fs:List Fn} (h:FuncsW w base b1 v fs) {b:Nat} {cs:Array Value} {e:TypeId} (hb:Blk w b cs e) (he:3 ≠ e) (he'':99 ≠ e) (hv:v.ownBlock ≠ some b) (i:Nat) (u:Value):FuncsW (w.setCell ⟨b,i,none⟩ u) base b1 v fs:=by
 obtain ⟨xs,h0,h,hx⟩:=h
 exact ⟨xs,h0,own_set h _ _ hv,fun x m=>⟨own_set (hx x m).1 _ _ (own_ne (hx x m).1 hb he),own_set (hx x m).2 _ _ (own_ne (hx x m).2 hb he'')⟩⟩
theorem keep_cell {w:World} {a:Addr} {v:Value} {o:Obj} (h:w.cell? a=some v):(w.alloc o).drew.cell? a=some v:=
 (World.cell?_of_block (w:=w) (Below.heap_alloc _ _ _ (World.block_lt_of_cell? w a h))).trans h
theorem FuncsW.set {w:World} {base b1:Nat} {v:Value} {fs:List Fn} (h:FuncsW w base b1 v fs) {b:Nat} {cs:Array Value} {e:TypeId} (hb:Blk w b cs e) (he:3 ≠ e) (he':92 ≠ e) (he'':99 ≠ e) (i:Nat) (u:Value):FuncsW (w.setCell ⟨b,i,none⟩ u) base b1 v fs:=by
 have h':=h
 obtain ⟨xs,h0,h1,hx⟩:=h'
 exact h.setNew hb he he'' (own_ne h1 hb he') i u
set_option linter.unusedSimpArgs false in
set_option maxHeartbeats 4000000 in
set_option maxRecDepth 100000 in
theorem given_core (tv fv:Value) (b1:Nat) (p:Pg) (w:World) (hb1:b1<=w.heap.size) (ht:p.types.length<=10000) (hf:p.funcs.length<=10000) (hfs:∀ j (hj:j < p.funcs.length),p.funcs[j].locals.length<=10000/\p.funcs[j].code.length<=10000)
 (h1:TypesV w b1 tv p.types) (i1:FuncsV 96 98 w b1 fv p.funcs) :
 Calls Try.prog 19 #[.agg #[tv,fv]] w fun e w'=>∃ tv' fv',e=.returned (.agg #[tv',fv'])/\TypesV w' b1 tv' p.types/\FuncsV 92 99 w' b1 fv' p.funcs/\Chg () w w':=by
 obtain ⟨i,hi1,hi2,hi3,hi4⟩:=info47
 have Hi1:=hid hi1
 have Hi2:=hid hi2
 have Hi3:=hid hi3
 have Hi4:=hid hi4
 clear hi1 hi2 hi3 hi4
 obtain ⟨ta,tc,rfl⟩:=h1.slice
 obtain ⟨fa,fc,rfl⟩:=i1.slice
 go_enter Try.func19,Try.ntmps19
 go_wp2_with fail
 have q0:QS w (((w.alloc (Obj.cells #[.slice ta p.types.length tc,.slice fa p.funcs.length fc] 35)).alloc (Obj.cells #[(),()] 28)).alloc (Obj.cells #[(),()] 28)) #[.slice ta p.types.length tc,.slice fa p.funcs.length fc] #[.slice none 0 0,.slice none 0 0]:=
  ⟨((Blk.new w _ 35).alloc _).alloc _,(Blk.new' (by simp) _ 28).alloc _,Blk.new' (by simp) _ 28,(((Chg.refl _ w).alloc _).alloc _).alloc _⟩
 generalize (((w.alloc (Obj.cells #[.slice ta p.types.length tc,.slice fa p.funcs.length fc] 35)).alloc (Obj.cells #[(),()] 28)).alloc (Obj.cells #[(),()] 28))=W at *
 go_loopw [4] (fun i wr=>∃ k:Nat,k<=p.types.length/\i=.int .i64 k/\∃ qt,QS w wr #[.slice ta p.types.length tc,.slice fa p.funcs.length fc] #[qt,.slice none 0 0]/\TypesW wr w.heap.size b1 qt (p.types.take k)) (fun i _=>p.types.length - (intOf i).toNat)
 case atStart=>exact ⟨0,Nat.zero_le _,rfl,_,q0,[],World.ownsRow_nil _ _ _ _,fun j u hj=>by simp at hj⟩
 case round =>
  clear q0
  obtain ⟨k,hk,rfl,qt,qA,vs,hvs,hvk⟩:=hrel
  have y1:wr.cell? ⟨w.heap.size,0,none⟩=some (.slice ta p.types.length tc):=qA.pb.cell 0
  by_cases hlt:k < p.types.length
  ·obtain ⟨g1,cp1,u1,he1,_,hu1,hiu⟩:=(h1.new qA.ch).cell k hlt
   simp only [Value.slice.injEq] at he1
   obtain ⟨rfl,-,rfl⟩:=he1
   obtain ⟨ua,uc,rfl⟩:=hiu.slice
   have hlt':(k:Int) < (p.types.length:Int):=by omega
   have HT:Hid (p.types.take (k+1)=p.types.take k++[p.types.getD k []]):=by
    have e:=List.take_succ_eq_append_getElem hlt
    have e2:p.types.getD k []=p.types[k]:=by rw [List.getD_eq_getElem?_getD,List.getElem?_eq_getElem hlt];rfl
    rw [e2];exact e
   have hTl:(p.types.take k).length=k:=by rw [List.length_take];omega
   rw [hTl] at hvs
   generalize p.types.getD k []=L at *
   generalize p.types.take k=T at *
   have HTl:=hid hTl
   clear hTl
   have y2:wr.cell? ⟨w.heap.size+2,0,none⟩=some qt:=qA.qb.cell 0
   have z2:=qA.qb.frozen 0
   have hsz:=qA.ch.size
   have hlt2:=qA.qb.lt
   have hlt0:=qA.pb.lt
   have htl:∃ qa qc,qt=.slice qa k qc:=by
    rcases hvs.2 with ⟨h1,h2⟩ | ⟨g,cap,cur,rfl,_⟩
    ·exact ⟨none,0,by rw [h1,h2]⟩
    ·exact ⟨_,_,rfl⟩
   obtain ⟨qa,qc,rfl⟩:=htl
   have NE:Hid (some (w.heap.size+2) ≠ (Value.slice qa k qc).ownBlock):=fun e=>own_ne hvs qA.qb (by decide) e.symm
   go_wp2
   go_region_law (refine step_append_lies _ rfl (.tmp 17) (.tmp 23) 25 rfl w.heap.size 47 i (.slice none 0 0) 1 24 Try.underlying25 Hi1.out Hi2.out Hi3.out Hi4.out rfl (by decide) (.slice qa k qc) k vs (by simp [Act.eval,Act.put]) (by exact World.ownsRow.alloc hvs _) ⟨wr.heap.size,0,none⟩ 1 1 [.slice ua L.length uc] (by simp [Act.eval,Act.put]) rfl (by exact cell_one_new _ _ _) (by intro u hu;simp at hu;subst hu;rfl) (by decide) (by unfold maxLen;omega) (by omega) (by simp;omega) (wr.heap.size+1) (by simp) ?_;intro g cap2 w4 hown hgrow hat hlt4;have bq:Blk w4 (w.heap.size+2) #[.slice qa k qc,.slice none 0 0] 28:=Blk.grown (by exact (qA.qb.alloc _)) hgrow NE.out;have y4:w4.cell? ⟨w.heap.size+2,0,none⟩=some (.slice qa k qc):=bq.cell 0;have z4:=bq.frozen 0)
   all_goals
    have hgW:Chg (fun j=>some j=(Value.slice qa k qc).ownBlock) wr w4:=((((Chg.refl _ wr).alloc _).drew).grown hgrow (fun j hj=>.inl hj.symm))
    have qB:=qA.grow (by decide) (by decide) hvs hgW
    have hT4:=TypesW.snoc (ls:=T) (by rw [HTl.out];exact hvs) hvk (by rw [HTl.out]) hown hgW hiu
    clear hgrow hgW hat bq y4 z4
    go_wp2
    exact ⟨⟨k+1,by omega,rfl,_,qB.setQ 0 _,by rw [HT.out];exact hT4.set qB.qb (by decide) (by decide) 0 _⟩,by simp [intOf];omega⟩
  ·have e1:k=p.types.length:=by omega
   subst e1
   rw [List.take_of_length_le (Nat.le_refl _)] at hvs hvk
   have hty:TypesW wr w.heap.size b1 qt p.types:=⟨vs,hvs,hvk⟩
   clear hvs hvk Hi1 Hi2 Hi3 Hi4 hlt hk
   obtain ⟨i,hi1,hi2,hi3,hi4⟩:=info74
   have Hi1:=hid hi1
   have Hi2:=hid hi2
   have Hi3:=hid hi3
   have Hi4:=hid hi4
   clear hi1 hi2 hi3 hi4
   obtain ⟨i',hi1,hi2,hi3,hi4⟩:=info67
   have Hj1:=hid hi1
   have Hj2:=hid hi2
   have Hj3:=hid hi3
   have Hj4:=hid hi4
   clear hi1 hi2 hi3 hi4
   go_wp2_with fail
   clear y1
   go_loopw [5] (fun i wr=>∃ k:Nat,k<=p.funcs.length/\i=.int .i64 k/\∃ qf,QS w wr #[.slice ta p.types.length tc,.slice fa p.funcs.length fc] #[qt,qf]/\TypesW wr w.heap.size b1 qt p.types/\FuncsW wr w.heap.size b1 qf (p.funcs.take k)) (fun i _=>p.funcs.length - (intOf i).toNat)
   case atStart=>exact ⟨0,Nat.zero_le _,rfl,_,qA,hty,FuncsW.nil _ _ _⟩
   case round =>
    clear qA hty
    obtain ⟨k2,hk,rfl,qf,qA,hty,hfw⟩:=hrel
    have y1:wr.cell? ⟨w.heap.size,1,none⟩=some (.slice fa p.funcs.length fc):=qA.pb.cell 1
    by_cases hlt:k2 < p.funcs.length
    ·have lift:∀ (a:Addr) v,w.cell? a=some v->wr.cell? a=some v:=fun a v h=>(World.cell?_of_block (qA.ch.block a.block (World.block_lt_of_cell? w a h) (fun e=>e))).trans h
     obtain ⟨g1,cp1,he1,_,qq⟩:=i1.form (by omega)
     simp only [Value.slice.injEq] at he1
     obtain ⟨rfl,-,rfl⟩:=he1
     obtain ⟨lv,c0,s0,s1,s2,s3,hlv,hc0⟩:=qq k2 hlt
     have hbb:=hfs k2 hlt
     have HT:Hid (p.funcs.take (k2+1)=p.funcs.take k2++[p.funcs[k2]]):=List.take_succ_eq_append_getElem hlt
     have hTl:Hid ((p.funcs.take k2).length=k2):=by
      have:(p.funcs.take k2).length=k2:=by rw [List.length_take];omega
      exact this
     have hlt':(k2:Int) < (p.funcs.length:Int):=by omega
     generalize p.funcs[k2]=F at *
     generalize p.funcs.take k2=T at *
     have s0:=lift _ _ s0
     have s1:=lift _ _ s1
     have s2:=lift _ _ s2
     have s3:=lift _ _ s3
     clear lift qq
     obtain ⟨la,lc,rfl⟩:=hlv.slice
     obtain ⟨ca0,cc0,rfl⟩:=hc0.slice
     have hlt0:=qA.pb.lt
     go_wp2_with fail
     clear s0 s1 s2 s3
     obtain ⟨V,rfl⟩:∃ V,V=wr:=⟨wr,rfl⟩
     have f0:=(Blk.new V #[.int .i64 F.args,.slice la F.locals.length lc,.int .i64 F.result,.slice ca0 F.code.length cc0] 96).alloc (Obj.cells #[F.args,.slice la F.locals.length lc,F.result,()] 92)
     have g0:Blk _ (V.heap.size+1) _ 92:=Blk.new' (w:=V.alloc (Obj.cells #[F.args,.slice la F.locals.length lc,F.result,.slice ca0 F.code.length cc0] 96)) (by simp) #[F.args,.slice la F.locals.length lc,F.result,()] 92
     have kN:Chg () V ((V.alloc (Obj.cells #[F.args,.slice la F.locals.length lc,F.result,.slice ca0 F.code.length cc0] 96)).alloc (Obj.cells #[F.args,.slice la F.locals.length lc,F.result,()] 92)):=((Chg.refl _ V).alloc _).alloc _
     have hfbn:w.heap.size+3<=V.heap.size:=by have:=qA.qb.lt;omega
     clear y1 hlt0
     generalize ((V.alloc (Obj.cells #[F.args,.slice la F.locals.length lc,F.result,.slice ca0 F.code.length cc0] 96)).alloc (Obj.cells #[F.args,.slice la F.locals.length lc,F.result,()] 92))=W2 at *
     go_loopw [8] (fun i wx=>∃ j:Nat,j<=F.code.length/\i=.int .i64 j/\∃ cv,Chg () V wx/\Blk wx V.heap.size #[F.args,.slice la F.locals.length lc,F.result,.slice ca0 F.code.length cc0] 96/\Blk wx (V.heap.size+1) #[F.args,.slice la F.locals.length lc,F.result,cv] 92/\InsV 99 wx V.heap.size cv (F.code.take j)) (fun i _=>F.code.length - (intOf i).toNat)
     case atStart=>exact ⟨0,Nat.zero_le _,rfl,_,kN,f0,g0,World.ownsRow_nil _ _ _ _⟩
     case round =>
      clear f0 g0 kN
      obtain ⟨j,hj,rfl,cv,kN,f0,g0,hcv⟩:=hrel
      have y3:wr.cell? ⟨V.heap.size,3,none⟩=some (.slice ca0 F.code.length cc0):=f0.cell 3
      by_cases hjl:j < F.code.length
      ·obtain ⟨gk,cp0,he0,_,_,_,xx⟩:=hc0.form (by omega)
       simp only [Value.slice.injEq] at he0
       obtain ⟨rfl,-,rfl⟩:=he0
       have kW:=qA.ch.trans kN
       have lift:∀ (a:Addr) v,w.cell? a=some v->wr.cell? a=some v:=fun a v h=>(World.cell?_of_block (kW.block a.block (World.block_lt_of_cell? w a h) (fun e=>e))).trans h
       obtain ⟨x1,x2,x3⟩:=xx j hjl
       have hgl:=World.block_lt_of_cell? w _ x1
       simp only at hgl
       have x1:=lift _ _ x1
       have x2:=lift _ _ x2
       have x3:=lift _ _ x3
       have HT2:Hid (F.code.take (j+1)=F.code.take j++[F.code[j]]):=List.take_succ_eq_append_getElem hjl
       have hTl2:(F.code.take j).length=j:=by rw [List.length_take];omega
       unfold InsV at hcv
       rw [hTl2] at hcv
       have HTl2:=hid hTl2
       clear hTl2 lift xx
       generalize F.code[j]=X at *
       generalize F.code.take j=D at *
       have hjl':(j:Int) < (F.code.length:Int):=by omega
       have y4:wr.cell? ⟨V.heap.size+1,3,none⟩=some cv:=g0.cell 3
       have hcl:∃ ca cc,cv=.slice ca j cc:=by
        rcases hcv.2 with ⟨h1,h2⟩ | ⟨g,cap,cur,rfl,_⟩
        ·exact ⟨none,0,by rw [h1,h2]⟩
        ·exact ⟨_,_,rfl⟩
       obtain ⟨ca,cc,rfl⟩:=hcl
       go_wp2
       refine wp_region_D (fun w'=>w'.cell? ⟨V.heap.size,3,none⟩=some (.slice gk F.code.length cc0)/\w'.cell? ⟨V.heap.size+1,3,none⟩=some (.slice ca j cc)/\w'.cell? ⟨gk,j * 3,none⟩=some (.int .i64 X.1)/\w'.cell? ⟨gk,j * 3+1,none⟩=some (.int .i64 X.2.1)/\w'.cell? ⟨gk,j * 3+2,none⟩=some (.int .i64 X.2.2)) 24 (by kernel_rfl) ?_
       have hS0:(fun w':World=>w'.cell? ⟨V.heap.size,3,none⟩=some (.slice gk F.code.length cc0)/\w'.cell? ⟨V.heap.size+1,3,none⟩=some (.slice ca j cc)/\w'.cell? ⟨gk,j * 3,none⟩=some (.int .i64 X.1)/\w'.cell? ⟨gk,j * 3+1,none⟩=some (.int .i64 X.2.1)/\w'.cell? ⟨gk,j * 3+2,none⟩=some (.int .i64 X.2.2)) wr.drew:=⟨y3,y4,x1,x2,x3⟩
       refine wpAnyD_take (i:=0) (v:=?_) rfl (by kernel_rfl) (by kernel_rfl) (by kernel_rfl) (by kernel_rfl) (by decide) (fun _ _ _ h=>h) (Or.inl ⟨by rfl,?_⟩) hS0 ?_
       rotate_left
       ·intro w' hSw;obtain ⟨t1,t2,t3,t4,t5⟩:=hSw;go_simp;first | done | with_reducible rfl
       try simp only [Act.put,List.setIfInBounds_toArray,List.set_cons_zero,List.set_cons_succ]
       refine wpAnyD_take (i:=1) (v:=?_) rfl (by kernel_rfl) (by kernel_rfl) (by kernel_rfl) (by kernel_rfl) (by decide) (fun _ _ _ h=>h) (Or.inl ⟨by rfl,?_⟩) hS0 ?_
       rotate_left
       ·intro w' hSw;obtain ⟨t1,t2,t3,t4,t5⟩:=hSw;go_simp;first | done | with_reducible rfl
       try simp only [Act.put,List.setIfInBounds_toArray,List.set_cons_zero,List.set_cons_succ]
       refine wpAnyD_take (i:=2) (v:=?_) rfl (by kernel_rfl) (by kernel_rfl) (by kernel_rfl) (by kernel_rfl) (by decide) (fun _ _ _ h=>h) (Or.inl ⟨by rfl,?_⟩) hS0 ?_
       rotate_left
       ·intro w' hSw;obtain ⟨t1,t2,t3,t4,t5⟩:=hSw;go_simp;first | done | with_reducible rfl
       try simp only [Act.put,List.setIfInBounds_toArray,List.set_cons_zero,List.set_cons_succ]
       refine wpAnyD_take (i:=3) (v:=?_) rfl (by kernel_rfl) (by kernel_rfl) (by kernel_rfl) (by kernel_rfl) (by decide) (fun _ _ _ h=>h) (Or.inl ⟨by rfl,?_⟩) hS0 ?_
       rotate_left
       ·intro w' hSw;obtain ⟨t1,t2,t3,t4,t5⟩:=hSw;go_simp;first | done | with_reducible rfl
       try simp only [Act.put,List.setIfInBounds_toArray,List.set_cons_zero,List.set_cons_succ]
       refine wpAnyD_take (i:=4) (v:=?_) rfl (by kernel_rfl) (by kernel_rfl) (by kernel_rfl) (by kernel_rfl) (by decide) (fun _ _ _ h=>h) (Or.inl ⟨by rfl,?_⟩) hS0 ?_
       rotate_left
       ·intro w' hSw;obtain ⟨t1,t2,t3,t4,t5⟩:=hSw;go_simp;first | done | with_reducible rfl
       try simp only [Act.put,List.setIfInBounds_toArray,List.set_cons_zero,List.set_cons_succ]
       refine wpAnyD_take (i:=5) (v:=?_) rfl (by kernel_rfl) (by kernel_rfl) (by kernel_rfl) (by kernel_rfl) (by decide) (fun _ _ _ h=>h) (Or.inl ⟨by rfl,?_⟩) hS0 ?_
       rotate_left
       ·intro w' hSw;obtain ⟨t1,t2,t3,t4,t5⟩:=hSw;go_simp;first | done | with_reducible rfl
       try simp only [Act.put,List.setIfInBounds_toArray,List.set_cons_zero,List.set_cons_succ]
       refine wpAnyD_take (i:=6) (v:=?_) rfl (by kernel_rfl) (by kernel_rfl) (by kernel_rfl) (by kernel_rfl) (by decide) (fun _ _ _ h=>h) (Or.inl ⟨by rfl,?_⟩) hS0 ?_
       rotate_left
       ·intro w' hSw;obtain ⟨t1,t2,t3,t4,t5⟩:=hSw;go_simp;first | done | with_reducible rfl
       try simp only [Act.put,List.setIfInBounds_toArray,List.set_cons_zero,List.set_cons_succ]
       refine wpAnyD_take (i:=7) (v:=?_) rfl (by kernel_rfl) (by kernel_rfl) (by kernel_rfl) (by kernel_rfl) (by decide) (fun _ _ _ h=>h) (Or.inl ⟨by rfl,?_⟩) hS0 ?_
       rotate_left
       ·intro w' hSw;obtain ⟨t1,t2,t3,t4,t5⟩:=hSw;go_simp;first | done | with_reducible rfl
       try simp only [Act.put,List.setIfInBounds_toArray,List.set_cons_zero,List.set_cons_succ]
       refine wpAnyD_take (i:=8) (v:=?_) rfl (by kernel_rfl) (by kernel_rfl) (by kernel_rfl) (by kernel_rfl) (by decide) (fun _ _ _ h=>h) (Or.inl ⟨by rfl,?_⟩) hS0 ?_
       rotate_left
       ·intro w' hSw;obtain ⟨t1,t2,t3,t4,t5⟩:=hSw;go_simp;first | done | with_reducible rfl
       try simp only [Act.put,List.setIfInBounds_toArray,List.set_cons_zero,List.set_cons_succ]
       refine wpAnyD_take (i:=9) (v:=?_) rfl (by kernel_rfl) (by kernel_rfl) (by kernel_rfl) (by kernel_rfl) (by decide) (fun _ _ _ h=>h) (Or.inl ⟨by rfl,?_⟩) hS0 ?_
       rotate_left
       ·intro w' hSw;obtain ⟨t1,t2,t3,t4,t5⟩:=hSw;go_simp;first | done | with_reducible rfl
       try simp only [Act.put,List.setIfInBounds_toArray,List.set_cons_zero,List.set_cons_succ]
       refine wpAnyD_take (i:=10) (v:=?_) rfl (by kernel_rfl) (by kernel_rfl) (by kernel_rfl) (by kernel_rfl) (by decide) (fun _ _ _ h=>h) (Or.inl ⟨by rfl,?_⟩) hS0 ?_
       rotate_left
       ·intro w' hSw;obtain ⟨t1,t2,t3,t4,t5⟩:=hSw;go_simp;first | done | with_reducible rfl
       try simp only [Act.put,List.setIfInBounds_toArray,List.set_cons_zero,List.set_cons_succ]
       refine wpAnyD_take (i:=11) (v:=?_) rfl (by kernel_rfl) (by kernel_rfl) (by kernel_rfl) (by kernel_rfl) (by decide) (fun _ _ _ h=>h) (Or.inl ⟨by rfl,?_⟩) hS0 ?_
       rotate_left
       ·intro w' hSw;obtain ⟨t1,t2,t3,t4,t5⟩:=hSw;go_simp;first | done | with_reducible rfl
       try simp only [Act.put,List.setIfInBounds_toArray,List.set_cons_zero,List.set_cons_succ]
       refine wpAnyD_take (i:=12) (v:=?_) rfl (by kernel_rfl) (by kernel_rfl) (by kernel_rfl) (by kernel_rfl) (by decide) (fun _ _ _ h=>h) (Or.inl ⟨by rfl,?_⟩) hS0 ?_
       rotate_left
       ·intro w' hSw;obtain ⟨t1,t2,t3,t4,t5⟩:=hSw;go_simp;first | done | with_reducible rfl
       try simp only [Act.put,List.setIfInBounds_toArray,List.set_cons_zero,List.set_cons_succ]
       refine wpAnyD_take (i:=13) (v:=?_) rfl (by kernel_rfl) (by kernel_rfl) (by kernel_rfl) (by kernel_rfl) (by decide) (fun _ _ _ h=>h) (Or.inl ⟨by rfl,?_⟩) hS0 ?_
       rotate_left
       ·intro w' hSw;obtain ⟨t1,t2,t3,t4,t5⟩:=hSw;go_simp;first | done | with_reducible rfl
       try simp only [Act.put,List.setIfInBounds_toArray,List.set_cons_zero,List.set_cons_succ]
       refine wpAnyD_take (i:=14) (v:=?_) rfl (by kernel_rfl) (by kernel_rfl) (by kernel_rfl) (by kernel_rfl) (by decide) (fun _ _ _ h=>h) (Or.inl ⟨by rfl,?_⟩) hS0 ?_
       rotate_left
       ·intro w' hSw;obtain ⟨t1,t2,t3,t4,t5⟩:=hSw;go_simp;first | done | with_reducible rfl
       try simp only [Act.put,List.setIfInBounds_toArray,List.set_cons_zero,List.set_cons_succ]
       refine wpAnyD_take (i:=15) (v:=?_) rfl (by kernel_rfl) (by kernel_rfl) (by kernel_rfl) (by kernel_rfl) (by decide) (fun _ _ _ h=>h) (Or.inl ⟨by rfl,?_⟩) hS0 ?_
       rotate_left
       ·intro w' hSw;obtain ⟨t1,t2,t3,t4,t5⟩:=hSw;go_simp;first | done | with_reducible rfl
       try simp only [Act.put,List.setIfInBounds_toArray,List.set_cons_zero,List.set_cons_succ]
       refine wpAnyD_take (i:=16) (v:=?_) rfl (by kernel_rfl) (by kernel_rfl) (by kernel_rfl) (by kernel_rfl) (by decide) (fun _ _ _ h=>h) (Or.inl ⟨by rfl,?_⟩) hS0 ?_
       rotate_left
       ·intro w' hSw;obtain ⟨t1,t2,t3,t4,t5⟩:=hSw;go_simp;first | done | with_reducible rfl
       try simp only [Act.put,List.setIfInBounds_toArray,List.set_cons_zero,List.set_cons_succ]
       refine wpAnyD_take (i:=17) (v:=?_) rfl (by kernel_rfl) (by kernel_rfl) (by kernel_rfl) (by kernel_rfl) (by decide) (fun _ _ _ h=>h) (Or.inl ⟨by rfl,?_⟩) hS0 ?_
       rotate_left
       ·intro w' hSw;obtain ⟨t1,t2,t3,t4,t5⟩:=hSw;go_simp;first | done | with_reducible rfl
       try simp only [Act.put,List.setIfInBounds_toArray,List.set_cons_zero,List.set_cons_succ]
       refine wpAnyD_take (i:=18) (v:=?_) rfl (by kernel_rfl) (by kernel_rfl) (by kernel_rfl) (by kernel_rfl) (by decide) (fun _ _ _ h=>h) (Or.inl ⟨by rfl,?_⟩) hS0 ?_
       rotate_left
       ·intro w' hSw;obtain ⟨t1,t2,t3,t4,t5⟩:=hSw;go_simp;first | done | with_reducible rfl
       try simp only [Act.put,List.setIfInBounds_toArray,List.set_cons_zero,List.set_cons_succ]
       refine wpAnyD_take (i:=19) (v:=?_) rfl (by kernel_rfl) (by kernel_rfl) (by kernel_rfl) (by kernel_rfl) (by decide) (fun _ _ _ h=>h) (Or.inl ⟨by rfl,?_⟩) hS0 ?_
       rotate_left
       ·intro w' hSw;obtain ⟨t1,t2,t3,t4,t5⟩:=hSw;go_simp;first | done | with_reducible rfl
       try simp only [Act.put,List.setIfInBounds_toArray,List.set_cons_zero,List.set_cons_succ]
       refine wpAnyD_take (i:=20) (v:=?_) rfl (by kernel_rfl) (by kernel_rfl) (by kernel_rfl) (by kernel_rfl) (by decide) (fun _ _ _ h=>h) (Or.inl ⟨by rfl,?_⟩) hS0 ?_
       rotate_left
       ·intro w' hSw;obtain ⟨t1,t2,t3,t4,t5⟩:=hSw;go_simp;first | done | with_reducible rfl
       try simp only [Act.put,List.setIfInBounds_toArray,List.set_cons_zero,List.set_cons_succ]
       refine wpAnyD_one (i:=21) rfl (by kernel_rfl) (fun K hK=>?_)
       go_simp
       refine hK _ _ (fun _=>⟨keep_cell y3,keep_cell y4,keep_cell x1,keep_cell x2,keep_cell x3⟩) ?_
       clear hK K
       try simp only [Act.put,List.setIfInBounds_toArray,List.set_cons_zero,List.set_cons_succ]
       refine wpAnyD_one (i:=22) rfl (by kernel_rfl) (fun K hK=>?_)
       refine step_append_lies _ rfl (.tmp 53) (.tmp 73) 90 rfl V.heap.size 99 i (.agg #[oO,oO,oO]) 3 24 Try.underlying90 Hi1.out Hi2.out Hi3.out Hi4.out rfl (by decide) (.slice ca j cc) j (insC D) (by simp [Act.eval]) (by exact World.ownsRow.alloc hcv _) ⟨wr.heap.size,0,none⟩ 1 1 [.int .i64 X.1,.int .i64 X.2.1,.int .i64 X.2.2] (by simp [Act.eval]) rfl (by exact World.news_of_block (cs:=#[.int .i64 X.1,.int .i64 X.2.1,.int .i64 X.2.2]) (Blk.new' rfl _ 99)) (by intro u hu;simp at hu;rcases hu with rfl | rfl | rfl <;> rfl) (by decide) (by unfold maxLen;omega) (by omega) (by have:=kN.size;simp;omega) (wr.heap.size+1) (by simp) ?_
       intro g cap2 w4 hown hgrow hat hlt4
       have hgW:Chg (fun q=>some q=(Value.slice ca j cc).ownBlock) wr w4:=((((Chg.refl _ wr).alloc _).drew).grown hgrow (fun q hq=>.inl hq.symm))
       have kN4:Chg () V w4:=kN.trans' hgW (fun q hq e=>by have:=(hcv.lt q e.symm).1;omega)
       have ne:∀ e,e ≠ 99->∀ g cs,Blk wr g cs e->¬ some g=(Value.slice ca j cc).ownBlock:=fun e he g cs hb hg=>by
        obtain ⟨cs',hb'⟩:=own_blk hcv hg.symm
        exact hb.ne hb' he rfl
       have f1:=f0.chg hgW (ne 96 (by decide) _ _ f0)
       have g2:=g0.chg hgW (ne 92 (by decide) _ _ g0)
       have kW4:=qA.ch.trans kN4
       have lift4:∀ (a:Addr) v,wr.cell? a=some v->a.block < w.heap.size->w4.cell? a=some v:=fun a v h hb=>((World.cell?_of_block (w:=w) (kW4.block a.block hb (fun e=>e))).trans (World.cell?_of_block (w:=w) (kW.block a.block hb (fun e=>e))).symm).trans h
       refine hK _ _ (fun _=>⟨f1.cell 3,g2.cell 3,lift4 _ _ x1 hgl,lift4 _ _ x2 hgl,lift4 _ _ x3 hgl⟩) ?_
       clear hK K hS0
       try simp only [Act.put,List.setIfInBounds_toArray,List.set_cons_zero,List.set_cons_succ]
       refine wpAnyD_one (i:=23) rfl (by kernel_rfl) (fun K hK=>?_)
       go_simp
       refine hK _ _ (fun _=>⟨f1.cell 3,g2.cell 3,lift4 _ _ x1 hgl,lift4 _ _ x2 hgl,lift4 _ _ x3 hgl⟩) ?_
       clear hK K lift4 y3 y4 x1 x2 x3 hgrow
       try simp only [Act.put,List.setIfInBounds_toArray,List.set_cons_zero,List.set_cons_succ]
       have y5:w4.cell? ⟨V.heap.size+1,3,none⟩=some (.slice ca j cc):=g2.cell 3
       have z5:=g2.frozen 3
       refine wpAnyD_one (i:=24) rfl (by kernel_rfl) (fun K hK=>?_)
       go_simp
       refine hK _ _ (fun h=>absurd rfl h) ?_
       clear hK K
       refine wpAnyD_done (by kernel_rfl) ?_ _
       go_wp2
       refine ⟨⟨j+1,by omega,rfl,_,kN4.setCell _ _ (.inr (by simp)),f1.setOther _ _ (by simp),g2.set 3 _,?_⟩,by simp [intOf];omega⟩
       rw [HT2.out]
       unfold InsV
       rw [insC_snoc,List.length_append,HTl2.out]
       exact own_set hown _ _ (own_ne hown g2 (by decide))
      ·have e2:j=F.code.length:=by omega
       subst e2
       rw [List.take_of_length_le (Nat.le_refl _)] at hcv
       have qB:=qA.new kN
       have hty2:=hty.chg kN (fun _ _ _ e=>e) (fun _ _ _ e=>e)
       have hfw2:=hfw.chg kN (fun _ _ _ e=>e) (fun _ _ _ e=>e) (fun _ _ _ e=>e)
       have hlv2:IntsV wr b1 (.slice la F.locals.length lc) F.locals:=IntsV.chg hlv (qA.ch.trans kN) (fun _ _ _ e=>e)
       have hcv2:InsV 99 wr b1 cv F.code:=own_mono hcv (by omega)
       obtain ⟨ca,cc,rfl⟩:=hcv.slice
       obtain ⟨xs,hx0,hxs,hxk⟩:=hfw2
       obtain ⟨qfa,qfc,hqf⟩:∃ a c,qf=.slice a T.length c:=hfw.slice
       subst hqf
       have hxl:Hid (xs.length=T.length):=by have:=congrArg List.length hx0;simp only [List.length_map] at this;exact this
       have HX0:=hid hx0
       clear hx0 hfw hty
       have hxs0:=hxs
       rw [hxl.out] at hxs
       have r0:wr.cell? ⟨V.heap.size+1,0,none⟩=some (.int .i64 F.args):=g0.cell 0
       have r1:wr.cell? ⟨V.heap.size+1,1,none⟩=some (.slice la F.locals.length lc):=g0.cell 1
       have r2:wr.cell? ⟨V.heap.size+1,2,none⟩=some (.int .i64 F.result):=g0.cell 2
       have r3:wr.cell? ⟨V.heap.size+1,3,none⟩=some (.slice ca F.code.length cc):=g0.cell 3
       have y5:wr.cell? ⟨w.heap.size+2,1,none⟩=some (.slice qfa T.length qfc):=qB.qb.cell 1
       have z5:=qB.qb.frozen 1
       have hszB:=qB.ch.size
       have hltq:=qB.qb.lt
       go_wp2_with (at_builtin;refine wpList_append_lies _ rfl _ _ 26 rfl w.heap.size 92 i' (.agg #[oO,(),oO,()]) 4 64 Try.underlying26 Hj1.out Hj2.out Hj3.out Hj4.out rfl (by decide) _ _ _ rfl (World.ownsRow.alloc hxs _) ⟨wr.heap.size,0,none⟩ 1 1 [.int .i64 F.args,.slice la F.locals.length lc,.int .i64 F.result,.slice ca F.code.length cc] rfl rfl ?c1 ?c2 (by decide) ?c3 ?c4 ?c5 _ rfl ?_)
       case c1=>exact World.news_of_block (B:=wr.heap.size) (cs:=#[.int .i64 F.args,.slice la F.locals.length lc,.int .i64 F.result,.slice ca F.code.length cc]) (Blk.new' rfl _ 92)
       case c2=>intro u hu;simp at hu;rcases hu with rfl | rfl | rfl | rfl <;> rfl
       case c3=>have:=hTl.out;unfold maxLen;omega
       case c4=>have:=hTl.out;omega
       case c5=>simp;omega
       ·intro g cap2 w4 hown hgrow hat hlt4
        have hg3:Chg (fun j=>some j=(Value.slice qfa T.length qfc).ownBlock) wr w4:=(((Chg.refl _ wr).alloc _).grown hgrow (fun j hj=>.inl hj.symm))
        have qD:=qB.grow (by decide) (by decide) hxs hg3
        have ne:∀ g cs e,Blk wr g cs e->e ≠ 92->¬ some g=(Value.slice qfa T.length qfc).ownBlock:=fun g cs e hb he hg=>by
         obtain ⟨cs',hb'⟩:=own_blk hxs hg.symm
         exact hb.ne hb' he rfl
        have hty4:=hty2.chg hg3 (fun g cs hb=>ne g cs 3 hb (by decide)) (fun g cs hb=>ne g cs 47 hb (by decide))
        have hfv4:=FuncsW.snoc hxs0 hxk (by rw [hxl.out]) hown hg3 hlv2 hcv2
        clear hgrow hg3 hat y5 z5 ne
        have y5:w4.cell? ⟨w.heap.size+2,1,none⟩=some (.slice qfa T.length qfc):=qD.qb.cell 1
        have z5:=qD.qb.frozen 1
        go_wp2
        rw [HX0.out] at hfv4
        refine ⟨⟨k2+1,by omega,rfl,_,qD.setQ 1 _,hty4.set qD.qb (by decide) (by decide) 1 _,?_⟩,by simp [intOf];omega⟩
        rw [HT.out]
        exact hfv4.set qD.qb (by decide) (by decide) (by decide) 1 _
    ·have e2:k2=p.funcs.length:=by omega
     subst e2
     rw [List.take_of_length_le (Nat.le_refl _)] at hfw
     obtain ⟨qfa,qfc,rfl⟩:=hfw.slice
     obtain ⟨qta,qtc,rfl⟩:=(hty.toV hb1).slice
     have p0:wr.cell? ⟨w.heap.size+2,0,none⟩=some (.slice qta p.types.length qtc):=qA.qb.cell 0
     have p1:wr.cell? ⟨w.heap.size+2,1,none⟩=some (.slice qfa p.funcs.length qfc):=qA.qb.cell 1
     have o0:wr.cell? ⟨w.heap.size+1,0,none⟩=some (.slice none 0 0):=qA.ob.cell 0
     have o1:wr.cell? ⟨w.heap.size+1,1,none⟩=some (.slice none 0 0):=qA.ob.cell 1
     have z0:=qA.ob.frozen 0
     have z1:=qA.ob.frozen 1
     go_wp2
     have b3:=(qA.ob.set 0 (.slice qta p.types.length qtc)).set 1 (.slice qfa p.funcs.length qfc)
     have hch4:=chg_set2 wr (w.heap.size+1) (.slice qta p.types.length qtc) (.slice qfa p.funcs.length qfc)
     generalize ((wr.setCell ⟨w.heap.size+1,0,none⟩ (.slice qta p.types.length qtc)).setCell ⟨w.heap.size+1,1,none⟩ (.slice qfa p.funcs.length qfc))=wf at *
     have hA:=(hty.toV hb1).chg hch4 (fun g cs hb e=>hb.ne qA.ob (by decide) e) (fun g cs hb e=>hb.ne qA.ob (by decide) e)
     have hB:=(hfw.toV hb1).chg hch4 (fun g cs hb e=>hb.ne qA.ob (by decide) e) (fun g cs hb e=>hb.ne qA.ob (by decide) e) (fun g cs hb e=>hb.ne qA.ob (by decide) e)
     have hD:Chg () w wf:=qA.ch.trans' hch4 (fun i hi e=>by omega)
     clear p0 p1 o0 o1 z0 z1 hch4
     have t0:wf.cell? ⟨w.heap.size+1,0,none⟩=some (.slice qta p.types.length qtc):=b3.cell 0
     have t1:wf.cell? ⟨w.heap.size+1,1,none⟩=some (.slice qfa p.funcs.length qfc):=b3.cell 1
     exact bodyPost_ret (v:=.agg #[.slice qta p.types.length qtc,.slice qfa p.funcs.length qfc]) (by simp [results,Try.results19,go_sem,t0,t1]) rfl ⟨_,_,rfl,hA,hB,hD⟩
end Go.Proofs.Ytnfnbcbadakofaa
