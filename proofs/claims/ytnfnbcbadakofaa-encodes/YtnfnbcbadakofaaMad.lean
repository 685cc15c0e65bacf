import Derived.Test.YtnfnbcbadakofaaGiv
import Derived.Test.YtnfnbcbadakofaaRdb
import Derived.Test.YtnfnbcbadakofaaImg
namespace Go.Proofs.Ytnfnbcbadakofaa
open Go.RowKit
structure QM (w wk:World) (pc qc:Array Value):Prop where
 pb:Blk wk w.heap.size pc 28
 ob:Blk wk (w.heap.size+1) #[(),()] 35
 qb:Blk wk (w.heap.size+2) qc 35
 ch:Chg () w wk
section
variable {w wk wk':World} {pc qc:Array Value}
theorem QM.new (h:QM w wk pc qc) (k:Chg () wk wk'):QM w wk' pc qc:=
 ⟨h.pb.chg k (fun e=>e),h.ob.chg k (fun e=>e),h.qb.chg k (fun e=>e),h.ch.trans k⟩
theorem QM.setQ (h:QM w wk pc qc) (i:Nat) (v:Value):QM w (wk.setCell ⟨w.heap.size+2,i,none⟩ v) pc (qc.setIfInBounds i v):=
 ⟨h.pb.setOther _ _ (by simp),h.ob.setOther _ _ (by simp),h.qb.set i v,h.ch.setCell _ _ (.inr (by simp))⟩
theorem QM.grow {eF:TypeId} {size:Nat} {cv:Value} {n:Nat} {xs:List Value} (h:QM w wk pc qc) (h1:28 ≠ eF) (h3:35 ≠ eF)
 (hcv:wk.ownsRow w.heap.size eF size cv n xs) (k:Chg (fun k=>some k=cv.ownBlock) wk wk'):QM w wk' pc qc:=by
 have ne:∀ g cs e,Blk wk g cs e->e ≠ eF->¬ some g=cv.ownBlock:=fun g cs e hb he hg=>by
  obtain ⟨cs',hb'⟩:=own_blk hcv hg.symm
  exact hb.ne hb' he rfl
 exact ⟨h.pb.chg k (ne _ _ _ h.pb h1),h.ob.chg k (ne _ _ _ h.ob h3),h.qb.chg k (ne _ _ _ h.qb h3),
  h.ch.trans' k (fun i hi e=>by have:=(hcv.lt i e.symm).1;omega)⟩
end
set_option linter.unusedSimpArgs false in
set_option maxHeartbeats 4000000 in
set_option maxRecDepth 100000 in
theorem made_core (ta fa:Option Addr) (tc fc:Nat) (ls:List (List Int)) (fs:List Fn) (w:World) (h1:RdTs w (.slice ta ls.length tc) ls) (i1:RdFs w (.slice fa fs.length fc) fs) (hlt:ls.length<=5864062014805) (hbl:∀ j,(ls.getD j []).length<=17592186044416) (hft:fs.length<=2199023255552) (hfs:∀ j (hj:j < fs.length),fs[j].locals.length<=17592186044416/\fs[j].code.length<=5864062014805) :
 Calls Try.prog 21 #[.agg #[.slice ta ls.length tc,.slice fa fs.length fc]] w fun e w'=>∃ tv' fv',e=.returned (.agg #[tv',fv'])/\TypesV w' w.heap.size tv' ls/\FuncsV 96 98 w' w.heap.size fv' fs/\Chg () w w':=by
 obtain ⟨i,hi1,hi2,hi3,hi4⟩:=info47
 have Hi1:=hid hi1
 have Hi2:=hid hi2
 have Hi3:=hid hi3
 have Hi4:=hid hi4
 have HBL:=hid hbl
 have H1:=hid h1
 have I1:=hid i1
 have HFS:=hid hfs
 clear hi1 hi2 hi3 hi4 hbl h1 i1 hfs
 go_enter Try.func21,Try.ntmps21
 go_wp2_with fail
 have q0:QM w (((w.alloc (Obj.cells #[.slice ta ls.length tc,.slice fa fs.length fc] 28)).alloc (Obj.cells #[(),()] 35)).alloc (Obj.cells #[(),()] 35)) #[.slice ta ls.length tc,.slice fa fs.length fc] #[.slice none 0 0,.slice none 0 0]:=
  ⟨((Blk.new w _ 28).alloc _).alloc _,(Blk.new' (by simp) _ 35).alloc _,Blk.new' (by simp) _ 35,(((Chg.refl _ w).alloc _).alloc _).alloc _⟩
 generalize (((w.alloc (Obj.cells #[.slice ta ls.length tc,.slice fa fs.length fc] 28)).alloc (Obj.cells #[(),()] 35)).alloc (Obj.cells #[(),()] 35))=W at *
 go_loopw [4] (fun i wr=>∃ k:Nat,k<=ls.length/\i=.int .i64 k/\∃ qt,QM w wr #[.slice ta ls.length tc,.slice fa fs.length fc] #[qt,.slice none 0 0]/\TypesW wr w.heap.size w.heap.size qt (ls.take k)) (fun i _=>ls.length - (intOf i).toNat)
 case atStart=>exact ⟨0,Nat.zero_le _,rfl,_,q0,[],World.ownsRow_nil _ _ _ _,fun j u hj=>by simp at hj⟩
 case round =>
  clear q0
  obtain ⟨k,hk,rfl,qt,qA,vs,hvs,hvk⟩:=hrel
  have y1:wr.cell? ⟨w.heap.size,0,none⟩=some (.slice ta ls.length tc):=qA.pb.cell 0
  by_cases hlk:k < ls.length
  ·obtain ⟨a1,cp1,he1,hcell⟩:=(H1.out.new qA.ch).form (by omega)
   simp only [Value.slice.injEq] at he1
   obtain ⟨rfl,-,rfl⟩:=he1
   obtain ⟨x,yx,hx⟩:=hcell k hlk
   obtain ⟨xa,xc,rfl⟩:=hx.slice
   have hlt':(k:Int) < (ls.length:Int):=by omega
   have hbk:=HBL.out k
   have HT:Hid (ls.take (k+1)=ls.take k++[ls.getD k []]):=by
    have e:=List.take_succ_eq_append_getElem hlk
    have e2:ls.getD k []=ls[k]:=by rw [List.getD_eq_getElem?_getD,List.getElem?_eq_getElem hlk];rfl
    rw [e2];exact e
   have hTl:(ls.take k).length=k:=by rw [List.length_take];omega
   rw [hTl] at hvs
   clear hcell
   generalize ls.getD k []=L at *
   generalize ls.take k=T at *
   have HTl:=hid hTl
   clear hTl
   have hsz:=qA.ch.size
   have HX:=hid hx
   clear hx
   go_wp2_with (at_builtin;refine wp_appA rfl _ _ rfl wr.heap.size (.slice none 0 0) (.slice xa L.length xc) [] L rfl rfl ?h1 ?h2 ?h3 ?h4 ?_)
   case h1=>exact World.ownsRow_nil _ _ _ _
   case h2=>exact HX.out
   case h3=>simp;omega
   case h4=>exact Nat.le_refl _
   intro la nl lc w2 hn2 hI2 hch2
   try rw [List.nil_append] at hI2
   have hn2':nl=L.length:=by simpa using hn2
   subst hn2'
   clear hn2
   have kF:Chg () wr w2:=hch2.mono (fun j _ q=>by cases q)
   have qB:=qA.new kF
   have hvs2:w2.ownsRow w.heap.size 47 1 qt k vs:=own_chg hvs kF (fun _ _ q=>q)
   have hvk2:∀ j u,vs[j]?=some u->IntsV w2 w.heap.size u (T.getD j []):=fun j u hj=>own_chg (hvk j u hj) kF (fun _ _ q=>q)
   have hiu:IntsV w2 w.heap.size (.slice la L.length lc) L:=own_mono hI2 hsz
   clear hch2 hI2 hvs hvk y1 yx qA HX
   have y2:w2.cell? ⟨w.heap.size+2,0,none⟩=some qt:=qB.qb.cell 0
   have hlt2:=qB.qb.lt
   have hsz2:=qB.ch.size
   have htl:∃ qa qc,qt=.slice qa k qc:=by
    rcases hvs2.2 with ⟨h1,h2⟩ | ⟨g,cap,cur,rfl,_⟩
    ·exact ⟨none,0,by rw [h1,h2]⟩
    ·exact ⟨_,_,rfl⟩
   obtain ⟨qa,qc,rfl⟩:=htl
   go_wp2_with (at_builtin;refine wpList_append_lies _ rfl _ _ 25 rfl w.heap.size 47 i (.slice none 0 0) 1 24 Try.underlying25 Hi1.out Hi2.out Hi3.out Hi4.out rfl (by decide) (.slice qa k qc) k vs rfl (World.ownsRow.alloc hvs2 _) ⟨w2.heap.size,0,none⟩ 1 1 [.slice la L.length lc] rfl rfl ?c1 ?c2 (by decide) ?c3 ?c4 ?c5 _ rfl ?_)
   case c1=>exact cell_one_new _ _ _
   case c2=>intro u hu;simp at hu;subst hu;rfl
   case c3=>unfold maxLen;omega
   case c4=>omega
   case c5=>simp;omega
   intro g cap2 w4 hown hgrow hat hlt4
   have hgW:Chg (fun j=>some j=(Value.slice qa k qc).ownBlock) w2 w4:=(((Chg.refl _ w2).alloc _).grown hgrow (fun j hj=>.inl hj.symm))
   have qC:=qB.grow (by decide) (by decide) hvs2 hgW
   have hT4:=TypesW.snoc (ls:=T) (by rw [HTl.out];exact hvs2) hvk2 (by rw [HTl.out]) hown hgW hiu
   have y4:w4.cell? ⟨w.heap.size+2,0,none⟩=some (.slice qa k qc):=qC.qb.cell 0
   have z4:=qC.qb.frozen 0
   clear hgrow hgW hat hown y2
   go_wp2
   exact ⟨⟨k+1,by omega,rfl,_,qC.setQ 0 _,by rw [HT.out];exact hT4.set qC.qb (by decide) (by decide) 0 _⟩,by simp [intOf];omega⟩
  ·have e1:k=ls.length:=by omega
   subst e1
   rw [List.take_of_length_le (Nat.le_refl _)] at hvs hvk
   have hty:TypesW wr w.heap.size w.heap.size qt ls:=⟨vs,hvs,hvk⟩
   clear hvs hvk Hi1 Hi2 Hi3 Hi4 hlk hk
   obtain ⟨i,hi1,hi2,hi3,hi4⟩:=info73
   have Hi1:=hid hi1
   have Hi2:=hid hi2
   have Hi3:=hid hi3
   have Hi4:=hid hi4
   clear hi1 hi2 hi3 hi4
   obtain ⟨i',hi1,hi2,hi3,hi4⟩:=info71
   have Hj1:=hid hi1
   have Hj2:=hid hi2
   have Hj3:=hid hi3
   have Hj4:=hid hi4
   clear hi1 hi2 hi3 hi4
   go_wp2_with fail
   clear y1
   go_loopw [6] (fun i wr=>∃ k:Nat,k<=fs.length/\i=.int .i64 k/\∃ qf,QM w wr #[.slice ta ls.length tc,.slice fa fs.length fc] #[qt,qf]/\TypesW wr w.heap.size w.heap.size qt ls/\FuncsV 96 98 wr w.heap.size qf (fs.take k)) (fun i _=>fs.length - (intOf i).toNat)
   case atStart=>exact ⟨0,Nat.zero_le _,rfl,_,qA,hty,FuncsV.nil _ _ _ _⟩
   case round =>
    clear qA hty
    obtain ⟨k2,hk,rfl,qf,qA,hty,hfw⟩:=hrel
    have y1:wr.cell? ⟨w.heap.size,1,none⟩=some (.slice fa fs.length fc):=qA.pb.cell 1
    by_cases hlk:k2 < fs.length
    ·obtain ⟨g1,cp1,he1,qq⟩:=I1.out.formA (by omega)
     simp only [Value.slice.injEq] at he1
     obtain ⟨rfl,-,rfl⟩:=he1
     obtain ⟨lv,c0,s0,s1,s2,s3,hlv,hc0⟩:=qq k2 hlk
     have hbb:=HFS.out k2 hlk
     have HT:Hid (fs.take (k2+1)=fs.take k2++[fs[k2]]):=List.take_succ_eq_append_getElem hlk
     have hTl:Hid ((fs.take k2).length=k2):=by
      have:(fs.take k2).length=k2:=by rw [List.length_take];omega
      exact this
     have hlt':(k2:Int) < (fs.length:Int):=by omega
     generalize fs[k2]=F at *
     generalize fs.take k2=T at *
     have s0:=qA.ch.cellF s0
     have s1:=qA.ch.cellF s1
     have s2:=qA.ch.cellF s2
     have s3:=qA.ch.cellF s3
     clear qq
     obtain ⟨la,lc,rfl⟩:=hlv.slice
     obtain ⟨ca0,cc0,rfl⟩:=hc0.slice
     have hlt0:=qA.pb.lt
     have kV:Chg () wr ((wr.alloc (Obj.cells #[F.args,.slice la F.locals.length lc,F.result,.slice ca0 F.code.length cc0] 92)).alloc (Obj.cells #[F.args,(),F.result,()] 96)):=((Chg.refl _ wr).alloc _).alloc _
     have fV:=(Blk.new wr #[.int .i64 F.args,.slice la F.locals.length lc,.int .i64 F.result,.slice ca0 F.code.length cc0] 92).alloc (Obj.cells #[F.args,(),F.result,()] 96)
     have gV:Blk ((wr.alloc (Obj.cells #[F.args,.slice la F.locals.length lc,F.result,.slice ca0 F.code.length cc0] 92)).alloc (Obj.cells #[F.args,(),F.result,()] 96)) (wr.heap.size+1) #[F.args,(),F.result,()] 96:=Blk.new' (w:=wr.alloc (Obj.cells #[F.args,.slice la F.locals.length lc,F.result,.slice ca0 F.code.length cc0] 92)) (by simp) _ 96
     have HLV:Hid (RdA ((wr.alloc (Obj.cells #[F.args,.slice la F.locals.length lc,F.result,.slice ca0 F.code.length cc0] 92)).alloc (Obj.cells #[F.args,(),F.result,()] 96)) (.slice la F.locals.length lc) F.locals):=hlv.new (qA.ch.trans kV)
     have hszV:=kV.size
     go_wp2_with (at_builtin;refine wp_appA rfl _ _ rfl wr.heap.size (.slice none 0 0) (.slice la F.locals.length lc) [] F.locals rfl rfl ?h1 ?h2 ?h3 ?h4 ?_)
     case h1=>exact World.ownsRow_nil _ _ _ _
     case h2=>exact HLV.out
     case h3=>simp;omega
     case h4=>exact hszV
     intro l2a nl l2c w5 hn2 hI2 hch2
     try rw [List.nil_append] at hI2
     have hn2':nl=F.locals.length:=by simpa using hn2
     subst hn2'
     clear hn2
     have k5:Chg () wr w5:=kV.trans (hch2.mono (fun j _ q=>by cases q))
     have f5:=fV.chg (hch2.mono (fun j _ q=>by cases q):Chg () _ w5) (fun q=>q)
     have g5:=gV.chg (hch2.mono (fun j _ q=>by cases q):Chg () _ w5) (fun q=>q)
     have y5:w5.cell? ⟨wr.heap.size+1,1,none⟩=some (.slice none 0 0):=g5.cell 1
     have z5:=g5.frozen 1
     clear hch2 HLV kV fV gV s0 s1 s2 s3 y1 hlt0 hszV
     go_wp2_with fail
     obtain ⟨V,rfl⟩:∃ V,V=wr:=⟨wr,rfl⟩
     have f0:=f5.setOther ⟨V.heap.size+1,1,none⟩ (.slice l2a F.locals.length l2c) (by simp)
     have g0:Blk (w5.setCell ⟨V.heap.size+1,1,none⟩ (.slice l2a F.locals.length l2c)) (V.heap.size+1) #[F.args,.slice l2a F.locals.length l2c,F.result,()] 96:=g5.set 1 _
     have kN:Chg () V (w5.setCell ⟨V.heap.size+1,1,none⟩ (.slice l2a F.locals.length l2c)):=k5.setCell _ _ (.inr (by simp))
     have hl0:IntsV (w5.setCell ⟨V.heap.size+1,1,none⟩ (.slice l2a F.locals.length l2c)) V.heap.size (.slice l2a F.locals.length l2c) F.locals:=own_set hI2 _ _ (own_ne hI2 g5 (by decide))
     have hfbn:w.heap.size+3<=V.heap.size:=by have:=qA.qb.lt;omega
     clear y5 z5 f5 g5 k5 hI2
     generalize (w5.setCell ⟨V.heap.size+1,1,none⟩ (.slice l2a F.locals.length l2c))=W2 at *
     go_loopw [9] (fun i wx=>∃ j:Nat,j<=F.code.length/\i=.int .i64 j/\∃ cv,Chg () V wx/\Blk wx V.heap.size #[F.args,.slice la F.locals.length lc,F.result,.slice ca0 F.code.length cc0] 92/\Blk wx (V.heap.size+1) #[F.args,.slice l2a F.locals.length l2c,F.result,cv] 96/\IntsV wx V.heap.size (.slice l2a F.locals.length l2c) F.locals/\InsV 98 wx V.heap.size cv (F.code.take j)) (fun i _=>F.code.length - (intOf i).toNat)
     case atStart=>exact ⟨0,Nat.zero_le _,rfl,_,kN,f0,g0,hl0,World.ownsRow_nil _ _ _ _⟩
     case round =>
      clear f0 g0 kN hl0
      obtain ⟨j,hj,rfl,cv,kN,f0,g0,hlv2,hcv⟩:=hrel
      have y3:wr.cell? ⟨V.heap.size,3,none⟩=some (.slice ca0 F.code.length cc0):=f0.cell 3
      by_cases hjl:j < F.code.length
      ·obtain ⟨gk,cp0,he0,xx⟩:=hc0.formA (by omega)
       simp only [Value.slice.injEq] at he0
       obtain ⟨rfl,-,rfl⟩:=he0
       have kW:=qA.ch.trans kN
       obtain ⟨x1,x2,x3⟩:=xx j hjl
       have hgl:=World.block_lt_of_cell? w _ x1
       have x1:=kW.cellF x1
       have x2:=kW.cellF x2
       have x3:=kW.cellF x3
       have HT2:Hid (F.code.take (j+1)=F.code.take j++[F.code[j]]):=List.take_succ_eq_append_getElem hjl
       have hTl2:(F.code.take j).length=j:=by rw [List.length_take];omega
       unfold InsV at hcv
       rw [hTl2] at hcv
       have HTl2:=hid hTl2
       clear hTl2 xx
       generalize F.code[j]=X at *
       generalize F.code.take j=D at *
       have hjl':(j:Int) < (F.code.length:Int):=by omega
       have y4:wr.cell? ⟨V.heap.size+1,3,none⟩=some cv:=g0.cell 3
       have hcl:∃ ca cc,cv=.slice ca j cc:=by
        rcases hcv.2 with ⟨h1,h2⟩ | ⟨g,cap,cur,rfl,_⟩
        ·exact ⟨none,0,by rw [h1,h2]⟩
        ·exact ⟨_,_,rfl⟩
       obtain ⟨ca,cc,rfl⟩:=hcl
       go_wp2
       refine wp_region_D (fun w'=>w'.cell? ⟨V.heap.size,3,none⟩=some (.slice (some gk) F.code.length cc0)/\w'.cell? ⟨V.heap.size+1,3,none⟩=some (.slice ca j cc)/\w'.cell? (gk.add (j * 3))=some (.int .i64 X.1)/\w'.cell? ⟨(gk.add (j * 3)).block,(gk.add (j * 3)).off+1,none⟩=some (.int .i64 X.2.1)/\w'.cell? ⟨(gk.add (j * 3)).block,(gk.add (j * 3)).off+2,none⟩=some (.int .i64 X.2.2)) 24 (by kernel_rfl) ?_
       have hS0:(fun w':World=>w'.cell? ⟨V.heap.size,3,none⟩=some (.slice (some gk) F.code.length cc0)/\w'.cell? ⟨V.heap.size+1,3,none⟩=some (.slice ca j cc)/\w'.cell? (gk.add (j * 3))=some (.int .i64 X.1)/\w'.cell? ⟨(gk.add (j * 3)).block,(gk.add (j * 3)).off+1,none⟩=some (.int .i64 X.2.1)/\w'.cell? ⟨(gk.add (j * 3)).block,(gk.add (j * 3)).off+2,none⟩=some (.int .i64 X.2.2)) wr.drew:=⟨y3,y4,x1,x2,x3⟩
       refine wpAnyD_take (i:=0) (v:=?_) rfl (by kernel_rfl) (by kernel_rfl) (by kernel_rfl) (by kernel_rfl) (by decide) (fun _ _ _ h=>h) (Or.inl ⟨by rfl,?_⟩) hS0 ?_
       rotate_left
       ·intro w' hSw;obtain ⟨t1,t2,t3,t4,t5⟩:=hSw;go_simp;first | done | with_reducible rfl
       try simp only [Act.put,List.setIfInBounds_toArray,List.set_cons_zero,List.set_cons_succ]
       refine wpAnyD_take (i:=1) (v:=?_) rfl (by kernel_rfl) (by kernel_rfl) (by kernel_rfl) (by kernel_rfl) (by decide) (fun _ _ _ h=>h) (Or.inl ⟨by rfl,?_⟩) hS0 ?_
       rotate_left
       ·intro w' hSw;obtain ⟨t1,t2,t3,t4,t5⟩:=hSw;go_simp;first | done | with_reducible rfl
       try simp only [Act.put,List.setIfInBounds_toArray,List.set_cons_zero,List.set_cons_succ]
       refine wpAnyD_take (i:=2) (v:=?_) rfl (by kernel_rfl) (by kernel_rfl) (by kernel_rfl) (by kernel_rfl) (by decide) (fun _ _ _ h=>h) (Or.inl ⟨by rfl,?_⟩) hS0 ?_
       rotate_left
       ·intro w' hSw;obtain ⟨t1,t2,t3,t4,t5⟩:=hSw;go_simp;first | done | with_reducible rfl
       try simp only [Act.put,List.setIfInBounds_toArray,List.set_cons_zero,List.set_cons_succ]
       refine wpAnyD_take (i:=3) (v:=?_) rfl (by kernel_rfl) (by kernel_rfl) (by kernel_rfl) (by kernel_rfl) (by decide) (fun _ _ _ h=>h) (Or.inl ⟨by rfl,?_⟩) hS0 ?_
       rotate_left
       ·intro w' hSw;obtain ⟨t1,t2,t3,t4,t5⟩:=hSw;go_simp;first | done | with_reducible rfl
       try simp only [Act.put,List.setIfInBounds_toArray,List.set_cons_zero,List.set_cons_succ]
       refine wpAnyD_take (i:=4) (v:=?_) rfl (by kernel_rfl) (by kernel_rfl) (by kernel_rfl) (by kernel_rfl) (by decide) (fun _ _ _ h=>h) (Or.inl ⟨by rfl,?_⟩) hS0 ?_
       rotate_left
       ·intro w' hSw;obtain ⟨t1,t2,t3,t4,t5⟩:=hSw;go_simp;first | done | with_reducible rfl
       try simp only [Act.put,List.setIfInBounds_toArray,List.set_cons_zero,List.set_cons_succ]
       refine wpAnyD_take (i:=5) (v:=?_) rfl (by kernel_rfl) (by kernel_rfl) (by kernel_rfl) (by kernel_rfl) (by decide) (fun _ _ _ h=>h) (Or.inl ⟨by rfl,?_⟩) hS0 ?_
       rotate_left
       ·intro w' hSw;obtain ⟨t1,t2,t3,t4,t5⟩:=hSw;go_simp;first | done | with_reducible rfl
       try simp only [Act.put,List.setIfInBounds_toArray,List.set_cons_zero,List.set_cons_succ]
       refine wpAnyD_take (i:=6) (v:=?_) rfl (by kernel_rfl) (by kernel_rfl) (by kernel_rfl) (by kernel_rfl) (by decide) (fun _ _ _ h=>h) (Or.inl ⟨by rfl,?_⟩) hS0 ?_
       rotate_left
       ·intro w' hSw;obtain ⟨t1,t2,t3,t4,t5⟩:=hSw;go_simp;first | done | with_reducible rfl
       try simp only [Act.put,List.setIfInBounds_toArray,List.set_cons_zero,List.set_cons_succ]
       refine wpAnyD_take (i:=7) (v:=?_) rfl (by kernel_rfl) (by kernel_rfl) (by kernel_rfl) (by kernel_rfl) (by decide) (fun _ _ _ h=>h) (Or.inl ⟨by rfl,?_⟩) hS0 ?_
       rotate_left
       ·intro w' hSw;obtain ⟨t1,t2,t3,t4,t5⟩:=hSw;go_simp;first | done | with_reducible rfl
       try simp only [Act.put,List.setIfInBounds_toArray,List.set_cons_zero,List.set_cons_succ]
       refine wpAnyD_take (i:=8) (v:=?_) rfl (by kernel_rfl) (by kernel_rfl) (by kernel_rfl) (by kernel_rfl) (by decide) (fun _ _ _ h=>h) (Or.inl ⟨by rfl,?_⟩) hS0 ?_
       rotate_left
       ·intro w' hSw;obtain ⟨t1,t2,t3,t4,t5⟩:=hSw;go_simp;first | done | with_reducible rfl
       try simp only [Act.put,List.setIfInBounds_toArray,List.set_cons_zero,List.set_cons_succ]
       refine wpAnyD_take (i:=9) (v:=?_) rfl (by kernel_rfl) (by kernel_rfl) (by kernel_rfl) (by kernel_rfl) (by decide) (fun _ _ _ h=>h) (Or.inl ⟨by rfl,?_⟩) hS0 ?_
       rotate_left
       ·intro w' hSw;obtain ⟨t1,t2,t3,t4,t5⟩:=hSw;go_simp;first | done | with_reducible rfl
       try simp only [Act.put,List.setIfInBounds_toArray,List.set_cons_zero,List.set_cons_succ]
       refine wpAnyD_take (i:=10) (v:=?_) rfl (by kernel_rfl) (by kernel_rfl) (by kernel_rfl) (by kernel_rfl) (by decide) (fun _ _ _ h=>h) (Or.inl ⟨by rfl,?_⟩) hS0 ?_
       rotate_left
       ·intro w' hSw;obtain ⟨t1,t2,t3,t4,t5⟩:=hSw;go_simp;first | done | with_reducible rfl
       try simp only [Act.put,List.setIfInBounds_toArray,List.set_cons_zero,List.set_cons_succ]
       refine wpAnyD_take (i:=11) (v:=?_) rfl (by kernel_rfl) (by kernel_rfl) (by kernel_rfl) (by kernel_rfl) (by decide) (fun _ _ _ h=>h) (Or.inl ⟨by rfl,?_⟩) hS0 ?_
       rotate_left
       ·intro w' hSw;obtain ⟨t1,t2,t3,t4,t5⟩:=hSw;go_simp;first | done | with_reducible rfl
       try simp only [Act.put,List.setIfInBounds_toArray,List.set_cons_zero,List.set_cons_succ]
       refine wpAnyD_take (i:=12) (v:=?_) rfl (by kernel_rfl) (by kernel_rfl) (by kernel_rfl) (by kernel_rfl) (by decide) (fun _ _ _ h=>h) (Or.inl ⟨by rfl,?_⟩) hS0 ?_
       rotate_left
       ·intro w' hSw;obtain ⟨t1,t2,t3,t4,t5⟩:=hSw;go_simp;first | done | with_reducible rfl
       try simp only [Act.put,List.setIfInBounds_toArray,List.set_cons_zero,List.set_cons_succ]
       refine wpAnyD_take (i:=13) (v:=?_) rfl (by kernel_rfl) (by kernel_rfl) (by kernel_rfl) (by kernel_rfl) (by decide) (fun _ _ _ h=>h) (Or.inl ⟨by rfl,?_⟩) hS0 ?_
       rotate_left
       ·intro w' hSw;obtain ⟨t1,t2,t3,t4,t5⟩:=hSw;go_simp;first | done | with_reducible rfl
       try simp only [Act.put,List.setIfInBounds_toArray,List.set_cons_zero,List.set_cons_succ]
       refine wpAnyD_take (i:=14) (v:=?_) rfl (by kernel_rfl) (by kernel_rfl) (by kernel_rfl) (by kernel_rfl) (by decide) (fun _ _ _ h=>h) (Or.inl ⟨by rfl,?_⟩) hS0 ?_
       rotate_left
       ·intro w' hSw;obtain ⟨t1,t2,t3,t4,t5⟩:=hSw;go_simp;first | done | with_reducible rfl
       try simp only [Act.put,List.setIfInBounds_toArray,List.set_cons_zero,List.set_cons_succ]
       refine wpAnyD_take (i:=15) (v:=?_) rfl (by kernel_rfl) (by kernel_rfl) (by kernel_rfl) (by kernel_rfl) (by decide) (fun _ _ _ h=>h) (Or.inl ⟨by rfl,?_⟩) hS0 ?_
       rotate_left
       ·intro w' hSw;obtain ⟨t1,t2,t3,t4,t5⟩:=hSw;go_simp;first | done | with_reducible rfl
       try simp only [Act.put,List.setIfInBounds_toArray,List.set_cons_zero,List.set_cons_succ]
       refine wpAnyD_take (i:=16) (v:=?_) rfl (by kernel_rfl) (by kernel_rfl) (by kernel_rfl) (by kernel_rfl) (by decide) (fun _ _ _ h=>h) (Or.inl ⟨by rfl,?_⟩) hS0 ?_
       rotate_left
       ·intro w' hSw;obtain ⟨t1,t2,t3,t4,t5⟩:=hSw;go_simp;first | done | with_reducible rfl
       try simp only [Act.put,List.setIfInBounds_toArray,List.set_cons_zero,List.set_cons_succ]
       refine wpAnyD_take (i:=17) (v:=?_) rfl (by kernel_rfl) (by kernel_rfl) (by kernel_rfl) (by kernel_rfl) (by decide) (fun _ _ _ h=>h) (Or.inl ⟨by rfl,?_⟩) hS0 ?_
       rotate_left
       ·intro w' hSw;obtain ⟨t1,t2,t3,t4,t5⟩:=hSw;go_simp;first | done | with_reducible rfl
       try simp only [Act.put,List.setIfInBounds_toArray,List.set_cons_zero,List.set_cons_succ]
       refine wpAnyD_take (i:=18) (v:=?_) rfl (by kernel_rfl) (by kernel_rfl) (by kernel_rfl) (by kernel_rfl) (by decide) (fun _ _ _ h=>h) (Or.inl ⟨by rfl,?_⟩) hS0 ?_
       rotate_left
       ·intro w' hSw;obtain ⟨t1,t2,t3,t4,t5⟩:=hSw;go_simp;first | done | with_reducible rfl
       try simp only [Act.put,List.setIfInBounds_toArray,List.set_cons_zero,List.set_cons_succ]
       refine wpAnyD_take (i:=19) (v:=?_) rfl (by kernel_rfl) (by kernel_rfl) (by kernel_rfl) (by kernel_rfl) (by decide) (fun _ _ _ h=>h) (Or.inl ⟨by rfl,?_⟩) hS0 ?_
       rotate_left
       ·intro w' hSw;obtain ⟨t1,t2,t3,t4,t5⟩:=hSw;go_simp;first | done | with_reducible rfl
       try simp only [Act.put,List.setIfInBounds_toArray,List.set_cons_zero,List.set_cons_succ]
       refine wpAnyD_take (i:=20) (v:=?_) rfl (by kernel_rfl) (by kernel_rfl) (by kernel_rfl) (by kernel_rfl) (by decide) (fun _ _ _ h=>h) (Or.inl ⟨by rfl,?_⟩) hS0 ?_
       rotate_left
       ·intro w' hSw;obtain ⟨t1,t2,t3,t4,t5⟩:=hSw;go_simp;first | done | with_reducible rfl
       try simp only [Act.put,List.setIfInBounds_toArray,List.set_cons_zero,List.set_cons_succ]
       refine wpAnyD_one (i:=21) rfl (by kernel_rfl) (fun K hK=>?_)
       go_simp
       refine hK _ _ (fun _=>⟨keep_cell y3,keep_cell y4,keep_cell x1,keep_cell x2,keep_cell x3⟩) ?_
       clear hK K
       try simp only [Act.put,List.setIfInBounds_toArray,List.set_cons_zero,List.set_cons_succ]
       refine wpAnyD_one (i:=22) rfl (by kernel_rfl) (fun K hK=>?_)
       refine step_append_lies _ rfl (.tmp 61) (.tmp 81) 94 rfl V.heap.size 98 i (.agg #[oO,oO,oO]) 3 24 Try.underlying94 Hi1.out Hi2.out Hi3.out Hi4.out rfl (by decide) (.slice ca j cc) j (insC D) (by simp [Act.eval]) (by exact World.ownsRow.alloc hcv _) ⟨wr.heap.size,0,none⟩ 1 1 [.int .i64 X.1,.int .i64 X.2.1,.int .i64 X.2.2] (by simp [Act.eval]) rfl (by exact World.news_of_block (cs:=#[.int .i64 X.1,.int .i64 X.2.1,.int .i64 X.2.2]) (Blk.new' rfl _ 98)) (by intro u hu;simp at hu;rcases hu with rfl | rfl | rfl <;> rfl) (by decide) (by unfold maxLen;omega) (by omega) (by have:=kN.size;simp;omega) (wr.heap.size+1) (by simp) ?_
       intro g cap2 w4 hown hgrow hat hlt4
       have hgW:Chg (fun q=>some q=(Value.slice ca j cc).ownBlock) wr w4:=((((Chg.refl _ wr).alloc _).drew).grown hgrow (fun q hq=>.inl hq.symm))
       have kN4:Chg () V w4:=kN.trans' hgW (fun q hq e=>by have:=(hcv.lt q e.symm).1;omega)
       have ne:∀ e,e ≠ 98->∀ g cs,Blk wr g cs e->¬ some g=(Value.slice ca j cc).ownBlock:=fun e he g cs hb hg=>by
        obtain ⟨cs',hb'⟩:=own_blk hcv hg.symm
        exact hb.ne hb' he rfl
       have f1:=f0.chg hgW (ne 92 (by decide) _ _ f0)
       have g2:=g0.chg hgW (ne 96 (by decide) _ _ g0)
       have hlv4:IntsV w4 V.heap.size (.slice l2a F.locals.length l2c) F.locals:=hlv2.chg hgW (ne 3 (by decide))
       have kW4:=qA.ch.trans kN4
       have lift4:∀ (a:Addr) v,wr.cell? a=some v->a.block < w.heap.size->w4.cell? a=some v:=fun a v h hb=>((World.cell?_of_block (w:=w) (kW4.block a.block hb (fun e=>e))).trans (World.cell?_of_block (w:=w) (kW.block a.block hb (fun e=>e))).symm).trans h
       refine hK _ _ (fun _=>⟨f1.cell 3,g2.cell 3,lift4 _ _ x1 hgl,lift4 _ _ x2 hgl,lift4 _ _ x3 hgl⟩) ?_
       clear hK K hS0
       try simp only [Act.put,List.setIfInBounds_toArray,List.set_cons_zero,List.set_cons_succ]
       refine wpAnyD_one (i:=23) rfl (by kernel_rfl) (fun K hK=>?_)
       go_simp
       refine hK _ _ (fun _=>⟨f1.cell 3,g2.cell 3,lift4 _ _ x1 hgl,lift4 _ _ x2 hgl,lift4 _ _ x3 hgl⟩) ?_
       clear hK K lift4 y3 y4 x1 x2 x3 hgrow
       try simp only [Act.put,List.setIfInBounds_toArray,List.set_cons_zero,List.set_cons_succ]
       have y5:w4.cell? ⟨V.heap.size+1,3,none⟩=some (.slice ca j cc):=g2.cell 3
       have z5:=g2.frozen 3
       refine wpAnyD_one (i:=24) rfl (by kernel_rfl) (fun K hK=>?_)
       go_simp
       refine hK _ _ (fun h=>absurd rfl h) ?_
       clear hK K
       refine wpAnyD_done (by kernel_rfl) ?_ _
       go_wp2
       refine ⟨⟨j+1,by omega,rfl,_,kN4.setCell _ _ (.inr (by simp)),f1.setOther _ _ (by simp),g2.set 3 _,own_set hlv4 _ _ (own_ne hlv4 g2 (by decide)),?_⟩,by simp [intOf];omega⟩
       rw [HT2.out]
       unfold InsV
       rw [insC_snoc,List.length_append,HTl2.out]
       exact own_set hown _ _ (own_ne hown g2 (by decide))
      ·have e2:j=F.code.length:=by omega
       subst e2
       rw [List.take_of_length_le (Nat.le_refl _)] at hcv
       have qB:=qA.new kN
       have hty2:=hty.chg kN (fun _ _ _ e=>e) (fun _ _ _ e=>e)
       have hfw2:=hfw.chg kN (fun _ _ _ e=>e) (fun _ _ _ e=>e) (fun _ _ _ e=>e)
       have hlv3:IntsV wr w.heap.size (.slice l2a F.locals.length l2c) F.locals:=own_mono hlv2 (by omega)
       have hcv2:InsV 98 wr w.heap.size cv F.code:=own_mono hcv (by omega)
       obtain ⟨ca,cc,rfl⟩:=InsV.slice hcv
       obtain ⟨xs,hx0,hxs,hxk⟩:=hfw2
       obtain ⟨qfa,qfc,hqf⟩:∃ a c,qf=.slice a T.length c:=hfw.slice
       subst hqf
       have hxl:Hid (xs.length=T.length):=by have:=congrArg List.length hx0;simp only [List.length_map] at this;exact this
       have HX0:=hid hx0
       clear hx0 hfw hty
       have hxs0:=hxs
       rw [hxl.out] at hxs
       have r0:wr.cell? ⟨V.heap.size+1,0,none⟩=some (.int .i64 F.args):=g0.cell 0
       have r1:wr.cell? ⟨V.heap.size+1,1,none⟩=some (.slice l2a F.locals.length l2c):=g0.cell 1
       have r2:wr.cell? ⟨V.heap.size+1,2,none⟩=some (.int .i64 F.result):=g0.cell 2
       have r3:wr.cell? ⟨V.heap.size+1,3,none⟩=some (.slice ca F.code.length cc):=g0.cell 3
       have y5:wr.cell? ⟨w.heap.size+2,1,none⟩=some (.slice qfa T.length qfc):=qB.qb.cell 1
       have z5:=qB.qb.frozen 1
       have hszB:=qB.ch.size
       have hltq:=qB.qb.lt
       go_wp2_with (at_builtin;refine wpList_append_lies _ rfl _ _ 33 rfl w.heap.size 96 i' (.agg #[oO,(),oO,()]) 4 64 Try.underlying33 Hj1.out Hj2.out Hj3.out Hj4.out rfl (by decide) _ _ _ rfl (World.ownsRow.alloc hxs _) ⟨wr.heap.size,0,none⟩ 1 1 [.int .i64 F.args,.slice l2a F.locals.length l2c,.int .i64 F.result,.slice ca F.code.length cc] rfl rfl ?c1 ?c2 (by decide) ?c3 ?c4 ?c5 _ rfl ?_)
       case c1=>exact World.news_of_block (B:=wr.heap.size) (cs:=#[.int .i64 F.args,.slice l2a F.locals.length l2c,.int .i64 F.result,.slice ca F.code.length cc]) (Blk.new' rfl _ 96)
       case c2=>intro u hu;simp at hu;rcases hu with rfl | rfl | rfl | rfl <;> rfl
       case c3=>have:=hTl.out;unfold maxLen;omega
       case c4=>have:=hTl.out;omega
       case c5=>simp;omega
       ·intro g cap2 w4 hown hgrow hat hlt4
        have hg3:Chg (fun j=>some j=(Value.slice qfa T.length qfc).ownBlock) wr w4:=(((Chg.refl _ wr).alloc _).grown hgrow (fun j hj=>.inl hj.symm))
        have qD:=qB.grow (by decide) (by decide) hxs hg3
        have ne:∀ g cs e,Blk wr g cs e->e ≠ 96->¬ some g=(Value.slice qfa T.length qfc).ownBlock:=fun g cs e hb he hg=>by
         obtain ⟨cs',hb'⟩:=own_blk hxs hg.symm
         exact hb.ne hb' he rfl
        have hty4:=hty2.chg hg3 (fun g cs hb=>ne g cs 3 hb (by decide)) (fun g cs hb=>ne g cs 47 hb (by decide))
        have hfv4:=FuncsV.snoc (by decide) (by decide) hxs0 hxk (by rw [hxl.out]) hown hg3 hlv3 hcv2
        clear hgrow hg3 hat y5 z5 ne
        have y5:w4.cell? ⟨w.heap.size+2,1,none⟩=some (.slice qfa T.length qfc):=qD.qb.cell 1
        have z5:=qD.qb.frozen 1
        go_wp2
        rw [HX0.out] at hfv4
        refine ⟨⟨k2+1,by omega,rfl,_,qD.setQ 1 _,hty4.set qD.qb (by decide) (by decide) 1 _,?_⟩,by simp [intOf];omega⟩
        rw [HT.out]
        exact hfv4.set qD.qb (by decide) (by decide) (by decide) 1 _
    ·have e2:k2=fs.length:=by omega
     subst e2
     rw [List.take_of_length_le (Nat.le_refl _)] at hfw
     obtain ⟨qfa,qfc,rfl⟩:=hfw.slice
     obtain ⟨qta,qtc,rfl⟩:=(hty.toV (Nat.le_refl _)).slice
     have p0:wr.cell? ⟨w.heap.size+2,0,none⟩=some (.slice qta ls.length qtc):=qA.qb.cell 0
     have p1:wr.cell? ⟨w.heap.size+2,1,none⟩=some (.slice qfa fs.length qfc):=qA.qb.cell 1
     have o0:wr.cell? ⟨w.heap.size+1,0,none⟩=some (.slice none 0 0):=qA.ob.cell 0
     have o1:wr.cell? ⟨w.heap.size+1,1,none⟩=some (.slice none 0 0):=qA.ob.cell 1
     have z0:=qA.ob.frozen 0
     have z1:=qA.ob.frozen 1
     go_wp2
     have b3:=(qA.ob.set 0 (.slice qta ls.length qtc)).set 1 (.slice qfa fs.length qfc)
     have hch4:=chg_set2 wr (w.heap.size+1) (.slice qta ls.length qtc) (.slice qfa fs.length qfc)
     generalize ((wr.setCell ⟨w.heap.size+1,0,none⟩ (.slice qta ls.length qtc)).setCell ⟨w.heap.size+1,1,none⟩ (.slice qfa fs.length qfc))=wf at *
     have hA:=(hty.toV (Nat.le_refl _)).chg hch4 (fun g cs hb e=>hb.ne qA.ob (by decide) e) (fun g cs hb e=>hb.ne qA.ob (by decide) e)
     have hB:=hfw.chg hch4 (fun g cs hb e=>hb.ne qA.ob (by decide) e) (fun g cs hb e=>hb.ne qA.ob (by decide) e) (fun g cs hb e=>hb.ne qA.ob (by decide) e)
     have hD:Chg () w wf:=qA.ch.trans' hch4 (fun i hi e=>by omega)
     clear p0 p1 o0 o1 z0 z1 hch4
     have t0:wf.cell? ⟨w.heap.size+1,0,none⟩=some (.slice qta ls.length qtc):=b3.cell 0
     have t1:wf.cell? ⟨w.heap.size+1,1,none⟩=some (.slice qfa fs.length qfc):=b3.cell 1
     exact bodyPost_ret (v:=.agg #[.slice qta ls.length qtc,.slice qfa fs.length qfc]) (by simp [results,Try.results21,go_sem,t0,t1]) rfl ⟨_,_,rfl,hA,hB,hD⟩
end Go.Proofs.Ytnfnbcbadakofaa
