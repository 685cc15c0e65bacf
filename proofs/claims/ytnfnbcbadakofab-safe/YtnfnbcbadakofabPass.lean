import Derived.Test.YtnfnbcbadakofabFit
import Derived.Deep.RegionHeld3
namespace Go.Proofs.Ytnfnbcbadakofab
open Go.RowKit
def passP (ls:List (List Int)) (fs:List Fn) (f:Fn) (k:Nat) (x:Int × Int × Int) (s:List Int) (sp:List (Option (List Int))) (q:List Int) (wr:Bool):List (Option (List Int)) × List Int × Bool:=
 let N:=ahead ls fs f x.1 x.2.1 x.2.2
 if s.length < N.length \/ (s.drop (s.length - N.length) == N)=false then (sp,q,true) else
 if x.1=16 then (if N.length < s.length then (sp,q,true) else (sp,q,wr)) else
 let L:=s.take (s.length - N.length)++behind ls fs f x.1 x.2.1 x.2.2
 if 8 < L.length then (sp,q,true) else
 let r:=if x.1=13 \/ x.1=14 then goP sp q wr x.2.1 L else (sp,q,wr)
 if x.1=13 then r else goP r.1 r.2.1 r.2.2 ((k:Int)+1) L
def PaPost (w0:World) (tb:Nat) (st:Array Value) (sv:Value) (R:List (Option (List Int)) × List Int × Bool) (w':World):Prop:=
 ∃ qv' xs',xs'.map (·.1)=R.1/\TS w0 w' tb st sv qv' xs' R.2.1 R.2.2
theorem TS.new {w0 w w':World} {tb:Nat} {st:Array Value} {sv qv:Value} {xs:List (Option (List Int) × Value)} {q:List Int} {wr:Bool} (h:TS w0 w tb st sv qv xs q wr) (k:Chg () w w'):TS w0 w' tb st sv qv xs q wr:=
 ⟨h.box.chg k (fun e=>e),h.six,own_chg h.sp k (fun _ _ e=>e),fun x m l hl=>⟨own_chg (h.stk x m l hl).1 k (fun _ _ e=>e),(h.stk x m l hl).2⟩,own_chg h.q k (fun _ _ e=>e),h.ch.trans k,h.tb⟩
theorem Sk.new {w0 w w':World} {qv u:Value} {l:List Int} (h:Sk w0 w qv u l) (k:Chg () w w'):Sk w0 w' qv u l:=⟨own_chg h.1 k (fun _ _ e=>e),h.2⟩
theorem IntsV.dropR {w:World} {base gs sc:Nat} {s:List Int} (h:IntsV w base (.slice gs s.length sc) s) (r:Nat) (hr:r<=s.length) :
 s.length<=sc/\RdI w (.slice (some ⟨gs,r,none⟩) (s.length - r) (sc - r)) (s.drop r):=by
 have hdl:(s.drop r).length=s.length - r:=by simp
 have hle:s.length<=sc/\sc<=maxLen:=by
  rcases h.2 with ⟨hv,_⟩ | ⟨_,cap,cur,hv,_,_,h5,h6,_⟩
  ·cases hv
  ·simp only [Value.slice.injEq] at hv;rw [hv.2.2];exact ⟨h5,h6⟩
 refine ⟨hle.1,.inr ⟨gs,r,sc - r,by rw [hdl],by rw [hdl];omega,by omega,fun j hj=>?_⟩⟩
 rw [hdl] at hj
 obtain ⟨g',c',he,_,_,_,hc⟩:=h.form (by omega)
 simp only [Value.slice.injEq,Option.some.injEq,Addr.mk.injEq] at he
 rw [he.1.1,hc (r+j) (by omega)]
 congr 2
 rw [List.getD_eq_getElem?_getD,List.getD_eq_getElem?_getD,List.getElem?_drop]
theorem sk_new {w0 w w':World} {tb:Nat} {st:Array Value} {sv qv u:Value} {xs:List (Option (List Int) × Value)} {q l:List Int} {wr:Bool} (h:TS w0 w tb st sv qv xs q wr) (hu:IntsV w' w.heap.size u l):Sk w0 w' qv u l:=
 ⟨own_mono hu h.ch.size,fun g hg e=>by have h1:=(hu.lt g hg).1;have h2:=(h.q.lt g e).2;omega⟩
theorem pass_then {ls:List (List Int)} {fs:List Fn} {f:Fn} {k r:Nat} {op A B:Int} {s N q:List Int} {sp:List (Option (List Int))} {wr:Bool} {R:List (Option (List Int)) × List Int × Bool} (HP:passP ls fs f k (op,A,B) s sp q wr=R) (HN:ahead ls fs f op A B=N) (hr:s.length=r+N.length) (hb:(s.drop r == N)=true) :
 (op=16->0 < r->R=(sp,q,true))/\(op=16->¬ 0 < r->R=(sp,q,wr))/\(¬ op=16->(8 < (s.take r++behind ls fs f op A B).length->R=(sp,q,true))/\(¬ 8 < (s.take r++behind ls fs f op A B).length ->
   (op=13->R=goP sp q wr A (s.take r++behind ls fs f op A B))/\(op=14->R=goP (goP sp q wr A (s.take r++behind ls fs f op A B)).1 (goP sp q wr A (s.take r++behind ls fs f op A B)).2.1 (goP sp q wr A (s.take r++behind ls fs f op A B)).2.2 ((k:Int)+1) (s.take r++behind ls fs f op A B)) /\
   (¬ op=13->¬ op=14->R=goP sp q wr ((k:Int)+1) (s.take r++behind ls fs f op A B)))):=by
 have er:s.length - N.length=r:=by omega
 have h0:¬ (s.length < N.length \/ (s.drop (s.length - N.length) == N)=false):=by rw [er,hb];simp;omega
 subst HP
 unfold passP
 simp only [HN]
 rw [if_neg h0,er]
 refine ⟨fun h1 h2=>by rw [if_pos h1,if_pos (by omega)],fun h1 h2=>by rw [if_pos h1,if_neg (by omega)],fun h1=>⟨fun h2=>by rw [if_neg h1,if_pos h2],fun h2=>⟨fun h3=>?_,fun h3=>?_,fun h3 h4=>?_⟩⟩⟩
 ·rw [if_neg h1,if_neg h2,if_pos h3,if_pos (.inl h3)]
 ·rw [if_neg h1,if_neg h2,if_neg (by omega),if_pos (.inr h3)]
 ·rw [if_neg h1,if_neg h2,if_neg h3,if_neg (by omega)]
theorem TS.drew {w0 w:World} {tb:Nat} {st:Array Value} {sv qv:Value} {xs:List (Option (List Int) × Value)} {q:List Int} {wr:Bool} (h:TS w0 w tb st sv qv xs q wr):TS w0 w.drew tb st sv qv xs q wr:=h.new ((Chg.refl _ w).drew)
theorem pass_cells {w0 w w1:World} {tb nbk:Nat} {s0 s1 s2 s3 s4 s5 sv qv:Value} {op A B:Value} {xs:List (Option (List Int) × Value)} {q:List Int} {wr:Bool} (h:TS w0 w tb #[s0,s1,s2,s3,s4,s5] sv qv xs q wr) (nb:Blk w nbk #[op,A,B] 93) (k:Chg () w w1) :
 w1.cell? ⟨tb,0,none⟩=some s0/\w1.cell? ⟨tb,1,none⟩=some s1/\w1.cell? ⟨tb,2,none⟩=some s2/\w1.cell? ⟨tb,3,none⟩=some s3/\w1.cell? ⟨tb,4,none⟩=some s4/\w1.cell? ⟨tb,5,none⟩=some s5/\w1.cell? ⟨nbk,0,none⟩=some op/\w1.cell? ⟨nbk,1,none⟩=some A/\w1.cell? ⟨nbk,2,none⟩=some B:=
 have h1:=(h.new k).box
 have n1:=nb.chg k (fun e=>e)
 ⟨h1.cell 0,h1.cell 1,h1.cell 2,h1.cell 3,h1.cell 4,h1.cell 5,n1.cell 0,n1.cell 1,n1.cell 2⟩
set_option maxHeartbeats 1000000 in
set_option maxRecDepth 100000 in
theorem pass_core (w0 w:World) (tb b0:Nat) (tv fv lv:Value) (gk cc:Nat) (ls:List (List Int)) (fs:List Fn) (f:Fn) (g scap:Nat) (qv:Value) (xs:List (Option (List Int) × Value)) (q:List Int) (wr:Bool) (k:Nat) (s:List Int) (op A B:Int)
 (h:TS w0 w tb #[tv,fv,.int .i64 f.args,lv,.int .i64 f.result,.slice gk f.code.length cc] (.slice g xs.length scap) qv xs q wr)
 (hb0:b0<=w0.heap.size) (ht:TypesV w0 b0 tv ls) (hf:FuncsV 78 93 w0 b0 fv fs) (hl:IntsV w0 b0 lv f.locals) (hn:ls.length<=10000)
 (hk:k < xs.length) (hkc:k < f.code.length) (hx:xs[k].1=some s) (hsl:s.length<=10000) (hNl:(ahead ls fs f op A B).length<=10000) (hGl:(behind ls fs f op A B).length<=10000) (hop:0<=op/\op<=18) (hql:q.length<=9000) (hxl:xs.length<=10000) (hsx:∀ x ∈ xs,∀ s,x.1=some s->s.length<=10000)
 (c0:w0.cell? ⟨gk,k * 3,none⟩=some (.int .i64 op)) (c1:w0.cell? ⟨gk,k * 3+1,none⟩=some (.int .i64 A)) (c2:w0.cell? ⟨gk,k * 3+2,none⟩=some (.int .i64 B))
 (R:List (Option (List Int)) × List Int × Bool) (HR:Hid (passP ls fs f k (op,A,B) s (xs.map (·.1)) q wr=R)) :
 Calls Try.prog 50 #[.pointer tb,k] w fun e w'=>e=.returned (.tuple #[])/\PaPost w0 tb #[tv,fv,.int .i64 f.args,lv,.int .i64 f.result,.slice gk f.code.length cc] (.slice g xs.length scap) R w':=by
 have lift0:∀ (a:Addr) v,w0.cell? a=some v->w.cell? a=some v:=fun a v h'=>(World.cell?_of_block (h.ch.block a.block (World.block_lt_of_cell? w0 a h') (fun e=>e))).trans h'
 have c0:=lift0 _ _ c0
 have c1:=lift0 _ _ c1
 have c2:=lift0 _ _ c2
 have d0:w.cell? ⟨tb,0,none⟩=some tv:=h.box.cell 0
 have d1:w.cell? ⟨tb,1,none⟩=some fv:=h.box.cell 1
 have d2:w.cell? ⟨tb,2,none⟩=some (.int .i64 f.args):=h.box.cell 2
 have d3:w.cell? ⟨tb,3,none⟩=some lv:=h.box.cell 3
 have d4:w.cell? ⟨tb,4,none⟩=some (.int .i64 f.result):=h.box.cell 4
 have d5:w.cell? ⟨tb,5,none⟩=some (.slice gk f.code.length cc):=h.box.cell 5
 have d6:w.cell? ⟨tb,6,none⟩=some (.slice g xs.length scap):=h.box.cell 6
 have hcells:=fun j u=>World.ownsRow.cells (g:=g) h.sp rfl j u
 have hadd:∀ j,(⟨g,0,none⟩:Addr).add j=⟨g,j,none⟩:=by intro j;unfold Addr.add;split <;> simp_all
 obtain ⟨_,s1⟩:=spC_get xs k hk
 have e1:=hcells _ _ s1
 rw [hadd] at e1
 have hst:Sk w0 w qv xs[k].2 s:=h.stk xs[k] (List.getElem_mem hk) s (by rw [hx];rfl)
 generalize xs[k].2=sval at *
 obtain ⟨sa,sc,rfl⟩:=hst.1.slice
 have hk1:(k:Int) < (xs.length:Int):=by omega
 have hk2:(k:Int) < (f.code.length:Int):=by omega
 have htl:=h.box.lt
 have hgl:=World.block_lt_of_cell? w _ c0
 simp only at hgl
 have hgg:=World.block_lt_of_cell? w _ e1
 simp only at hgg
 obtain ⟨ta,tc,rfl⟩:=ht.slice
 obtain ⟨fa,fc,rfl⟩:=hf.slice
 obtain ⟨la,lc,rfl⟩:=hl.slice
 clear hcells hadd lift0 s1
 go_enter Try.func50,Try.ntmps50
 go_wp2
 have kA:Chg () w (w.alloc (Obj.cells #[op,A,B] 93)):=(Chg.refl _ w).alloc _
 have nb:Blk _ w.heap.size _ 93:=Blk.new w #[.int .i64 op,.int .i64 A,.int .i64 B] 93
 have hW:=h.new kA
 have hsW:=hst.new kA
 clear c0 c1 c2 d0 d1 d2 d3 d4 d5 d6 e1 htl hgl hgg
 generalize w.alloc (Obj.cells #[op,A,B] 93)=W at *
 generalize hnbe:w.heap.size=nbk at *
 have d0:W.cell? ⟨tb,0,none⟩=some (.slice ta ls.length tc):=hW.box.cell 0
 have d1:W.cell? ⟨tb,1,none⟩=some (.slice fa fs.length fc):=hW.box.cell 1
 have d2:W.cell? ⟨tb,2,none⟩=some (.int .i64 f.args):=hW.box.cell 2
 have d3:W.cell? ⟨tb,3,none⟩=some (.slice la f.locals.length lc):=hW.box.cell 3
 have d4:W.cell? ⟨tb,4,none⟩=some (.int .i64 f.result):=hW.box.cell 4
 have d5:W.cell? ⟨tb,5,none⟩=some (.slice gk f.code.length cc):=hW.box.cell 5
 have n0:W.cell? ⟨nbk,0,none⟩=some (.int .i64 op):=nb.cell 0
 have n1:W.cell? ⟨nbk,1,none⟩=some (.int .i64 A):=nb.cell 1
 have n2:W.cell? ⟨nbk,2,none⟩=some (.int .i64 B):=nb.cell 2
 have kD:Chg () w0 W.drew:=hW.ch.drew
 have htD:=ht.new kD
 have hfD:=hf.chg kD (fun _ _ _ e=>e) (fun _ _ _ e=>e) (fun _ _ _ e=>e)
 have hlD:=IntsV.chg hl kD (fun _ _ _ e=>e)
 have hbD:b0<=W.drew.heap.size:=Nat.le_trans hb0 kD.size
 have HAh:=stackAhead_any _ _ _ (.slice gk f.code.length cc) ls fs f op A B W.drew b0 hbD htD hfD hlD ⟨_,_,_,rfl⟩ hn hop.1 hop.2
 have HAH:Hid (Calls Try.prog 75 #[.agg #[.slice ta ls.length tc,.slice fa fs.length fc],.agg #[f.args,.slice la f.locals.length lc,f.result,.slice gk f.code.length cc],.agg #[op,A,B]] W.drew fun e w' =>
  ∃ v,e=.returned v/\IntsV w' b0 v (ahead ls fs f op A B)/\Chg () W.drew w'):=HAh
 clear HAh htD hfD hlD
 go_region_held3 (fun w'=>w'.cell? ⟨tb,0,none⟩=some (.slice ta ls.length tc)/\w'.cell? ⟨tb,1,none⟩=some (.slice fa fs.length fc)/\w'.cell? ⟨tb,2,none⟩=some (.int .i64 f.args)/\w'.cell? ⟨tb,3,none⟩=some (.slice la f.locals.length lc)/\w'.cell? ⟨tb,4,none⟩=some (.int .i64 f.result)/\w'.cell? ⟨tb,5,none⟩=some (.slice gk f.code.length cc)/\w'.cell? ⟨nbk,0,none⟩=some (.int .i64 op)/\w'.cell? ⟨nbk,1,none⟩=some (.int .i64 A)/\w'.cell? ⟨nbk,2,none⟩=some (.int .i64 B)) (go_keep) (first | (go_at_call 75;refine (Calls.mono HAH.out ?_);rintro e w1 ⟨nv,rfl,hnv,hch1⟩;obtain ⟨q0,q1,q2,q3,q4,q5,q6,q7,q8⟩:=pass_cells (hW.drew) nb.drew hch1))
 clear q0 q1 q2 q3 q4 q5 q6 q7 q8 d0 d1 d2 d3 d4 d5 n0 n1 n2 HAH
 have hT1:=hW.drew.new hch1
 have hs1:Sk w0 w1 qv (.slice sa s.length sc) s:=(hsW.new ((Chg.refl _ W).drew)).new hch1
 have nb1:=nb.drew.chg hch1 (fun e=>e)
 clear hW hsW nb hch1 kD hbD kA h hst
 have HP:=hid HR
 clear HR
 obtain ⟨na,nc,rfl⟩:=hnv.slice
 generalize hN:ahead ls fs f op A B=N at *
 have HN:=hid hN
 clear hN
 have d8:w1.cell? ⟨tb,8,none⟩=some (.bool wr):=hT1.box.cell 8
 have z8:=hT1.box.frozen 8
 have m0:w1.cell? ⟨nbk,0,none⟩=some (.int .i64 op):=nb1.cell 0
 have m1:w1.cell? ⟨nbk,1,none⟩=some (.int .i64 A):=nb1.cell 1
 by_cases hlt:s.length < N.length
 ·have hR:R=(xs.map (·.1),q,true):=by rw [<-HP.out];unfold passP;simp only [HN.out];rw [if_pos (.inl hlt)]
  have HRR:=hid hR
  clear hR HP
  have hlt':(s.length:Int) < (N.length:Int):=by omega
  go_wp2
  refine bodyPost_ret (v:=.tuple #[]) (by simp [results,Try.results50]) rfl ⟨rfl,?_⟩
  rw [HRR.out]
  exact ⟨qv,xs,rfl,hT1.wrong 0⟩
 ·have hsf:(sa=none/\s=[]/\sc=0) \/ ∃ gs,sa=some ⟨gs,0,none⟩:=by
   rcases hs1.1.2 with ⟨hv,h0⟩ | ⟨gs,cap,cur,hv,_⟩
   ·simp only [Value.slice.injEq] at hv
    exact .inl ⟨hv.1,List.eq_nil_of_length_eq_zero h0,hv.2.2⟩
   ·simp only [Value.slice.injEq] at hv
    exact .inr ⟨gs,hv.1⟩
  have hle:N.length<=s.length:=by omega
  obtain ⟨r,hr⟩:∃ r:Nat,s.length=r+N.length:=⟨s.length - N.length,by omega⟩
  have hr1:(s.length:Int) - (N.length:Int)=(r:Int):=by omega
  have hr2:r<=s.length:=by omega
  have HRN:=hid hr
  clear hr hlt
  have hdl:(s.drop r).length<=10000:=by simp;omega
  have hnR:RdI w1 (.slice na N.length nc) N:=hnv.rdI
  have hr3:(r:Int)<=(s.length:Int):=by omega
  have HF:Hid ((s.drop r == N)=false->R=(xs.map (·.1),q,true)):=by
   intro hb
   rw [<-HP.out];unfold passP;simp only [HN.out]
   rw [if_pos (.inr (by rw [show s.length - N.length=r by omega];exact hb))]
  have cases3:(sa=none/\s.length=0/\sc=0/\r=0) \/ (∃ gs,sa=some ⟨gs,0,none⟩/\r=sc/\RdI w1 (.slice (some ⟨gs,0,none⟩) (s.length - r) 0) (s.drop r)) \/ (∃ gs,sa=some ⟨gs,0,none⟩/\r < sc/\RdI w1 (.slice (some ⟨gs,r,none⟩) (s.length - r) (sc - r)) (s.drop r)):=by
   rcases hsf with ⟨h1,h2,h3⟩ | ⟨gs,rfl⟩
   ·exact .inl ⟨h1,by rw [h2];rfl,h3,by rw [h2] at hr2;simpa using hr2⟩
   ·obtain ⟨hcap,hrd⟩:=hs1.1.dropR r hr2
    by_cases hc:sc=r
    ·refine .inr (.inl ⟨gs,rfl,hc.symm,?_⟩)
     have h0:s.drop r=[]:=List.drop_eq_nil_of_le (by omega)
     rw [h0,show s.length - r=0 by omega]
     exact .inr ⟨gs,0,0,rfl,Nat.le_refl _,Nat.zero_le _,fun j hj=>by simp at hj⟩
    ·exact .inr (.inr ⟨gs,rfl,by omega,hrd⟩)
  have TK:IntsV w1 w0.heap.size (.slice sa r sc) (s.take r):=hs1.1.take r hr2 (fun e=>by
   rcases hsf with ⟨h1,h2,h3⟩ | ⟨gs,h1⟩
   ·exact ⟨by rw [h2] at hr2;simpa using hr2,h3⟩
   ·rw [h1] at e;cases e)
  clear hsf
  rcases cases3 with ⟨rfl,h01,rfl,rfl⟩ | ⟨gs,rfl,rfl,RD⟩ | ⟨gs,rfl,hrc,RD⟩
  ·have hs0:s=[]:=List.eq_nil_of_length_eq_zero h01
   subst hs0
   have hN0:N=[]:=List.eq_nil_of_length_eq_zero (by simpa using hle)
   subst hN0
   have TK:IntsV w1 w0.heap.size (.slice none 0 0) []:=World.ownsRow_nil _ _ _ _
   have RD:=True.intro
   clear hr1 hr3 h01 HF
   have HF:=True.intro
   go_wp2_with fail
   have HSM:Hid (Calls Try.prog 74 #[(),.slice na 0 nc] w1 fun e w'=>e=.returned (.bool true)/\∃ n,w'=w1.drewN n):=sameList_any _ _ ([]:List Int) [] w1 (by simp) (.inl ⟨rfl,rfl⟩) hnR
   refine (Calls.mono HSM.out ?_)
   rintro e w2 ⟨rfl,n2,rfl⟩
   have hT2:=hT1.drewN n2
   have hTK:IntsV (w1.drewN n2) w0.heap.size (.slice none 0 0) ([]:List Int):=own_drewN TK n2
   have nb2:=nb1.drewN n2
   clear d8 z8 m0 m1 hT1 hs1 nb1 TK RD hnR hnv
   generalize w1.drewN n2=w2 at *
   have d8:w2.cell? ⟨tb,8,none⟩=some (.bool wr):=hT2.box.cell 8
   have z8:=hT2.box.frozen 8
   have m0:w2.cell? ⟨nbk,0,none⟩=some (.int .i64 op):=nb2.cell 0
   have hb:(([]:List Int).drop 0 == [])=true:=rfl
   have HQ:=pass_then HP.out HN.out HRN.out hb
   have HQ':Hid _:=HQ
   clear hb HF HP HQ
   by_cases h16:op=16
   ·have h16':(op == 16)=true:=by simp [h16]
    by_cases hr0:0 < 0
    ·exact absurd hr0 (by omega)
    ·have HRR:Hid (R=(xs.map (·.1),q,wr)):=HQ'.out.2.1 h16 hr0
     clear h16 HQ'
     go_wp2
     refine bodyPost_ret (v:=.tuple #[]) (by simp [results,Try.results50]) rfl ⟨rfl,?_⟩
     rw [HRR.out]
     exact ⟨qv,xs,rfl,hT2⟩
   ·have h16':(op == 16)=false:=by simp [h16]
    have HQ2:Hid _:=HQ'.out.2.2 h16
    clear HQ' h16
    have d0:w2.cell? ⟨tb,0,none⟩=some (.slice ta ls.length tc):=hT2.box.cell 0
    have d1:w2.cell? ⟨tb,1,none⟩=some (.slice fa fs.length fc):=hT2.box.cell 1
    have d2:w2.cell? ⟨tb,2,none⟩=some (.int .i64 f.args):=hT2.box.cell 2
    have d3:w2.cell? ⟨tb,3,none⟩=some (.slice la f.locals.length lc):=hT2.box.cell 3
    have d4:w2.cell? ⟨tb,4,none⟩=some (.int .i64 f.result):=hT2.box.cell 4
    have d5:w2.cell? ⟨tb,5,none⟩=some (.slice gk f.code.length cc):=hT2.box.cell 5
    have m1:w2.cell? ⟨nbk,1,none⟩=some (.int .i64 A):=nb2.cell 1
    have m2:w2.cell? ⟨nbk,2,none⟩=some (.int .i64 B):=nb2.cell 2
    have kD:Chg () w0 w2.drew:=hT2.ch.drew
    have HBH:Hid (Calls Try.prog 76 #[.agg #[.slice ta ls.length tc,.slice fa fs.length fc],.agg #[f.args,.slice la f.locals.length lc,f.result,.slice gk f.code.length cc],.agg #[op,A,B]] w2.drew fun e w' =>
     ∃ v,e=.returned v/\IntsV w' b0 v (behind ls fs f op A B)/\Chg () w2.drew w'):=
     stackBehind_any _ _ _ _ ls fs f op A B w2.drew b0 (Nat.le_trans hb0 kD.size) (ht.new kD) (hf.chg kD (fun _ _ _ e=>e) (fun _ _ _ e=>e) (fun _ _ _ e=>e)) (IntsV.chg hl kD (fun _ _ _ e=>e)) ⟨_,_,_,rfl⟩ hn hop.1 hop.2
    clear kD
    go_wp2
    go_region_held3 (fun w'=>w'.cell? ⟨tb,0,none⟩=some (.slice ta ls.length tc)/\w'.cell? ⟨tb,1,none⟩=some (.slice fa fs.length fc)/\w'.cell? ⟨tb,2,none⟩=some (.int .i64 f.args)/\w'.cell? ⟨tb,3,none⟩=some (.slice la f.locals.length lc)/\w'.cell? ⟨tb,4,none⟩=some (.int .i64 f.result)/\w'.cell? ⟨tb,5,none⟩=some (.slice gk f.code.length cc)/\w'.cell? ⟨nbk,0,none⟩=some (.int .i64 op)/\w'.cell? ⟨nbk,1,none⟩=some (.int .i64 A)/\w'.cell? ⟨nbk,2,none⟩=some (.int .i64 B)) (go_keep) (first | (go_at_call 76;refine (Calls.mono HBH.out ?_);rintro e w3 ⟨gv,rfl,hgv,hch3⟩;obtain ⟨q0,q1,q2,q3,q4,q5,q6,q7,q8⟩:=pass_cells (hT2.drew) nb2.drew hch3))
    clear q0 q1 q2 q3 q4 q5 q6 q7 q8 d0 d1 d2 d3 d4 d5 m0 m1 m2 d8 z8 HBH
    have hT3:=hT2.drew.new hch3
    have hTK3:IntsV w3 w0.heap.size (.slice none 0 0) ([]:List Int):=IntsV.chg (own_drew hTK) hch3 (fun _ _ _ e=>e)
    have nb3:=nb2.drew.chg hch3 (fun e=>e)
    clear hT2 hTK nb2 hch3
    obtain ⟨ga,gc,rfl⟩:=hgv.slice
    generalize behind ls fs f op A B=G at *
    go_wp2_with fail
    refine (joined_any _ _ ([]:List Int) G w3 (by simp) hGl hTK3.rdI hgv.rdI).mono ?_
    rintro e w4 ⟨uv,rfl,huv,hch4⟩
    have hT4:=hT3.new hch4
    have nb4:=nb3.chg hch4 (fun e=>e)
    have hU:Sk w0 w4 qv uv (([]:List Int).take 0++G):=sk_new hT3 huv
    clear hT3 nb3 hTK3 hgv hch4 huv
    generalize ([]:List Int).take 0++G=L at *
    obtain ⟨ua,uc,rfl⟩:=hU.1.slice
    have d8:w4.cell? ⟨tb,8,none⟩=some (.bool wr):=hT4.box.cell 8
    have z8:=hT4.box.frozen 8
    have m0:w4.cell? ⟨nbk,0,none⟩=some (.int .i64 op):=nb4.cell 0
    have m1:w4.cell? ⟨nbk,1,none⟩=some (.int .i64 A):=nb4.cell 1
    by_cases h8:8 < L.length
    ·have HRR:Hid (R=(xs.map (·.1),q,true)):=HQ2.out.1 h8
     have h8':(8:Int) < (L.length:Int):=by omega
     clear HQ2
     go_wp2
     refine bodyPost_ret (v:=.tuple #[]) (by simp [results,Try.results50]) rfl ⟨rfl,?_⟩
     rw [HRR.out]
     exact ⟨qv,xs,rfl,hT4.wrong 0⟩
    ·have h8':(L.length:Int)<=(8:Int):=by omega
     have HQ3:Hid _:=HQ2.out.2 h8
     clear HQ2
     have hL8:L.length<=10000:=by omega
     by_cases h13:op=13
     ·have HRR:=HQ3.out.1 h13
      have HRR':=hid HRR
      have h13a:(op == 13)=true:=by simp [h13]
      have h13b:(op != 13)=false:=by simp [h13]
      clear HRR HQ3 h13
      go_wp2_with fail
      refine (goOn_any w0 w4 tb _ _ qv xs q wr A _ L hT4 hU (by omega) hxl hsx).mono ?_
      rintro e w5 ⟨rfl,qv5,xs5,hm5,hT5,hK5,hS5⟩
      have nb5:=hK5 _ _ _ nb4 (by decide) (by decide) (by decide)
      clear d8 z8 m0 m1
      have m0:w5.cell? ⟨nbk,0,none⟩=some (.int .i64 op):=nb5.cell 0
      go_wp2
      go_end0
      refine ⟨rfl,?_⟩
      rw [HRR'.out]
      exact ⟨qv5,xs5,hm5,hT5⟩
     ·by_cases h14:op=14
      ·have HRR:=HQ3.out.2.1 h14
       have h13a:(op == 13)=false:=by simp [h13]
       have h13b:(op != 13)=true:=by simp [h13]
       have h14a:(op == 14)=true:=by simp [h14]
       have HRR':=hid HRR
       clear HRR HQ3 h13 h14
       have hgo:=goP_ok (q:=q) (wr:=wr) (i:=A) (sp:=xs.map (·.1)) (l:=L) (M:=10000) (fun o ho s' hs'=>by obtain ⟨x,hx',rfl⟩:=List.mem_map.1 ho;exact hsx x hx' s' hs') hL8
       have HGO:Hid _:=hgo
       clear hgo
       go_wp2_with fail
       refine (goOn_any w0 w4 tb _ _ qv xs q wr A _ L hT4 hU (by omega) hxl hsx).mono ?_
       rintro e w5 ⟨rfl,qv5,xs5,hm5,hT5,hK5,hS5⟩
       have nb5:=hK5 _ _ _ nb4 (by decide) (by decide) (by decide)
       clear d8 z8 m0 m1
       have m0:w5.cell? ⟨nbk,0,none⟩=some (.int .i64 op):=nb5.cell 0
       have hx5:xs5.length<=10000:=by have h1:=congrArg List.length hm5;rw [HGO.out.2.2] at h1;simp only [List.length_map] at h1;omega
       have hs5:∀ x ∈ xs5,∀ s',x.1=some s'->s'.length<=10000:=fun x hx' s' hs'=>HGO.out.1 x.1 (by rw [<-hm5];exact List.mem_map_of_mem hx') s' hs'
       have hq5:(goP (xs.map (·.1)) q wr A L).2.1.length<=10000:=by have:=HGO.out.2.1;omega
       have HM5:=hid hm5
       clear hm5
       have hU5:=hS5 _ _ hU
       clear hS5 hK5
       go_wp2_with fail
       refine (goOn_any w0 w5 tb _ _ qv5 xs5 _ _ _ _ L hT5 hU5 hq5 hx5 hs5).mono ?_
       rintro e w6 ⟨rfl,qv6,xs6,hm6,hT6,hK6,hS6⟩
       rw [HM5.out] at hm6 hT6
       go_wp2
       go_end0
       refine ⟨rfl,?_⟩
       rw [HRR'.out]
       exact ⟨qv6,xs6,hm6,hT6⟩
      ·have HRR:=HQ3.out.2.2 h13 h14
       have HRR':=hid HRR
       have h13a:(op == 13)=false:=by simp [h13]
       have h13b:(op != 13)=true:=by simp [h13]
       have h14a:(op == 14)=false:=by simp [h14]
       clear HRR HQ3 h13 h14
       go_wp2_with fail
       refine (goOn_any w0 w4 tb _ _ qv xs q wr _ _ L hT4 hU (by omega) hxl hsx).mono ?_
       rintro e w5 ⟨rfl,qv5,xs5,hm5,hT5,hK5,hS5⟩
       go_wp2
       go_end0
       refine ⟨rfl,?_⟩
       rw [HRR'.out]
       exact ⟨qv5,xs5,hm5,hT5⟩
  ·go_wp2_with fail
   refine (sameList_any _ _ (s.drop r) N _ hdl RD hnR).mono ?_
   rintro e w2 ⟨rfl,n2,rfl⟩
   have hT2:=hT1.drewN n2
   have hTK:IntsV (w1.drewN n2) w0.heap.size (.slice gs r r) (s.take r):=own_drewN TK n2
   have nb2:=nb1.drewN n2
   clear d8 z8 m0 m1 hT1 hs1 nb1 TK RD hnR hnv
   generalize w1.drewN n2=w2 at *
   have d8:w2.cell? ⟨tb,8,none⟩=some (.bool wr):=hT2.box.cell 8
   have z8:=hT2.box.frozen 8
   have m0:w2.cell? ⟨nbk,0,none⟩=some (.int .i64 op):=nb2.cell 0
   cases hb:(s.drop r == N) with
   | false =>
    have HRR:Hid (R=(xs.map (·.1),q,true)):=HF.out hb
    clear HP HF hb
    go_wp2
    refine bodyPost_ret (v:=.tuple #[]) (by simp [results,Try.results50]) rfl ⟨rfl,?_⟩
    rw [HRR.out]
    exact ⟨qv,xs,rfl,hT2.wrong 0⟩
   | true =>
    have HQ:=pass_then HP.out HN.out HRN.out hb
    have HQ':Hid _:=HQ
    clear hb HF HP HQ
    by_cases h16:op=16
    ·have h16':(op == 16)=true:=by simp [h16]
     by_cases hr0:0 < r
     ·have HRR:Hid (R=(xs.map (·.1),q,true)):=HQ'.out.1 h16 hr0
      have hr0':(0:Int) < (r:Int):=by omega
      clear h16 HQ'
      go_wp2
      refine bodyPost_ret (v:=.tuple #[]) (by simp [results,Try.results50]) rfl ⟨rfl,?_⟩
      rw [HRR.out]
      exact ⟨qv,xs,rfl,hT2.wrong 0⟩
     ·have HRR:Hid (R=(xs.map (·.1),q,wr)):=HQ'.out.2.1 h16 hr0
      have hr0':(r:Int)<=(0:Int):=by omega
      clear h16 HQ'
      go_wp2
      refine bodyPost_ret (v:=.tuple #[]) (by simp [results,Try.results50]) rfl ⟨rfl,?_⟩
      rw [HRR.out]
      exact ⟨qv,xs,rfl,hT2⟩
    ·have h16':(op == 16)=false:=by simp [h16]
     have HQ2:Hid _:=HQ'.out.2.2 h16
     clear HQ' h16
     have d0:w2.cell? ⟨tb,0,none⟩=some (.slice ta ls.length tc):=hT2.box.cell 0
     have d1:w2.cell? ⟨tb,1,none⟩=some (.slice fa fs.length fc):=hT2.box.cell 1
     have d2:w2.cell? ⟨tb,2,none⟩=some (.int .i64 f.args):=hT2.box.cell 2
     have d3:w2.cell? ⟨tb,3,none⟩=some (.slice la f.locals.length lc):=hT2.box.cell 3
     have d4:w2.cell? ⟨tb,4,none⟩=some (.int .i64 f.result):=hT2.box.cell 4
     have d5:w2.cell? ⟨tb,5,none⟩=some (.slice gk f.code.length cc):=hT2.box.cell 5
     have m1:w2.cell? ⟨nbk,1,none⟩=some (.int .i64 A):=nb2.cell 1
     have m2:w2.cell? ⟨nbk,2,none⟩=some (.int .i64 B):=nb2.cell 2
     have kD:Chg () w0 w2.drew:=hT2.ch.drew
     have HBH:Hid (Calls Try.prog 76 #[.agg #[.slice ta ls.length tc,.slice fa fs.length fc],.agg #[f.args,.slice la f.locals.length lc,f.result,.slice gk f.code.length cc],.agg #[op,A,B]] w2.drew fun e w' =>
      ∃ v,e=.returned v/\IntsV w' b0 v (behind ls fs f op A B)/\Chg () w2.drew w'):=
      stackBehind_any _ _ _ _ ls fs f op A B w2.drew b0 (Nat.le_trans hb0 kD.size) (ht.new kD) (hf.chg kD (fun _ _ _ e=>e) (fun _ _ _ e=>e) (fun _ _ _ e=>e)) (IntsV.chg hl kD (fun _ _ _ e=>e)) ⟨_,_,_,rfl⟩ hn hop.1 hop.2
     clear kD
     go_wp2
     go_region_held3 (fun w'=>w'.cell? ⟨tb,0,none⟩=some (.slice ta ls.length tc)/\w'.cell? ⟨tb,1,none⟩=some (.slice fa fs.length fc)/\w'.cell? ⟨tb,2,none⟩=some (.int .i64 f.args)/\w'.cell? ⟨tb,3,none⟩=some (.slice la f.locals.length lc)/\w'.cell? ⟨tb,4,none⟩=some (.int .i64 f.result)/\w'.cell? ⟨tb,5,none⟩=some (.slice gk f.code.length cc)/\w'.cell? ⟨nbk,0,none⟩=some (.int .i64 op)/\w'.cell? ⟨nbk,1,none⟩=some (.int .i64 A)/\w'.cell? ⟨nbk,2,none⟩=some (.int .i64 B)) (go_keep) (first | (go_at_call 76;refine (Calls.mono HBH.out ?_);rintro e w3 ⟨gv,rfl,hgv,hch3⟩;obtain ⟨q0,q1,q2,q3,q4,q5,q6,q7,q8⟩:=pass_cells (hT2.drew) nb2.drew hch3))
     clear q0 q1 q2 q3 q4 q5 q6 q7 q8 d0 d1 d2 d3 d4 d5 m0 m1 m2 d8 z8 HBH
     have hT3:=hT2.drew.new hch3
     have hTK3:IntsV w3 w0.heap.size (.slice gs r r) (s.take r):=IntsV.chg (own_drew hTK) hch3 (fun _ _ _ e=>e)
     have nb3:=nb2.drew.chg hch3 (fun e=>e)
     clear hT2 hTK nb2 hch3
     obtain ⟨ga,gc,rfl⟩:=hgv.slice
     generalize behind ls fs f op A B=G at *
     go_wp2_with fail
     refine (joined_any _ _ (s.take r) G w3 (by simp;omega) hGl hTK3.rdI hgv.rdI).mono ?_
     rintro e w4 ⟨uv,rfl,huv,hch4⟩
     have hT4:=hT3.new hch4
     have nb4:=nb3.chg hch4 (fun e=>e)
     have hU:Sk w0 w4 qv uv (s.take r++G):=sk_new hT3 huv
     clear hT3 nb3 hTK3 hgv hch4 huv
     generalize s.take r++G=L at *
     obtain ⟨ua,uc,rfl⟩:=hU.1.slice
     have d8:w4.cell? ⟨tb,8,none⟩=some (.bool wr):=hT4.box.cell 8
     have z8:=hT4.box.frozen 8
     have m0:w4.cell? ⟨nbk,0,none⟩=some (.int .i64 op):=nb4.cell 0
     have m1:w4.cell? ⟨nbk,1,none⟩=some (.int .i64 A):=nb4.cell 1
     by_cases h8:8 < L.length
     ·have HRR:Hid (R=(xs.map (·.1),q,true)):=HQ2.out.1 h8
      have h8':(8:Int) < (L.length:Int):=by omega
      clear HQ2
      go_wp2
      refine bodyPost_ret (v:=.tuple #[]) (by simp [results,Try.results50]) rfl ⟨rfl,?_⟩
      rw [HRR.out]
      exact ⟨qv,xs,rfl,hT4.wrong 0⟩
     ·have h8':(L.length:Int)<=(8:Int):=by omega
      have HQ3:Hid _:=HQ2.out.2 h8
      clear HQ2
      have hL8:L.length<=10000:=by omega
      by_cases h13:op=13
      ·have HRR:=HQ3.out.1 h13
       have HRR':=hid HRR
       have h13a:(op == 13)=true:=by simp [h13]
       have h13b:(op != 13)=false:=by simp [h13]
       clear HRR HQ3 h13
       go_wp2_with fail
       refine (goOn_any w0 w4 tb _ _ qv xs q wr A _ L hT4 hU (by omega) hxl hsx).mono ?_
       rintro e w5 ⟨rfl,qv5,xs5,hm5,hT5,hK5,hS5⟩
       have nb5:=hK5 _ _ _ nb4 (by decide) (by decide) (by decide)
       clear d8 z8 m0 m1
       have m0:w5.cell? ⟨nbk,0,none⟩=some (.int .i64 op):=nb5.cell 0
       go_wp2
       go_end0
       refine ⟨rfl,?_⟩
       rw [HRR'.out]
       exact ⟨qv5,xs5,hm5,hT5⟩
      ·by_cases h14:op=14
       ·have HRR:=HQ3.out.2.1 h14
        have h13a:(op == 13)=false:=by simp [h13]
        have h13b:(op != 13)=true:=by simp [h13]
        have h14a:(op == 14)=true:=by simp [h14]
        have HRR':=hid HRR
        clear HRR HQ3 h13 h14
        have hgo:=goP_ok (q:=q) (wr:=wr) (i:=A) (sp:=xs.map (·.1)) (l:=L) (M:=10000) (fun o ho s' hs'=>by obtain ⟨x,hx',rfl⟩:=List.mem_map.1 ho;exact hsx x hx' s' hs') hL8
        have HGO:Hid _:=hgo
        clear hgo
        go_wp2_with fail
        refine (goOn_any w0 w4 tb _ _ qv xs q wr A _ L hT4 hU (by omega) hxl hsx).mono ?_
        rintro e w5 ⟨rfl,qv5,xs5,hm5,hT5,hK5,hS5⟩
        have nb5:=hK5 _ _ _ nb4 (by decide) (by decide) (by decide)
        clear d8 z8 m0 m1
        have m0:w5.cell? ⟨nbk,0,none⟩=some (.int .i64 op):=nb5.cell 0
        have hx5:xs5.length<=10000:=by have h1:=congrArg List.length hm5;rw [HGO.out.2.2] at h1;simp only [List.length_map] at h1;omega
        have hs5:∀ x ∈ xs5,∀ s',x.1=some s'->s'.length<=10000:=fun x hx' s' hs'=>HGO.out.1 x.1 (by rw [<-hm5];exact List.mem_map_of_mem hx') s' hs'
        have hq5:(goP (xs.map (·.1)) q wr A L).2.1.length<=10000:=by have:=HGO.out.2.1;omega
        have HM5:=hid hm5
        clear hm5
        have hU5:=hS5 _ _ hU
        clear hS5 hK5
        go_wp2_with fail
        refine (goOn_any w0 w5 tb _ _ qv5 xs5 _ _ _ _ L hT5 hU5 hq5 hx5 hs5).mono ?_
        rintro e w6 ⟨rfl,qv6,xs6,hm6,hT6,hK6,hS6⟩
        rw [HM5.out] at hm6 hT6
        go_wp2
        go_end0
        refine ⟨rfl,?_⟩
        rw [HRR'.out]
        exact ⟨qv6,xs6,hm6,hT6⟩
       ·have HRR:=HQ3.out.2.2 h13 h14
        have HRR':=hid HRR
        have h13a:(op == 13)=false:=by simp [h13]
        have h13b:(op != 13)=true:=by simp [h13]
        have h14a:(op == 14)=false:=by simp [h14]
        clear HRR HQ3 h13 h14
        go_wp2_with fail
        refine (goOn_any w0 w4 tb _ _ qv xs q wr _ _ L hT4 hU (by omega) hxl hsx).mono ?_
        rintro e w5 ⟨rfl,qv5,xs5,hm5,hT5,hK5,hS5⟩
        go_wp2
        go_end0
        refine ⟨rfl,?_⟩
        rw [HRR'.out]
        exact ⟨qv5,xs5,hm5,hT5⟩
  ·go_wp2_with fail
   refine (sameList_any _ _ (s.drop r) N _ hdl RD hnR).mono ?_
   rintro e w2 ⟨rfl,n2,rfl⟩
   have hT2:=hT1.drewN n2
   have hTK:IntsV (w1.drewN n2) w0.heap.size (.slice gs r sc) (s.take r):=own_drewN TK n2
   have nb2:=nb1.drewN n2
   clear d8 z8 m0 m1 hT1 hs1 nb1 TK RD hnR hnv
   generalize w1.drewN n2=w2 at *
   have d8:w2.cell? ⟨tb,8,none⟩=some (.bool wr):=hT2.box.cell 8
   have z8:=hT2.box.frozen 8
   have m0:w2.cell? ⟨nbk,0,none⟩=some (.int .i64 op):=nb2.cell 0
   cases hb:(s.drop r == N) with
   | false =>
    have HRR:Hid (R=(xs.map (·.1),q,true)):=HF.out hb
    clear HP HF hb
    go_wp2
    refine bodyPost_ret (v:=.tuple #[]) (by simp [results,Try.results50]) rfl ⟨rfl,?_⟩
    rw [HRR.out]
    exact ⟨qv,xs,rfl,hT2.wrong 0⟩
   | true =>
    have HQ:=pass_then HP.out HN.out HRN.out hb
    have HQ':Hid _:=HQ
    clear hb HF HP HQ
    by_cases h16:op=16
    ·have h16':(op == 16)=true:=by simp [h16]
     by_cases hr0:0 < r
     ·have HRR:Hid (R=(xs.map (·.1),q,true)):=HQ'.out.1 h16 hr0
      have hr0':(0:Int) < (r:Int):=by omega
      clear h16 HQ'
      go_wp2
      refine bodyPost_ret (v:=.tuple #[]) (by simp [results,Try.results50]) rfl ⟨rfl,?_⟩
      rw [HRR.out]
      exact ⟨qv,xs,rfl,hT2.wrong 0⟩
     ·have HRR:Hid (R=(xs.map (·.1),q,wr)):=HQ'.out.2.1 h16 hr0
      have hr0':(r:Int)<=(0:Int):=by omega
      clear h16 HQ'
      go_wp2
      refine bodyPost_ret (v:=.tuple #[]) (by simp [results,Try.results50]) rfl ⟨rfl,?_⟩
      rw [HRR.out]
      exact ⟨qv,xs,rfl,hT2⟩
    ·have h16':(op == 16)=false:=by simp [h16]
     have HQ2:Hid _:=HQ'.out.2.2 h16
     clear HQ' h16
     have d0:w2.cell? ⟨tb,0,none⟩=some (.slice ta ls.length tc):=hT2.box.cell 0
     have d1:w2.cell? ⟨tb,1,none⟩=some (.slice fa fs.length fc):=hT2.box.cell 1
     have d2:w2.cell? ⟨tb,2,none⟩=some (.int .i64 f.args):=hT2.box.cell 2
     have d3:w2.cell? ⟨tb,3,none⟩=some (.slice la f.locals.length lc):=hT2.box.cell 3
     have d4:w2.cell? ⟨tb,4,none⟩=some (.int .i64 f.result):=hT2.box.cell 4
     have d5:w2.cell? ⟨tb,5,none⟩=some (.slice gk f.code.length cc):=hT2.box.cell 5
     have m1:w2.cell? ⟨nbk,1,none⟩=some (.int .i64 A):=nb2.cell 1
     have m2:w2.cell? ⟨nbk,2,none⟩=some (.int .i64 B):=nb2.cell 2
     have kD:Chg () w0 w2.drew:=hT2.ch.drew
     have HBH:Hid (Calls Try.prog 76 #[.agg #[.slice ta ls.length tc,.slice fa fs.length fc],.agg #[f.args,.slice la f.locals.length lc,f.result,.slice gk f.code.length cc],.agg #[op,A,B]] w2.drew fun e w' =>
      ∃ v,e=.returned v/\IntsV w' b0 v (behind ls fs f op A B)/\Chg () w2.drew w'):=
      stackBehind_any _ _ _ _ ls fs f op A B w2.drew b0 (Nat.le_trans hb0 kD.size) (ht.new kD) (hf.chg kD (fun _ _ _ e=>e) (fun _ _ _ e=>e) (fun _ _ _ e=>e)) (IntsV.chg hl kD (fun _ _ _ e=>e)) ⟨_,_,_,rfl⟩ hn hop.1 hop.2
     clear kD
     go_wp2
     go_region_held3 (fun w'=>w'.cell? ⟨tb,0,none⟩=some (.slice ta ls.length tc)/\w'.cell? ⟨tb,1,none⟩=some (.slice fa fs.length fc)/\w'.cell? ⟨tb,2,none⟩=some (.int .i64 f.args)/\w'.cell? ⟨tb,3,none⟩=some (.slice la f.locals.length lc)/\w'.cell? ⟨tb,4,none⟩=some (.int .i64 f.result)/\w'.cell? ⟨tb,5,none⟩=some (.slice gk f.code.length cc)/\w'.cell? ⟨nbk,0,none⟩=some (.int .i64 op)/\w'.cell? ⟨nbk,1,none⟩=some (.int .i64 A)/\w'.cell? ⟨nbk,2,none⟩=some (.int .i64 B)) (go_keep) (first | (go_at_call 76;refine (Calls.mono HBH.out ?_);rintro e w3 ⟨gv,rfl,hgv,hch3⟩;obtain ⟨q0,q1,q2,q3,q4,q5,q6,q7,q8⟩:=pass_cells (hT2.drew) nb2.drew hch3))
     clear q0 q1 q2 q3 q4 q5 q6 q7 q8 d0 d1 d2 d3 d4 d5 m0 m1 m2 d8 z8 HBH
     have hT3:=hT2.drew.new hch3
     have hTK3:IntsV w3 w0.heap.size (.slice gs r sc) (s.take r):=IntsV.chg (own_drew hTK) hch3 (fun _ _ _ e=>e)
     have nb3:=nb2.drew.chg hch3 (fun e=>e)
     clear hT2 hTK nb2 hch3
     obtain ⟨ga,gc,rfl⟩:=hgv.slice
     generalize behind ls fs f op A B=G at *
     go_wp2_with fail
     refine (joined_any _ _ (s.take r) G w3 (by simp;omega) hGl hTK3.rdI hgv.rdI).mono ?_
     rintro e w4 ⟨uv,rfl,huv,hch4⟩
     have hT4:=hT3.new hch4
     have nb4:=nb3.chg hch4 (fun e=>e)
     have hU:Sk w0 w4 qv uv (s.take r++G):=sk_new hT3 huv
     clear hT3 nb3 hTK3 hgv hch4 huv
     generalize s.take r++G=L at *
     obtain ⟨ua,uc,rfl⟩:=hU.1.slice
     have d8:w4.cell? ⟨tb,8,none⟩=some (.bool wr):=hT4.box.cell 8
     have z8:=hT4.box.frozen 8
     have m0:w4.cell? ⟨nbk,0,none⟩=some (.int .i64 op):=nb4.cell 0
     have m1:w4.cell? ⟨nbk,1,none⟩=some (.int .i64 A):=nb4.cell 1
     by_cases h8:8 < L.length
     ·have HRR:Hid (R=(xs.map (·.1),q,true)):=HQ2.out.1 h8
      have h8':(8:Int) < (L.length:Int):=by omega
      clear HQ2
      go_wp2
      refine bodyPost_ret (v:=.tuple #[]) (by simp [results,Try.results50]) rfl ⟨rfl,?_⟩
      rw [HRR.out]
      exact ⟨qv,xs,rfl,hT4.wrong 0⟩
     ·have h8':(L.length:Int)<=(8:Int):=by omega
      have HQ3:Hid _:=HQ2.out.2 h8
      clear HQ2
      have hL8:L.length<=10000:=by omega
      by_cases h13:op=13
      ·have HRR:=HQ3.out.1 h13
       have HRR':=hid HRR
       have h13a:(op == 13)=true:=by simp [h13]
       have h13b:(op != 13)=false:=by simp [h13]
       clear HRR HQ3 h13
       go_wp2_with fail
       refine (goOn_any w0 w4 tb _ _ qv xs q wr A _ L hT4 hU (by omega) hxl hsx).mono ?_
       rintro e w5 ⟨rfl,qv5,xs5,hm5,hT5,hK5,hS5⟩
       have nb5:=hK5 _ _ _ nb4 (by decide) (by decide) (by decide)
       clear d8 z8 m0 m1
       have m0:w5.cell? ⟨nbk,0,none⟩=some (.int .i64 op):=nb5.cell 0
       go_wp2
       go_end0
       refine ⟨rfl,?_⟩
       rw [HRR'.out]
       exact ⟨qv5,xs5,hm5,hT5⟩
      ·by_cases h14:op=14
       ·have HRR:=HQ3.out.2.1 h14
        have h13a:(op == 13)=false:=by simp [h13]
        have h13b:(op != 13)=true:=by simp [h13]
        have h14a:(op == 14)=true:=by simp [h14]
        have HRR':=hid HRR
        clear HRR HQ3 h13 h14
        have hgo:=goP_ok (q:=q) (wr:=wr) (i:=A) (sp:=xs.map (·.1)) (l:=L) (M:=10000) (fun o ho s' hs'=>by obtain ⟨x,hx',rfl⟩:=List.mem_map.1 ho;exact hsx x hx' s' hs') hL8
        have HGO:Hid _:=hgo
        clear hgo
        go_wp2_with fail
        refine (goOn_any w0 w4 tb _ _ qv xs q wr A _ L hT4 hU (by omega) hxl hsx).mono ?_
        rintro e w5 ⟨rfl,qv5,xs5,hm5,hT5,hK5,hS5⟩
        have nb5:=hK5 _ _ _ nb4 (by decide) (by decide) (by decide)
        clear d8 z8 m0 m1
        have m0:w5.cell? ⟨nbk,0,none⟩=some (.int .i64 op):=nb5.cell 0
        have hx5:xs5.length<=10000:=by have h1:=congrArg List.length hm5;rw [HGO.out.2.2] at h1;simp only [List.length_map] at h1;omega
        have hs5:∀ x ∈ xs5,∀ s',x.1=some s'->s'.length<=10000:=fun x hx' s' hs'=>HGO.out.1 x.1 (by rw [<-hm5];exact List.mem_map_of_mem hx') s' hs'
        have hq5:(goP (xs.map (·.1)) q wr A L).2.1.length<=10000:=by have:=HGO.out.2.1;omega
        have HM5:=hid hm5
        clear hm5
        have hU5:=hS5 _ _ hU
        clear hS5 hK5
        go_wp2_with fail
        refine (goOn_any w0 w5 tb _ _ qv5 xs5 _ _ _ _ L hT5 hU5 hq5 hx5 hs5).mono ?_
        rintro e w6 ⟨rfl,qv6,xs6,hm6,hT6,hK6,hS6⟩
        rw [HM5.out] at hm6 hT6
        go_wp2
        go_end0
        refine ⟨rfl,?_⟩
        rw [HRR'.out]
        exact ⟨qv6,xs6,hm6,hT6⟩
       ·have HRR:=HQ3.out.2.2 h13 h14
        have HRR':=hid HRR
        have h13a:(op == 13)=false:=by simp [h13]
        have h13b:(op != 13)=true:=by simp [h13]
        have h14a:(op == 14)=false:=by simp [h14]
        clear HRR HQ3 h13 h14
        go_wp2_with fail
        refine (goOn_any w0 w4 tb _ _ qv xs q wr _ _ L hT4 hU (by omega) hxl hsx).mono ?_
        rintro e w5 ⟨rfl,qv5,xs5,hm5,hT5,hK5,hS5⟩
        go_wp2
        go_end0
        refine ⟨rfl,?_⟩
        rw [HRR'.out]
        exact ⟨qv5,xs5,hm5,hT5⟩
end Go.Proofs.Ytnfnbcbadakofab
