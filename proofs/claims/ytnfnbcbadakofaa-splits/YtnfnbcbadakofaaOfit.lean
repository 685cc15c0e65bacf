import Derived.Test.YtnfnbcbadakofaaSfit
namespace Go.Proofs.Ytnfnbcbadakofaa
open Go.RowKit
theorem SpotsV.chg {S:Nat->Prop} {w w':World} {base:Nat} {v:Value} {sp:Spots} (h:SpotsV w base v sp) (k:Chg S w w') (h3:∀ g cs,Blk w g cs 3->¬ S g) (h107:∀ g cs,Blk w g cs 107->¬ S g):SpotsV w' base v sp:=by
 obtain ⟨xs,h1,h2,hx⟩:=h
 exact ⟨xs,h1,own_chg h2 k (fun g hg e=>by obtain ⟨cs,hb⟩:=own_blk h2 hg;exact h107 g cs hb e),fun x m=>(hx x m).chg k h3⟩
theorem SpotsV.mono {w:World} {base base':Nat} {v:Value} {sp:Spots} (h:SpotsV w base v sp) (hb:base'<=base):SpotsV w base' v sp:=by
 obtain ⟨xs,h1,h2,hx⟩:=h
 exact ⟨xs,h1,own_mono h2 hb,fun x m=>own_mono (hx x m) hb⟩
theorem SpotsV.slice {w:World} {base:Nat} {v:Value} {sp:Spots} (h:SpotsV w base v sp):∃ a cap,v=.slice a sp.length cap:=by
 obtain ⟨xs,h1,h,_⟩:=h
 subst h1
 rw [List.length_map]
 rcases h.2 with ⟨h1,h2⟩ | ⟨g,cap,cur,rfl,_⟩
 ·exact ⟨none,0,by rw [h1,h2]⟩
 ·exact ⟨_,_,rfl⟩
def SpotsL (w:World) (base:Nat) (v:Value) (sps:List Spots):Prop:=
 ∃ vs:List Value,w.ownsRow base 140 1 v sps.length vs/\∀ j x,vs[j]?=some x->SpotsV w base x (sps.getD j [])
theorem SpotsL.nil (w:World) (base:Nat):SpotsL w base (.slice none 0 0) []:=⟨[],World.ownsRow_nil _ _ _ _,fun j u hj=>by simp at hj⟩
theorem SpotsL.chg {S:Nat->Prop} {w w':World} {base:Nat} {v:Value} {sps:List Spots} (h:SpotsL w base v sps) (k:Chg S w w') (h3:∀ g cs,Blk w g cs 3->¬ S g) (h107:∀ g cs,Blk w g cs 107->¬ S g) (h140:∀ g cs,Blk w g cs 140->¬ S g):SpotsL w' base v sps:=by
 obtain ⟨vs,h1,hx⟩:=h
 exact ⟨vs,own_chg h1 k (fun g hg e=>by obtain ⟨cs,hb⟩:=own_blk h1 hg;exact h140 g cs hb e),fun j x hj=>(hx j x hj).chg k h3 h107⟩
theorem SpotsL.slice {w:World} {base:Nat} {v:Value} {sps:List Spots} (h:SpotsL w base v sps):∃ a cap,v=.slice a sps.length cap:=by
 obtain ⟨vs,h,_⟩:=h
 rcases h.2 with ⟨h1,h2⟩ | ⟨g,cap,cur,rfl,_⟩
 ·exact ⟨none,0,by rw [h1,h2]⟩
 ·exact ⟨_,_,rfl⟩
theorem SpotsL.snoc {w w':World} {base n:Nat} {v v':Value} {vs:List Value} {ls:List Spots} {u:Value} {l:Spots} (hv:w.ownsRow base 140 1 v ls.length vs) (hk:∀ j x,vs[j]?=some x->SpotsV w base x (ls.getD j []))
 (hn:n=ls.length+1) (hown:w'.ownsRow base 140 1 v' n (vs++[u])) (k:Chg (fun j=>some j=v.ownBlock) w w') (hu:SpotsV w base u l):SpotsL w' base v' (ls++[l]):=by
 have ne:∀ g cs e,Blk w g cs e->e ≠ 140->¬ some g=v.ownBlock:=fun g cs e hb he hg=>by
  obtain ⟨cs',hb'⟩:=own_blk hv hg.symm
  exact hb.ne hb' he rfl
 have hlen:vs.length=ls.length:=by have:=hv.1;omega
 subst hn
 refine ⟨vs++[u],by simpa using hown,fun j x hj=>?_⟩
 rw [List.getElem?_append] at hj
 split at hj
 ·rename_i hlt
  have:=(hk j x hj).chg k (fun g cs hb=>ne g cs 3 hb (by decide)) (fun g cs hb=>ne g cs 107 hb (by decide))
  rw [List.getD_eq_getElem?_getD,List.getElem?_append_left (by omega),<-List.getD_eq_getElem?_getD]
  exact this
 ·rename_i hlt
  have hj0:j=ls.length:=by
   rcases Nat.lt_or_ge (j - vs.length) 1 with h | h
   ·omega
   ·rw [List.getElem?_eq_none (by simpa using h)] at hj;cases hj
  subst hj0
  rw [hlen,Nat.sub_self] at hj
  simp at hj
  subst hj
  rw [List.getD_eq_getElem?_getD,List.getElem?_append_right (Nat.le_refl _)]
  simpa using hu.chg k (fun g cs hb=>ne g cs 3 hb (by decide)) (fun g cs hb=>ne g cs 107 hb (by decide))
theorem info140:∃ i:TypeInfo,Try.prog.info? 140=some i/\i.zero=some (.slice none 0 0)/\i.size=1/\i.bytes=24:=info_of (by kernel_rfl)
def fitF (p:Pg) (f:Fn):Fits:=fitL (aftC p.types p.funcs f) (wayC f) f.code.length 0 (goP (List.replicate f.code.length none) [] false 0 [])
def fitAll (p:Pg):List Fn->Nat->List Spots->Nat ⊕ List Spots
 | [],_,acc=>.inr acc
 | f::fs,k,acc=>if (fitF p f).2.2=true then .inl k else fitAll p fs (k+1) (acc++[(fitF p f).1])
def opF (s:ByteArray):Int × Int × Pg × List Spots:=
 if (opn s).1 ≠ 0 then ((opn s).1,(opn s).2.1,⟨[],[]⟩,[]) else
 match fitAll (opn s).2.2 (opn s).2.2.funcs 0 [] with
 | .inl k=>(3,k,⟨[],[]⟩,[])
 | .inr sps=>(0,0,(opn s).2.2,sps)
theorem fitAll_step {p:Pg} {k:Nat} {acc:List Spots} {A:Nat ⊕ List Spots} (hk:k < p.funcs.length) (h:fitAll p (p.funcs.drop k) k acc=A) :
 ((fitF p p.funcs[k]).2.2=true->A=.inl k)/\((fitF p p.funcs[k]).2.2=false->fitAll p (p.funcs.drop (k+1)) (k+1) (acc++[(fitF p p.funcs[k]).1])=A):=by
 rw [List.drop_eq_getElem_cons hk] at h
 unfold fitAll at h
 exact ⟨fun e=>by rw [if_pos e] at h;exact h.symm,fun e=>by rw [if_neg (by rw [e];decide)] at h;exact h⟩
def OfPost (w w':World) (tv fv sv:Value) (O:Int × Int × Pg × List Spots):Prop:=
 TypesV w' w.heap.size tv O.2.2.1.types/\FuncsV 96 98 w' w.heap.size fv O.2.2.1.funcs/\SpotsL w' w.heap.size sv O.2.2.2/\Chg (fun _=>False) w w'
def OfEnd (w:World) (O:Int × Int × Pg × List Spots) (e:Ending) (w':World):Prop:=
 ∃ tv fv sv,e=.returned (.agg #[tv,fv,sv,.int .i64 O.1,.int .i64 O.2.1])/\OfPost w w' tv fv sv O/\(O.1 ≠ 0->tv=.slice none 0 0/\fv=.slice none 0 0/\sv=.slice none 0 0)
structure OS (w wk:World) (ob:Nat) (oc:Array Value):Prop where
 rb:Blk wk w.heap.size #[.slice none 0 0,.slice none 0 0,.slice none 0 0,.int .i64 0,.int .i64 0] 80
 bx:Blk wk ob oc 80
 lt:w.heap.size < ob
 ch:Chg (fun _=>False) w wk
theorem OS.new {w wk wk':World} {ob:Nat} {oc:Array Value} (h:OS w wk ob oc) (k:Chg (fun _=>False) wk wk'):OS w wk' ob oc:=⟨h.rb.chg k (fun e=>e),h.bx.chg k (fun e=>e),h.lt,h.ch.trans k⟩
theorem OS.setO {w wk:World} {ob:Nat} {oc:Array Value} (h:OS w wk ob oc) (i:Nat) (v:Value):OS w (wk.setCell ⟨ob,i,none⟩ v) ob (oc.setIfInBounds i v):=
 have:=h.lt
 ⟨h.rb.setOther _ _ (by simp;omega),h.bx.set i v,h.lt,h.ch.setCell _ _ (.inr (by simp;omega))⟩
theorem OS.grow {w wk wk':World} {ob:Nat} {oc:Array Value} {cv:Value} {n size:Nat} {xs:List Value} {eF:TypeId} (h:OS w wk ob oc) (h1:80 ≠ eF) (hcv:wk.ownsRow w.heap.size eF size cv n xs) (k:Chg (fun k=>some k=cv.ownBlock) wk wk'):OS w wk' ob oc:=by
 have ne:∀ g cs e,Blk wk g cs e->e ≠ eF->¬ some g=cv.ownBlock:=fun g cs e hb he hg=>by
  obtain ⟨cs',hb'⟩:=own_blk hcv hg.symm
  exact hb.ne hb' he rfl
 exact ⟨h.rb.chg k (ne _ _ _ h.rb h1),h.bx.chg k (ne _ _ _ h.bx h1),h.lt,h.ch.trans' k (fun i hi e=>by have:=(hcv.lt i e.symm).1;omega)⟩
set_option maxHeartbeats 4000000 in
set_option maxRecDepth 100000 in
theorem openFit_core (s:ByteArray) (w:World) (R:Int × Int × Pg) (HR:Hid (opn s=R)) (hwf:R.1=0->PgWf R.2.2) (A:Nat ⊕ List Spots) (HA:Hid (fitAll R.2.2 R.2.2.funcs 0 []=A)) (O:Int × Int × Pg × List Spots)
 (HP:Hid (R.1=0->R.2.1=0)) (HO1:Hid (R.1 ≠ 0->O=(R.1,R.2.1,⟨[],[]⟩,[]))) (HO2:Hid (R.1=0->∀ k:Nat,A=.inl k->O=(3,(k:Int),⟨[],[]⟩,[]))) (HO3:Hid (R.1=0->∀ sps,A=.inr sps->O=(0,0,R.2.2,sps))) :
 Calls Try.prog 38 #[.string s] w (OfEnd w O):=by
 have HW:Hid (R.1=0->PgWf R.2.2):=hwf
 clear hwf
 obtain ⟨i,hi1,hi2,hi3,hi4⟩:=info140
 have Hi1:Hid (Try.prog.info? 140=some i):=hi1
 have Hi2:Hid (i.zero=some (.slice none 0 0)):=hi2
 have Hi3:Hid (i.size=1):=hi3
 have Hi4:Hid (i.bytes=24):=hi4
 clear hi1 hi2 hi3 hi4
 go_enter Try.func38,Try.ntmps38
 go_wp2_with fail
 have ka:Chg (fun _=>False) w (w.alloc (Obj.cells #[.slice none 0 0,.slice none 0 0,.slice none 0 0,.int .i64 0,.int .i64 0] 80)):=(Chg.refl _ w).alloc _
 have bo:=Blk.new w #[.slice none 0 0,.slice none 0 0,.slice none 0 0,.int .i64 0,.int .i64 0] 80
 refine (open_any s _).mono ?_
 rw [HR.out]
 rintro e w1 ⟨tv,fv,rfl,hty,hfv,hnil,hch⟩
 have bo1:=bo.chg hch (fun e=>e)
 have k1:=ka.trans hch
 have hty1:TypesV w1 w.heap.size tv R.2.2.types:=hty.mono ka.size
 have hfv1:FuncsV 96 98 w1 w.heap.size fv R.2.2.funcs:=hfv.mono ka.size
 have HN:Hid (R.1 ≠ 0->tv=.slice none 0 0/\fv=.slice none 0 0):=hnil
 clear bo ka hch hty hfv hnil
 obtain ⟨ta,tc,rfl⟩:=hty1.slice
 obtain ⟨fa,fc,rfl⟩:=hfv1.slice
 have hlt1:=bo1.lt
 by_cases hz:R.1=0
 ·have hw:=HW.out hz
  have HO2':Hid (∀ k:Nat,A=.inl k->O=(3,(k:Int),⟨[],[]⟩,[])):=HO2.out hz
  have HO3':Hid (∀ sps,A=.inr sps->O=(0,0,R.2.2,sps)):=HO3.out hz
  obtain ⟨g,fcap,hfe,hfl,hcells⟩:=hfv1.formS (by have:=hw.f1;omega)
  simp only [Value.slice.injEq] at hfe
  obtain ⟨rfl,_,rfl⟩:=hfe
  clear hcells hfl
  have kc:Chg (fun _=>False) w1 (w1.alloc (Obj.cells #[.slice ta R.2.2.types.length tc,.slice (some ⟨g,0,none⟩) R.2.2.funcs.length fc,.slice none 0 0,.int .i64 R.1,.int .i64 R.2.1] 80)):=(Chg.refl _ w1).alloc _
  have os0:OS w (w1.alloc (Obj.cells #[.slice ta R.2.2.types.length tc,.slice (some ⟨g,0,none⟩) R.2.2.funcs.length fc,.slice none 0 0,.int .i64 R.1,.int .i64 R.2.1] 80)) w1.heap.size #[.slice ta R.2.2.types.length tc,.slice (some ⟨g,0,none⟩) R.2.2.funcs.length fc,.slice none 0 0,.int .i64 R.1,.int .i64 R.2.1]:=⟨bo1.chg kc (fun e=>e),Blk.new w1 _ 80,hlt1,k1.trans kc⟩
  have hty2:=hty1.new kc
  have hfv2:=hfv1.chg kc (fun _ _ _ e=>e) (fun _ _ _ e=>e) (fun _ _ _ e=>e)
  have hR2:R.2.1=0:=HP.out hz
  clear kc bo1 k1 hty1 hfv1 HO1 HO2 HO3 HR HW HN
  rw [hz,hR2] at os0 hty2 hfv2
  rw [hz,hR2]
  clear hz hR2
  generalize R.2.2=p at *
  go_wp2_with fail
  generalize w1.alloc (Obj.cells #[.slice ta p.types.length tc,.slice (some ⟨g,0,none⟩) p.funcs.length fc,.slice none 0 0,.int .i64 0,.int .i64 0] 80)=w2 at *
  generalize w1.heap.size=ob at *
  go_loopw [17] (fun iv wr=>∃ (k:Nat) (acc:List Spots) (sv:Value),k<=p.funcs.length/\iv=.int .i64 (k:Int)/\acc.length=k/\OS w wr ob #[.slice ta p.types.length tc,.slice (some ⟨g,0,none⟩) p.funcs.length fc,sv,.int .i64 0,.int .i64 0]/\TypesV wr w.heap.size (.slice ta p.types.length tc) p.types/\FuncsV 96 98 wr w.heap.size (.slice (some ⟨g,0,none⟩) p.funcs.length fc) p.funcs/\SpotsL wr w.heap.size sv acc/\fitAll p (p.funcs.drop k) k acc=A) (fun iv _=>p.funcs.length - (intOf iv).toNat)
  case atStart=>exact ⟨0,[],_,Nat.zero_le _,rfl,rfl,os0,hty2,hfv2,SpotsL.nil _ _,HA.out⟩
  case round =>
   clear os0 hty2 hfv2 HA hlt1
   obtain ⟨k,acc,sv,hk,rfl,hak,os,hty,hfv,hsl,hfa⟩:=hrel
   have p0:wr.cell? ⟨ob,0,none⟩=some (.slice ta p.types.length tc):=os.bx.cell 0
   have p1:wr.cell? ⟨ob,1,none⟩=some (.slice (some ⟨g,0,none⟩) p.funcs.length fc):=os.bx.cell 1
   have hf6:=hw.f6
   have HAK:Hid (acc.length=k):=hak
   clear hak
   by_cases hlt:k < p.funcs.length
   ·have hlt':(k:Int) < (p.funcs.length:Int):=by omega
    obtain ⟨st1,st2⟩:=fitAll_step hlt hfa
    have hmem:p.funcs[k] ∈ p.funcs:=List.getElem_mem hlt
    obtain ⟨bb,hfo⟩:=hw.fn hmem
    have hc1:=hfo.c1
    clear hfo hfa
    obtain ⟨g',fcap',hfe,_,hcells⟩:=hfv.formS (by omega)
    simp only [Value.slice.injEq,Option.some.injEq,Addr.mk.injEq] at hfe
    obtain ⟨⟨rfl,_,_⟩,_,rfl⟩:=hfe
    obtain ⟨lv,cv,h0,h1,h2,h3,hl,hc⟩:=hcells k hlt
    clear hcells
    generalize p.funcs[k]=f at *
    generalize hFF:fitF p f=F at *
    have HFF:Hid (fitF p f=F):=hFF
    clear hFF
    obtain ⟨sp3,q3,b3⟩:=F
    have ST1:Hid (b3=true->A=.inl k):=st1
    have ST2:Hid (b3=false->fitAll p (p.funcs.drop (k+1)) (k+1) (acc++[sp3])=A):=st2
    have HMEM:Hid (f ∈ p.funcs):=hmem
    clear st1 st2 hmem
    obtain ⟨la,lc,rfl⟩:=hl.slice
    obtain ⟨gk,cc,rfl,_,_,_,_⟩:=hc.form (by omega)
    have hsz:=os.ch.size
    have hob:=os.bx.lt
    have kf:Chg (fun _=>False) wr (wr.alloc (Obj.cells #[.int .i64 f.args,.slice la f.locals.length lc,.int .i64 f.result,.slice (some ⟨gk,0,none⟩) f.code.length cc] 96)):=(Chg.refl _ wr).alloc _
    have hgl:=World.block_lt_of_cell? wr _ h0
    go_wp2_with fail
    refine (sfit_core _ w.heap.size ta (some ⟨g,0,none⟩) la tc fc lc gk cc p hw f HMEM.out (Nat.le_trans hsz kf.size) (hty.new kf) (hfv.chg kf (fun _ _ _ e=>e) (fun _ _ _ e=>e) (fun _ _ _ e=>e)) (hl.chg kf (fun _ _ _ e=>e)) (hc.chg kf (fun _ _ _ e=>e)) (sp3,q3,b3) HFF).mono ?_
    rintro e w3 ⟨sv3,qa3,qn3,qc3,rfl,hS,hch3⟩
    obtain ⟨sa,sc,rfl⟩:=hS.slice
    have k3:=kf.trans hch3
    have hS3:SpotsV w3 w.heap.size (.slice sa sp3.length sc) sp3:=hS.mono (Nat.le_trans hsz kf.size)
    clear hS kf hch3 h0 h1 h2 h3 hl hc p0 p1 HFF HMEM
    have os3:=os.new k3
    have hty3:=hty.new k3
    have hfv3:=hfv.chg k3 (fun _ _ _ e=>e) (fun _ _ _ e=>e) (fun _ _ _ e=>e)
    have hsl3:=hsl.chg k3 (fun _ _ _ e=>e) (fun _ _ _ e=>e) (fun _ _ _ e=>e)
    clear os hty hfv hsl k3 hgl hsz hob
    cases b3 with
    | true =>
     have HO:Hid _:=HO2'.out k (ST1.out rfl)
     have o0:w3.cell? ⟨w.heap.size,0,none⟩=some (.slice none 0 0):=os3.rb.cell 0
     have o1:w3.cell? ⟨w.heap.size,1,none⟩=some (.slice none 0 0):=os3.rb.cell 1
     have o2:w3.cell? ⟨w.heap.size,2,none⟩=some (.slice none 0 0):=os3.rb.cell 2
     have o3:w3.cell? ⟨w.heap.size,3,none⟩=some (.int .i64 0):=os3.rb.cell 3
     have o4:w3.cell? ⟨w.heap.size,4,none⟩=some (.int .i64 0):=os3.rb.cell 4
     have z0:=os3.rb.frozen 0
     have z1:=os3.rb.frozen 1
     have z2:=os3.rb.frozen 2
     have z3:=os3.rb.frozen 3
     have z4:=os3.rb.frozen 4
     have hltr:=os3.rb.lt
     go_wp2
     have b3:=(((((os3.rb.set 0 (.slice none 0 0)).set 1 (.slice none 0 0)).set 2 (.slice none 0 0)).set 3 (.int .i64 3)).set 4 (.int .i64 (k:Int))).alloc (Obj.cells #[.slice ta p.types.length tc,.slice (some ⟨g,0,none⟩) p.funcs.length fc,.int .i64 f.args,.slice la f.locals.length lc,.int .i64 f.result,.slice (some ⟨gk,0,none⟩) f.code.length cc,.slice sa sp3.length sc,.slice qa3 qn3 qc3,.bool true] 142)
     have hkk:=(chg_set5 w3 w.heap.size (.slice none 0 0) (.slice none 0 0) (.slice none 0 0) (.int .i64 3) (.int .i64 (k:Int))).alloc (Obj.cells #[.slice ta p.types.length tc,.slice (some ⟨g,0,none⟩) p.funcs.length fc,.int .i64 f.args,.slice la f.locals.length lc,.int .i64 f.result,.slice (some ⟨gk,0,none⟩) f.code.length cc,.slice sa sp3.length sc,.slice qa3 qn3 qc3,.bool true] 142)
     have hD:=os3.ch.trans' hkk (fun i hi e=>by omega)
     generalize (((((w3.setCell ⟨w.heap.size,0,none⟩ (.slice none 0 0)).setCell ⟨w.heap.size,1,none⟩ (.slice none 0 0)).setCell ⟨w.heap.size,2,none⟩ (.slice none 0 0)).setCell ⟨w.heap.size,3,none⟩ (.int .i64 3)).setCell ⟨w.heap.size,4,none⟩ (.int .i64 (k:Int))).alloc (Obj.cells #[.slice ta p.types.length tc,.slice (some ⟨g,0,none⟩) p.funcs.length fc,.int .i64 f.args,.slice la f.locals.length lc,.int .i64 f.result,.slice (some ⟨gk,0,none⟩) f.code.length cc,.slice sa sp3.length sc,.slice qa3 qn3 qc3,.bool true] 142)=wf at *
     clear o0 o1 o2 o3 o4 z0 z1 z2 z3 z4
     have q0:wf.cell? ⟨w.heap.size,0,none⟩=some (.slice none 0 0):=b3.cell 0
     have q1:wf.cell? ⟨w.heap.size,1,none⟩=some (.slice none 0 0):=b3.cell 1
     have q2:wf.cell? ⟨w.heap.size,2,none⟩=some (.slice none 0 0):=b3.cell 2
     have q3:wf.cell? ⟨w.heap.size,3,none⟩=some (.int .i64 3):=b3.cell 3
     have q4:wf.cell? ⟨w.heap.size,4,none⟩=some (.int .i64 (k:Int)):=b3.cell 4
     have hO:=HO.out
     subst hO
     exact bodyPost_ret (v:=.agg #[.slice none 0 0,.slice none 0 0,.slice none 0 0,.int .i64 3,.int .i64 (k:Int)]) (by simp [results,Try.results38,go_sem,q0,q1,q2,q3,q4]) rfl ⟨_,_,_,rfl,⟨TypesV.nil _ _,FuncsV.nil _ _ _ _,SpotsL.nil _ _,hD⟩,fun _=>⟨rfl,rfl,rfl⟩⟩
    | false =>
     have HN:Hid _:=ST2.out rfl
     clear ST1 ST2
     have k4:Chg (fun _=>False) w3 (w3.alloc (Obj.cells #[.slice ta p.types.length tc,.slice (some ⟨g,0,none⟩) p.funcs.length fc,.int .i64 f.args,.slice la f.locals.length lc,.int .i64 f.result,.slice (some ⟨gk,0,none⟩) f.code.length cc,.slice sa sp3.length sc,.slice qa3 qn3 qc3,.bool false] 142)):=(Chg.refl _ w3).alloc _
     have os4:=os3.new k4
     have hty4:=hty3.new k4
     have hfv4:=hfv3.chg k4 (fun _ _ _ e=>e) (fun _ _ _ e=>e) (fun _ _ _ e=>e)
     have hsl4:=hsl3.chg k4 (fun _ _ _ e=>e) (fun _ _ _ e=>e) (fun _ _ _ e=>e)
     have hS4:=hS3.chg k4 (fun _ _ _ e=>e) (fun _ _ _ e=>e)
     obtain ⟨xa,xc,rfl⟩:=hsl4.slice
     have y0:w3.cell? ⟨ob,2,none⟩=some (.slice xa acc.length xc):=os3.bx.cell 2
     have z0:=os3.bx.frozen 2
     have hlo:=os3.bx.lt
     have hlo2:=os3.lt
     have h42:(w3.alloc (Obj.cells #[.slice ta p.types.length tc,.slice (some ⟨g,0,none⟩) p.funcs.length fc,.int .i64 f.args,.slice la f.locals.length lc,.int .i64 f.result,.slice (some ⟨gk,0,none⟩) f.code.length cc,.slice sa sp3.length sc,.slice qa3 qn3 qc3,.bool false] 142)).heap.size=w3.heap.size+1:=by simp
     clear os3 hty3 hfv3 hsl3 hS3 k4
     obtain ⟨vs,hvs,hvk⟩:=hsl4
     go_wp2_with (at_builtin;refine wpList_append_lies _ rfl _ _ 78 rfl w.heap.size 140 i (.slice none 0 0) 1 24 Try.underlying78 Hi1.out Hi2.out Hi3.out Hi4.out rfl (by decide) _ _ _ rfl (World.ownsRow.alloc hvs _) ⟨w3.heap.size+1,0,none⟩ 1 1 [.slice sa sp3.length sc] rfl rfl ?c1 ?c2 (by decide) ?c3 ?c4 ?c5 _ rfl ?_)
     case c1=>rw [<-h42];exact cell_one_new _ _ _
     case c2=>intro u hu;simp at hu;subst hu;rfl
     case c3=>rw [HAK.out];unfold maxLen;omega
     case c4=>rw [HAK.out];omega
     case c5=>simp;omega
     ·intro g2 cap2 w5 hown hgrow hat hlt5
      have hg3:Chg (fun j=>some j=(Value.slice xa acc.length xc).ownBlock) (w3.alloc (Obj.cells #[.slice ta p.types.length tc,.slice (some ⟨g,0,none⟩) p.funcs.length fc,.int .i64 f.args,.slice la f.locals.length lc,.int .i64 f.result,.slice (some ⟨gk,0,none⟩) f.code.length cc,.slice sa sp3.length sc,.slice qa3 qn3 qc3,.bool false] 142)) w5:=(((Chg.refl _ _).alloc _).grown hgrow (fun j hj=>.inl hj.symm))
      generalize w3.alloc (Obj.cells #[.slice ta p.types.length tc,.slice (some ⟨g,0,none⟩) p.funcs.length fc,.int .i64 f.args,.slice la f.locals.length lc,.int .i64 f.result,.slice (some ⟨gk,0,none⟩) f.code.length cc,.slice sa sp3.length sc,.slice qa3 qn3 qc3,.bool false] 142)=w4 at *
      have ne:∀ b cs e,Blk w4 b cs e->e ≠ 140->¬ some b=(Value.slice xa acc.length xc).ownBlock:=fun b cs e hb he hg=>by
       obtain ⟨cs',hb'⟩:=own_blk hvs hg.symm
       exact hb.ne hb' he rfl
      have os5:=os4.grow (by decide) hvs hg3
      have hty5:=hty4.chg hg3 (fun b cs hb=>ne b cs 3 hb (by decide)) (fun b cs hb=>ne b cs 47 hb (by decide))
      have hfv5:=hfv4.chg hg3 (fun b cs hb=>ne b cs 3 hb (by decide)) (fun b cs hb=>ne b cs 98 hb (by decide)) (fun b cs hb=>ne b cs 96 hb (by decide))
      have hsl5:=SpotsL.snoc hvs hvk rfl hown hg3 hS4
      clear hgrow hg3 hat y0 z0 ne hown hvs hvk os4 hty4 hfv4 hS4
      have y0:w5.cell? ⟨ob,2,none⟩=some (.slice xa acc.length xc):=os5.bx.cell 2
      have z0:=os5.bx.frozen 2
      go_wp2
      have kz:Chg (fun b=>b=ob) w5 (w5.setCell ⟨ob,2,none⟩ (.slice (some ⟨g2,0,none⟩) (acc.length+1) cap2)):=(Chg.refl _ w5).setCell _ _ (.inl rfl)
      refine ⟨⟨k+1,acc++[sp3],.slice (some ⟨g2,0,none⟩) (acc.length+1) cap2,by omega,rfl,by rw [List.length_append,HAK.out];rfl,os5.setO 2 _,?_,?_,?_,HN.out⟩,by simp [intOf];omega⟩
      ·exact hty5.chg kz (fun b cs hb e=>hb.ne os5.bx (by decide) e) (fun b cs hb e=>hb.ne os5.bx (by decide) e)
      ·exact hfv5.chg kz (fun b cs hb e=>hb.ne os5.bx (by decide) e) (fun b cs hb e=>hb.ne os5.bx (by decide) e) (fun b cs hb e=>hb.ne os5.bx (by decide) e)
      ·exact hsl5.chg kz (fun b cs hb e=>hb.ne os5.bx (by decide) e) (fun b cs hb e=>hb.ne os5.bx (by decide) e) (fun b cs hb e=>hb.ne os5.bx (by decide) e)
   ·have hkk:k=p.funcs.length:=by omega
    have HO:Hid (O=(0,0,p,acc)):=HO3'.out acc (by rw [hkk,List.drop_length] at hfa;exact hfa.symm)
    have hlt':(p.funcs.length:Int)<=(k:Int):=by omega
    clear hfa hkk
    obtain ⟨xa,xc,rfl⟩:=hsl.slice
    have p2:wr.cell? ⟨ob,2,none⟩=some (.slice xa acc.length xc):=os.bx.cell 2
    have p3:wr.cell? ⟨ob,3,none⟩=some (.int .i64 0):=os.bx.cell 3
    have p4:wr.cell? ⟨ob,4,none⟩=some (.int .i64 0):=os.bx.cell 4
    have o0:wr.cell? ⟨w.heap.size,0,none⟩=some (.slice none 0 0):=os.rb.cell 0
    have o1:wr.cell? ⟨w.heap.size,1,none⟩=some (.slice none 0 0):=os.rb.cell 1
    have o2:wr.cell? ⟨w.heap.size,2,none⟩=some (.slice none 0 0):=os.rb.cell 2
    have o3:wr.cell? ⟨w.heap.size,3,none⟩=some (.int .i64 0):=os.rb.cell 3
    have o4:wr.cell? ⟨w.heap.size,4,none⟩=some (.int .i64 0):=os.rb.cell 4
    have z0:=os.rb.frozen 0
    have z1:=os.rb.frozen 1
    have z2:=os.rb.frozen 2
    have z3:=os.rb.frozen 3
    have z4:=os.rb.frozen 4
    have hltp:=os.lt
    go_wp2
    have b3:=(((((os.rb.set 0 (.slice ta p.types.length tc)).set 1 (.slice (some ⟨g,0,none⟩) p.funcs.length fc)).set 2 (.slice xa acc.length xc)).set 3 (.int .i64 0)).set 4 (.int .i64 0))
    have hkk:=chg_set5 wr w.heap.size (.slice ta p.types.length tc) (.slice (some ⟨g,0,none⟩) p.funcs.length fc) (.slice xa acc.length xc) (.int .i64 0) (.int .i64 0)
    have hD:=os.ch.trans' hkk (fun i hi e=>by omega)
    have hA:=hty.chg hkk (fun b cs hb e=>hb.ne os.rb (by decide) e) (fun b cs hb e=>hb.ne os.rb (by decide) e)
    have hB:=hfv.chg hkk (fun b cs hb e=>hb.ne os.rb (by decide) e) (fun b cs hb e=>hb.ne os.rb (by decide) e) (fun b cs hb e=>hb.ne os.rb (by decide) e)
    have hC:=hsl.chg hkk (fun b cs hb e=>hb.ne os.rb (by decide) e) (fun b cs hb e=>hb.ne os.rb (by decide) e) (fun b cs hb e=>hb.ne os.rb (by decide) e)
    generalize (((((wr.setCell ⟨w.heap.size,0,none⟩ (.slice ta p.types.length tc)).setCell ⟨w.heap.size,1,none⟩ (.slice (some ⟨g,0,none⟩) p.funcs.length fc)).setCell ⟨w.heap.size,2,none⟩ (.slice xa acc.length xc)).setCell ⟨w.heap.size,3,none⟩ (.int .i64 0)).setCell ⟨w.heap.size,4,none⟩ (.int .i64 0))=wf at *
    clear o0 o1 o2 o3 o4 z0 z1 z2 z3 z4 p0 p1 p2 p3 p4
    have q0:wf.cell? ⟨w.heap.size,0,none⟩=some (.slice ta p.types.length tc):=b3.cell 0
    have q1:wf.cell? ⟨w.heap.size,1,none⟩=some (.slice (some ⟨g,0,none⟩) p.funcs.length fc):=b3.cell 1
    have q2:wf.cell? ⟨w.heap.size,2,none⟩=some (.slice xa acc.length xc):=b3.cell 2
    have q3:wf.cell? ⟨w.heap.size,3,none⟩=some (.int .i64 0):=b3.cell 3
    have q4:wf.cell? ⟨w.heap.size,4,none⟩=some (.int .i64 0):=b3.cell 4
    have hO:=HO.out
    subst hO
    exact bodyPost_ret (v:=.agg #[.slice ta p.types.length tc,.slice (some ⟨g,0,none⟩) p.funcs.length fc,.slice xa acc.length xc,.int .i64 0,.int .i64 0]) (by simp [results,Try.results38,go_sem,q0,q1,q2,q3,q4]) rfl ⟨_,_,_,rfl,⟨hA,hB,hC,hD⟩,fun e=>absurd rfl e⟩
 ·have hz':(R.1 != 0)=true:=by simp [hz]
  have HO:Hid _:=HO1.out hz
  obtain ⟨e1,e2⟩:=HN.out hz
  have E1:Hid _:=e1
  have E2:Hid _:=e2
  have o0:w1.cell? ⟨w.heap.size,0,none⟩=some (.slice none 0 0):=bo1.cell 0
  have o1:w1.cell? ⟨w.heap.size,1,none⟩=some (.slice none 0 0):=bo1.cell 1
  have o2:w1.cell? ⟨w.heap.size,2,none⟩=some (.slice none 0 0):=bo1.cell 2
  have o3:w1.cell? ⟨w.heap.size,3,none⟩=some (.int .i64 0):=bo1.cell 3
  have o4:w1.cell? ⟨w.heap.size,4,none⟩=some (.int .i64 0):=bo1.cell 4
  have z0:=bo1.frozen 0
  have z1:=bo1.frozen 1
  have z2:=bo1.frozen 2
  have z3:=bo1.frozen 3
  have z4:=bo1.frozen 4
  clear e1 e2 hz
  go_wp2
  have b3:=(((((bo1.set 0 (.slice ta R.2.2.types.length tc)).set 1 (.slice fa R.2.2.funcs.length fc)).set 2 (.slice none 0 0)).set 3 (.int .i64 R.1)).set 4 (.int .i64 R.2.1)).alloc (Obj.cells #[.slice ta R.2.2.types.length tc,.slice fa R.2.2.funcs.length fc,.slice none 0 0,.int .i64 R.1,.int .i64 R.2.1] 80)
  have hkk:=(chg_set5 w1 w.heap.size (.slice ta R.2.2.types.length tc) (.slice fa R.2.2.funcs.length fc) (.slice none 0 0) (.int .i64 R.1) (.int .i64 R.2.1)).alloc (Obj.cells #[.slice ta R.2.2.types.length tc,.slice fa R.2.2.funcs.length fc,.slice none 0 0,.int .i64 R.1,.int .i64 R.2.1] 80)
  have hD:=k1.trans' hkk (fun i hi e=>by omega)
  generalize (((((w1.setCell ⟨w.heap.size,0,none⟩ (.slice ta R.2.2.types.length tc)).setCell ⟨w.heap.size,1,none⟩ (.slice fa R.2.2.funcs.length fc)).setCell ⟨w.heap.size,2,none⟩ (.slice none 0 0)).setCell ⟨w.heap.size,3,none⟩ (.int .i64 R.1)).setCell ⟨w.heap.size,4,none⟩ (.int .i64 R.2.1)).alloc (Obj.cells #[.slice ta R.2.2.types.length tc,.slice fa R.2.2.funcs.length fc,.slice none 0 0,.int .i64 R.1,.int .i64 R.2.1] 80)=wf at *
  have q0:wf.cell? ⟨w.heap.size,0,none⟩=some (.slice ta R.2.2.types.length tc):=b3.cell 0
  have q1:wf.cell? ⟨w.heap.size,1,none⟩=some (.slice fa R.2.2.funcs.length fc):=b3.cell 1
  have q2:wf.cell? ⟨w.heap.size,2,none⟩=some (.slice none 0 0):=b3.cell 2
  have q3:wf.cell? ⟨w.heap.size,3,none⟩=some (.int .i64 R.1):=b3.cell 3
  have q4:wf.cell? ⟨w.heap.size,4,none⟩=some (.int .i64 R.2.1):=b3.cell 4
  have hO:=HO.out
  subst hO
  refine bodyPost_ret (v:=.agg #[.slice ta R.2.2.types.length tc,.slice fa R.2.2.funcs.length fc,.slice none 0 0,.int .i64 R.1,.int .i64 R.2.1]) (by simp [results,Try.results38,go_sem,q0,q1,q2,q3,q4]) rfl ⟨_,_,_,rfl,?_,fun _=>⟨E1.out,E2.out,rfl⟩⟩
  rw [E1.out,E2.out]
  exact ⟨TypesV.nil _ _,FuncsV.nil _ _ _ _,SpotsL.nil _ _,hD⟩
end Go.Proofs.Ytnfnbcbadakofaa
