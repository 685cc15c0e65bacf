import Derived.Test.YtnfnbcbadakofabSfit
import Derived.Test.YtnfnbcbadakofabFend
import Derived.Deep.OwnRows
import Derived.Test.YtnfnbcbadakofabSame
import Derived.Deep.RegionHeld3
import Derived.Deep.RegionLaw
namespace Go.Proofs.Ytnfnbcbadakofab
open Go.RowKit
theorem SpotsV.chg {S:Nat->Prop} {w w':World} {base:Nat} {v:Value} {sp:Spots} (h:SpotsV w base v sp) (k:Chg S w w') (h3:∀ g cs,Blk w g cs 3->¬ S g) (h107:∀ g cs,Blk w g cs 125->¬ S g):SpotsV w' base v sp:=by
 obtain ⟨xs,h1,h2,hx⟩:=h
 exact ⟨xs,h1,own_chg h2 k (fun g hg e=>by obtain ⟨cs,hb⟩:=own_blk h2 hg;exact h107 g cs hb e),fun x m=>(hx x m).chg k h3⟩
theorem SpotsV.mono {w:World} {base base':Nat} {v:Value} {sp:Spots} (h:SpotsV w base v sp) (hb:base'<=base):SpotsV w base' v sp:=by
 obtain ⟨xs,h1,h2,hx⟩:=h
 exact ⟨xs,h1,own_mono h2 hb,fun x m=>own_mono (hx x m) hb⟩
theorem SpotsV.slice {w:World} {base:Nat} {v:Value} {sp:Spots} (h:SpotsV w base v sp):∃ a cap,v=.slice a sp.length cap:=by
 obtain ⟨xs,h1,h,_⟩:=h
 subst h1
 rw [List.length_map]
 rcases h.2 with ⟨h1,h2⟩ | ⟨g,cap,cur,rfl,_⟩
 ·exact ⟨none,0,by rw [h1,h2]⟩
 ·exact ⟨_,_,rfl⟩
def SpotsL (w:World) (base:Nat) (v:Value) (sps:List Spots):Prop:=
 ∃ vs:List Value,w.ownsRow base 79 1 v sps.length vs/\∀ j x,vs[j]?=some x->SpotsV w base x (sps.getD j [])
theorem SpotsL.nil (w:World) (base:Nat):SpotsL w base (.slice none 0 0) []:=⟨[],World.ownsRow_nil _ _ _ _,fun j u hj=>by simp at hj⟩
theorem SpotsL.chg {S:Nat->Prop} {w w':World} {base:Nat} {v:Value} {sps:List Spots} (h:SpotsL w base v sps) (k:Chg S w w') (h3:∀ g cs,Blk w g cs 3->¬ S g) (h107:∀ g cs,Blk w g cs 125->¬ S g) (h140:∀ g cs,Blk w g cs 79->¬ S g):SpotsL w' base v sps:=by
 obtain ⟨vs,h1,hx⟩:=h
 exact ⟨vs,own_chg h1 k (fun g hg e=>by obtain ⟨cs,hb⟩:=own_blk h1 hg;exact h140 g cs hb e),fun j x hj=>(hx j x hj).chg k h3 h107⟩
theorem SpotsL.slice {w:World} {base:Nat} {v:Value} {sps:List Spots} (h:SpotsL w base v sps):∃ a cap,v=.slice a sps.length cap:=by
 obtain ⟨vs,h,_⟩:=h
 rcases h.2 with ⟨h1,h2⟩ | ⟨g,cap,cur,rfl,_⟩
 ·exact ⟨none,0,by rw [h1,h2]⟩
 ·exact ⟨_,_,rfl⟩
theorem SpotsL.snoc {w w':World} {base n:Nat} {v v':Value} {vs:List Value} {ls:List Spots} {u:Value} {l:Spots} (hv:w.ownsRow base 79 1 v ls.length vs) (hk:∀ j x,vs[j]?=some x->SpotsV w base x (ls.getD j []))
 (hn:n=ls.length+1) (hown:w'.ownsRow base 79 1 v' n (vs++[u])) (k:Chg (fun j=>some j=v.ownBlock) w w') (hu:SpotsV w base u l):SpotsL w' base v' (ls++[l]):=by
 have ne:∀ g cs e,Blk w g cs e->e ≠ 79->¬ some g=v.ownBlock:=fun g cs e hb he hg=>by
  obtain ⟨cs',hb'⟩:=own_blk hv hg.symm
  exact hb.ne hb' he rfl
 have hlen:vs.length=ls.length:=by have:=hv.1;omega
 subst hn
 refine ⟨vs++[u],by simpa using hown,fun j x hj=>?_⟩
 rw [List.getElem?_append] at hj
 split at hj
 ·rename_i hlt
  have:=(hk j x hj).chg k (fun g cs hb=>ne g cs 3 hb (by decide)) (fun g cs hb=>ne g cs 125 hb (by decide))
  rw [List.getD_eq_getElem?_getD,List.getElem?_append_left (by omega),<-List.getD_eq_getElem?_getD]
  exact this
 ·rename_i hlt
  have hj0:j=ls.length:=by
   rcases Nat.lt_or_ge (j - vs.length) 1 with h | h
   ·omega
   ·rw [List.getElem?_eq_none (by simpa using h)] at hj;cases hj
  subst hj0
  rw [hlen,Nat.sub_self] at hj
  simp at hj
  subst hj
  rw [List.getD_eq_getElem?_getD,List.getElem?_append_right (Nat.le_refl _)]
  simpa using hu.chg k (fun g cs hb=>ne g cs 3 hb (by decide)) (fun g cs hb=>ne g cs 125 hb (by decide))
theorem info140:∃ i:TypeInfo,Try.prog.info? 79=some i/\i.zero=some (.slice none 0 0)/\i.size=1/\i.bytes=24:=info_of (by kernel_rfl)
def fitF (p:Pg) (f:Fn):Fits:=fitL (aftC p.types p.funcs f) (wayC f) f.code.length 0 (goP (List.replicate f.code.length none) [] false 0 [])
def fitAll (p:Pg):List Fn->Nat->List Spots->Nat ⊕ List Spots
 | [],_,acc=>.inr acc
 | f::fs,k,acc=>if (fitF p f).2.2=true then .inl k else fitAll p fs (k+1) (acc++[(fitF p f).1])
def opF (s:ByteArray):Int × Int × Pg × List Spots:=
 if (opn s).1 ≠ 0 then ((opn s).1,(opn s).2.1,⟨[],[]⟩,[]) else
 match fitAll (opn s).2.2 (opn s).2.2.funcs 0 [] with
 | .inl k=>(3,k,⟨[],[]⟩,[])
 | .inr sps=>(0,0,(opn s).2.2,sps)
theorem fitAll_step {p:Pg} {k:Nat} {acc:List Spots} {A:Nat ⊕ List Spots} (hk:k < p.funcs.length) (h:fitAll p (p.funcs.drop k) k acc=A) :
 ((fitF p p.funcs[k]).2.2=true->A=.inl k)/\((fitF p p.funcs[k]).2.2=false->fitAll p (p.funcs.drop (k+1)) (k+1) (acc++[(fitF p p.funcs[k]).1])=A):=by
 rw [List.drop_eq_getElem_cons hk] at h
 unfold fitAll at h
 exact ⟨fun e=>by rw [if_pos e] at h;exact h.symm,fun e=>by rw [if_neg (by rw [e];decide)] at h;exact h⟩
def OfPost (w w':World) (tv fv sv:Value) (O:Int × Int × Pg × List Spots):Prop:=
 TypesV w' w.heap.size tv O.2.2.1.types/\FuncsV 78 93 w' w.heap.size fv O.2.2.1.funcs/\SpotsL w' w.heap.size sv O.2.2.2/\Chg () w w'
def OfEnd (w:World) (O:Int × Int × Pg × List Spots) (e:Ending) (w':World):Prop:=
 ∃ tv fv sv,e=.returned (.agg #[tv,fv,sv,O.1,O.2.1])/\OfPost w w' tv fv sv O/\(O.1 ≠ 0->tv=.slice none 0 0/\fv=.slice none 0 0/\sv=.slice none 0 0)
structure OS (w wk:World) (ob:Nat) (oc:Array Value):Prop where
 rb:Blk wk w.heap.size #[(),(),(),oO,oO] 59
 bx:Blk wk ob oc 59
 lt:w.heap.size < ob
 ch:Chg () w wk
theorem OS.new {w wk wk':World} {ob:Nat} {oc:Array Value} (h:OS w wk ob oc) (k:Chg () wk wk'):OS w wk' ob oc:=⟨h.rb.chg k (fun e=>e),h.bx.chg k (fun e=>e),h.lt,h.ch.trans k⟩
theorem OS.setO {w wk:World} {ob:Nat} {oc:Array Value} (h:OS w wk ob oc) (i:Nat) (v:Value):OS w (wk.setCell ⟨ob,i,none⟩ v) ob (oc.setIfInBounds i v):=
 have:=h.lt
 ⟨h.rb.setOther _ _ (by simp;omega),h.bx.set i v,h.lt,h.ch.setCell _ _ (.inr (by simp;omega))⟩
theorem OS.grow {w wk wk':World} {ob:Nat} {oc:Array Value} {cv:Value} {n size:Nat} {xs:List Value} {eF:TypeId} (h:OS w wk ob oc) (h1:59 ≠ eF) (hcv:wk.ownsRow w.heap.size eF size cv n xs) (k:Chg (fun k=>some k=cv.ownBlock) wk wk'):OS w wk' ob oc:=by
 have ne:∀ g cs e,Blk wk g cs e->e ≠ eF->¬ some g=cv.ownBlock:=fun g cs e hb he hg=>by
  obtain ⟨cs',hb'⟩:=own_blk hcv hg.symm
  exact hb.ne hb' he rfl
 exact ⟨h.rb.chg k (ne _ _ _ h.rb h1),h.bx.chg k (ne _ _ _ h.bx h1),h.lt,h.ch.trans' k (fun i hi e=>by have:=(hcv.lt i e.symm).1;omega)⟩
set_option maxHeartbeats 4000000 in
set_option maxRecDepth 100000 in
theorem openFit_core (s:ByteArray) (w:World) (R:Int × Int × Pg) (HR:Hid (opn s=R)) (hwf:R.1=0->PgWf R.2.2) (A:Nat ⊕ List Spots) (HA:Hid (fitAll R.2.2 R.2.2.funcs 0 []=A)) (O:Int × Int × Pg × List Spots)
 (HP:Hid (R.1=0->R.2.1=0)) (HO1:Hid (R.1 ≠ 0->O=(R.1,R.2.1,⟨[],[]⟩,[]))) (HO2:Hid (R.1=0->∀ k:Nat,A=.inl k->O=(3,(k:Int),⟨[],[]⟩,[]))) (HO3:Hid (R.1=0->∀ sps,A=.inr sps->O=(0,0,R.2.2,sps))) :
 Calls Try.prog 20 #[.string s] w (OfEnd w O):=by
 have HW:=hid hwf
 clear hwf
 obtain ⟨i,hi1,hi2,hi3,hi4⟩:=info140
 have Hi1:=hid hi1
 have Hi2:=hid hi2
 have Hi3:=hid hi3
 have Hi4:=hid hi4
 clear hi1 hi2 hi3 hi4
 go_enter Try.func20,Try.ntmps20
 go_wp2_with fail
 have ka:Chg () w (w.alloc (Obj.cells #[(),(),(),oO,oO] 59)):=(Chg.refl _ w).alloc _
 have bo:=Blk.new w #[.slice none 0 0,.slice none 0 0,.slice none 0 0,.int .i64 0,.int .i64 0] 59
 refine (open_any s _).mono ?_
 rw [HR.out]
 rintro e w1 ⟨tv,fv,rfl,hty,hfv,hnil,hch⟩
 have bo1:=bo.chg hch (fun e=>e)
 have k1:=ka.trans hch
 have hty1:TypesV w1 w.heap.size tv R.2.2.types:=hty.mono ka.size
 have hfv1:FuncsV 78 93 w1 w.heap.size fv R.2.2.funcs:=hfv.mono ka.size
 have HN:=hid hnil
 clear bo ka hch hty hfv hnil
 obtain ⟨ta,tc,rfl⟩:=hty1.slice
 obtain ⟨fa,fc,rfl⟩:=hfv1.slice
 have hlt1:=bo1.lt
 by_cases hz:R.1=0
 ·have hw:=HW.out hz
  have HO2':Hid (∀ k:Nat,A=.inl k->O=(3,(k:Int),⟨[],[]⟩,[])):=HO2.out hz
  have HO3':Hid (∀ sps,A=.inr sps->O=(0,0,R.2.2,sps)):=HO3.out hz
  obtain ⟨g,fcap,hfe,hfl,hcells⟩:=hfv1.formS (by have:=hw.f1;omega)
  simp only [Value.slice.injEq] at hfe
  obtain ⟨rfl,_,rfl⟩:=hfe
  clear hcells hfl
  have kc:Chg () w1 (w1.alloc (Obj.cells #[.slice ta R.2.2.types.length tc,.slice g R.2.2.funcs.length fc,(),R.1,R.2.1] 59)):=(Chg.refl _ w1).alloc _
  have os0:OS w (w1.alloc (Obj.cells #[.slice ta R.2.2.types.length tc,.slice g R.2.2.funcs.length fc,(),R.1,R.2.1] 59)) w1.heap.size #[.slice ta R.2.2.types.length tc,.slice g R.2.2.funcs.length fc,(),R.1,R.2.1]:=⟨bo1.chg kc (fun e=>e),Blk.new w1 _ 59,hlt1,k1.trans kc⟩
  have hty2:=hty1.new kc
  have hfv2:=hfv1.chg kc (fun _ _ _ e=>e) (fun _ _ _ e=>e) (fun _ _ _ e=>e)
  have hR2:R.2.1=0:=HP.out hz
  clear kc bo1 k1 hty1 hfv1 HO1 HO2 HO3 HR HW HN
  rw [hz,hR2] at os0 hty2 hfv2
  rw [hz,hR2]
  clear hz hR2
  generalize R.2.2=p at *
  go_wp2_with fail
  generalize w1.alloc (Obj.cells #[.slice ta p.types.length tc,.slice g p.funcs.length fc,(),oO,oO] 59)=w2 at *
  generalize w1.heap.size=ob at *
  go_loopw [17] (fun iv wr=>∃ (k:Nat) (acc:List Spots) (sv:Value),k<=p.funcs.length/\iv=.int .i64 (k:Int)/\acc.length=k/\OS w wr ob #[.slice ta p.types.length tc,.slice g p.funcs.length fc,sv,.int .i64 0,.int .i64 0]/\TypesV wr w.heap.size (.slice ta p.types.length tc) p.types/\FuncsV 78 93 wr w.heap.size (.slice g p.funcs.length fc) p.funcs/\SpotsL wr w.heap.size sv acc/\fitAll p (p.funcs.drop k) k acc=A) (fun iv _=>p.funcs.length - (intOf iv).toNat)
  case atStart=>exact ⟨0,[],_,Nat.zero_le _,rfl,rfl,os0,hty2,hfv2,SpotsL.nil _ _,HA.out⟩
  case round =>
   clear os0 hty2 hfv2 HA hlt1
   obtain ⟨k,acc,sv,hk,rfl,hak,os,hty,hfv,hsl,hfa⟩:=hrel
   have p0:wr.cell? ⟨ob,0,none⟩=some (.slice ta p.types.length tc):=os.bx.cell 0
   have p1:wr.cell? ⟨ob,1,none⟩=some (.slice g p.funcs.length fc):=os.bx.cell 1
   have hf6:=hw.f6
   have HAK:=hid hak
   clear hak
   by_cases hlt:k < p.funcs.length
   ·have hlt':(k:Int) < (p.funcs.length:Int):=by omega
    obtain ⟨st1,st2⟩:=fitAll_step hlt hfa
    have hmem:p.funcs[k] ∈ p.funcs:=List.getElem_mem hlt
    obtain ⟨bb,hfo⟩:=hw.fn hmem
    have hc1:=hfo.c1
    clear hfo hfa
    obtain ⟨g',fcap',hfe,_,hcells⟩:=hfv.formS (by omega)
    simp only [Value.slice.injEq,Option.some.injEq,Addr.mk.injEq] at hfe
    obtain ⟨⟨rfl,_,_⟩,_,rfl⟩:=hfe
    obtain ⟨lv,cv,h0,h1,h2,h3,hl,hc⟩:=hcells k hlt
    clear hcells
    generalize p.funcs[k]=f at *
    generalize hFF:fitF p f=F at *
    have HFF:=hid hFF
    clear hFF
    obtain ⟨sp3,q3,b3⟩:=F
    have ST1:=hid st1
    have ST2:=hid st2
    have HMEM:=hid hmem
    clear st1 st2 hmem
    obtain ⟨la,lc,rfl⟩:=hl.slice
    obtain ⟨gk,cc,rfl,_,_,_,_⟩:=hc.form (by omega)
    have hsz:=os.ch.size
    have hob:=os.bx.lt
    have kf:Chg () wr (wr.alloc (Obj.cells #[f.args,.slice la f.locals.length lc,f.result,.slice gk f.code.length cc] 78)):=(Chg.refl _ wr).alloc _
    have hgl:=World.block_lt_of_cell? wr _ h0
    go_wp2_with fail
    refine (sfit_core _ w.heap.size ta (some ⟨g,0,none⟩) la tc fc lc gk cc p hw f HMEM.out (Nat.le_trans hsz kf.size) (hty.new kf) (hfv.chg kf (fun _ _ _ e=>e) (fun _ _ _ e=>e) (fun _ _ _ e=>e)) (hl.chg kf (fun _ _ _ e=>e)) (hc.chg kf (fun _ _ _ e=>e)) (sp3,q3,b3) HFF).mono ?_
    rintro e w3 ⟨sv3,qa3,qn3,qc3,rfl,hS,hch3⟩
    obtain ⟨sa,sc,rfl⟩:=hS.slice
    have k3:=kf.trans hch3
    have hS3:SpotsV w3 w.heap.size (.slice sa sp3.length sc) sp3:=hS.mono (Nat.le_trans hsz kf.size)
    clear hS kf hch3 h0 h1 h2 h3 hl hc p0 p1 HFF HMEM
    have os3:=os.new k3
    have hty3:=hty.new k3
    have hfv3:=hfv.chg k3 (fun _ _ _ e=>e) (fun _ _ _ e=>e) (fun _ _ _ e=>e)
    have hsl3:=hsl.chg k3 (fun _ _ _ e=>e) (fun _ _ _ e=>e) (fun _ _ _ e=>e)
    clear os hty hfv hsl k3 hgl hsz hob
    cases b3 with
    | true =>
     have HO:Hid _:=HO2'.out k (ST1.out rfl)
     have o0:w3.cell? ⟨w.heap.size,0,none⟩=some (.slice none 0 0):=os3.rb.cell 0
     have o1:w3.cell? ⟨w.heap.size,1,none⟩=some (.slice none 0 0):=os3.rb.cell 1
     have o2:w3.cell? ⟨w.heap.size,2,none⟩=some (.slice none 0 0):=os3.rb.cell 2
     have o3:w3.cell? ⟨w.heap.size,3,none⟩=some (.int .i64 0):=os3.rb.cell 3
     have o4:w3.cell? ⟨w.heap.size,4,none⟩=some (.int .i64 0):=os3.rb.cell 4
     have z0:=os3.rb.frozen 0
     have z1:=os3.rb.frozen 1
     have z2:=os3.rb.frozen 2
     have z3:=os3.rb.frozen 3
     have z4:=os3.rb.frozen 4
     have hltr:=os3.rb.lt
     go_wp2
     have b3:=(((((os3.rb.set 0 (.slice none 0 0)).set 1 (.slice none 0 0)).set 2 (.slice none 0 0)).set 3 (.int .i64 3)).set 4 (.int .i64 (k:Int))).alloc (Obj.cells #[.slice ta p.types.length tc,.slice g p.funcs.length fc,f.args,.slice la f.locals.length lc,f.result,.slice gk f.code.length cc,.slice sa sp3.length sc,.slice qa3 qn3 qc3,.bool true] 81)
     have hkk:=(chg_set5 w3 w.heap.size (.slice none 0 0) (.slice none 0 0) (.slice none 0 0) (.int .i64 3) (.int .i64 (k:Int))).alloc (Obj.cells #[.slice ta p.types.length tc,.slice g p.funcs.length fc,f.args,.slice la f.locals.length lc,f.result,.slice gk f.code.length cc,.slice sa sp3.length sc,.slice qa3 qn3 qc3,.bool true] 81)
     have hD:=os3.ch.trans' hkk (fun i hi e=>by omega)
     generalize (((((w3.setCell ⟨w.heap.size,0,none⟩ ()).setCell ⟨w.heap.size,1,none⟩ ()).setCell ⟨w.heap.size,2,none⟩ ()).setCell ⟨w.heap.size,3,none⟩ (3:Int)).setCell ⟨w.heap.size,4,none⟩ k).alloc (Obj.cells #[.slice ta p.types.length tc,.slice g p.funcs.length fc,f.args,.slice la f.locals.length lc,f.result,.slice gk f.code.length cc,.slice sa sp3.length sc,.slice qa3 qn3 qc3,.bool true] 81)=wf at *
     clear o0 o1 o2 o3 o4 z0 z1 z2 z3 z4
     have q0:wf.cell? ⟨w.heap.size,0,none⟩=some (.slice none 0 0):=b3.cell 0
     have q1:wf.cell? ⟨w.heap.size,1,none⟩=some (.slice none 0 0):=b3.cell 1
     have q2:wf.cell? ⟨w.heap.size,2,none⟩=some (.slice none 0 0):=b3.cell 2
     have q3:wf.cell? ⟨w.heap.size,3,none⟩=some (.int .i64 3):=b3.cell 3
     have q4:wf.cell? ⟨w.heap.size,4,none⟩=some (.int .i64 (k:Int)):=b3.cell 4
     have hO:=HO.out
     subst hO
     exact bodyPost_ret (v:=.agg #[(),(),(),(3:Int),k]) (by simp [results,Try.results20,go_sem,q0,q1,q2,q3,q4]) rfl ⟨_,_,_,rfl,⟨TypesV.nil _ _,FuncsV.nil _ _ _ _,SpotsL.nil _ _,hD⟩,fun _=>⟨rfl,rfl,rfl⟩⟩
    | false =>
     have HN:Hid _:=ST2.out rfl
     clear ST1 ST2
     have k4:Chg () w3 (w3.alloc (Obj.cells #[.slice ta p.types.length tc,.slice g p.funcs.length fc,f.args,.slice la f.locals.length lc,f.result,.slice gk f.code.length cc,.slice sa sp3.length sc,.slice qa3 qn3 qc3,.bool false] 81)):=(Chg.refl _ w3).alloc _
     have os4:=os3.new k4
     have hty4:=hty3.new k4
     have hfv4:=hfv3.chg k4 (fun _ _ _ e=>e) (fun _ _ _ e=>e) (fun _ _ _ e=>e)
     have hsl4:=hsl3.chg k4 (fun _ _ _ e=>e) (fun _ _ _ e=>e) (fun _ _ _ e=>e)
     have hS4:=hS3.chg k4 (fun _ _ _ e=>e) (fun _ _ _ e=>e)
     obtain ⟨xa,xc,rfl⟩:=hsl4.slice
     have y0:w3.cell? ⟨ob,2,none⟩=some (.slice xa acc.length xc):=os3.bx.cell 2
     have z0:=os3.bx.frozen 2
     have hlo:=os3.bx.lt
     have hlo2:=os3.lt
     have h42:(w3.alloc (Obj.cells #[.slice ta p.types.length tc,.slice g p.funcs.length fc,f.args,.slice la f.locals.length lc,f.result,.slice gk f.code.length cc,.slice sa sp3.length sc,.slice qa3 qn3 qc3,.bool false] 81)).heap.size=w3.heap.size+1:=by simp
     clear os3 hty3 hfv3 hsl3 hS3 k4
     obtain ⟨vs,hvs,hvk⟩:=hsl4
     go_wp2_with (at_builtin;refine wpList_append_lies _ rfl _ _ 57 rfl w.heap.size 79 i (.slice none 0 0) 1 24 Try.underlying57 Hi1.out Hi2.out Hi3.out Hi4.out rfl (by decide) _ _ _ rfl (World.ownsRow.alloc hvs _) ⟨w3.heap.size+1,0,none⟩ 1 1 [.slice sa sp3.length sc] rfl rfl ?c1 ?c2 (by decide) ?c3 ?c4 ?c5 _ rfl ?_)
     case c1=>rw [<-h42];exact cell_one_new _ _ _
     case c2=>intro u hu;simp at hu;subst hu;rfl
     case c3=>rw [HAK.out];unfold maxLen;omega
     case c4=>rw [HAK.out];omega
     case c5=>simp;omega
     ·intro g2 cap2 w5 hown hgrow hat hlt5
      have hg3:Chg (fun j=>some j=(Value.slice xa acc.length xc).ownBlock) (w3.alloc (Obj.cells #[.slice ta p.types.length tc,.slice g p.funcs.length fc,f.args,.slice la f.locals.length lc,f.result,.slice gk f.code.length cc,.slice sa sp3.length sc,.slice qa3 qn3 qc3,.bool false] 81)) w5:=(((Chg.refl _ _).alloc _).grown hgrow (fun j hj=>.inl hj.symm))
      generalize w3.alloc (Obj.cells #[.slice ta p.types.length tc,.slice g p.funcs.length fc,f.args,.slice la f.locals.length lc,f.result,.slice gk f.code.length cc,.slice sa sp3.length sc,.slice qa3 qn3 qc3,.bool false] 81)=w4 at *
      have ne:∀ b cs e,Blk w4 b cs e->e ≠ 79->¬ some b=(Value.slice xa acc.length xc).ownBlock:=fun b cs e hb he hg=>by
       obtain ⟨cs',hb'⟩:=own_blk hvs hg.symm
       exact hb.ne hb' he rfl
      have os5:=os4.grow (by decide) hvs hg3
      have hty5:=hty4.chg hg3 (fun b cs hb=>ne b cs 3 hb (by decide)) (fun b cs hb=>ne b cs 24 hb (by decide))
      have hfv5:=hfv4.chg hg3 (fun b cs hb=>ne b cs 3 hb (by decide)) (fun b cs hb=>ne b cs 93 hb (by decide)) (fun b cs hb=>ne b cs 78 hb (by decide))
      have hsl5:=SpotsL.snoc hvs hvk rfl hown hg3 hS4
      clear hgrow hg3 hat y0 z0 ne hown hvs hvk os4 hty4 hfv4 hS4
      have y0:w5.cell? ⟨ob,2,none⟩=some (.slice xa acc.length xc):=os5.bx.cell 2
      have z0:=os5.bx.frozen 2
      go_wp2
      have kz:Chg (fun b=>b=ob) w5 (w5.setCell ⟨ob,2,none⟩ (.slice g2 (acc.length+1) cap2)):=(Chg.refl _ w5).setCell _ _ (.inl rfl)
      refine ⟨⟨k+1,acc++[sp3],.slice g2 (acc.length+1) cap2,by omega,rfl,by rw [List.length_append,HAK.out];rfl,os5.setO 2 _,?_,?_,?_,HN.out⟩,by simp [intOf];omega⟩
      ·exact hty5.chg kz (fun b cs hb e=>hb.ne os5.bx (by decide) e) (fun b cs hb e=>hb.ne os5.bx (by decide) e)
      ·exact hfv5.chg kz (fun b cs hb e=>hb.ne os5.bx (by decide) e) (fun b cs hb e=>hb.ne os5.bx (by decide) e) (fun b cs hb e=>hb.ne os5.bx (by decide) e)
      ·exact hsl5.chg kz (fun b cs hb e=>hb.ne os5.bx (by decide) e) (fun b cs hb e=>hb.ne os5.bx (by decide) e) (fun b cs hb e=>hb.ne os5.bx (by decide) e)
   ·have hkk:k=p.funcs.length:=by omega
    have HO:Hid (O=(0,0,p,acc)):=HO3'.out acc (by rw [hkk,List.drop_length] at hfa;exact hfa.symm)
    have hlt':(p.funcs.length:Int)<=(k:Int):=by omega
    clear hfa hkk
    obtain ⟨xa,xc,rfl⟩:=hsl.slice
    have p2:wr.cell? ⟨ob,2,none⟩=some (.slice xa acc.length xc):=os.bx.cell 2
    have p3:wr.cell? ⟨ob,3,none⟩=some (.int .i64 0):=os.bx.cell 3
    have p4:wr.cell? ⟨ob,4,none⟩=some (.int .i64 0):=os.bx.cell 4
    have o0:wr.cell? ⟨w.heap.size,0,none⟩=some (.slice none 0 0):=os.rb.cell 0
    have o1:wr.cell? ⟨w.heap.size,1,none⟩=some (.slice none 0 0):=os.rb.cell 1
    have o2:wr.cell? ⟨w.heap.size,2,none⟩=some (.slice none 0 0):=os.rb.cell 2
    have o3:wr.cell? ⟨w.heap.size,3,none⟩=some (.int .i64 0):=os.rb.cell 3
    have o4:wr.cell? ⟨w.heap.size,4,none⟩=some (.int .i64 0):=os.rb.cell 4
    have z0:=os.rb.frozen 0
    have z1:=os.rb.frozen 1
    have z2:=os.rb.frozen 2
    have z3:=os.rb.frozen 3
    have z4:=os.rb.frozen 4
    have hltp:=os.lt
    go_wp2
    have b3:=(((((os.rb.set 0 (.slice ta p.types.length tc)).set 1 (.slice g p.funcs.length fc)).set 2 (.slice xa acc.length xc)).set 3 (.int .i64 0)).set 4 (.int .i64 0))
    have hkk:=chg_set5 wr w.heap.size (.slice ta p.types.length tc) (.slice g p.funcs.length fc) (.slice xa acc.length xc) (.int .i64 0) (.int .i64 0)
    have hD:=os.ch.trans' hkk (fun i hi e=>by omega)
    have hA:=hty.chg hkk (fun b cs hb e=>hb.ne os.rb (by decide) e) (fun b cs hb e=>hb.ne os.rb (by decide) e)
    have hB:=hfv.chg hkk (fun b cs hb e=>hb.ne os.rb (by decide) e) (fun b cs hb e=>hb.ne os.rb (by decide) e) (fun b cs hb e=>hb.ne os.rb (by decide) e)
    have hC:=hsl.chg hkk (fun b cs hb e=>hb.ne os.rb (by decide) e) (fun b cs hb e=>hb.ne os.rb (by decide) e) (fun b cs hb e=>hb.ne os.rb (by decide) e)
    generalize (((((wr.setCell ⟨w.heap.size,0,none⟩ (.slice ta p.types.length tc)).setCell ⟨w.heap.size,1,none⟩ (.slice g p.funcs.length fc)).setCell ⟨w.heap.size,2,none⟩ (.slice xa acc.length xc)).setCell ⟨w.heap.size,3,none⟩ oO).setCell ⟨w.heap.size,4,none⟩ oO)=wf at *
    clear o0 o1 o2 o3 o4 z0 z1 z2 z3 z4 p0 p1 p2 p3 p4
    have q0:wf.cell? ⟨w.heap.size,0,none⟩=some (.slice ta p.types.length tc):=b3.cell 0
    have q1:wf.cell? ⟨w.heap.size,1,none⟩=some (.slice g p.funcs.length fc):=b3.cell 1
    have q2:wf.cell? ⟨w.heap.size,2,none⟩=some (.slice xa acc.length xc):=b3.cell 2
    have q3:wf.cell? ⟨w.heap.size,3,none⟩=some (.int .i64 0):=b3.cell 3
    have q4:wf.cell? ⟨w.heap.size,4,none⟩=some (.int .i64 0):=b3.cell 4
    have hO:=HO.out
    subst hO
    exact bodyPost_ret (v:=.agg #[.slice ta p.types.length tc,.slice g p.funcs.length fc,.slice xa acc.length xc,oO,oO]) (by simp [results,Try.results20,go_sem,q0,q1,q2,q3,q4]) rfl ⟨_,_,_,rfl,⟨hA,hB,hC,hD⟩,fun e=>absurd rfl e⟩
 ·have hz':(R.1 != 0)=true:=by simp [hz]
  have HO:Hid _:=HO1.out hz
  obtain ⟨e1,e2⟩:=HN.out hz
  have E1:Hid _:=e1
  have E2:Hid _:=e2
  have o0:w1.cell? ⟨w.heap.size,0,none⟩=some (.slice none 0 0):=bo1.cell 0
  have o1:w1.cell? ⟨w.heap.size,1,none⟩=some (.slice none 0 0):=bo1.cell 1
  have o2:w1.cell? ⟨w.heap.size,2,none⟩=some (.slice none 0 0):=bo1.cell 2
  have o3:w1.cell? ⟨w.heap.size,3,none⟩=some (.int .i64 0):=bo1.cell 3
  have o4:w1.cell? ⟨w.heap.size,4,none⟩=some (.int .i64 0):=bo1.cell 4
  have z0:=bo1.frozen 0
  have z1:=bo1.frozen 1
  have z2:=bo1.frozen 2
  have z3:=bo1.frozen 3
  have z4:=bo1.frozen 4
  clear e1 e2 hz
  go_wp2
  have b3:=(((((bo1.set 0 (.slice ta R.2.2.types.length tc)).set 1 (.slice fa R.2.2.funcs.length fc)).set 2 (.slice none 0 0)).set 3 (.int .i64 R.1)).set 4 (.int .i64 R.2.1)).alloc (Obj.cells #[.slice ta R.2.2.types.length tc,.slice fa R.2.2.funcs.length fc,(),R.1,R.2.1] 59)
  have hkk:=(chg_set5 w1 w.heap.size (.slice ta R.2.2.types.length tc) (.slice fa R.2.2.funcs.length fc) (.slice none 0 0) (.int .i64 R.1) (.int .i64 R.2.1)).alloc (Obj.cells #[.slice ta R.2.2.types.length tc,.slice fa R.2.2.funcs.length fc,(),R.1,R.2.1] 59)
  have hD:=k1.trans' hkk (fun i hi e=>by omega)
  generalize (((((w1.setCell ⟨w.heap.size,0,none⟩ (.slice ta R.2.2.types.length tc)).setCell ⟨w.heap.size,1,none⟩ (.slice fa R.2.2.funcs.length fc)).setCell ⟨w.heap.size,2,none⟩ ()).setCell ⟨w.heap.size,3,none⟩ R.1).setCell ⟨w.heap.size,4,none⟩ R.2.1).alloc (Obj.cells #[.slice ta R.2.2.types.length tc,.slice fa R.2.2.funcs.length fc,(),R.1,R.2.1] 59)=wf at *
  have q0:wf.cell? ⟨w.heap.size,0,none⟩=some (.slice ta R.2.2.types.length tc):=b3.cell 0
  have q1:wf.cell? ⟨w.heap.size,1,none⟩=some (.slice fa R.2.2.funcs.length fc):=b3.cell 1
  have q2:wf.cell? ⟨w.heap.size,2,none⟩=some (.slice none 0 0):=b3.cell 2
  have q3:wf.cell? ⟨w.heap.size,3,none⟩=some (.int .i64 R.1):=b3.cell 3
  have q4:wf.cell? ⟨w.heap.size,4,none⟩=some (.int .i64 R.2.1):=b3.cell 4
  have hO:=HO.out
  subst hO
  refine bodyPost_ret (v:=.agg #[.slice ta R.2.2.types.length tc,.slice fa R.2.2.funcs.length fc,(),R.1,R.2.1]) (by simp [results,Try.results20,go_sem,q0,q1,q2,q3,q4]) rfl ⟨_,_,_,rfl,?_,fun _=>⟨E1.out,E2.out,rfl⟩⟩
  rw [E1.out,E2.out]
  exact ⟨TypesV.nil _ _,FuncsV.nil _ _ _ _,SpotsL.nil _ _,hD⟩
end Go.Proofs.Ytnfnbcbadakofab
namespace Go.Proofs.Ytnfnbcbadakofab
open Go.RowKit
theorem mkInfo4:(Try.prog.info? 4).map (fun i=>(i.zero,i.size,i.bytes))=some (some (.bool false),1,1):=by kernel_rfl
theorem mkInfo47:(Try.prog.info? 24).map (fun i=>(i.zero,i.size,i.bytes))=some (some (.slice none 0 0),1,24):=by kernel_rfl
theorem made_list (z:Value) (n:Nat):(madeCells #[z] n).toList=List.replicate n z:=by
 apply List.ext_getElem?
 intro i
 rw [Array.getElem?_toList]
 rcases Nat.lt_or_ge i n with h | h
 ·simp [madeCells,h,Nat.mod_one]
 ·rw [Array.getElem?_eq_none (by rw [size_madeCells];exact h),List.getElem?_eq_none (by simpa using h)]
theorem own_made {W:World} {e:TypeId} {z:Value} {n b base:Nat} (hz:Blk W b (madeCells #[z] n) e) (hb:base<=b) (hn:n<=maxLen):W.ownsRow base e 1 (.slice b n n) n (List.replicate n z):=
 ⟨by simp,.inr ⟨b,n,_,rfl,hb,hz,Nat.le_refl _,hn,by rw [size_madeCells,Nat.mul_one],by rw [Nat.mul_one,made_list];simp⟩⟩
theorem SS.start {w0 W:World} {b0 sb gh go n:Nat} (hn:0 < n) (hm:n<=maxLen) (k:Chg () w0 W) (b1:Blk W gh (madeCells #[.bool false] n) 4) (b2:Blk W go (madeCells #[()] n) 24) (b3:Blk W sb #[.slice gh n n,.slice go n n] 111) (h1:w0.heap.size<=gh) (h2:w0.heap.size<=go) (h3:w0.heap.size<=sb) :
 SS w0 (W.setCell ⟨gh,0,none⟩ (.bool true)) b0 sb gh go n n ((List.replicate n (none,.slice none 0 0)).set 0 (some [],.slice none 0 0)):=by
 have o1:=own_made b1 h1 hm
 have o2:=own_made b2 h2 hm
 have hl:((List.replicate n ((none:Option (List Int)),Value.slice none 0 0)).set 0 (some [],.slice none 0 0)).length=n:=by simp
 refine ⟨by rw [hl];exact b3.setOther _ _ (b3.ne b1 (by decide)),?_,?_,fun x m l hx=>?_,k.setCell _ _ (.inr h1),h3⟩
 ·rw [hl,List.map_set,List.map_replicate]
  exact own_setIn o1 0 (by omega) (.bool true)
 ·rw [hl,List.map_set,List.map_replicate]
  have e:(List.replicate n (Value.slice none 0 0)).set 0 (.slice none 0 0)=List.replicate n (.slice none 0 0):=by
   apply List.ext_getElem?
   intro i
   rw [List.getElem?_set]
   split
   ·subst_vars;simp [List.getElem?_replicate]
   ·rfl
  simp only [e]
  exact own_set o2 ⟨gh,0,none⟩ (.bool true) (own_ne o2 b1 (by decide))
 ·rcases List.mem_or_eq_of_mem_set m with m | rfl
  ·rw [List.mem_replicate] at m;rw [m.2] at hx;cases hx
  ·simp only [Option.some.injEq] at hx;subst hx;exact World.ownsRow_nil _ _ _ _
theorem SS.base {w W w':World} {b0 sb gh go ch co:Nat} {xs:List (Option (List Int) × Value)} (h:SS W w' b0 sb gh go ch co xs) (k:Chg () w W):SS w w' b0 sb gh go ch co xs:=
 ⟨h.box,own_mono h.has k.size,own_mono h.of k.size,h.stk,k.trans h.ch,Nat.le_trans k.size h.sb⟩
theorem put_len {n:Nat} {t:List Int} (ks:List Int):∀ {sp sp':Spots},put n t sp ks=some sp'->sp'.length=sp.length:=by
 induction ks with
 | nil=>intro sp sp' h;simp only [put,Option.some.injEq] at h;rw [h]
 | cons k ks ih =>
  intro sp sp' h
  unfold put at h
  by_cases hn:(n:Int)<=k
  ·rw [if_pos hn] at h;cases h
  rw [if_neg hn] at h
  rcases hg:sp.getD k.toNat none with _ | u
  ·rw [hg] at h;have:=ih h;simpa using this
  ·rw [hg] at h
   by_cases hut:(u == t)=true
   ·simp only [hut,if_true] at h;have:=ih h;simpa using this
   ·simp only [hut] at h;simp at h
theorem rnd_len {n:Nat} {aft:Nat->List Int->Option (List Int)} {wy:Nat->List Int} (c:Nat):∀ (i:Nat) {sp sp':Spots},rnd n aft wy c i sp=some sp'->sp'.length=sp.length:=by
 induction c with
 | zero=>intro i sp sp' h;simp only [rnd,Option.some.injEq] at h;rw [h]
 | succ c ih =>
  intro i sp sp' h
  unfold rnd at h
  rcases hg:sp.getD i none with _ | s
  ·rw [hg] at h;exact ih (i+1) h
  ·rw [hg] at h
   rcases ha:aft i s with _ | t
   ·simp only [ha] at h;cases h
   ·simp only [ha] at h
    rcases hp:put n t sp (wy i) with _ | sp1
    ·simp only [hp] at h;cases h
    ·simp only [hp] at h
     rw [ih (i+1) h,put_len _ hp]
def FtPost (w0 w':World) (b0:Nat) (pv:Value) (b:Bool) (RR:Option Spots):Prop:=
 Chg () w0 w'/\(RR=none->b=false)/\∀ sp,RR=some sp->b=true/\∃ sb gh go ch co xs,pv=.pointer (some ⟨sb,0,none⟩)/\xs.map (·.1)=sp/\SS w0 w' b0 sb gh go ch co xs
theorem rnds_step {n:Nat} {aft:Nat->List Int->Option (List Int)} {wy:Nat->List Int} {r:Nat} {sp:Spots} {RR:Option Spots} (hr:r<=n) (h:rnds n aft wy (n+1 - r) sp=RR) :
 (rnd n aft wy n 0 sp=none->RR=none)/\∀ sp',rnd n aft wy n 0 sp=some sp'->rnds n aft wy (n+1 - (r+1)) sp'=RR:=by
 have e:n+1 - r=(n+1 - (r+1))+1:=by omega
 rw [e] at h
 unfold rnds at h
 exact ⟨fun hp=>by simp only [hp] at h;exact h.symm,fun sp' hp=>by simp only [hp] at h;exact h⟩
set_option maxHeartbeats 2000000 in
set_option maxRecDepth 100000 in
theorem fit_core (w:World) (b0:Nat) (ta fa:Option Addr) (tc fc:Nat) (ls:List (List Int)) (fs:List Fn) (fi:Nat) (hfi:fi < fs.length) (hb0:b0<=w.heap.size)
 (ht:TypesV w b0 (.slice ta ls.length tc) ls) (hf:FuncsV 107 131 w b0 (.slice fa fs.length fc) fs) (hn:ls.length<=10000) (f:Fn) (hF:f=fs[fi]) (hcl:0 < f.code.length) (hcl2:f.code.length<=10000) (hargs:∀ f ∈ fs,0<=f.args/\f.args<=(f.locals.length:Int))
 (hok:∀ j (hj:j < f.code.length),CodeOk ls fs f f.code[j]) (RR:Option Spots) (HR:Hid (rnds f.code.length (aftC ls fs f) (wayC f) (f.code.length+1) ((List.replicate f.code.length none).set 0 (some []))=RR)) :
 Calls Try.prog 27 #[.agg #[.slice ta ls.length tc,.slice fa fs.length fc],fi] w fun e w'=>∃ pv b,e=.returned (.tuple #[pv,.bool b])/\FtPost w w' b0 pv b RR:=by
 have kb:Chg () w (w.alloc (Obj.cells #[.slice ta ls.length tc,.slice fa fs.length fc] 44)):=(Chg.refl () w).alloc _
 have bx:Blk (w.alloc (Obj.cells #[.slice ta ls.length tc,.slice fa fs.length fc] 44)) w.heap.size #[.slice ta ls.length tc,.slice fa fs.length fc] 44:=Blk.new' rfl _ 44
 obtain ⟨g,cap,hv,_,hcells⟩:=(hf.chg kb (fun _ _ _ e=>e) (fun _ _ _ e=>e) (fun _ _ _ e=>e)).formS (by omega)
 simp only [Value.slice.injEq] at hv
 obtain ⟨rfl,_,rfl⟩:=hv
 obtain ⟨lv,cv,-,-,-,cc3,-,hci⟩:=hcells fi hfi
 rw [<-hF] at hci
 obtain ⟨gk,kc,rfl,_,hkc,_,hcode⟩:=hci.form hcl
 clear hcells
 have hfi':(fi:Int) < (fs.length:Int):=by omega
 have HSP:Hid (∀ (w':World) (sb gh go ch co:Nat) (xs:List (Option (List Int) × Value)),SS (w.alloc (Obj.cells #[.slice ta ls.length tc,.slice g fs.length fc] 44)) w' b0 sb gh go ch co xs->xs.length=f.code.length->(∀ x ∈ xs,∀ l,x.1=some l->l.length<=10000) ->
  Calls Try.prog 46 #[.pointer sb,.agg #[.slice ta ls.length tc,.slice g fs.length fc],fi] w' fun e w''=>∃ b,e=.returned (.bool b)/\SpPost (w.alloc (Obj.cells #[.slice ta ls.length tc,.slice g fs.length fc] 44)) w'' b0 sb gh go ch co b (rnd f.code.length (aftC ls fs f) (wayC f) f.code.length 0 (xs.map (·.1)))):=
  fun w' sb gh go ch co xs h hxl hsx=>spread_core _ w' b0 sb gh go ch co xs h ta _ tc fc ls fs fi hfi (Nat.le_trans hb0 kb.size) (ht.new kb) (hf.chg kb (fun _ _ _ e=>e) (fun _ _ _ e=>e) (fun _ _ _ e=>e)) hn f hF hxl hcl hcl2 hargs hok hsx _ rfl
 clear hok hargs hF ht hf hci hcode hkc
 have hmk1:=run_make_row' (P:=Try.prog) 109 4 (.bool false) 1 Try.underlying109 mkInfo4 rfl .i64 .i64 f.code.length (by omega) (by omega)
 have hmk2:=run_make_row' (P:=Try.prog) 41 24 (.slice none 0 0) 24 Try.underlying41 mkInfo47 rfl .i64 .i64 f.code.length (by omega) (by omega)
 generalize hnn:f.code.length=n at *
 clear hnn
 go_enter Try.func27,Try.ntmps27
 go_wp2_with fail
 generalize (w.alloc (Obj.cells #[.slice ta ls.length tc,.slice g fs.length fc] 44))=W at *
 clear cc3
 have hws:=kb.size
 have hBW:=hid bx
 go_region
 ·have kV:Chg () W (((W.alloc (Obj.cells (madeCells #[.bool false] n) 4)).alloc (Obj.cells (madeCells #[()] n) 24)).alloc (Obj.cells #[.slice W.heap.size n n,.slice (some ⟨(W.heap.size+1),0,none⟩) n n] 111)).drew:=((((Chg.refl _ W).alloc _).alloc _).alloc _).drew
  have bh:Blk (((W.alloc (Obj.cells (madeCells #[.bool false] n) 4)).alloc (Obj.cells (madeCells #[()] n) 24)).alloc (Obj.cells #[.slice W.heap.size n n,.slice (some ⟨(W.heap.size+1),0,none⟩) n n] 111)).drew W.heap.size (madeCells #[.bool false] n) 4:=(((Blk.new W _ 4).alloc (Obj.cells (madeCells #[()] n) 24)).alloc (Obj.cells #[.slice W.heap.size n n,.slice (some ⟨(W.heap.size+1),0,none⟩) n n] 111)).drew
  have bo:Blk (((W.alloc (Obj.cells (madeCells #[.bool false] n) 4)).alloc (Obj.cells (madeCells #[()] n) 24)).alloc (Obj.cells #[.slice W.heap.size n n,.slice (some ⟨(W.heap.size+1),0,none⟩) n n] 111)).drew (W.heap.size+1) (madeCells #[()] n) 24:=((Blk.new' (w:=W.alloc (Obj.cells (madeCells #[.bool false] n) 4)) (by simp) _ 24).alloc (Obj.cells #[.slice W.heap.size n n,.slice (some ⟨(W.heap.size+1),0,none⟩) n n] 111)).drew
  have bs:Blk (((W.alloc (Obj.cells (madeCells #[.bool false] n) 4)).alloc (Obj.cells (madeCells #[()] n) 24)).alloc (Obj.cells #[.slice W.heap.size n n,.slice (some ⟨(W.heap.size+1),0,none⟩) n n] 111)).drew (W.heap.size+1+1) #[.slice W.heap.size n n,.slice (some ⟨(W.heap.size+1),0,none⟩) n n] 111:=(Blk.new' (w:=(W.alloc (Obj.cells (madeCells #[.bool false] n) 4)).alloc (Obj.cells (madeCells #[()] n) 24)) (by simp) _ 111).drew
  have hx1:W.heap.size<=W.heap.size:=by omega
  have hx2:W.heap.size<=(W.heap.size+1):=by omega
  have hx3:W.heap.size<=W.heap.size+1+1:=by omega
  have hSS:=SS.start (b0:=b0) hcl (by unfold maxLen;omega) kV bh bo bs hx1 hx2 hx3
  have bx2:=(bx.chg kV (fun e=>e))
  have bx3:=bx2.setOther ⟨W.heap.size,0,none⟩ (.bool true) (bx2.ne bh (by decide))
  have y0:=bs.cell 0
  have y1:((((W.alloc (Obj.cells (madeCells #[.bool false] n) 4)).alloc (Obj.cells (madeCells #[()] n) 24)).alloc (Obj.cells #[.slice W.heap.size n n,.slice (some ⟨(W.heap.size+1),0,none⟩) n n] 111)).drew).cell? ⟨W.heap.size,0,none⟩=some (.bool false):=by rw [bh.cell 0];simp [madeCells,hcl,Nat.mod_one]
  have y2:=bh.frozen 0
  have HSS:Hid _:=hSS
  have HBX:Hid _:=bx3
  clear kV bh bo bs hSS bx2 bx3
  generalize (((W.alloc (Obj.cells (madeCells #[.bool false] n) 4)).alloc (Obj.cells (madeCells #[()] n) 24)).alloc (Obj.cells #[.slice W.heap.size n n,.slice (some ⟨(W.heap.size+1),0,none⟩) n n] 111)).drew=V at *
  generalize W.heap.size+1+1=sb at *
  generalize W.heap.size+1=go at *
  generalize W.heap.size=gh at *
  have y0:V.cell? ⟨sb,0,none⟩=some (.slice gh n n):=y0
  have hSS:=HSS.out
  have hBX:=HBX.out
  have hn0:(0:Int) < (n:Int):=by omega
  clear HSS HBX hmk1 hmk2 hws bx hx1 hx2 hx3
  go_wp2_with fail
  generalize V.setCell ⟨gh,0,none⟩ (.bool true)=U at *
  clear y0 y1 y2
  go_loopw [8] (fun iv wr=>∃ (r:Nat) (ys:List (Option (List Int) × Value)),r<=n+1/\iv=.int .i64 (r:Int)/\SS W wr b0 sb gh go n n ys/\Blk wr w.heap.size #[.slice ta ls.length tc,.slice g fs.length fc] 44/\ys.length=n/\(∀ x ∈ ys,∀ l,x.1=some l->l.length<=10000)/\rnds n (aftC ls fs f) (wayC f) (n+1 - r) (ys.map (·.1))=RR) (fun iv _=>n+1 - (intOf iv).toNat)
  case atStart =>
   refine ⟨0,_,Nat.zero_le _,rfl,hSS,hBX,by simp,fun x m l hl=>?_,?_⟩
   ·rcases List.mem_or_eq_of_mem_set m with m | rfl
    ·rw [List.mem_replicate] at m;rw [m.2] at hl;cases hl
    ·simp only [Option.some.injEq] at hl;subst hl;simp
   ·rw [List.map_set,List.map_replicate];exact HR.out
  case round =>
   obtain ⟨r,ys,hr,rfl,hS,hB,hyl,hys,hrn⟩:=hrel
   have HRN:=hid hrn
   have HYL:=hid hyl
   have HYS:=hid hys
   clear hrn hys hyl hSS hBX HR
   by_cases hlt:r<=n
   ·have hlt':(r:Int)<=(n:Int):=by omega
    have b0':wr.cell? ⟨w.heap.size,0,none⟩=some (.slice ta ls.length tc):=hB.cell 0
    have b1':wr.cell? ⟨w.heap.size,1,none⟩=some (.slice g fs.length fc):=hB.cell 1
    obtain ⟨st1,st2⟩:=rnds_step hlt HRN.out
    have HST1:Hid _:=st1
    have HST2:Hid _:=st2
    clear st1 st2 HRN
    go_wp2_with fail
    refine (HSP.out wr sb gh go n n ys hS HYL.out HYS.out).mono ?_
    rintro e w5 ⟨b,rfl,hch,h0,h1⟩
    rcases hrd:rnd n (aftC ls fs f) (wayC f) n 0 (ys.map (·.1)) with _ | sp'
    ·have hb:=h0 hrd
     subst hb
     have HRR:Hid (RR=none):=HST1.out hrd
     clear h0 h1 hrd HST1 HST2
     go_wp2
     exact bodyPost_ret (v:=.tuple #[.pointer none,.bool false]) (by simp [results,Try.results27,go_sem]) rfl ⟨_,_,rfl,kb.trans hch,fun _=>rfl,fun sp e=>by rw [HRR.out] at e;cases e⟩
    ·obtain ⟨hb,zs,hzm,hSz,hzs⟩:=h1 sp' hrd
     subst hb
     have HRR:Hid _:=HST2.out sp' hrd
     have hzl:zs.length=n:=by
      have e1:=rnd_len _ _ hrd
      rw [<-hzm,List.length_map,List.length_map] at e1
      rw [e1];exact HYL.out
     clear h0 h1 hrd HST1 HST2
     have hB5:=hBW.out.chg hch (fun e=>e)
     go_wp2
     exact ⟨⟨r+1,zs,by omega,rfl,hSz,hB5,hzl,hzs,by rw [hzm];exact HRR.out⟩,by simp [intOf];omega⟩
   ·have hre:n+1 - r=0:=by omega
    have HN:Hid (some (ys.map (·.1))=RR):=by have:=HRN.out;rw [hre] at this;exact this
    have hlt':(n:Int) < (r:Int):=by omega
    clear HRN hre
    go_wp2
    refine bodyPost_ret (v:=.tuple #[.pointer sb,.bool true]) (by simp [results,Try.results27,go_sem]) rfl ⟨_,_,rfl,kb.trans hS.ch,fun e=>?_,fun sp e=>⟨rfl,sb,gh,go,n,n,ys,rfl,?_,hS.base kb⟩⟩
    ·have:=HN.out;rw [e] at this;cases this
    ·have:=HN.out;rw [e] at this;simpa using this
 ·have kV:Chg () W (((W.alloc (Obj.cells (madeCells #[()] n) 24)).alloc (Obj.cells (madeCells #[.bool false] n) 4)).alloc (Obj.cells #[.slice (some ⟨(W.heap.size+1),0,none⟩) n n,.slice W.heap.size n n] 111)).drew:=((((Chg.refl _ W).alloc _).alloc _).alloc _).drew
  have bh:Blk (((W.alloc (Obj.cells (madeCells #[()] n) 24)).alloc (Obj.cells (madeCells #[.bool false] n) 4)).alloc (Obj.cells #[.slice (some ⟨(W.heap.size+1),0,none⟩) n n,.slice W.heap.size n n] 111)).drew (W.heap.size+1) (madeCells #[.bool false] n) 4:=((Blk.new' (w:=W.alloc (Obj.cells (madeCells #[()] n) 24)) (by simp) _ 4).alloc (Obj.cells #[.slice (some ⟨(W.heap.size+1),0,none⟩) n n,.slice W.heap.size n n] 111)).drew
  have bo:Blk (((W.alloc (Obj.cells (madeCells #[()] n) 24)).alloc (Obj.cells (madeCells #[.bool false] n) 4)).alloc (Obj.cells #[.slice (some ⟨(W.heap.size+1),0,none⟩) n n,.slice W.heap.size n n] 111)).drew W.heap.size (madeCells #[()] n) 24:=(((Blk.new W _ 24).alloc (Obj.cells (madeCells #[.bool false] n) 4)).alloc (Obj.cells #[.slice (some ⟨(W.heap.size+1),0,none⟩) n n,.slice W.heap.size n n] 111)).drew
  have bs:Blk (((W.alloc (Obj.cells (madeCells #[()] n) 24)).alloc (Obj.cells (madeCells #[.bool false] n) 4)).alloc (Obj.cells #[.slice (some ⟨(W.heap.size+1),0,none⟩) n n,.slice W.heap.size n n] 111)).drew (W.heap.size+1+1) #[.slice (some ⟨(W.heap.size+1),0,none⟩) n n,.slice W.heap.size n n] 111:=(Blk.new' (w:=(W.alloc (Obj.cells (madeCells #[()] n) 24)).alloc (Obj.cells (madeCells #[.bool false] n) 4)) (by simp) _ 111).drew
  have hx1:W.heap.size<=(W.heap.size+1):=by omega
  have hx2:W.heap.size<=W.heap.size:=by omega
  have hx3:W.heap.size<=W.heap.size+1+1:=by omega
  have hSS:=SS.start (b0:=b0) hcl (by unfold maxLen;omega) kV bh bo bs hx1 hx2 hx3
  have bx2:=(bx.chg kV (fun e=>e))
  have bx3:=bx2.setOther ⟨(W.heap.size+1),0,none⟩ (.bool true) (bx2.ne bh (by decide))
  have y0:=bs.cell 0
  have y1:((((W.alloc (Obj.cells (madeCells #[()] n) 24)).alloc (Obj.cells (madeCells #[.bool false] n) 4)).alloc (Obj.cells #[.slice (some ⟨(W.heap.size+1),0,none⟩) n n,.slice W.heap.size n n] 111)).drew).cell? ⟨(W.heap.size+1),0,none⟩=some (.bool false):=by rw [bh.cell 0];simp [madeCells,hcl,Nat.mod_one]
  have y2:=bh.frozen 0
  have HSS:Hid _:=hSS
  have HBX:Hid _:=bx3
  clear kV bh bo bs hSS bx2 bx3
  generalize (((W.alloc (Obj.cells (madeCells #[()] n) 24)).alloc (Obj.cells (madeCells #[.bool false] n) 4)).alloc (Obj.cells #[.slice (some ⟨(W.heap.size+1),0,none⟩) n n,.slice W.heap.size n n] 111)).drew=V at *
  generalize W.heap.size+1+1=sb at *
  generalize W.heap.size+1=gh at *
  generalize W.heap.size=go at *
  have y0:V.cell? ⟨sb,0,none⟩=some (.slice gh n n):=y0
  have hSS:=HSS.out
  have hBX:=HBX.out
  have hn0:(0:Int) < (n:Int):=by omega
  clear HSS HBX hmk1 hmk2 hws bx hx1 hx2 hx3
  go_wp2_with fail
  generalize V.setCell ⟨gh,0,none⟩ (.bool true)=U at *
  clear y0 y1 y2
  go_loopw [8] (fun iv wr=>∃ (r:Nat) (ys:List (Option (List Int) × Value)),r<=n+1/\iv=.int .i64 (r:Int)/\SS W wr b0 sb gh go n n ys/\Blk wr w.heap.size #[.slice ta ls.length tc,.slice g fs.length fc] 44/\ys.length=n/\(∀ x ∈ ys,∀ l,x.1=some l->l.length<=10000)/\rnds n (aftC ls fs f) (wayC f) (n+1 - r) (ys.map (·.1))=RR) (fun iv _=>n+1 - (intOf iv).toNat)
  case atStart =>
   refine ⟨0,_,Nat.zero_le _,rfl,hSS,hBX,by simp,fun x m l hl=>?_,?_⟩
   ·rcases List.mem_or_eq_of_mem_set m with m | rfl
    ·rw [List.mem_replicate] at m;rw [m.2] at hl;cases hl
    ·simp only [Option.some.injEq] at hl;subst hl;simp
   ·rw [List.map_set,List.map_replicate];exact HR.out
  case round =>
   obtain ⟨r,ys,hr,rfl,hS,hB,hyl,hys,hrn⟩:=hrel
   have HRN:=hid hrn
   have HYL:=hid hyl
   have HYS:=hid hys
   clear hrn hys hyl hSS hBX HR
   by_cases hlt:r<=n
   ·have hlt':(r:Int)<=(n:Int):=by omega
    have b0':wr.cell? ⟨w.heap.size,0,none⟩=some (.slice ta ls.length tc):=hB.cell 0
    have b1':wr.cell? ⟨w.heap.size,1,none⟩=some (.slice g fs.length fc):=hB.cell 1
    obtain ⟨st1,st2⟩:=rnds_step hlt HRN.out
    have HST1:Hid _:=st1
    have HST2:Hid _:=st2
    clear st1 st2 HRN
    go_wp2_with fail
    refine (HSP.out wr sb gh go n n ys hS HYL.out HYS.out).mono ?_
    rintro e w5 ⟨b,rfl,hch,h0,h1⟩
    rcases hrd:rnd n (aftC ls fs f) (wayC f) n 0 (ys.map (·.1)) with _ | sp'
    ·have hb:=h0 hrd
     subst hb
     have HRR:Hid (RR=none):=HST1.out hrd
     clear h0 h1 hrd HST1 HST2
     go_wp2
     exact bodyPost_ret (v:=.tuple #[.pointer none,.bool false]) (by simp [results,Try.results27,go_sem]) rfl ⟨_,_,rfl,kb.trans hch,fun _=>rfl,fun sp e=>by rw [HRR.out] at e;cases e⟩
    ·obtain ⟨hb,zs,hzm,hSz,hzs⟩:=h1 sp' hrd
     subst hb
     have HRR:Hid _:=HST2.out sp' hrd
     have hzl:zs.length=n:=by
      have e1:=rnd_len _ _ hrd
      rw [<-hzm,List.length_map,List.length_map] at e1
      rw [e1];exact HYL.out
     clear h0 h1 hrd HST1 HST2
     have hB5:=hBW.out.chg hch (fun e=>e)
     go_wp2
     exact ⟨⟨r+1,zs,by omega,rfl,hSz,hB5,hzl,hzs,by rw [hzm];exact HRR.out⟩,by simp [intOf];omega⟩
   ·have hre:n+1 - r=0:=by omega
    have HN:Hid (some (ys.map (·.1))=RR):=by have:=HRN.out;rw [hre] at this;exact this
    have hlt':(n:Int) < (r:Int):=by omega
    clear HRN hre
    go_wp2
    refine bodyPost_ret (v:=.tuple #[.pointer sb,.bool true]) (by simp [results,Try.results27,go_sem]) rfl ⟨_,_,rfl,kb.trans hS.ch,fun e=>?_,fun sp e=>⟨rfl,sb,gh,go,n,n,ys,rfl,?_,hS.base kb⟩⟩
    ·have:=HN.out;rw [e] at this;cases this
    ·have:=HN.out;rw [e] at this;simpa using this
end Go.Proofs.Ytnfnbcbadakofab
namespace Go.Proofs.Ytnfnbcbadakofab
open Go.RowKit
theorem fitF_rnds {p:Pg} (h:PgWf p) {f:Fn} (hf:f ∈ p.funcs) :
 ((fitF p f).2.2=true->rnds f.code.length (aftC p.types p.funcs f) (wayC f) (f.code.length+1) ((List.replicate f.code.length none).set 0 (some []))=none) /\
 ((fitF p f).2.2=false->rnds f.code.length (aftC p.types p.funcs f) (wayC f) (f.code.length+1) ((List.replicate f.code.length none).set 0 (some []))=some (fitF p f).1):=by
 obtain ⟨b,hb⟩:=h.fn hf
 exact fit_same (h.way hf) (by have:=hb.c1;omega)
structure CS (w wk:World) (pb:Nat) (tv fv:Value):Prop where
 rb:Blk wk w.heap.size #[(),()] 44
 bx:Blk wk pb #[tv,fv] 44
 lt:w.heap.size < pb
 ch:Chg () w wk
theorem CS.new {w wk wk':World} {pb:Nat} {tv fv:Value} (h:CS w wk pb tv fv) (k:Chg () wk wk'):CS w wk' pb tv fv:=⟨h.rb.chg k (fun e=>e),h.bx.chg k (fun e=>e),h.lt,h.ch.trans k⟩
set_option maxHeartbeats 4000000 in
set_option maxRecDepth 100000 in
theorem rcheck_core (s:ByteArray) (w:World) (R:Int × Int × Pg) (HR:Hid (opn s=R)) (hwf:R.1=0->PgWf R.2.2) (A:Nat ⊕ List Spots) (HA:Hid (fitAll R.2.2 R.2.2.funcs 0 []=A)) (O:Int × Int × Pg × List Spots)
 (HO1:Hid (R.1 ≠ 0->O=(R.1,R.2.1,⟨[],[]⟩,[]))) (HO2:Hid (R.1=0->∀ k:Nat,A=.inl k->O=(3,(k:Int),⟨[],[]⟩,[]))) (HO3:Hid (R.1=0->∀ sps,A=.inr sps->O=(0,0,R.2.2,sps))) :
 Calls Try.prog 14 #[.string s] w fun e w'=>∃ tv fv,e=.returned (.tuple #[.agg #[tv,fv],O.1,O.2.1])/\TypesV w' w.heap.size tv O.2.2.1.types/\FuncsV 107 131 w' w.heap.size fv O.2.2.1.funcs/\Chg () w w':=by
 have HW:=hid hwf
 clear hwf
 have hrd:=fun w=>rdecode_any s w
 rw [<-opn_nxD s,HR.out] at hrd
 have HRD:Hid _:=hrd
 clear hrd
 go_enter Try.func14,Try.ntmps14
 go_wp2_with fail
 have ka:Chg () w (w.alloc (Obj.cells #[(),()] 44)):=(Chg.refl _ w).alloc _
 have bo:=Blk.new w #[.slice none 0 0,.slice none 0 0] 44
 refine (HRD.out _).mono ?_
 rintro e w1 ⟨tv,fv,rfl,hty,hfv,hch⟩
 have bo1:=bo.chg hch (fun e=>e)
 have k1:=ka.trans hch
 have hty1:TypesV w1 w.heap.size tv R.2.2.types:=hty.mono ka.size
 have hfv1:FuncsV 107 131 w1 w.heap.size fv R.2.2.funcs:=hfv.mono ka.size
 clear bo ka hch hty hfv HRD
 obtain ⟨ta,tc,rfl⟩:=hty1.slice
 obtain ⟨fa,fc,rfl⟩:=hfv1.slice
 have hlt1:=bo1.lt
 by_cases hz:R.1=0
 ·have hw:=HW.out hz
  have HO2':Hid (∀ k:Nat,A=.inl k->O=(3,(k:Int),⟨[],[]⟩,[])):=HO2.out hz
  have HO3':Hid (∀ sps,A=.inr sps->O=(0,0,R.2.2,sps)):=HO3.out hz
  have hz':(R.1 != 0)=false:=by simp [hz]
  have kc:Chg () w1 (w1.alloc (Obj.cells #[.slice ta R.2.2.types.length tc,.slice fa R.2.2.funcs.length fc] 44)):=(Chg.refl _ w1).alloc _
  have cs0:CS w (w1.alloc (Obj.cells #[.slice ta R.2.2.types.length tc,.slice fa R.2.2.funcs.length fc] 44)) w1.heap.size (.slice ta R.2.2.types.length tc) (.slice fa R.2.2.funcs.length fc):=⟨bo1.chg kc (fun e=>e),Blk.new w1 _ 44,hlt1,k1.trans kc⟩
  have hty2:=hty1.new kc
  have hfv2:=hfv1.chg kc (fun _ _ _ e=>e) (fun _ _ _ e=>e) (fun _ _ _ e=>e)
  clear kc bo1 k1 hty1 hfv1 HO1 HO2 HO3 HR HW
  have HZ:=hid hz
  clear hz
  go_wp2_with fail
  generalize w1.alloc (Obj.cells #[.slice ta R.2.2.types.length tc,.slice fa R.2.2.funcs.length fc] 44)=w2 at *
  generalize w1.heap.size=pb at *
  generalize R.2.2=p at *
  clear HZ hz'
  go_loopw [8] (fun iv wr=>∃ (k:Nat) (acc:List Spots),k<=p.funcs.length/\iv=.int .i64 (k:Int)/\CS w wr pb (.slice ta p.types.length tc) (.slice fa p.funcs.length fc)/\TypesV wr w.heap.size (.slice ta p.types.length tc) p.types/\FuncsV 107 131 wr w.heap.size (.slice fa p.funcs.length fc) p.funcs/\fitAll p (p.funcs.drop k) k acc=A) (fun iv _=>p.funcs.length - (intOf iv).toNat)
  case atStart=>exact ⟨0,[],Nat.zero_le _,rfl,cs0,hty2,hfv2,HA.out⟩
  case round =>
   clear cs0 hty2 hfv2 HA hlt1
   obtain ⟨k,acc,hk,rfl,cs,hty,hfv,hfa⟩:=hrel
   have p0:wr.cell? ⟨pb,0,none⟩=some (.slice ta p.types.length tc):=cs.bx.cell 0
   have p1:wr.cell? ⟨pb,1,none⟩=some (.slice fa p.funcs.length fc):=cs.bx.cell 1
   have hf6:=hw.f6
   by_cases hlt:k < p.funcs.length
   ·have hlt':(k:Int) < (p.funcs.length:Int):=by omega
    obtain ⟨st1,st2⟩:=fitAll_step hlt hfa
    have ST1:Hid _:=st1
    have ST2:Hid _:=st2
    clear st1 st2 hfa
    have hmem:p.funcs[k] ∈ p.funcs:=List.getElem_mem hlt
    obtain ⟨bb,hfo⟩:=hw.fn hmem
    have hc1:=hfo.c1
    have hc64:=hfo.c64
    have hsz:=cs.ch.size
    obtain ⟨g1,g2⟩:=fitF_rnds hw hmem
    have G1:Hid _:=g1
    have G2:Hid _:=g2
    clear g1 g2 hfo
    go_wp2_with fail
    refine (fit_core wr w.heap.size ta fa tc fc p.types p.funcs k hlt hsz hty hfv (by have:=hw.t6;omega) p.funcs[k] rfl (by omega) (by omega) hw.args (fun j hj=>hw.code hmem _ (List.getElem_mem hj)) _ rfl).mono ?_
    rintro e w5 ⟨pv,b,rfl,hch,h0,h1⟩
    have cs5:=cs.new hch
    have hty5:=hty.new hch
    have hfv5:=hfv.chg hch (fun _ _ _ e=>e) (fun _ _ _ e=>e) (fun _ _ _ e=>e)
    clear cs hty hfv hch p0 p1
    have o0:w5.cell? ⟨w.heap.size,0,none⟩=some (.slice none 0 0):=cs5.rb.cell 0
    have o1:w5.cell? ⟨w.heap.size,1,none⟩=some (.slice none 0 0):=cs5.rb.cell 1
    have z0:=cs5.rb.frozen 0
    have z1:=cs5.rb.frozen 1
    rcases hF:(fitF p p.funcs[k]).2.2
    ·obtain ⟨hb,_⟩:=h1 _ (G2.out hF)
     subst hb
     have HN:Hid _:=ST2.out hF
     clear h0 h1 ST1 ST2 G1 G2 hF o0 o1 z0 z1
     go_wp2
     exact ⟨⟨k+1,_,by omega,rfl,cs5,hty5,hfv5,HN.out⟩,by simp [intOf];omega⟩
    ·have hb:=h0 (G1.out hF)
     subst hb
     have HO:Hid _:=HO2'.out k (ST1.out hF)
     clear h0 h1 ST1 ST2 G1 G2 hF
     go_wp2
     have b3:=(cs5.rb.set 0 (.slice none 0 0)).set 1 (.slice none 0 0)
     have hk:=chg_set2 w5 w.heap.size (.slice none 0 0) (.slice none 0 0)
     have hD:=cs5.ch.trans' hk (fun i hi e=>by omega)
     generalize (w5.setCell ⟨w.heap.size,0,none⟩ ()).setCell ⟨w.heap.size,1,none⟩ ()=wf at *
     have q0:wf.cell? ⟨w.heap.size,0,none⟩=some (.slice none 0 0):=b3.cell 0
     have q1:wf.cell? ⟨w.heap.size,1,none⟩=some (.slice none 0 0):=b3.cell 1
     have hO:=HO.out
     subst hO
     exact bodyPost_ret (v:=.tuple #[.agg #[(),()],(3:Int),k]) (by simp [results,Try.results14,go_sem,q0,q1]) rfl ⟨_,_,rfl,TypesV.nil _ _,FuncsV.nil _ _ _ _,hD⟩
   ·have hkk:k=p.funcs.length:=by omega
    have HO:Hid (O=(0,0,p,acc)):=HO3'.out acc (by rw [hkk,List.drop_length] at hfa;exact hfa.symm)
    have hlt':(p.funcs.length:Int)<=(k:Int):=by omega
    clear hfa hkk
    have o0:wr.cell? ⟨w.heap.size,0,none⟩=some (.slice none 0 0):=cs.rb.cell 0
    have o1:wr.cell? ⟨w.heap.size,1,none⟩=some (.slice none 0 0):=cs.rb.cell 1
    have z0:=cs.rb.frozen 0
    have z1:=cs.rb.frozen 1
    have hltp:=cs.lt
    go_wp2
    have b3:=(cs.rb.set 0 (.slice ta p.types.length tc)).set 1 (.slice fa p.funcs.length fc)
    have hk:=chg_set2 wr w.heap.size (.slice ta p.types.length tc) (.slice fa p.funcs.length fc)
    have hD:=cs.ch.trans' hk (fun i hi e=>by omega)
    have hA:=hty.chg hk (fun g cs' hb e=>hb.ne cs.rb (by decide) e) (fun g cs' hb e=>hb.ne cs.rb (by decide) e)
    have hB:=hfv.chg hk (fun g cs' hb e=>hb.ne cs.rb (by decide) e) (fun g cs' hb e=>hb.ne cs.rb (by decide) e) (fun g cs' hb e=>hb.ne cs.rb (by decide) e)
    generalize (wr.setCell ⟨w.heap.size,0,none⟩ (.slice ta p.types.length tc)).setCell ⟨w.heap.size,1,none⟩ (.slice fa p.funcs.length fc)=wf at *
    have q0:wf.cell? ⟨w.heap.size,0,none⟩=some (.slice ta p.types.length tc):=b3.cell 0
    have q1:wf.cell? ⟨w.heap.size,1,none⟩=some (.slice fa p.funcs.length fc):=b3.cell 1
    have hO:=HO.out
    subst hO
    exact bodyPost_ret (v:=.tuple #[.agg #[.slice ta p.types.length tc,.slice fa p.funcs.length fc],oO,oO]) (by simp [results,Try.results14,go_sem,q0,q1]) rfl ⟨_,_,rfl,hA,hB,hD⟩
 ·have hz':(R.1 != 0)=true:=by simp [hz]
  have HO:Hid _:=HO1.out hz
  have o0:w1.cell? ⟨w.heap.size,0,none⟩=some (.slice none 0 0):=bo1.cell 0
  have o1:w1.cell? ⟨w.heap.size,1,none⟩=some (.slice none 0 0):=bo1.cell 1
  have z0:=bo1.frozen 0
  have z1:=bo1.frozen 1
  clear hz
  go_wp2
  have b3:=((bo1.set 0 (.slice none 0 0)).set 1 (.slice none 0 0)).alloc (Obj.cells #[.slice ta R.2.2.types.length tc,.slice fa R.2.2.funcs.length fc] 44)
  have hk:=(chg_set2 w1 w.heap.size (.slice none 0 0) (.slice none 0 0)).alloc (Obj.cells #[.slice ta R.2.2.types.length tc,.slice fa R.2.2.funcs.length fc] 44)
  have hD:=k1.trans' hk (fun i hi e=>by omega)
  generalize ((w1.setCell ⟨w.heap.size,0,none⟩ ()).setCell ⟨w.heap.size,1,none⟩ ()).alloc (Obj.cells #[.slice ta R.2.2.types.length tc,.slice fa R.2.2.funcs.length fc] 44)=wf at *
  have q0:wf.cell? ⟨w.heap.size,0,none⟩=some (.slice none 0 0):=b3.cell 0
  have q1:wf.cell? ⟨w.heap.size,1,none⟩=some (.slice none 0 0):=b3.cell 1
  have hO:=HO.out
  subst hO
  exact bodyPost_ret (v:=.tuple #[.agg #[(),()],R.1,R.2.1]) (by simp [results,Try.results14,go_sem,q0,q1]) rfl ⟨_,_,rfl,TypesV.nil _ _,FuncsV.nil _ _ _ _,hD⟩
end Go.Proofs.Ytnfnbcbadakofab
namespace Go.Proofs.Ytnfnbcbadakofab
open Go.RowKit
set_option maxHeartbeats 2000000
set_option maxRecDepth 100000
theorem num_any (n:Int) (w:World):Calls Try.prog 9 #[n] w fun e w'=>e=.returned (.int .i64 n)/\w'=w:=by
 go_enter Try.func9,Try.ntmps9
 go_wp2
 go_ret
 exact ⟨rfl,rfl⟩
structure PgOk (p:Pg):Prop where
 tl:p.types.length<=10000
 ts:∀ j,(p.types.getD j []).length<=10000
 fl:p.funcs.length<=10000
 fs:∀ j (hj:j < p.funcs.length),p.funcs[j].locals.length<=10000/\p.funcs[j].code.length<=10000
theorem PgOk.nil:PgOk ⟨[],[]⟩:=⟨by simp,by simp,by simp,by intro j hj;simp at hj⟩
end Go.Proofs.Ytnfnbcbadakofab
namespace Go.Proofs.Ytnfnbcbadakofab
open Go.RowKit
set_option maxHeartbeats 1000000
set_option maxRecDepth 100000
theorem opn_place {s:ByteArray} (h:(opn s).1=0):(opn s).2.1=0:=by
 unfold opn at *
 by_cases h1:800 < s.size
 ·rw [if_pos h1] at h;cases h
 rw [if_neg h1] at h ⊢
 have e2:rdP (bl s)=if (tkP (bl s) (0,false)).2.2=true \/ (tkP (bl s) (0,false)).2.1 < (bl s).length then (2,((tkP (bl s) (0,false)).2.1:Int),⟨[],[]⟩) else (0,0,(tkP (bl s) (0,false)).1):=rfl
 rw [e2] at h ⊢
 by_cases h2:(tkP (bl s) (0,false)).2.2=true \/ (tkP (bl s) (0,false)).2.1 < (bl s).length
 ·rw [if_pos h2] at h;cases h
 rw [if_neg h2]
theorem opF_1 {s:ByteArray} (h:(opn s).1 ≠ 0):opF s=((opn s).1,(opn s).2.1,⟨[],[]⟩,[]):=by
 unfold opF;rw [if_pos h]
theorem opF_2 {s:ByteArray} (h:(opn s).1=0) (k:Nat) (hA:fitAll (opn s).2.2 (opn s).2.2.funcs 0 []=.inl k):opF s=(3,(k:Int),⟨[],[]⟩,[]):=by
 unfold opF;rw [if_neg (by simpa using h),hA]
theorem opF_3 {s:ByteArray} (h:(opn s).1=0) (sps:List Spots) (hA:fitAll (opn s).2.2 (opn s).2.2.funcs 0 []=.inr sps):opF s=(0,0,(opn s).2.2,sps):=by
 unfold opF;rw [if_neg (by simpa using h),hA]
theorem openFit_any (s:ByteArray) (w:World):Calls Try.prog 20 #[.string s] w (OfEnd w (opF s)):=
 openFit_core s w (opn s) rfl opn_wf _ rfl (opF s) opn_place opF_1 (fun h k hA=>opF_2 h k hA) (fun h sps hA=>opF_3 h sps hA)
theorem rcheck_any (s:ByteArray) (w:World) :
 Calls Try.prog 14 #[.string s] w fun e w'=>∃ tv fv,e=.returned (.tuple #[.agg #[tv,fv],.int .i64 (opF s).1,.int .i64 (opF s).2.1])/\TypesV w' w.heap.size tv (opF s).2.2.1.types/\FuncsV 107 131 w' w.heap.size fv (opF s).2.2.1.funcs/\Chg () w w':=
 rcheck_core s w (opn s) rfl opn_wf _ rfl (opF s) opF_1 (fun h k hA=>opF_2 h k hA) (fun h sps hA=>opF_3 h sps hA)
end Go.Proofs.Ytnfnbcbadakofab
namespace Go.Proofs.Ytnfnbcbadakofab
open Go.RowKit
set_option maxHeartbeats 1000000
set_option maxRecDepth 100000
theorem fitAll_inr {p:Pg} (fs:List Fn):∀ (k:Nat) (acc sps:List Spots),fitAll p fs k acc=.inr sps->sps=acc++fs.map (fun f=>(fitF p f).1)/\∀ f ∈ fs,(fitF p f).2.2=false:=by
 induction fs with
 | nil=>intro k acc sps h;simp only [fitAll,Sum.inr.injEq] at h;subst h;exact ⟨by simp,fun f hf=>by cases hf⟩
 | cons f fs ih =>
  intro k acc sps h
  unfold fitAll at h
  by_cases hb:(fitF p f).2.2=true
  ·rw [if_pos hb] at h;cases h
  ·rw [if_neg hb] at h
   obtain ⟨a,b⟩:=ih _ _ _ h
   refine ⟨by rw [a];simp,fun g hg=>?_⟩
   rcases List.mem_cons.1 hg with rfl | hg
   ·simpa using hb
   ·exact b g hg
theorem opF_ok {s:ByteArray} (h:(opF s).1=0):PgWf (opF s).2.2.1/\(opF s).2.1=0/\(opF s).2.2.2=(opF s).2.2.1.funcs.map (fun f=>(fitF (opF s).2.2.1 f).1)/\∀ f ∈ (opF s).2.2.1.funcs,(fitF (opF s).2.2.1 f).2.2=false:=by
 by_cases h1:(opn s).1=0
 ·rcases hA:fitAll (opn s).2.2 (opn s).2.2.funcs 0 [] with k | sps
  ·rw [opF_2 h1 k hA] at h;cases h
  ·rw [opF_3 h1 sps hA]
   obtain ⟨a,b⟩:=fitAll_inr _ _ _ _ hA
   exact ⟨opn_wf h1,rfl,by simpa using a,b⟩
 ·rw [opF_1 h1] at h;exact absurd h h1
def spP (sps:List Spots) (f i:Int):Option (List Int):=
 if f < 0 \/ (sps.length:Int)<=f then none else if i < 0 \/ ((sps.getD f.toNat []).length:Int)<=i then none else (sps.getD f.toNat []).getD i.toNat none
theorem SpotsL.form {w:World} {base:Nat} {v:Value} {sps:List Spots} (h:SpotsL w base v sps) (hl:0 < sps.length) :
 ∃ g cap,v=.slice (some ⟨g,0,none⟩) sps.length cap/\sps.length<=cap/\∀ j,j < sps.length->∃ x,w.cell? ⟨g,j,none⟩=some x/\SpotsV w base x (sps.getD j []):=by
 obtain ⟨vs,h,hx⟩:=h
 have hc:=fun g=>World.ownsRow.cells (g:=g) h
 have hvl:vs.length=sps.length:=by have:=h.1;omega
 rcases h.2 with ⟨_,h0⟩ | ⟨g,cap,cur,rfl,hb,hgg,hle,hcap,_⟩
 ·omega
 ·refine ⟨g,cap,rfl,hle,fun j hj=>?_⟩
  have hadd:(⟨g,0,none⟩:Addr).add j=⟨g,j,none⟩:=by unfold Addr.add;split <;> simp_all
  have hg:vs[j]?=some vs[j]:=List.getElem?_eq_getElem (by omega)
  have a1:=hc g rfl j _ hg
  rw [hadd] at a1
  exact ⟨_,a1,hx j _ hg⟩
theorem SpotsV.form {w:World} {base:Nat} {v:Value} {sp:Spots} (h:SpotsV w base v sp) (hl:0 < sp.length) :
 ∃ g cap,v=.slice (some ⟨g,0,none⟩) sp.length cap/\sp.length<=cap/\∀ j,j < sp.length->∃ x,w.cell? ⟨g,j * 2,none⟩=some (.bool (sp.getD j none).isSome)/\w.cell? ⟨g,j * 2+1,none⟩=some x/\IntsV w base x ((sp.getD j none).getD []):=by
 obtain ⟨xs,h1,h,hx⟩:=h
 subst h1
 have hc:=fun g=>World.ownsRow.cells (g:=g) h
 simp only [List.length_map] at *
 rcases h.2 with ⟨_,h0⟩ | ⟨g,cap,cur,rfl,hb,hgg,hle,hcap,_⟩
 ·omega
 ·refine ⟨g,cap,rfl,hle,fun j hj=>?_⟩
  have hadd:∀ j,(⟨g,0,none⟩:Addr).add j=⟨g,j,none⟩:=by intro j;unfold Addr.add;split <;> simp_all
  obtain ⟨k1,k2⟩:=spC_get xs j hj
  have a1:=hc g rfl _ _ k1
  have a2:=hc g rfl _ _ k2
  rw [hadd] at a1 a2
  have e:(xs.map (·.1)).getD j none=xs[j].1:=by rw [List.getD_eq_getElem?_getD,List.getElem?_map,List.getElem?_eq_getElem hj];rfl
  rw [e]
  exact ⟨_,a1,a2,hx _ (List.getElem_mem hj)⟩
theorem spotAt_yes (g n c k g2 m mc j xn xc:Nat) (xa:Option Addr) (b:Bool) (w:World) (hk:k < n) (hj:j < m) (hc:w.cell? ⟨g,k,none⟩=some (.slice g2 m mc)) (h0:w.cell? ⟨g2,j * 2,none⟩=some (.bool b)) (h1:w.cell? ⟨g2,j * 2+1,none⟩=some (.slice xa xn xc)) :
 Calls Try.prog 63 #[.slice g n c,k,j] w fun e w'=>e=.returned (.agg #[.bool b,.slice xa xn xc])/\Chg () w w':=by
 have hk':(k:Int) < (n:Int):=by omega
 have hj':(j:Int) < (m:Int):=by omega
 have hg:=World.block_lt_of_cell? w _ hc
 have hg2:=World.block_lt_of_cell? w _ h0
 have hc':(w.alloc (Obj.cells #[.bool false,()] 125)).cell? ⟨g,k,none⟩=some (.slice g2 m mc):=(World.cell?_of_block (Below.heap_alloc _ _ _ hg)).trans hc
 have h0':(w.alloc (Obj.cells #[.bool false,()] 125)).cell? ⟨g2,j * 2,none⟩=some (.bool b):=(World.cell?_of_block (Below.heap_alloc _ _ _ hg2)).trans h0
 have h1':(w.alloc (Obj.cells #[.bool false,()] 125)).cell? ⟨g2,j * 2+1,none⟩=some (.slice xa xn xc):=(World.cell?_of_block (Below.heap_alloc _ _ _ (World.block_lt_of_cell? w _ h1))).trans h1
 go_enter Try.func63,Try.ntmps63
 go_wp2
 exact bodyPost_ret (v:=.agg #[.bool b,.slice xa xn xc]) (by simp [results,Try.results63,go_sem]) rfl ⟨rfl,(Chg.refl _ w).alloc _⟩
end Go.Proofs.Ytnfnbcbadakofab
