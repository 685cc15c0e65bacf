import Derived.Test.YtnfnbcbadakofaaRt2
import Derived.Test.YtnfnbcbadakofaaLate
import Derived.ProofKit
import Derived.OpenShut
import Derived.ShutString
import Derived.JoinedCond
set_option maxHeartbeats 4000000
set_option maxRecDepth 100000
namespace Go.Proofs.Ytnfnbcbadakofaa
open Go.RowKit
theorem tk_inv {ns:List Int} {lo hi:Int} {s:Nat × Bool} (h:(tk ns lo hi s).2.2=false):ns.drop s.1=(tk ns lo hi s).1::ns.drop (tk ns lo hi s).2.1:=by
 unfold tk at *
 by_cases h1:s.2=true \/ ns.length<=s.1
 ·rw [if_pos h1] at h;cases h
 rw [if_neg h1] at h ⊢
 by_cases h2:ns.getD s.1 0 < lo \/ hi < ns.getD s.1 0
 ·rw [if_pos h2] at h;cases h
 rw [if_neg h2]
 have hl:s.1 < ns.length:=by omega
 simp only
 rw [List.drop_eq_getElem_cons hl,List.getD_eq_getElem?_getD,List.getElem?_eq_getElem hl];rfl
theorem tkL_inv {ns:List Int} {hi:Int} (k:Nat):∀ {s:Nat × Bool},(tkL ns hi k s).2.2=false->ns.drop s.1=(tkL ns hi k s).1++ns.drop (tkL ns hi k s).2.1:=by
 induction k with
 | zero=>intro s h;simp [tkL]
 | succ k ih =>
  intro s h
  simp only [tkL] at h ⊢
  have a:=tk_inv h
  rw [ih (tk_fine h).1,a];simp
theorem tkI_inv {ns:List Int} {ls:List (List Int)} {fu lo co:Int} {s:Nat × Bool} (h:(tkI ns ls fu lo co s).2.2=false):ns.drop s.1=numI (tkI ns ls fu lo co s).1++ns.drop (tkI ns ls fu lo co s).2.1:=by
 simp only [tkI] at h ⊢
 have a3:=tk_inv h
 have h2:=(tk_fine h).1
 have a2:=tk_inv h2
 have h1:=(tk_fine h2).1
 have a1:=tk_inv h1
 rw [a1,a2,a3];rfl
theorem tkC_inv {ns:List Int} {ls:List (List Int)} {fu lo co:Int} (k:Nat):∀ {s:Nat × Bool},(tkC ns ls fu lo co k s).2.2=false->ns.drop s.1=(tkC ns ls fu lo co k s).1.flatMap numI++ns.drop (tkC ns ls fu lo co k s).2.1:=by
 induction k with
 | zero=>intro s h;simp [tkC]
 | succ k ih =>
  intro s h
  simp only [tkC] at h ⊢
  have a:=tkI_inv h
  rw [ih (tkI_fine h).1,a];simp
theorem tkF_inv {ns:List Int} {ls:List (List Int)} {fu:Int} {first:Bool} {s:Nat × Bool} (h:(tkF ns ls fu first s).2.2=false):ns.drop s.1=numF (tkF ns ls fu first s).1++ns.drop (tkF ns ls fu first s).2.1:=by
 have e:tkF ns ls fu first s=(let r1:=tk ns 0 (if first then 0 else 4) s;let r2:=tk ns r1.1 8 r1.2;let r3:=tkL ns ls.length r2.1.toNat r2.2;let r4:=tk ns 0 (if first then 0 else ls.length) r3.2;let r5:=tk ns 1 64 r4.2
  let r6:=tkC ns ls fu r2.1 r5.1 r5.1.toNat r5.2;(⟨r1.1,r3.1,r4.1,r6.1⟩,r6.2)):=rfl
 rw [e] at h ⊢
 simp only at h ⊢
 have i6:=tkC_inv _ h
 have h5:=(tkC_fine _ h).1
 have i5:=tk_inv h5
 have f5:=tk_fine h5
 have i4:=tk_inv f5.1
 have f4:=tk_fine f5.1
 have i3:=tkL_inv _ f4.1
 have f3:=tkL_fine _ f4.1
 have i2:=tk_inv f3.1
 have f2:=tk_fine f3.1
 have i1:=tk_inv f2.1
 have f1:=tk_fine f2.1
 have l3:=tkL_len ns ls.length (tk ns (tk ns 0 (if first then 0 else 4) s).1 8 (tk ns 0 (if first then 0 else 4) s).2).1.toNat (tk ns (tk ns 0 (if first then 0 else 4) s).1 8 (tk ns 0 (if first then 0 else 4) s).2).2
 have l6:=fun lo co k s=>tkC_len ns ls fu lo co k s
 generalize tk ns 0 (if first then 0 else 4) s=r1 at *
 generalize tk ns r1.1 8 r1.2=r2 at *
 generalize tkL ns ls.length r2.1.toNat r2.2=r3 at *
 generalize tk ns 0 (if first then 0 else (ls.length:Int)) r3.2=r4 at *
 generalize tk ns 1 64 r4.2=r5 at *
 have l6:=l6 r2.1 r5.1 r5.1.toNat r5.2
 generalize tkC ns ls fu r2.1 r5.1 r5.1.toNat r5.2=r6 at *
 have e3:(r3.1.length:Int)=r2.1:=by omega
 have e6:(r6.1.length:Int)=r5.1:=by omega
 rw [i1,i2,i3,i4,i5,i6]
 simp only [numF,e3,e6]
 simp
theorem tkT_inv {ns:List Int} {n:Int} (k:Nat):∀ {s:Nat × Bool},(tkT ns n k s).2.2=false->ns.drop s.1=(tkT ns n k s).1.flatMap numT++ns.drop (tkT ns n k s).2.1:=by
 induction k with
 | zero=>intro s h;simp [tkT]
 | succ k ih =>
  intro s h
  simp only [tkT] at h ⊢
  have i2:=tkL_inv _ h
  have f2:=tkL_fine _ h
  have i1:=tk_inv f2.1
  have f1:=tk_fine f2.1
  have l2:=fun s=>tkL_len ns n (tk ns 0 5 (tkT ns n k s).2).1.toNat (tk ns 0 5 (tkT ns n k s).2).2
  have l2:=l2 s
  rw [ih f1.1,i1,i2,List.flatMap_append]
  have e2:((tkL ns n (tk ns 0 5 (tkT ns n k s).2).1.toNat (tk ns 0 5 (tkT ns n k s).2).2).1.length:Int)=(tk ns 0 5 (tkT ns n k s).2).1:=by omega
  simp [numT,e2]
theorem tkFs_inv {ns:List Int} {ls:List (List Int)} {fu:Int} (k:Nat):∀ {s:Nat × Bool},(tkFs ns ls fu k s).2.2=false->ns.drop s.1=(tkFs ns ls fu k s).1.flatMap numF++ns.drop (tkFs ns ls fu k s).2.1:=by
 induction k with
 | zero=>intro s h;simp [tkFs]
 | succ k ih =>
  intro s h
  simp only [tkFs] at h ⊢
  have a:=tkF_inv h
  rw [ih (tkF_fine h).1,a];simp
theorem tkP_inv {ns:List Int} (h:(tkP ns (0,false)).2.2=false):ns=numP (tkP ns (0,false)).1.types (tkP ns (0,false)).1.funcs++ns.drop (tkP ns (0,false)).2.1:=by
 have e:tkP ns (0,false)=(let r0:=tk ns 0 6 (0,false);let r1:=tkT ns r0.1 r0.1.toNat r0.2;let r2:=tk ns 1 6 r1.2;let r3:=tkFs ns r1.1 r2.1 r2.1.toNat r2.2;(⟨r1.1,r3.1⟩,r3.2)):=rfl
 rw [e] at h ⊢
 simp only at h ⊢
 have i3:=tkFs_inv _ h
 have f3:=tkFs_fine _ h
 have i2:=tk_inv f3.1
 have f2:=tk_fine f3.1
 have i1:=tkT_inv _ f2.1
 have f1:=tkT_fine _ f2.1
 have i0:=tk_inv f1.1
 have f0:=tk_fine f1.1
 have l1:=fun n k s=>tkT_len ns n k s
 have l3:=fun ls fu k s=>tkFs_len ns ls fu k s
 generalize tk ns 0 6 (0,false)=r0 at *
 have l1:=l1 r0.1 r0.1.toNat r0.2
 generalize tkT ns r0.1 r0.1.toNat r0.2=r1 at *
 generalize tk ns 1 6 r1.2=r2 at *
 have l3:=l3 r1.1 r2.1 r2.1.toNat r2.2
 generalize tkFs ns r1.1 r2.1 r2.1.toNat r2.2=r3 at *
 have e1:(r1.1.length:Int)=r0.1:=by omega
 have e3:(r3.1.length:Int)=r2.1:=by omega
 have hz:ns.drop 0=ns:=rfl
 simp only at i0
 rw [hz,i1,i2,i3] at i0
 have:numP r1.1 r3.1++ns.drop r3.2.1=r0.1::(r1.1.flatMap numT++r2.1::(r3.1.flatMap numF++ns.drop r3.2.1)):=by
  simp only [numP,e1,e3];simp
 rw [this];exact i0
theorem num_rd {ns:List Int} (h:(rdP ns).1=0):numP (rdP ns).2.2.types (rdP ns).2.2.funcs=ns:=by
 have e2:rdP ns=if (tkP ns (0,false)).2.2=true \/ (tkP ns (0,false)).2.1 < ns.length then (2,((tkP ns (0,false)).2.1:Int),⟨[],[]⟩) else (0,0,(tkP ns (0,false)).1):=rfl
 rw [e2] at h ⊢
 by_cases h2:(tkP ns (0,false)).2.2=true \/ (tkP ns (0,false)).2.1 < ns.length
 ·rw [if_pos h2] at h;cases h
 rw [if_neg h2]
 have hb:(tkP ns (0,false)).2.2=false:=by
  cases h3:(tkP ns (0,false)).2.2
  ·rfl
  ·exact absurd (Or.inl h3) h2
 have hi:=tkP_inv hb
 rw [List.drop_eq_nil_of_le (by omega),List.append_nil] at hi
 exact hi.symm
end Go.Proofs.Ytnfnbcbadakofaa
namespace Go.Proofs.Ytnfnbcbadakofaa
open Go.RowKit
theorem add0 (g j:Nat):(⟨g,0,none⟩:Addr).add j=⟨g,j,none⟩:=by unfold Addr.add;split <;> simp_all
theorem TypesV.rd {w:World} {base:Nat} {v:Value} {ls:List (List Int)} (h:TypesV w base v ls):RdTs w v ls:=by
 have h':=h
 obtain ⟨vs,hr,hk⟩:=h'
 rcases hr.2 with ⟨hv,h0⟩ | ⟨g,cap,cur,hv,_,_,hle,hcap,_⟩
 ·exact .inl ⟨hv,List.eq_nil_of_length_eq_zero h0⟩
 ·refine .inr ⟨⟨g,0,none⟩,cap,hv,hle,hcap,fun j hj=>?_⟩
  obtain ⟨g',cap',u,hv',_,hc,hu⟩:=h.cell j hj
  rw [hv] at hv'
  simp only [Value.slice.injEq,Option.some.injEq,Addr.mk.injEq] at hv'
  obtain ⟨⟨rfl,_⟩,_,_⟩:=hv'
  exact ⟨u,by rw [add0];exact hc,hu.rdA⟩
theorem InsV.rd {eI:TypeId} {w:World} {base:Nat} {v:Value} {c:List (Int × Int × Int)} (h:InsV eI w base v c):RdIs w v c:=by
 by_cases h0:0 < c.length
 ·obtain ⟨g,cap,hv,_,hle,hcap,hc⟩:=h.form h0
  refine .inr ⟨⟨g,0,none⟩,cap,hv,hle,hcap,fun j hj=>?_⟩
  rw [add0]
  exact hc j hj
 ·have hc:c=[]:=List.eq_nil_of_length_eq_zero (by omega)
  rcases h.2 with ⟨hv,_⟩ | ⟨g,cap,cur,hv,_,_,hle,hcap,_⟩
  ·exact .inl ⟨hv,hc⟩
  ·exact .inr ⟨⟨g,0,none⟩,cap,hv,hle,hcap,fun j hj=>by omega⟩
theorem FuncsV.rd {eF eI:TypeId} {w:World} {base:Nat} {v:Value} {fs:List Fn} (h:FuncsV eF eI w base v fs):RdFs w v fs:=by
 have h':=h
 obtain ⟨xs,hx0,hr,_⟩:=h'
 have hl:xs.length=fs.length:=by rw [<-hx0];simp
 rw [hl] at hr
 rcases hr.2 with ⟨hv,h0⟩ | ⟨g,cap,cur,hv,_,_,hle,hcap,_⟩
 ·exact .inl ⟨hv,List.eq_nil_of_length_eq_zero h0⟩
 ·refine .inr ⟨⟨g,0,none⟩,cap,hv,hle,hcap,fun j hj=>?_⟩
  obtain ⟨g',cap',hv',_,hc⟩:=h.form (by omega)
  rw [hv] at hv'
  simp only [Value.slice.injEq,Option.some.injEq,Addr.mk.injEq] at hv'
  obtain ⟨⟨rfl,_⟩,_,_⟩:=hv'
  obtain ⟨lv,cv,e0,e1,e2,e3,e4,e5⟩:=hc j hj
  rw [add0]
  exact ⟨lv,cv,e0,e1,e2,e3,e4.rdA,e5.rd⟩
theorem sameInts_rc (a1 a2:Option Addr) (g1 g2:Addr) (c1 c2:Nat) (l:List Int) (w:World) (hl:l.length<=10000) (ha:0 < l.length->a1=some g1/\a2=some g2)
 (h1:∀ j,j < l.length->w.cell? (g1.add j)=some (.int .i64 (l.getD j 0))) (h2:∀ j,j < l.length->w.cell? (g2.add j)=some (.int .i64 (l.getD j 0))) :
 Calls Try.prog 26 #[.slice a1 l.length c1,.slice a2 l.length c2] w fun e w'=>e=.returned (.bool true)/\∃ n,w'=w.drewN n:=by
 go_enter Try.func26,Try.ntmps26
 go_wp2
 go_loopw [5] (fun i wr=>∃ k:Nat,k<=l.length/\i=.int .i64 k/\∃ n,wr=w.drewN n) (fun i _=>l.length - (intOf i).toNat)
 case atStart=>exact ⟨0,Nat.zero_le _,rfl,0,rfl⟩
 case round =>
  obtain ⟨k,hk,rfl,n,rfl⟩:=hrel
  by_cases hlt:k < l.length
  ·obtain ⟨rfl,rfl⟩:=ha (by omega)
   have y1:=h1 k hlt
   have y2:=h2 k hlt
   have hlt':(k:Int) < (l.length:Int):=by omega
   generalize l.getD k 0=x at *
   clear h1 h2 ha
   go_wp2
   go_quiet (fail)
   go_wp2
   exact ⟨⟨k+1,by omega,rfl,_,rfl⟩,by simp [intOf];omega⟩
  ·go_wp2
   go_ret
   exact ⟨rfl,n,rfl⟩
theorem sameInts_rd (v1 v2:Value) (l:List Int) (w:World) (hl:l.length<=10000) (h1:RdA w v1 l) (h2:RdA w v2 l) :
 Calls Try.prog 26 #[v1,v2] w fun e w'=>e=.returned (.bool true)/\∃ n,w'=w.drewN n:=by
 by_cases h0:0 < l.length
 ·obtain ⟨g1,c1,rfl,_,_,k1⟩:=h1.form h0
  obtain ⟨g2,c2,rfl,_,_,k2⟩:=h2.form h0
  exact sameInts_rc _ _ g1 g2 c1 c2 l w hl (fun _=>⟨rfl,rfl⟩) k1 k2
 ·obtain ⟨a1,c1,rfl⟩:=h1.slice
  obtain ⟨a2,c2,rfl⟩:=h2.slice
  exact sameInts_rc a1 a2 ⟨0,0,none⟩ ⟨0,0,none⟩ c1 c2 l w hl (fun h=>absurd h h0) (fun j hj=>by omega) (fun j hj=>by omega)
theorem sameFunc_rc (a1 a2 k1 k2:Option Addr) (g1 g2:Addr) (c1 c2 cc1 cc2:Nat) (f:Fn) (w:World) (hl:f.locals.length<=10000) (hc:f.code.length<=10000)
 (h1:RdA w (.slice a1 f.locals.length c1) f.locals) (h2:RdA w (.slice a2 f.locals.length c2) f.locals)
 (ha:0 < f.code.length->k1=some g1/\k2=some g2)
 (x1:∀ j (hj:j < f.code.length),w.cell? (g1.add (j * 3))=some (.int .i64 f.code[j].1)/\w.cell? ⟨(g1.add (j * 3)).block,(g1.add (j * 3)).off+1,none⟩=some (.int .i64 f.code[j].2.1)/\w.cell? ⟨(g1.add (j * 3)).block,(g1.add (j * 3)).off+2,none⟩=some (.int .i64 f.code[j].2.2))
 (x2:∀ j (hj:j < f.code.length),w.cell? (g2.add (j * 3))=some (.int .i64 f.code[j].1)/\w.cell? ⟨(g2.add (j * 3)).block,(g2.add (j * 3)).off+1,none⟩=some (.int .i64 f.code[j].2.1)/\w.cell? ⟨(g2.add (j * 3)).block,(g2.add (j * 3)).off+2,none⟩=some (.int .i64 f.code[j].2.2)) :
 Calls Try.prog 44 #[.agg #[f.args,.slice a1 f.locals.length c1,f.result,.slice k1 f.code.length cc1],.agg #[f.args,.slice a2 f.locals.length c2,f.result,.slice k2 f.code.length cc2]] w fun e w'=>e=.returned (.bool true)/\Chg () w w':=by
 go_enter Try.func44,Try.ntmps44
 go_wp2_with fail
 have ka:Chg () w ((w.alloc (Obj.cells #[f.args,.slice a1 f.locals.length c1,f.result,.slice k1 f.code.length cc1] 92)).alloc (Obj.cells #[f.args,.slice a2 f.locals.length c2,f.result,.slice k2 f.code.length cc2] 92)):=((Chg.refl _ w).alloc _).alloc _
 refine (sameInts_rd _ _ f.locals _ hl (h1.new ka) (h2.new ka)).mono ?_
 rintro e w1 ⟨rfl,n,rfl⟩
 have t1:Blk _ w.heap.size _ 92:=((Blk.new w #[.int .i64 f.args,.slice a1 f.locals.length c1,.int .i64 f.result,.slice k1 f.code.length cc1] 92).alloc (Obj.cells #[f.args,.slice a2 f.locals.length c2,f.result,.slice k2 f.code.length cc2] 92)).drewN n
 have t2:Blk _ (w.heap.size+1) _ 92:=(Blk.new' (w:=w.alloc (Obj.cells #[f.args,.slice a1 f.locals.length c1,f.result,.slice k1 f.code.length cc1] 92)) (by simp) #[f.args,.slice a2 f.locals.length c2,f.result,.slice k2 f.code.length cc2] 92).drewN n
 have kb:=ka.drewN n
 go_wp2_with fail
 generalize (((w.alloc (Obj.cells #[f.args,.slice a1 f.locals.length c1,f.result,.slice k1 f.code.length cc1] 92)).alloc (Obj.cells #[f.args,.slice a2 f.locals.length c2,f.result,.slice k2 f.code.length cc2] 92)).drewN n)=W at *
 have p0:W.cell? ⟨w.heap.size,3,none⟩=some (.slice k1 f.code.length cc1):=t1.cell 3
 have p1:W.cell? ⟨w.heap.size+1,3,none⟩=some (.slice k2 f.code.length cc2):=t2.cell 3
 have lift:∀ (a:Addr) v,w.cell? a=some v->W.cell? a=some v:=fun a v h=>(World.cell?_of_block (kb.block a.block (World.block_lt_of_cell? w a h) (fun e=>e))).trans h
 clear t1 t2 ka
 go_loopw [6] (fun i wr=>∃ k:Nat,k<=f.code.length/\i=.int .i64 k/\∃ n,wr=W.drewN n) (fun i _=>f.code.length - (intOf i).toNat)
 case atStart=>exact ⟨0,Nat.zero_le _,rfl,0,rfl⟩
 case round =>
  obtain ⟨k,hk,rfl,m,rfl⟩:=hrel
  by_cases hlt:k < f.code.length
  ·obtain ⟨rfl,rfl⟩:=ha (by omega)
   obtain ⟨u1,u2,u3⟩:=x1 k hlt
   obtain ⟨v1,v2,v3⟩:=x2 k hlt
   have u1:=lift _ _ u1
   have u2:=lift _ _ u2
   have u3:=lift _ _ u3
   have v1:=lift _ _ v1
   have v2:=lift _ _ v2
   have v3:=lift _ _ v3
   have hlt':(k:Int) < (f.code.length:Int):=by omega
   generalize f.code[k]=x at *
   clear x1 x2 ha lift
   go_wp2
   go_quiet (fail)
   go_outline
   go_wp2
   exact ⟨⟨k+1,by omega,rfl,_,rfl⟩,by simp [intOf];omega⟩
  ·clear lift
   go_wp2
   go_ret
   exact ⟨rfl,kb.drewN m⟩
theorem sameFunc_rd (l1 l2 c1 c2:Value) (f:Fn) (w:World) (hl:f.locals.length<=10000) (hc:f.code.length<=10000)
 (h1:RdA w l1 f.locals) (h2:RdA w l2 f.locals) (i1:RdIs w c1 f.code) (i2:RdIs w c2 f.code) :
 Calls Try.prog 44 #[.agg #[f.args,l1,f.result,c1],.agg #[f.args,l2,f.result,c2]] w fun e w'=>e=.returned (.bool true)/\Chg () w w':=by
 obtain ⟨a1,q1,rfl⟩:=h1.slice
 obtain ⟨a2,q2,rfl⟩:=h2.slice
 by_cases h0:0 < f.code.length
 ·obtain ⟨g1,cc1,rfl,k1⟩:=i1.formA h0
  obtain ⟨g2,cc2,rfl,k2⟩:=i2.formA h0
  exact sameFunc_rc a1 a2 _ _ g1 g2 q1 q2 cc1 cc2 f w hl hc h1 h2 (fun _=>⟨rfl,rfl⟩) k1 k2
 ·obtain ⟨k1,cc1,rfl⟩:=i1.slice
  obtain ⟨k2,cc2,rfl⟩:=i2.slice
  exact sameFunc_rc a1 a2 k1 k2 ⟨0,0,none⟩ ⟨0,0,none⟩ q1 q2 cc1 cc2 f w hl hc h1 h2 (fun h=>absurd h h0) (fun j hj=>by omega) (fun j hj=>by omega)
theorem same_rd (t1 t2 f1 f2:Value) (p:Pg) (w:World) (ht:p.types.length<=10000) (hts:∀ j,(p.types.getD j []).length<=10000) (hf:p.funcs.length<=10000) (hfs:∀ j (hj:j < p.funcs.length),p.funcs[j].locals.length<=10000/\p.funcs[j].code.length<=10000)
 (h1:RdTs w t1 p.types) (h2:RdTs w t2 p.types) (i1:RdFs w f1 p.funcs) (i2:RdFs w f2 p.funcs) :
 Calls Try.prog 20 #[.agg #[t1,f1],.agg #[t2,f2]] w fun e w'=>e=.returned (.bool true)/\Chg () w w':=by
 obtain ⟨ta1,tc1,rfl⟩:=h1.slice
 obtain ⟨ta2,tc2,rfl⟩:=h2.slice
 obtain ⟨fa1,fc1,rfl⟩:=i1.slice
 obtain ⟨fa2,fc2,rfl⟩:=i2.slice
 go_enter Try.func20,Try.ntmps20
 go_wp2_with fail
 have ka:Chg () w ((w.alloc (Obj.cells #[.slice ta1 p.types.length tc1,.slice fa1 p.funcs.length fc1] 28)).alloc (Obj.cells #[.slice ta2 p.types.length tc2,.slice fa2 p.funcs.length fc2] 28)):=((Chg.refl _ w).alloc _).alloc _
 have e1:Blk _ w.heap.size _ 28:=(Blk.new w #[.slice ta1 p.types.length tc1,.slice fa1 p.funcs.length fc1] 28).alloc (Obj.cells #[.slice ta2 p.types.length tc2,.slice fa2 p.funcs.length fc2] 28)
 have e2:Blk _ (w.heap.size+1) _ 28:=Blk.new' (w:=w.alloc (Obj.cells #[.slice ta1 p.types.length tc1,.slice fa1 p.funcs.length fc1] 28)) (by simp) #[.slice ta2 p.types.length tc2,.slice fa2 p.funcs.length fc2] 28
 generalize ((w.alloc (Obj.cells #[.slice ta1 p.types.length tc1,.slice fa1 p.funcs.length fc1] 28)).alloc (Obj.cells #[.slice ta2 p.types.length tc2,.slice fa2 p.funcs.length fc2] 28))=W at *
 have y1:W.cell? ⟨w.heap.size,0,none⟩=some (.slice ta1 p.types.length tc1):=e1.cell 0
 have y2:W.cell? ⟨w.heap.size+1,0,none⟩=some (.slice ta2 p.types.length tc2):=e2.cell 0
 go_loopw [5] (fun i wr=>∃ k:Nat,k<=p.types.length/\i=.int .i64 k/\∃ n,wr=W.drewN n) (fun i _=>p.types.length - (intOf i).toNat)
 case atStart=>exact ⟨0,Nat.zero_le _,rfl,0,rfl⟩
 case round =>
  obtain ⟨k,hk,rfl,m,rfl⟩:=hrel
  by_cases hlt:k < p.types.length
  ·obtain ⟨g1,cp1,he1,hh1⟩:=(h1.new ka).form (by omega)
   obtain ⟨u1,hu1,hi1⟩:=hh1 k hlt
   clear hh1
   obtain ⟨g2,cp2,he2,hh2⟩:=(h2.new ka).form (by omega)
   obtain ⟨u2,hu2,hi2⟩:=hh2 k hlt
   clear hh2
   simp only [Value.slice.injEq] at he1 he2
   obtain ⟨rfl,-,rfl⟩:=he1
   obtain ⟨rfl,-,rfl⟩:=he2
   obtain ⟨ua1,uc1,rfl⟩:=hi1.slice
   obtain ⟨ua2,uc2,rfl⟩:=hi2.slice
   have hlk:=hts k
   have hlt':(k:Int) < (p.types.length:Int):=by omega
   generalize p.types.getD k []=L at *
   have hi1:RdA (W.drewN m) (.slice ua1 L.length uc1) L:=hi1
   have hi2:RdA (W.drewN m) (.slice ua2 L.length uc2) L:=hi2
   have y1:(W.drewN m).cell? ⟨w.heap.size,0,none⟩=some (.slice (some g1) p.types.length tc1):=y1
   have y2:(W.drewN m).cell? ⟨w.heap.size+1,0,none⟩=some (.slice (some g2) p.types.length tc2):=y2
   have hu1:(W.drewN m).cell? (g1.add k)=some (.slice ua1 L.length uc1):=hu1
   have hu2:(W.drewN m).cell? (g2.add k)=some (.slice ua2 L.length uc2):=hu2
   generalize hV:W.drewN m=V at *
   have HV:=hid hV
   clear hV
   go_wp2
   go_quiet ((go_at_call 26;exact Calls.quiet_of (sameInts_rd _ _ L _ hlk hi1 hi2)))
   go_wp2
   exact ⟨⟨k+1,by omega,rfl,m+nq,by rw [<-HV.out,World.drewN_drewN]⟩,by simp [intOf];omega⟩
  ·go_wp2_with fail
   clear y1 y2 hlt hk
   have ka2:=ka.drewN m
   have e1':=e1.drewN m
   have e2':=e2.drewN m
   generalize W.drewN m=W2 at *
   clear e1 e2 ka
   go_loopw [7] (fun i wr=>∃ k:Nat,k<=p.funcs.length/\i=.int .i64 k/\Chg () W2 wr) (fun i _=>p.funcs.length - (intOf i).toNat)
   case atStart=>exact ⟨0,Nat.zero_le _,rfl,Chg.refl _ _⟩
   case round =>
    obtain ⟨k2,hk,rfl,hch⟩:=hrel
    have e1:=e1'.chg hch (fun e=>e)
    have e2:=e2'.chg hch (fun e=>e)
    have y1:wr.cell? ⟨w.heap.size,1,none⟩=some (.slice fa1 p.funcs.length fc1):=e1.cell 1
    have y2:wr.cell? ⟨w.heap.size+1,1,none⟩=some (.slice fa2 p.funcs.length fc2):=e2.cell 1
    by_cases hlt:k2 < p.funcs.length
    ·obtain ⟨g1,cp1,he1,q1⟩:=(i1.new (ka2.trans hch)).formA (by omega)
     obtain ⟨g2,cp2,he2,q2⟩:=(i2.new (ka2.trans hch)).formA (by omega)
     simp only [Value.slice.injEq] at he1 he2
     obtain ⟨rfl,-,rfl⟩:=he1
     obtain ⟨rfl,-,rfl⟩:=he2
     obtain ⟨lv1,cv1,s10,s11,s12,s13,hl1,hc1⟩:=q1 k2 hlt
     obtain ⟨lv2,cv2,s20,s21,s22,s23,hl2,hc2⟩:=q2 k2 hlt
     have hb:=hfs k2 hlt
     clear q1 q2
     have hlt':(k2:Int) < (p.funcs.length:Int):=by omega
     generalize p.funcs[k2]=F at *
     obtain ⟨la1,lc1,rfl⟩:=hl1.slice
     obtain ⟨la2,lc2,rfl⟩:=hl2.slice
     obtain ⟨ca1,cc1,rfl⟩:=hc1.slice
     obtain ⟨ca2,cc2,rfl⟩:=hc2.slice
     have hcw:=hid hch
     go_wp2
     go_region_with (go_at_call 44;refine (sameFunc_rd _ _ _ _ F _ hb.1 hb.2 (by exact hl1) (by exact hl2) (by exact hc1) (by exact hc2)).mono ?_;rintro e w9 ⟨rfl,hch9⟩)
     all_goals
      go_wp2
      exact ⟨⟨k2+1,by omega,rfl,(hcw.out.drew).trans hch9⟩,by simp [intOf];omega⟩
    ·go_wp2
     go_ret
     exact ⟨rfl,ka2.trans hch⟩
end Go.Proofs.Ytnfnbcbadakofaa
namespace Go.Proofs.Ytnfnbcbadakofaa
open Go.RowKit
theorem bl_str {L:List Int} (h:∀ n ∈ L,0<=n/\n<=255):bl (strOfNums L)=L:=by
 unfold bl strOfNums
 rw [List.toList_toArray,List.map_map]
 conv=>rhs;rw [<-List.map_id L]
 refine List.map_congr_left fun n hn=>?_
 have:=h n hn
 show (((UInt8.ofNat n.toNat).toNat:Nat):Int)=n
 rw [UInt8.toNat_ofNat']
 omega
theorem str_bl (s:ByteArray):strOfNums (bl s)=s:=by
 unfold bl strOfNums
 rw [List.map_map]
 have:(List.map ((fun n:Int=>UInt8.ofNat n.toNat) ∘ fun b:UInt8=>(b.toNat:Int)) s.data.toList)=s.data.toList:=by
  conv=>rhs;rw [<-List.map_id s.data.toList]
  refine List.map_congr_left fun b _=>?_
  show UInt8.ofNat ((b.toNat:Int)).toNat=b
  rw [Int.toNat_natCast]
  exact UInt8.ofNat_toNat
 rw [this]
theorem bl_all (s:ByteArray):∀ n ∈ bl s,0<=n/\n<=255:=by
 intro n hn
 unfold bl at hn
 obtain ⟨b,_,rfl⟩:=List.mem_map.1 hn
 have:=b.toNat_lt
 omega
theorem ins_byte {ls:List (List Int)} {fu lo co:Int} {x:Int × Int × Int} (h6:ls.length<=6) (h5:∀ l ∈ ls,l.length<=5) (hfu:fu<=6) (hlo:lo<=8) (hco:co<=64) (h:InsOk ls fu lo co x):∀ n ∈ numI x,0<=n/\n<=255:=by
 obtain ⟨a,b,c,d⟩:=h
 have hf:(flds ls x.2.1).length<=5:=by
  unfold flds
  split
  ·simp
  ·rw [List.getD_eq_getElem?_getD]
   by_cases hj:(x.2.1 - 1).toNat < ls.length
   ·rw [List.getElem?_eq_getElem hj];exact h5 _ (List.getElem_mem hj)
   ·rw [List.getElem?_eq_none (by omega)];simp
 have hb:0<=x.2.1/\x.2.1<=255:=by
  unfold bA at b
  repeat' split at b
  all_goals simp only at b
  all_goals omega
 have hg:x.2.2<=255:=by
  unfold gB at d
  split at d
  ·omega
  ·omega
 intro n hn
 unfold numI at hn
 simp only [List.mem_cons,List.not_mem_nil,or_false] at hn
 rcases hn with rfl | rfl | rfl
 ·omega
 ·exact hb
 ·omega
theorem numP_byte {ls:List (List Int)} {fs:List Fn} (h:GP ⟨ls,fs⟩):∀ n ∈ numP ls fs,0<=n/\n<=255:=by
 obtain ⟨a,b,c,d⟩:=h
 have a':ls.length<=6:=a
 have b':∀ l ∈ ls,l.length<=5/\∀ t ∈ l,0<=t/\t<=(ls.length:Int):=b
 have c':1<=fs.length/\fs.length<=6:=c
 have d':∀ j (hj:j < fs.length),GF ls fs.length (j == 0) fs[j]:=d
 intro n hn
 unfold numP at hn
 rcases List.mem_append.1 hn with hn | hn
 ·rcases List.mem_append.1 hn with hn | hn
  ·rcases List.mem_append.1 hn with hn | hn
   ·simp only [List.mem_cons,List.not_mem_nil,or_false] at hn;omega
   ·obtain ⟨l,hl,hx⟩:=List.mem_flatMap.1 hn
    unfold numT at hx
    obtain ⟨q1,q2⟩:=b' l hl
    rcases List.mem_cons.1 hx with rfl | hx
    ·omega
    ·have:=q2 n hx;omega
  ·simp only [List.mem_cons,List.not_mem_nil,or_false] at hn;omega
 ·obtain ⟨f,hf,hx⟩:=List.mem_flatMap.1 hn
  obtain ⟨j,hj,rfl⟩:=List.mem_iff_getElem.1 hf
  have g:=d' j hj
  unfold GF at g
  obtain ⟨g1,g2,g3,g4,g5,g6⟩:=g
  have hr:(if (j == 0)=true then (0:Int) else (ls.length:Int))<=6:=by split <;> omega
  have ha:(if (j == 0)=true then (0:Int) else 4)<=4:=by split <;> omega
  unfold numF at hx
  rcases List.mem_append.1 hx with hx | hx
  ·rcases List.mem_append.1 hx with hx | hx
   ·rcases List.mem_append.1 hx with hx | hx
    ·simp only [List.mem_cons,List.not_mem_nil,or_false] at hx;omega
    ·have:=g3 n hx;omega
   ·simp only [List.mem_cons,List.not_mem_nil,or_false] at hx;omega
  ·obtain ⟨x,hx1,hx2⟩:=List.mem_flatMap.1 hx
   exact ins_byte a' (fun l hl=>(b' l hl).1) (by omega) (by omega) (by omega) (g6 x hx1) n hx2
theorem opn_small {s:ByteArray} (h:s.size<=800):opn s=rdP (bl s):=by unfold opn;rw [if_neg (by omega)]
theorem enc_back {ls:List (List Int)} {fs:List Fn} (h:(docP ls fs).2=0):opn (docP ls fs).1=(0,0,⟨ls,fs⟩):=by
 rcases hg:goodP ls fs
 ·rw [docP_no hg] at h;cases h
 ·have hd:=docP_yes hg
  by_cases h8:800 < (numP ls fs).length
  ·rw [if_pos h8] at hd;rw [hd] at h;cases h
  ·rw [if_neg h8] at hd
   rw [hd]
   have gp:=goodP_iff.1 hg
   have hb:=numP_byte gp
   rw [lows_id hb]
   have hsz:(strOfNums (numP ls fs)).size=(numP ls fs).length:=strOfNums_size _
   rw [opn_small (by rw [hsz];omega),bl_str hb]
   exact (rd_num ⟨ls,fs⟩).1 gp
theorem enc_none {ls:List (List Int)} {fs:List Fn} (h:(docP ls fs).2 ≠ 0):(docP ls fs).1=⟨#[]⟩:=by
 rcases hg:goodP ls fs
 ·rw [docP_no hg]
 ·have hd:=docP_yes hg
  by_cases h8:800 < (numP ls fs).length
  ·rw [if_pos h8] at hd;rw [hd]
  ·rw [if_neg h8] at hd;rw [hd] at h;exact absurd rfl h
theorem dec_back {s:ByteArray} (h:(opn s).1=0):docP (opn s).2.2.types (opn s).2.2.funcs=(s,0):=by
 have h8:s.size<=800:=by
  rcases Nat.lt_or_ge 800 s.size with q | q
  ·unfold opn at h;rw [if_pos q] at h;cases h
  ·exact q
 rw [opn_small h8] at h ⊢
 have hn:=num_rd h
 have gp:GP ⟨(rdP (bl s)).2.2.types,(rdP (bl s)).2.2.funcs⟩:=by
  rcases Classical.em (GP ⟨(rdP (bl s)).2.2.types,(rdP (bl s)).2.2.funcs⟩) with q | q
  ·exact q
  ·have:=(rd_num ⟨(rdP (bl s)).2.2.types,(rdP (bl s)).2.2.funcs⟩).2 q
   simp only at this
   rw [hn] at this
   rw [h] at this;cases this
 rw [docP_yes (goodP_iff.2 gp),hn,if_neg (by rw [bl_len];omega),lows_id (bl_all s),str_bl]
theorem const_ok:(opn ⟨#[1,2,0,1,1,0,1,1,0,3,5,0,0,11,1,0,16,0,0]⟩).1=0:=by kernel_rfl
end Go.Proofs.Ytnfnbcbadakofaa
namespace Go.Proofs.Ytnfnbcbadakofaa
open Go.RowKit
theorem returns_walk (ta fa:Option Addr) (tc fc:Nat) (ls:List (List Int)) (fs:List Fn) (s:ByteArray) (w:World) (ht:RdTs w (.slice ta ls.length tc) ls) (hf:RdFs w (.slice fa fs.length fc) fs) (hlt:ls.length<=5864062014805) (hbl:∀ j,(ls.getD j []).length<=17592186044416) (hft:fs.length<=2199023255552) (hbf:∀ j (hj:j < fs.length),fs[j].locals.length<=17592186044416/\fs[j].code.length<=5864062014805) :
 Calls Try.prog 6 #[.agg #[.slice ta ls.length tc,.slice fa fs.length fc],.string s] w fun e w'=>e=.returned (.bool true)/\Chg () w w':=by
 have kb:Chg () w (w.alloc (Obj.cells #[.slice ta ls.length tc,.slice fa fs.length fc] 28)):=(Chg.refl _ w).alloc _
 have bx:Blk (w.alloc (Obj.cells #[.slice ta ls.length tc,.slice fa fs.length fc] 28)) w.heap.size #[.slice ta ls.length tc,.slice fa fs.length fc] 28:=Blk.new w _ 28
 have HT:=hid (ht.new kb)
 have HF:=hid (hf.new kb)
 have HBL:=hid hbl
 have HBF:=hid hbf
 have hd0:=fun w=>decode_any ⟨#[1,2,0,1,1,0,1,1,0,3,5,0,0,11,1,0,16,0,0]⟩ w
 have hc0:=const_ok
 generalize opn ⟨#[1,2,0,1,1,0,1,1,0,3,5,0,0,11,1,0,16,0,0]⟩=R0 at *
 have hdi:=fun w=>decode_any s w
 have HOK:Hid (PgOk (opn s).2.2):=opn_ok s
 have HEN:Hid ((opn s).1=0->docP (opn s).2.2.types (opn s).2.2.funcs=(s,0)):=fun h=>dec_back h
 generalize opn s=R at *
 have HD0:Hid _:=hd0
 have HDI:Hid _:=hdi
 obtain ⟨r01,r02,p0⟩:=R0
 simp only at hc0
 subst hc0
 clear ht hf hbl hbf hd0 hdi
 go_enter Try.func6,Try.ntmps6
 go_wp2_with fail
 generalize (w.alloc (Obj.cells #[.slice ta ls.length tc,.slice fa fs.length fc] 28))=W0 at *
 refine (HD0.out _).mono ?_
 rintro e w1 ⟨tv1,fv1,rfl,hty1,hfv1,_,hch1⟩
 obtain ⟨ta1,tc1,rfl⟩:=hty1.slice
 obtain ⟨fa1,fc1,rfl⟩:=hfv1.slice
 simp only at *
 generalize p0.types.length=n1 at *
 generalize p0.funcs.length=m1 at *
 clear hty1 hfv1 HD0
 have kA1:Chg () w1 (w1.alloc (Obj.cells #[.slice ta1 n1 tc1,.slice fa1 m1 fc1] 35)):=(Chg.refl _ w1).alloc _
 have k01:=hch1.trans kA1
 have x0:(w1.alloc (Obj.cells #[.slice ta1 n1 tc1,.slice fa1 m1 fc1] 35)).cell? ⟨w.heap.size,0,none⟩=some (.slice ta ls.length tc):=(bx.chg k01 (fun e=>e)).cell 0
 have x1:(w1.alloc (Obj.cells #[.slice ta1 n1 tc1,.slice fa1 m1 fc1] 35)).cell? ⟨w.heap.size,1,none⟩=some (.slice fa fs.length fc):=(bx.chg k01 (fun e=>e)).cell 1
 go_wp2_with (go_at_call 16;refine (num_any _ _).mono ?_;rintro e w' ⟨rfl,hw'⟩;have hw':=hw'.symm;subst hw')
 refine (made_core ta fa tc fc ls fs _ (HT.out.new k01) (HF.out.new k01) hlt HBL.out hft HBF.out).mono ?_
 rintro e w2 ⟨tv',fv',rfl,h1,h2,k2⟩
 obtain ⟨ta',tc',rfl⟩:=h1.slice
 obtain ⟨fa',fc',rfl⟩:=h2.slice
 have kA:Chg () w2 (w2.alloc (Obj.cells #[.slice ta' ls.length tc',.slice fa' fs.length fc'] 35)):=(Chg.refl _ w2).alloc _
 have HE:=encode_any ta' fa' tc' fc' ls fs _ _ (h1.new kA) (h2.chg kA (fun _ _ _ e=>e) (fun _ _ _ e=>e) (fun _ _ _ e=>e)) (by omega) (by omega)
 rw [enc_doc] at HE
 have HBK:Hid ((docP ls fs).2=0->opn (docP ls fs).1=(0,0,⟨ls,fs⟩)):=fun h=>enc_back h
 have HNO:Hid ((docP ls fs).2 ≠ 0->(docP ls fs).1=⟨#[]⟩):=fun h=>enc_none h
 generalize docP ls fs=D at *
 obtain ⟨P,n⟩:=D
 simp only at *
 have HEN2:Hid (∀ (_:Unit),Calls Try.prog 22 #[.agg #[.slice ta' ls.length tc',.slice fa' fs.length fc']] (w2.alloc (Obj.cells #[.slice ta' ls.length tc',.slice fa' fs.length fc'] 35)) fun e w'=>e=.returned (.tuple #[.string P,n])/\Chg () (w2.alloc (Obj.cells #[.slice ta' ls.length tc',.slice fa' fs.length fc'] 35)) w'):=fun _=>HE
 clear HE h1 h2 x0 x1
 go_wp2_with fail
 refine (HEN2.out ()).mono ?_
 rintro e w3 ⟨rfl,k3⟩
 have k03:Chg () W0 w3:=((k01.trans k2).trans kA).trans k3
 clear HEN2 k01 k2 kA k3 hch1 kA1
 by_cases hn:n=0
 ·subst hn
  have hop:=HBK.out rfl
  have hdP:=fun w=>decode_any P w
  have HOKP:Hid (PgOk ⟨ls,fs⟩):=by have:=opn_ok P;rw [hop] at this;exact this
  rw [hop] at hdP
  simp only at hdP
  have HDP:Hid _:=hdP
  clear hdP hop HBK HNO
  go_wp2_with (go_at_call 16;refine (num_any _ _).mono ?_;rintro e w' ⟨rfl,hw'⟩;have hw':=hw'.symm;subst hw')
  refine (HDP.out _).mono ?_
  rintro e w4 ⟨tv4,fv4,rfl,hty4,hfv4,_,hch4⟩
  obtain ⟨ta4,tc4,rfl⟩:=hty4.slice
  obtain ⟨fa4,fc4,rfl⟩:=hfv4.slice
  have kA4:Chg () w4 (w4.alloc (Obj.cells #[.slice ta4 ls.length tc4,.slice fa4 fs.length fc4] 35)):=(Chg.refl _ w4).alloc _
  have hs4:w3.heap.size<=(w4.alloc (Obj.cells #[.slice ta4 ls.length tc4,.slice fa4 fs.length fc4] 35)).heap.size:=Nat.le_trans hch4.size kA4.size
  have HGV:=given_core _ _ w3.heap.size ⟨ls,fs⟩ _ hs4 HOKP.out.tl HOKP.out.fl HOKP.out.fs (hty4.new kA4) (hfv4.chg kA4 (fun _ _ _ e=>e) (fun _ _ _ e=>e) (fun _ _ _ e=>e))
  simp only at HGV
  have HGV2:Hid (∀ (_:Unit),Calls Try.prog 19 #[.agg #[.slice ta4 ls.length tc4,.slice fa4 fs.length fc4]] (w4.alloc (Obj.cells #[.slice ta4 ls.length tc4,.slice fa4 fs.length fc4] 35)) fun e w'=>∃ tv' fv',e=.returned (.agg #[tv',fv'])/\TypesV w' w3.heap.size tv' ls/\FuncsV 92 99 w' w3.heap.size fv' fs/\Chg () (w4.alloc (Obj.cells #[.slice ta4 ls.length tc4,.slice fa4 fs.length fc4] 35)) w'):=fun _=>HGV
  clear HGV hty4 hfv4 HDP
  go_wp2_with fail
  refine (HGV2.out ()).mono ?_
  rintro e w5 ⟨tv5,fv5,rfl,hty5,hfv5,hch5⟩
  obtain ⟨ta5,tc5,rfl⟩:=hty5.slice
  obtain ⟨fa5,fc5,rfl⟩:=hfv5.slice
  have kA5:Chg () w5 (w5.alloc (Obj.cells #[.slice ta5 ls.length tc5,.slice fa5 fs.length fc5] 28)):=(Chg.refl _ w5).alloc _
  have k05:Chg () W0 (w5.alloc (Obj.cells #[.slice ta5 ls.length tc5,.slice fa5 fs.length fc5] 28)):=(((k03.trans hch4).trans kA4).trans hch5).trans kA5
  have x0:(w5.alloc (Obj.cells #[.slice ta5 ls.length tc5,.slice fa5 fs.length fc5] 28)).cell? ⟨w.heap.size,0,none⟩=some (.slice ta ls.length tc):=(bx.chg k05 (fun e=>e)).cell 0
  have x1:(w5.alloc (Obj.cells #[.slice ta5 ls.length tc5,.slice fa5 fs.length fc5] 28)).cell? ⟨w.heap.size,1,none⟩=some (.slice fa fs.length fc):=(bx.chg k05 (fun e=>e)).cell 1
  have HSM:Hid (∀ (_:Unit),Calls Try.prog 20 #[.agg #[.slice ta5 ls.length tc5,.slice fa5 fs.length fc5],.agg #[.slice ta ls.length tc,.slice fa fs.length fc]] (w5.alloc (Obj.cells #[.slice ta5 ls.length tc5,.slice fa5 fs.length fc5] 28)) fun e w'=>e=.returned (.bool true)/\Chg () (w5.alloc (Obj.cells #[.slice ta5 ls.length tc5,.slice fa5 fs.length fc5] 28)) w'):=fun _ =>
   same_rd _ _ _ _ ⟨ls,fs⟩ _ HOKP.out.tl HOKP.out.ts HOKP.out.fl HOKP.out.fs (hty5.rd.new kA5) (HT.out.new k05) (hfv5.rd.new kA5) (HF.out.new k05)
  clear hty5 hfv5 HGV2
  go_wp2_with fail
  refine (HSM.out ()).mono ?_
  rintro e w6 ⟨rfl,hch6⟩
  have k06:Chg () W0 w6:=k05.trans hch6
  clear HSM x0 x1 hs4 kA4 hch4 kA5 hch5 hch6 k05 k03
  go_wp2_with (go_at_call 16;refine (num_any _ _).mono ?_;rintro e w' ⟨rfl,hw'⟩;have hw':=hw'.symm;subst hw')
  refine (HDI.out _).mono ?_
  rintro e w7 ⟨tv7,fv7,rfl,hty7,hfv7,_,hch7⟩
  obtain ⟨ta7,tc7,rfl⟩:=hty7.slice
  obtain ⟨fa7,fc7,rfl⟩:=hfv7.slice
  have k7:Chg () W0 w7:=k06.trans hch7
  have kA7:Chg () w7 (w7.alloc (Obj.cells #[.slice ta7 R.2.2.types.length tc7,.slice fa7 R.2.2.funcs.length fc7] 35)):=(Chg.refl _ w7).alloc _
  by_cases h0:R.1=0
  ·have h0':(R.1 != 0)=false:=by simp [h0]
   have hEn:=HEN.out h0
   have HE7:Hid (∀ (_:Unit),Calls Try.prog 22 #[.agg #[.slice ta7 R.2.2.types.length tc7,.slice fa7 R.2.2.funcs.length fc7]] (w7.alloc (Obj.cells #[.slice ta7 R.2.2.types.length tc7,.slice fa7 R.2.2.funcs.length fc7] 35)) fun e w'=>e=.returned (.tuple #[.string s,oO])/\Chg () (w7.alloc (Obj.cells #[.slice ta7 R.2.2.types.length tc7,.slice fa7 R.2.2.funcs.length fc7] 35)) w'):=fun _=>by
    have:=encode_any ta7 fa7 tc7 fc7 R.2.2.types R.2.2.funcs _ _ (hty7.new kA7) (hfv7.chg kA7 (fun _ _ _ e=>e) (fun _ _ _ e=>e) (fun _ _ _ e=>e)) (by have:=HOK.out.tl;omega) (by have:=HOK.out.fl;omega)
    rw [enc_doc,hEn] at this
    exact this
   clear h0 hEn hty7 hfv7 HEN HDI
   generalize R.1=r1 at *
   generalize R.2.1=r2 at *
   generalize R.2.2.types.length=n7 at *
   generalize R.2.2.funcs.length=m7 at *
   go_wp2_with (go_at_call 16;refine (num_any _ _).mono ?_;rintro e w' ⟨rfl,hw'⟩;have hw':=hw'.symm;subst hw')
   refine (HE7.out ()).mono ?_
   rintro e w8 ⟨rfl,hch8⟩
   go_wp2
   go_ret
   exact ⟨by first | rfl | simp,(kb.trans k7).trans (kA7.trans hch8)⟩
  ·have h0':(R.1 != 0)=true:=by simp [h0]
   clear h0 hty7 hfv7 HEN HDI
   generalize R.1=r1 at *
   generalize R.2.1=r2 at *
   generalize R.2.2.types.length=n7 at *
   generalize R.2.2.funcs.length=m7 at *
   go_wp2_with (go_at_call 16;refine (num_any _ _).mono ?_;rintro e w' ⟨rfl,hw'⟩;have hw':=hw'.symm;subst hw')
   go_ret
   exact ⟨rfl,(kb.trans k7).trans kA7⟩
 ·have hne:(n == 0)=false:=by simp [hn]
  have hP:=HNO.out hn
  subst hP
  clear HBK HNO hn
  go_wp2_with (go_at_call 16;refine (num_any _ _).mono ?_;rintro e w' ⟨rfl,hw'⟩;have hw':=hw'.symm;subst hw')
  refine (HDI.out _).mono ?_
  rintro e w7 ⟨tv7,fv7,rfl,hty7,hfv7,_,hch7⟩
  obtain ⟨ta7,tc7,rfl⟩:=hty7.slice
  obtain ⟨fa7,fc7,rfl⟩:=hfv7.slice
  have k7:Chg () W0 w7:=k03.trans hch7
  have kA7:Chg () w7 (w7.alloc (Obj.cells #[.slice ta7 R.2.2.types.length tc7,.slice fa7 R.2.2.funcs.length fc7] 35)):=(Chg.refl _ w7).alloc _
  by_cases h0:R.1=0
  ·have h0':(R.1 != 0)=false:=by simp [h0]
   have hEn:=HEN.out h0
   have HE7:Hid (∀ (_:Unit),Calls Try.prog 22 #[.agg #[.slice ta7 R.2.2.types.length tc7,.slice fa7 R.2.2.funcs.length fc7]] (w7.alloc (Obj.cells #[.slice ta7 R.2.2.types.length tc7,.slice fa7 R.2.2.funcs.length fc7] 35)) fun e w'=>e=.returned (.tuple #[.string s,oO])/\Chg () (w7.alloc (Obj.cells #[.slice ta7 R.2.2.types.length tc7,.slice fa7 R.2.2.funcs.length fc7] 35)) w'):=fun _=>by
    have:=encode_any ta7 fa7 tc7 fc7 R.2.2.types R.2.2.funcs _ _ (hty7.new kA7) (hfv7.chg kA7 (fun _ _ _ e=>e) (fun _ _ _ e=>e) (fun _ _ _ e=>e)) (by have:=HOK.out.tl;omega) (by have:=HOK.out.fl;omega)
    rw [enc_doc,hEn] at this
    exact this
   clear h0 hEn hty7 hfv7 HEN HDI
   generalize R.1=r1 at *
   generalize R.2.1=r2 at *
   generalize R.2.2.types.length=n7 at *
   generalize R.2.2.funcs.length=m7 at *
   go_wp2_with (go_at_call 16;refine (num_any _ _).mono ?_;rintro e w' ⟨rfl,hw'⟩;have hw':=hw'.symm;subst hw')
   refine (HE7.out ()).mono ?_
   rintro e w8 ⟨rfl,hch8⟩
   go_wp2
   go_ret
   exact ⟨by first | rfl | simp,(kb.trans k7).trans (kA7.trans hch8)⟩
  ·have h0':(R.1 != 0)=true:=by simp [h0]
   clear h0 hty7 hfv7 HEN HDI
   generalize R.1=r1 at *
   generalize R.2.1=r2 at *
   generalize R.2.2.types.length=n7 at *
   generalize R.2.2.funcs.length=m7 at *
   go_wp2_with (go_at_call 16;refine (num_any _ _).mono ?_;rintro e w' ⟨rfl,hw'⟩;have hw':=hw'.symm;subst hw')
   go_ret
   exact ⟨rfl,(kb.trans k7).trans kA7⟩
end Go.Proofs.Ytnfnbcbadakofaa
