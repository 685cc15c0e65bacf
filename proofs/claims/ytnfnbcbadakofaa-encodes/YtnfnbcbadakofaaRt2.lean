import Derived.Test.YtnfnbcbadakofaaRt
namespace Go.Proofs.Ytnfnbcbadakofaa
open Go.RowKit
theorem tkF_halt {ns:List Int} {ls:List (List Int)} {fu:Int} {b:Bool} {s:Nat × Bool} (h:s.2=true):(tkF ns ls fu b s).2.2=true:=by
 cases hb:(tkF ns ls fu b s).2.2 with
 | true=>rfl
 | false=>rw [(tkF_fine hb).1] at h;cases h
theorem tkT_halt {ns:List Int} {n:Int} {k:Nat} {s:Nat × Bool} (h:s.2=true):(tkT ns n k s).2.2=true:=by
 cases hb:(tkT ns n k s).2.2 with
 | true=>rfl
 | false=>rw [(tkT_fine k hb).1] at h;cases h
theorem tkFs_halt {ns:List Int} {ls:List (List Int)} {fu:Int} {k:Nat} {s:Nat × Bool} (h:s.2=true):(tkFs ns ls fu k s).2.2=true:=by
 cases hb:(tkFs ns ls fu k s).2.2 with
 | true=>rfl
 | false=>rw [(tkFs_fine k hb).1] at h;cases h
def GF (ls:List (List Int)) (fu:Int) (first:Bool) (f:Fn):Prop:=
 (0<=f.args/\f.args<=(if first then 0 else 4))/\(f.args<=(f.locals.length:Int)/\(f.locals.length:Int)<=8)/\(∀ t ∈ f.locals,0<=t/\t<=(ls.length:Int))/\(0<=f.result/\f.result<=(if first then 0 else (ls.length:Int)))/\(1<=(f.code.length:Int)/\(f.code.length:Int)<=64)/\∀ x ∈ f.code,InsOk ls fu f.locals.length f.code.length x
theorem tkF_at {ns B:List Int} {p:Nat} {f:Fn} {ls:List (List Int)} {fu:Int} {first:Bool} (h:ns.drop p=numF f++B):Rds (tkF ns ls fu first (p,false)) p (numF f) f (GF ls fu first f):=by
 have e:tkF ns ls fu first (p,false)=(let r1:=tk ns 0 (if first then 0 else 4) (p,false);let r2:=tk ns r1.1 8 r1.2;let r3:=tkL ns ls.length r2.1.toNat r2.2;let r4:=tk ns 0 (if first then 0 else ls.length) r3.2;let r5:=tk ns 1 64 r4.2
  let r6:=tkC ns ls fu r2.1 r5.1 r5.1.toNat r5.2;(⟨r1.1,r3.1,r4.1,r6.1⟩,r6.2)):=rfl
 have h0:ns.drop p=f.args::((f.locals.length:Int)::(f.locals++(f.result::(f.code.length:Int)::(f.code.flatMap numI++B)))):=by rw [h];simp [numF]
 have h1:=drop_next h0
 have h2:=drop_next h1
 have h3:=drop_len h2
 have h4:=drop_next h3
 have h5:=drop_next h4
 rw [e]
 simp only
 rw [tk_at h0]
 by_cases g1:0<=f.args/\f.args<=(if first then 0 else 4)
 ·rw [if_pos g1]
  simp only
  rw [tk_at h1]
  by_cases g2:f.args<=(f.locals.length:Int)/\(f.locals.length:Int)<=8
  ·rw [if_pos g2]
   simp only [Int.toNat_natCast]
   obtain ⟨a1,a2⟩:=tkL_at (hi:=(ls.length:Int)) h2
   by_cases g3:∀ t ∈ f.locals,0<=t/\t<=(ls.length:Int)
   ·rw [a1 g3]
    simp only
    rw [tk_at h3]
    by_cases g4:0<=f.result/\f.result<=(if first then 0 else (ls.length:Int))
    ·rw [if_pos g4]
     simp only
     rw [tk_at h4]
     by_cases g5:1<=(f.code.length:Int)/\(f.code.length:Int)<=64
     ·rw [if_pos g5]
      simp only [Int.toNat_natCast]
      obtain ⟨c1,c2⟩:=tkC_at (ls:=ls) (fu:=fu) (lo:=(f.locals.length:Int)) (co:=(f.code.length:Int)) h5
      by_cases g6:∀ x ∈ f.code,InsOk ls fu f.locals.length f.code.length x
      ·rw [c1 g6]
       refine ⟨fun _=>?_,fun hn=>absurd ⟨g1,g2,g3,g4,g5,g6⟩ hn⟩
       have:p+1+1+f.locals.length+1+1+(f.code.flatMap numI).length=p+(numF f).length:=by simp only [numF,List.length_append,List.length_cons,List.length_nil];omega
       rw [this]
      ·exact ⟨fun hg=>absurd hg.2.2.2.2.2 g6,fun _=>c2 g6⟩
     ·rw [if_neg g5]
      exact ⟨fun hg=>absurd hg.2.2.2.2.1 g5,fun _=>tkC_halt rfl⟩
    ·rw [if_neg g4]
     exact ⟨fun hg=>absurd hg.2.2.2.1 g4,fun _=>tkC_halt (tk_halt rfl)⟩
   ·exact ⟨fun hg=>absurd hg.2.2.1 g3,fun _=>tkC_halt (tk_halt (tk_halt (a2 g3)))⟩
  ·rw [if_neg g2]
   exact ⟨fun hg=>absurd hg.2.1 g2,fun _=>tkC_halt (tk_halt (tk_halt (tkL_halt rfl)))⟩
 ·rw [if_neg g1]
  exact ⟨fun hg=>absurd hg.1 g1,fun _=>tkC_halt (tk_halt (tk_halt (tkL_halt (tk_halt rfl))))⟩
theorem flat_split {α:Type} (g:α->List Int) (c:List α) (j:Nat) (hj:j < c.length):c.flatMap g=(c.take j).flatMap g++(g c[j]++(c.drop (j+1)).flatMap g):=by
 have:=List.take_append_drop j c
 rw [List.drop_eq_getElem_cons hj] at this
 rw [<-List.flatMap_cons,<-List.flatMap_append,this]
theorem tkT_at {ns B:List Int} {p:Nat} {ts:List (List Int)} {n:Int} (h:ns.drop p=ts.flatMap numT++B):Rds (tkT ns n ts.length (p,false)) p (ts.flatMap numT) ts (∀ l ∈ ts,l.length<=5/\∀ t ∈ l,0<=t/\t<=n):=by
 have key:∀ j,j<=ts.length->((∀ l ∈ ts.take j,l.length<=5/\∀ t ∈ l,0<=t/\t<=n)->tkT ns n j (p,false)=(ts.take j,(p+((ts.take j).flatMap numT).length,false)))/\(¬ (∀ l ∈ ts.take j,l.length<=5/\∀ t ∈ l,0<=t/\t<=n)->(tkT ns n j (p,false)).2.2=true):=by
  intro j
  induction j with
  | zero=>intro _;exact ⟨fun _=>by simp [tkT],fun h=>absurd (fun t ht=>by simp at ht) h⟩
  | succ j ih =>
   intro hj
   obtain ⟨i1,i2⟩:=ih (by omega)
   have hjl:j < ts.length:=by omega
   have ht:ts.take (j+1)=ts.take j++[ts[j]]:=List.take_succ_eq_append_getElem hjl
   have hd:ns.drop (p+((ts.take j).flatMap numT).length)=numT ts[j]++((ts.drop (j+1)).flatMap numT++B):=by
    rw [<-List.drop_drop,h,flat_split numT ts j hjl,List.append_assoc,List.drop_left,List.append_assoc]
   have hd0:ns.drop (p+((ts.take j).flatMap numT).length)=(ts[j].length:Int)::(ts[j]++((ts.drop (j+1)).flatMap numT++B)):=hd
   have hd1:=drop_next hd0
   simp only [tkT]
   by_cases hg:∀ l ∈ ts.take j,l.length<=5/\∀ t ∈ l,0<=t/\t<=n
   ·rw [i1 hg]
    simp only
    rw [tk_at hd0]
    by_cases hx:(0:Int)<=(ts[j].length:Int)/\(ts[j].length:Int)<=5
    ·rw [if_pos hx]
     simp only [Int.toNat_natCast]
     obtain ⟨a1,a2⟩:=tkL_at (hi:=n) hd1
     by_cases hy:∀ t ∈ ts[j],0<=t/\t<=n
     ·rw [a1 hy]
      refine ⟨fun _=>?_,fun hn=>absurd (fun t htm=>?_) hn⟩
      ·rw [ht,List.flatMap_append]
       simp [numT];omega
      ·rw [ht] at htm
       rcases List.mem_append.1 htm with hm | hm
       ·exact hg t hm
       ·simp only [List.mem_singleton] at hm;subst hm;exact ⟨by omega,hy⟩
     ·exact ⟨fun hn=>absurd (hn ts[j] (by rw [ht];exact List.mem_append_right _ (List.mem_singleton.2 rfl))).2 hy,fun _=>a2 hy⟩
    ·rw [if_neg hx]
     exact ⟨fun hn=>absurd (hn ts[j] (by rw [ht];exact List.mem_append_right _ (List.mem_singleton.2 rfl))).1 (by omega),fun _=>tkL_halt rfl⟩
   ·refine ⟨fun hn=>absurd (fun t htm=>hn t (by rw [ht];exact List.mem_append_left _ htm)) hg,fun _=>tkL_halt (tk_halt (i2 hg))⟩
 obtain ⟨k1,k2⟩:=key ts.length (Nat.le_refl _)
 rw [List.take_length] at k1 k2
 exact ⟨k1,k2⟩
theorem tkFs_at {ns B:List Int} {p:Nat} {fs:List Fn} {ls:List (List Int)} {fu:Int} (h:ns.drop p=fs.flatMap numF++B):Rds (tkFs ns ls fu fs.length (p,false)) p (fs.flatMap numF) fs (∀ j (hj:j < fs.length),GF ls fu (j == 0) fs[j]):=by
 have key:∀ j,j<=fs.length->((∀ i (hi:i < fs.length),i < j->GF ls fu (i == 0) fs[i])->tkFs ns ls fu j (p,false)=(fs.take j,(p+((fs.take j).flatMap numF).length,false)))/\(¬ (∀ i (hi:i < fs.length),i < j->GF ls fu (i == 0) fs[i])->(tkFs ns ls fu j (p,false)).2.2=true):=by
  intro j
  induction j with
  | zero=>intro _;exact ⟨fun _=>by simp [tkFs],fun h=>absurd (fun i _ hi=>by omega) h⟩
  | succ j ih =>
   intro hj
   obtain ⟨i1,i2⟩:=ih (by omega)
   have hjl:j < fs.length:=by omega
   have ht:fs.take (j+1)=fs.take j++[fs[j]]:=List.take_succ_eq_append_getElem hjl
   have hd:ns.drop (p+((fs.take j).flatMap numF).length)=numF fs[j]++((fs.drop (j+1)).flatMap numF++B):=by
    rw [<-List.drop_drop,h,flat_split numF fs j hjl,List.append_assoc,List.drop_left,List.append_assoc]
   simp only [tkFs]
   by_cases hg:∀ i (hi:i < fs.length),i < j->GF ls fu (i == 0) fs[i]
   ·rw [i1 hg]
    simp only
    obtain ⟨a1,a2⟩:=tkF_at (ls:=ls) (fu:=fu) (first:=(j == 0)) hd
    by_cases hx:GF ls fu (j == 0) fs[j]
    ·rw [a1 hx]
     refine ⟨fun _=>?_,fun hn=>absurd (fun i hi hij=>?_) hn⟩
     ·rw [ht,List.flatMap_append]
      simp;omega
     ·rcases Nat.lt_or_ge i j with hlt | hge
      ·exact hg i hi hlt
      ·have:i=j:=by omega
       subst this;exact hx
    ·exact ⟨fun hn=>absurd (hn j hjl (by omega)) hx,fun _=>a2 hx⟩
   ·refine ⟨fun hn=>absurd (fun i hi hij=>hn i hi (by omega)) hg,fun _=>tkF_halt (i2 hg)⟩
 obtain ⟨k1,k2⟩:=key fs.length (Nat.le_refl _)
 rw [List.take_length] at k1
 exact ⟨fun hg=>k1 (fun i hi _=>hg i hi),fun hn=>k2 (fun hg=>hn (fun i hi=>hg i hi hi))⟩
def GP (p:Pg):Prop:=p.types.length<=6/\(∀ l ∈ p.types,l.length<=5/\∀ t ∈ l,0<=t/\t<=(p.types.length:Int))/\(1<=p.funcs.length/\p.funcs.length<=6)/\∀ j (hj:j < p.funcs.length),GF p.types p.funcs.length (j == 0) p.funcs[j]
theorem tkP_at (q:Pg):Rds (tkP (numP q.types q.funcs) (0,false)) 0 (numP q.types q.funcs) q (GP q):=by
 have e:∀ ns,tkP ns (0,false)=(let r0:=tk ns 0 6 (0,false);let r1:=tkT ns r0.1 r0.1.toNat r0.2;let r2:=tk ns 1 6 r1.2;let r3:=tkFs ns r1.1 r2.1 r2.1.toNat r2.2;(⟨r1.1,r3.1⟩,r3.2)):=fun _=>rfl
 obtain ⟨ts,fs⟩:=q
 have h0:(numP ts fs).drop 0=(ts.length:Int)::(ts.flatMap numT++((fs.length:Int)::(fs.flatMap numF++[]))):=by simp [numP]
 simp only
 have hlen:(numP ts fs).length=1+(ts.flatMap numT).length+1+(fs.flatMap numF).length:=by simp only [numP,List.length_append,List.length_cons,List.length_nil]
 generalize numP ts fs=ns at *
 have h1:=drop_next h0
 have h2:=drop_len h1
 have h3:=drop_next h2
 rw [e]
 simp only
 rw [tk_at h0]
 by_cases g1:(0:Int)<=(ts.length:Int)/\(ts.length:Int)<=6
 ·rw [if_pos g1]
  simp only [Int.toNat_natCast]
  obtain ⟨a1,a2⟩:=tkT_at (n:=(ts.length:Int)) h1
  by_cases g2:∀ l ∈ ts,l.length<=5/\∀ t ∈ l,0<=t/\t<=(ts.length:Int)
  ·rw [a1 g2]
   simp only
   rw [tk_at h2]
   by_cases g3:(1:Int)<=(fs.length:Int)/\(fs.length:Int)<=6
   ·rw [if_pos g3]
    simp only [Int.toNat_natCast]
    obtain ⟨c1,c2⟩:=tkFs_at (ls:=ts) (fu:=(fs.length:Int)) h3
    by_cases g4:∀ j (hj:j < fs.length),GF ts fs.length (j == 0) fs[j]
    ·rw [c1 g4]
     refine ⟨fun _=>?_,fun hn=>absurd ⟨by simp only;omega,g2,by simp only;omega,g4⟩ hn⟩
     have:0+1+(ts.flatMap numT).length+1+(fs.flatMap numF).length=0+ns.length:=by omega
     rw [this]
    ·exact ⟨fun hg=>absurd hg.2.2.2 g4,fun _=>c2 g4⟩
   ·rw [if_neg g3]
    exact ⟨fun hg=>absurd hg.2.2.1 (by simp only;omega),fun _=>tkFs_halt rfl⟩
  ·exact ⟨fun hg=>absurd hg.2.1 g2,fun _=>tkFs_halt (tk_halt (a2 g2))⟩
 ·rw [if_neg g1]
  exact ⟨fun hg=>absurd hg.1 (by simp only;omega),fun _=>tkFs_halt (tk_halt (tkT_halt rfl))⟩
theorem rd_num (q:Pg):(GP q->rdP (numP q.types q.funcs)=(0,0,q))/\(¬ GP q->(rdP (numP q.types q.funcs)).1=2):=by
 obtain ⟨a,b⟩:=tkP_at q
 have e2:∀ ns,rdP ns=if (tkP ns (0,false)).2.2=true \/ (tkP ns (0,false)).2.1 < ns.length then (2,((tkP ns (0,false)).2.1:Int),⟨[],[]⟩) else (0,0,(tkP ns (0,false)).1):=fun _=>rfl
 rw [e2]
 refine ⟨fun hg=>?_,fun hn=>?_⟩
 ·rw [a hg];simp
 ·rw [if_pos (.inl (b hn))]
end Go.Proofs.Ytnfnbcbadakofaa
