import Derived.Test.YtnfnbcbadakofaaNum
import Derived.Test.YtnfnbcbadakofaaWf
namespace Go.Proofs.Ytnfnbcbadakofaa
open Go.RowKit
theorem drop_next {ns B:List Int} {p:Nat} {x:Int} (h:ns.drop p=x::B):ns.drop (p+1)=B:=by
 rw [<-List.drop_drop,h];rfl
theorem drop_len {ns B X:List Int} {p:Nat} (h:ns.drop p=X++B):ns.drop (p+X.length)=B:=by
 rw [<-List.drop_drop,h,List.drop_left]
theorem tk_at {ns B:List Int} {p:Nat} {x:Int} (h:ns.drop p=x::B) (lo hi:Int):tk ns lo hi (p,false)=if lo<=x/\x<=hi then (x,(p+1,false)) else (0,(p,true)):=by
 have hl:p < ns.length:=by
  rcases Nat.lt_or_ge p ns.length with h1 | h1
  ·exact h1
  ·rw [List.drop_eq_nil_of_le h1] at h;cases h
 have hx:ns.getD p 0=x:=by
  rw [List.drop_eq_getElem_cons hl] at h
  rw [List.getD_eq_getElem?_getD,List.getElem?_eq_getElem hl]
  simp only [List.cons.injEq] at h;exact h.1
 unfold tk
 rw [if_neg (by simp;omega),hx]
 by_cases hc:lo<=x/\x<=hi
 ·rw [if_pos hc,if_neg (by omega)]
 ·rw [if_neg hc,if_pos (by omega)]
theorem tk_halt {ns:List Int} {lo hi:Int} {s:Nat × Bool} (h:s.2=true):(tk ns lo hi s).2.2=true:=by
 cases hb:(tk ns lo hi s).2.2 with
 | true=>rfl
 | false=>rw [(tk_fine hb).1] at h;cases h
theorem tkL_halt {ns:List Int} {hi:Int} {k:Nat} {s:Nat × Bool} (h:s.2=true):(tkL ns hi k s).2.2=true:=by
 cases hb:(tkL ns hi k s).2.2 with
 | true=>rfl
 | false=>rw [(tkL_fine k hb).1] at h;cases h
theorem tkC_halt {ns:List Int} {ls:List (List Int)} {fu lo co:Int} {k:Nat} {s:Nat × Bool} (h:s.2=true):(tkC ns ls fu lo co k s).2.2=true:=by
 cases hb:(tkC ns ls fu lo co k s).2.2 with
 | true=>rfl
 | false=>rw [(tkC_fine k hb).1] at h;cases h
theorem tkI_halt {ns:List Int} {ls:List (List Int)} {fu lo co:Int} {s:Nat × Bool} (h:s.2=true):(tkI ns ls fu lo co s).2.2=true:=by
 cases hb:(tkI ns ls fu lo co s).2.2 with
 | true=>rfl
 | false=>rw [(tkI_fine hb).1] at h;cases h
def Rds {α:Type} (r:α × (Nat × Bool)) (p:Nat) (X:List Int) (x:α) (G:Prop):Prop:=(G->r=(x,(p+X.length,false)))/\(¬ G->r.2.2=true)
theorem tkL_at {ns B l:List Int} {p:Nat} {hi:Int} (h:ns.drop p=l++B):Rds (tkL ns hi l.length (p,false)) p l l (∀ t ∈ l,0<=t/\t<=hi):=by
 have key:∀ j,j<=l.length->((∀ t ∈ l.take j,0<=t/\t<=hi)->tkL ns hi j (p,false)=(l.take j,(p+j,false)))/\(¬ (∀ t ∈ l.take j,0<=t/\t<=hi)->(tkL ns hi j (p,false)).2.2=true):=by
  intro j
  induction j with
  | zero=>intro _;exact ⟨fun _=>by simp [tkL],fun h=>absurd (fun t ht=>by simp at ht) h⟩
  | succ j ih =>
   intro hj
   obtain ⟨i1,i2⟩:=ih (by omega)
   have hjl:j < l.length:=by omega
   have ht:l.take (j+1)=l.take j++[l[j]]:=List.take_succ_eq_append_getElem hjl
   have hd:ns.drop (p+j)=l[j]::(l.drop (j+1)++B):=by
    rw [<-List.drop_drop,h,List.drop_append_of_le_length (by omega),List.drop_eq_getElem_cons hjl];rfl
   simp only [tkL]
   by_cases hg:∀ t ∈ l.take j,0<=t/\t<=hi
   ·rw [i1 hg]
    simp only
    rw [tk_at hd]
    by_cases hx:0<=l[j]/\l[j]<=hi
    ·rw [if_pos hx]
     refine ⟨fun _=>by rw [ht];rfl,fun hn=>absurd (fun t htm=>?_) hn⟩
     rw [ht] at htm
     rcases List.mem_append.1 htm with hm | hm
     ·exact hg t hm
     ·simp only [List.mem_singleton] at hm;subst hm;exact hx
    ·rw [if_neg hx]
     exact ⟨fun hn=>absurd (hn l[j] (by rw [ht];exact List.mem_append_right _ (List.mem_singleton.2 rfl))) hx,fun _=>rfl⟩
   ·refine ⟨fun hn=>absurd (fun t htm=>hn t (by rw [ht];exact List.mem_append_left _ htm)) hg,fun _=>tk_halt (i2 hg)⟩
 obtain ⟨k1,k2⟩:=key l.length (Nat.le_refl _)
 rw [List.take_length] at k1 k2
 exact ⟨k1,k2⟩
theorem tkI_at {ns B:List Int} {p:Nat} {x:Int × Int × Int} {ls:List (List Int)} {fu lo co:Int} (h:ns.drop p=numI x++B):Rds (tkI ns ls fu lo co (p,false)) p (numI x) x (InsOk ls fu lo co x):=by
 obtain ⟨op,A,C⟩:=x
 have h0:ns.drop p=op::(A::C::B):=h
 have h1:ns.drop (p+1)=A::(C::B):=drop_next h0
 have h2:ns.drop (p+1+1)=C::B:=drop_next h1
 have e:tkI ns ls fu lo co (p,false)=(let r1:=tk ns 0 18 (p,false);let r2:=tk ns (bA ls.length fu lo co r1.1).1 (bA ls.length fu lo co r1.1).2 r1.2;let r3:=tk ns 0 (gB ls r1.1 r2.1) r2.2;((r1.1,r2.1,r3.1),r3.2)):=rfl
 rw [e]
 simp only
 rw [tk_at h0]
 by_cases g1:0<=op/\op<=18
 ·rw [if_pos g1]
  simp only
  rw [tk_at h1]
  by_cases g2:(bA ls.length fu lo co op).1<=A/\A<=(bA ls.length fu lo co op).2
  ·rw [if_pos g2]
   simp only
   rw [tk_at h2]
   by_cases g3:0<=C/\C<=gB ls op A
   ·rw [if_pos g3]
    exact ⟨fun _=>rfl,fun hn=>absurd ⟨g1,g2,g3⟩ hn⟩
   ·rw [if_neg g3]
    exact ⟨fun hg=>absurd hg.2.2 g3,fun _=>rfl⟩
  ·rw [if_neg g2]
   exact ⟨fun hg=>absurd hg.2.1 g2,fun _=>tk_halt rfl⟩
 ·rw [if_neg g1]
  exact ⟨fun hg=>absurd hg.1 g1,fun _=>tk_halt (tk_halt rfl)⟩
theorem tkC_at {ns B:List Int} {p:Nat} {c:List (Int × Int × Int)} {ls:List (List Int)} {fu lo co:Int} (h:ns.drop p=c.flatMap numI++B):Rds (tkC ns ls fu lo co c.length (p,false)) p (c.flatMap numI) c (∀ x ∈ c,InsOk ls fu lo co x):=by
 have key:∀ j,j<=c.length->((∀ x ∈ c.take j,InsOk ls fu lo co x)->tkC ns ls fu lo co j (p,false)=(c.take j,(p+3 * j,false)))/\(¬ (∀ x ∈ c.take j,InsOk ls fu lo co x)->(tkC ns ls fu lo co j (p,false)).2.2=true):=by
  intro j
  induction j with
  | zero=>intro _;exact ⟨fun _=>by simp [tkC],fun h=>absurd (fun t ht=>by simp at ht) h⟩
  | succ j ih =>
   intro hj
   obtain ⟨i1,i2⟩:=ih (by omega)
   have hjl:j < c.length:=by omega
   have ht:c.take (j+1)=c.take j++[c[j]]:=List.take_succ_eq_append_getElem hjl
   have hd:ns.drop (p+3 * j)=numI c[j]++((c.drop (j+1)).flatMap numI++B):=by
    have hsp:c.flatMap numI=(c.take j).flatMap numI++(numI c[j]++(c.drop (j+1)).flatMap numI):=by
     have:=List.take_append_drop j c
     rw [List.drop_eq_getElem_cons hjl] at this
     rw [<-List.flatMap_cons,<-List.flatMap_append,this]
    have hlen:((c.take j).flatMap numI).length=3 * j:=by rw [numI_len,List.length_take];omega
    rw [<-List.drop_drop,h,hsp,<-hlen,List.append_assoc,List.drop_left,List.append_assoc]
   simp only [tkC]
   by_cases hg:∀ x ∈ c.take j,InsOk ls fu lo co x
   ·rw [i1 hg]
    simp only
    obtain ⟨a1,a2⟩:=tkI_at (ls:=ls) (fu:=fu) (lo:=lo) (co:=co) hd
    by_cases hx:InsOk ls fu lo co c[j]
    ·rw [a1 hx]
     refine ⟨fun _=>by rw [ht];simp [numI];omega,fun hn=>absurd (fun t htm=>?_) hn⟩
     rw [ht] at htm
     rcases List.mem_append.1 htm with hm | hm
     ·exact hg t hm
     ·simp only [List.mem_singleton] at hm;subst hm;exact hx
    ·exact ⟨fun hn=>absurd (hn c[j] (by rw [ht];exact List.mem_append_right _ (List.mem_singleton.2 rfl))) hx,fun _=>a2 hx⟩
   ·refine ⟨fun hn=>absurd (fun t htm=>hn t (by rw [ht];exact List.mem_append_left _ htm)) hg,fun _=>tkI_halt (i2 hg)⟩
 obtain ⟨k1,k2⟩:=key c.length (Nat.le_refl _)
 rw [List.take_length] at k1 k2
 exact ⟨fun hg=>by rw [k1 hg,numI_len],k2⟩
end Go.Proofs.Ytnfnbcbadakofaa
