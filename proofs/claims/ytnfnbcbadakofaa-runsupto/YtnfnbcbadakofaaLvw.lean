import Derived.Test.YtnfnbcbadakofaaGfn
import Derived.Test.YtnfnbcbadakofaaFend
import Derived.Test.YtnfnbcbadakofaaChk3
import Derived.Test.YtnfnbcbadakofaaRin
import Derived.Test.YtnfnbcbadakofaaSame
import Derived.Deep.RegionHeld3
import Derived.Deep.RegionLaw
import Derived.Test.YtnfnbcbadakofaaChecksw
import Derived.Lib.SmallJoins
import Derived.Deep.Matrix
import Derived.Deep.Strs
import Derived.Carry
import Derived.Test.YtnfnbcbadakofaaWnt
import Derived.ProofKit
import Derived.OpenShut
import Derived.ShutString
import Derived.JoinedCond
namespace Go.Proofs.Ytnfnbcbadakofaa
open Go.RowKit
set_option maxHeartbeats 2000000
set_option maxRecDepth 100000
end Go.Proofs.Ytnfnbcbadakofaa
namespace Go.Proofs.Ytnfnbcbadakofaa
open Go.RowKit
end Go.Proofs.Ytnfnbcbadakofaa
namespace Go.Proofs.Ytnfnbcbadakofaa
open Go.RowKit Go.ChangeShapes
theorem vu {α:Type} {P:Nat->α->Prop}:∀ (n:Nat),(∀ i,i < n->∃ x,P i x)->∃ l:List α,l.length=n/\∀ i (hi:i < l.length),P i l[i]:=by
 intro n
 induction n with
 | zero=>intro _;exact ⟨[],rfl,fun i hi=>by simp at hi⟩
 | succ n ih =>
  intro h
  obtain ⟨l,hl,hp⟩:=ih (fun i hi=>h i (by omega))
  obtain ⟨x,hx⟩:=h n (by omega)
  refine ⟨l++[x],by simp [hl],fun i hi=>?_⟩
  simp only [List.length_append,List.length_cons,List.length_nil] at hi
  by_cases hin:i < l.length
  ·rw [List.getElem_append_left hin];exact hp i hin
  ·have:i=n:=by omega
   subst this
   rw [List.getElem_append_right (by omega)]
   simp [hl];exact hx
theorem ps {H:Type} (d:DataW H):1<=Rows.uptoBulk d:=by
 cases d with
 | lit l=>cases l <;> simp [Rows.uptoBulk]
 | nil=>simp [Rows.uptoBulk]
 | ptr d=>simp [Rows.uptoBulk]
 | slice elems spare=>simp [Rows.uptoBulk]
 | agg parts=>simp [Rows.uptoBulk]
 | iface t d=>simp [Rows.uptoBulk]
 | map entries=>simp [Rows.uptoBulk]
 | held h=>simp [Rows.uptoBulk]
theorem iS {H:Type} {d:DataW H} {l:List (DataW H)} (h:d ∈ l):Rows.uptoBulk d<=Rows.uptoBulkAll l:=by
 induction l with
 | nil=>cases h
 | cons x r ih =>
  simp only [Rows.uptoBulkAll]
  cases List.mem_cons.1 h with
  | inl e=>subst e;omega
  | inr e=>have:=ih e;omega
theorem kj {H:Type} (l:List (DataW H)):l.length<=Rows.uptoBulkAll l:=by
 induction l with
 | nil=>simp [Rows.uptoBulkAll]
 | cons x r ih=>have:=ps x;simp only [Rows.uptoBulkAll,List.length_cons];omega
theorem gW {H:Type} (elems spare:List (DataW H)):Rows.uptoBulkAll elems+1<=Rows.uptoBulk (.slice elems spare):=by
 simp only [Rows.uptoBulk]
 omega
section
variable {H:Type} {enc:TypeId × Value->H} {W:World}
theorem oP {n:Nat} {cs:List Value} {x:DataW H × List MemPlace} (h:DataW.trod enc Try.prog W 0 (fun _=>true) true n 47 cs=some x):∃ v l,cs=[v]/\RdA W v l/\l.length<=Rows.uptoBulk x.1:=by
 rcases open_ints Try.underlying47 Try.underlying3 (by kernel_rfl) h with ⟨rfl,rfl⟩ | ⟨a,len,cap,zs,rfl,_,hle,hcap,hz,rfl,hc,_⟩
 ·exact ⟨_,[],rfl,.inl ⟨rfl,rfl⟩,by simp⟩
 ·simp only [if_true] at hz
  have hlt:(zs.take len).length=len:=by rw [List.length_take];omega
  refine ⟨_,zs.take len,rfl,.inr ⟨a,cap,by rw [hlt],by rw [hlt];exact hle,hcap,fun j hj=>?_⟩,?_⟩
  ·rw [hlt] at hj
   rw [hc j (by omega),List.getD_eq_getElem?_getD,List.getD_eq_getElem?_getD,List.getElem?_take_of_lt hj]
  ·have h1:=gW (lits .i64 (zs.take len)) (lits (H:=H) .i64 (zs.drop len))
   have h2:=kj (lits (H:=H) .i64 (zs.take len))
   have h3:(lits (H:=H) .i64 (zs.take len)).length=(zs.take len).length:=by simp [lits]
   simp only
   omega
theorem rj {a:Addr} {k:Nat} {cs:List Value} (h:W.cells? 0 a k=some cs):cs.length=k/\∀ i,i < k->W.cell? (a.add i)=cs[i]?:=by
 unfold World.cells? at h
 rw [if_pos (Nat.zero_le _)] at h
 have hgen:∀ (l:List Nat) (cs:List Value),l.mapM (fun i=>W.cell? (a.add i))=some cs->cs.length=l.length/\∀ i,i < l.length->W.cell? (a.add (l.getD i 0))=cs[i]?:=by
  intro l
  induction l with
  | nil=>intro cs h;simp at h;subst h;exact ⟨rfl,fun i hi=>by simp at hi⟩
  | cons x l ih =>
   intro cs h
   rw [List.mapM_cons] at h
   cases hx:W.cell? (a.add x) with
   | none=>rw [hx] at h;cases h
   | some v =>
    rw [hx] at h
    cases hr:l.mapM (fun i=>W.cell? (a.add i)) with
    | none=>rw [hr] at h;cases h
    | some r =>
     rw [hr] at h
     have:cs=v::r:=by simpa using h.symm
     subst this
     obtain ⟨h1,h2⟩:=ih r hr
     refine ⟨by simp [h1],fun i hi=>?_⟩
     cases i with
     | zero=>simpa using hx
     | succ i=>simpa using h2 i (by simpa using hi)
 obtain ⟨h1,h2⟩:=hgen _ _ h
 rw [List.length_range] at h1 h2
 refine ⟨h1,fun i hi=>?_⟩
 have:=h2 i hi
 rw [List.getD_eq_getElem?_getD,List.getElem?_range hi] at this
 exact this
end
end Go.Proofs.Ytnfnbcbadakofaa
namespace Go.Proofs.Ytnfnbcbadakofaa
open Go.RowKit Go.ChangeShapes Go.Deep Go.Joins
section
variable {H:Type} {enc:TypeId × Value->H} {W:World}
theorem qD {n:Nat} {cs:List Value} {x:DataW H × List MemPlace} (h:DataW.trod enc Try.prog W 0 (fun _=>true) true n 3 cs=some x):∃ z,cs=[.int .i64 z]:=by
 obtain ⟨z,h1,_⟩:=DataW.trod_int Try.underlying3 h
 exact ⟨z,h1⟩
theorem nU {a:Addr} {k i:Nat} (hi:i ≠ 0):(a.add k).add i=⟨(a.add k).block,(a.add k).off+i,none⟩:=by
 generalize a.add k=b
 unfold Addr.add
 rw [if_neg hi]
end
end Go.Proofs.Ytnfnbcbadakofaa
namespace Go.Proofs.Ytnfnbcbadakofaa
open Go.RowKit
def kx (w:World) (v:Value) (l:List (List Int × Int × Bool × Bool)):Prop:=
 (v=.slice none 0 0/\l=[]) \/ ∃ (a:Addr) (c:Nat),v=.slice (some a) l.length c/\l.length<=c/\c<=maxLen/\∀ j (hj:j < l.length),∃ iv,w.cell? (a.add (j * 4))=some iv /\
   w.cell? ⟨(a.add (j * 4)).block,(a.add (j * 4)).off+1,none⟩=some (.int .i64 l[j].2.1)/\w.cell? ⟨(a.add (j * 4)).block,(a.add (j * 4)).off+2,none⟩=some (.bool l[j].2.2.1)/\w.cell? ⟨(a.add (j * 4)).block,(a.add (j * 4)).off+3,none⟩=some (.bool l[j].2.2.2)/\RdA w iv l[j].1
theorem kx.slice {w:World} {v:Value} {l:List (List Int × Int × Bool × Bool)} (h:kx w v l):∃ a c,v=.slice a l.length c:=by
 rcases h with ⟨rfl,rfl⟩ | ⟨a,c,rfl,_⟩
 ·exact ⟨none,0,rfl⟩
 ·exact ⟨some a,c,rfl⟩
theorem kx.at {w:World} {a:Option Addr} {n c:Nat} {l:List (List Int × Int × Bool × Bool)} (h:kx w (.slice a n c) l) {j:Nat} (hj:j < l.length):∃ g iv,a=some g/\w.cell? (g.add (j * 4))=some iv /\
 w.cell? ⟨(g.add (j * 4)).block,(g.add (j * 4)).off+1,none⟩=some (.int .i64 l[j].2.1)/\w.cell? ⟨(g.add (j * 4)).block,(g.add (j * 4)).off+2,none⟩=some (.bool l[j].2.2.1)/\w.cell? ⟨(g.add (j * 4)).block,(g.add (j * 4)).off+3,none⟩=some (.bool l[j].2.2.2)/\RdA w iv l[j].1:=by
 rcases h with ⟨_,rfl⟩ | ⟨g,c,e,_,_,hc⟩
 ·simp at hj
 ·simp only [Value.slice.injEq] at e
  obtain ⟨iv,q⟩:=hc j hj
  exact ⟨g,iv,e.1,q⟩
set_option maxHeartbeats 4000000 in
set_option maxRecDepth 100000 in
theorem mh (img:ByteArray) (h d:Int) (lv:Value) (l:List (List Int × Int × Bool × Bool)) (w:World) (hl:kx w lv l) (hll:l.length<=1048576) :
 Calls Try.prog 9 #[.string img,h,d,lv] w fun e w'=>e=.returned (.bool true)/\Chg () w w':=by
 have HB:Hid (∀ w,Calls Try.prog 27 #[.string img,h,d] w (jd w img (opF img) h d)):=fun w=>il img h d w
 obtain ⟨la,lc,rfl⟩:=hl.slice
 have HL:=hid hl
 clear hl
 by_cases hz:(opF img).1 ≠ 0 \/ ei h d
 ·have HZ:=hid hz
  clear hz
  go_enter Try.func9,Try.ntmps9
  go_wp2_with fail
  refine (HB.out _).mono ?_
  rintro e w1 ⟨a,n,c,pv,rfl,k1,hn,_⟩
  obtain rfl:=hn HZ.out
  clear hn
  have K1:=hid k1
  clear k1
  go_wp2
  go_loopw [9,12] (fun sv iv wr=>sv=.slice a n c/\iv=.int .i64 0/\wr=w1) (fun _ _ _=>0)
  case atStart=>exact ⟨rfl,rfl,rfl⟩
  case round =>
   obtain ⟨rfl,rfl,rfl⟩:=hrel
   by_cases h0:0 < l.length
   ·have h0':(0:Int) < (l.length:Int):=by omega
    go_wp2
    go_ret
    exact ⟨rfl,K1.out⟩
   ·have h0':¬ (0:Int) < (l.length:Int):=by omega
    go_wp2
    go_ret
    exact ⟨rfl,K1.out⟩
 ·have hz1:(opF img).1=0:=by
   by_cases q:(opF img).1=0
   ·exact q
   ·exact absurd (.inl q) hz
  have hb:¬ ei h d:=fun q=>hz (.inr q)
  have HZ:=hid hz1
  have HBD:=hid hb
  have HR0:Hid (Rel (cxO img) (stD (cxO img) h d) (stR (cxO img) h d)):=by
   have hb':=hb
   unfold ei at hb'
   exact iQ (ew hz1) (by omega) (by omega) (by omega) (by omega)
  clear hz hz1 hb
  go_enter Try.func9,Try.ntmps9
  go_wp2_with fail
  refine (HB.out _).mono ?_
  rintro e w1 ⟨a,n,c,pv,rfl,k1,_,hy⟩
  obtain ⟨w3,tv,fv,ll,k3,hI,hT,hF,rfl,hrb⟩:=hy HZ.out HBD.out
  obtain ⟨rb,V,rfl,hDI⟩:=DI.begun (c:=cxO img) rfl hrb
  have K1:=hid k1
  have K3:=hid k3
  have HI:=hid hI
  have HT:=hid hT
  have HF:=hid hF
  have H:=hid hDI
  clear hy k1 k3 hI hT hF hrb hDI HB
  go_wp2
  go_loopw [9,12] (fun sv iv wr=>∃ (k:Nat) (D:Dn) (R:Rn) (V:DV),iv=.int .i64 (k:Int)/\k<=l.length/\Rel (cxO img) D R/\DI w3 wr rb tv fv D V/\ad wr 0 sv (aN (aD img) R)/\(∀ g,sv.ownBlock=some g->¬ bN (aw V D.out) g)/\D.recs.length<=10000 * k) (fun _ iv _=>l.length - (intOf iv).toNat)
  case atStart =>
   refine ⟨0,_,_,V,rfl,Nat.zero_le _,HR0.out,H.out,?_,fun g hg q=>?_,Nat.zero_le _⟩
   ·have:=HI.out
    rw [iJ] at this
    exact ap (af this H.out.ch (fun _ _ q=>q)) (Nat.zero_le _)
   ·have h1:=(cz HI.out hg).2
    have h2:=(H.out.ow.lt q).1
    omega
  case round =>
   clear HI H HR0
   obtain ⟨k,D,R,V,rfl,hk,hD,hdi,hs,hsn,hrc⟩:=hrel
   have kw:=K3.out.trans hdi.ch
   by_cases hlt:k < l.length
   ·have hlt':(k:Int) < (l.length:Int):=by omega
    obtain ⟨g,iv,hg,i0,i1,i2,i3,hR⟩:=HL.out.at hlt
    obtain ⟨ia,ic,rfl⟩:=hR.slice
    subst hg
    obtain ⟨sa,sc,rfl⟩:=hs.slice
    replace i0:=kw.cellF i0
    replace i1:=kw.cellF i1
    replace i2:=kw.cellF i2
    replace i3:=kw.cellF i3
    have HW:Hid (Calls Try.prog 28 #[.string img,.slice sa (aN (aD img) R).length sc,.pointer rb,.agg #[.slice ia l[k].1.length ic,.int .i64 l[k].2.1,.bool l[k].2.2.1,.bool l[k].2.2.2]] wr (iT w3 wr rb tv fv img D V)):=jT HZ.out hD hdi HT.out HF.out _ hs hsn _ _ (hR.new K3.out) _ (by omega) _ _
    generalize l[k].1.length=inl at *
    generalize l[k].2.1=f at *
    generalize l[k].2.2.1=p at *
    generalize l[k].2.2.2=q at *
    generalize (aN (aD img) R).length=sn at *
    clear hD hdi hs hsn hR kw
    go_wp2_with fail
    refine Calls.mono HW.out ?_
    rintro e w4 ⟨sv,D4,R4,V4,rfl,r4,d4,s4,n4,c4,_⟩
    obtain ⟨xa,xc,rfl⟩:=s4.slice
    have R5:=hid r4
    have D5:=hid d4
    have S5:=hid s4
    have N5:=hid n4
    have C5:Hid (D4.recs.length<=10000 * (k+1)):=by show _<=_;omega
    clear r4 d4 s4 n4 c4 HW i0 i1 i2 i3
    go_wp2
    exact ⟨⟨k+1,D4,R4,V4,by simp,by omega,R5.out,D5.out,S5.out,N5.out,C5.out⟩,by simp [intOf];omega⟩
   ·have hlt':¬ (k:Int) < (l.length:Int):=by omega
    have KW:=hid kw
    clear hD hdi hs hsn kw
    go_wp2
    go_ret
    exact ⟨rfl,KW.out⟩
end Go.Proofs.Ytnfnbcbadakofaa
namespace Go.Proofs.Ytnfnbcbadakofaa
open Go.RowKit Go.ChangeShapes Go.Deep Go.Joins
section
variable {H:Type} {enc:TypeId × Value->H} {W:World}
theorem jU {n:Nat} {cs:List Value} {x:DataW H × List MemPlace} (h:DataW.trod enc Try.prog W 0 (fun _=>true) true n 4 cs=some x):∃ z,cs=[.bool z]:=by
 obtain ⟨z,h1,_⟩:=DataW.trod_bool Try.underlying4 h
 exact ⟨z,h1⟩
theorem iN {n:Nat} {cs:List Value} {x:DataW H × List MemPlace} (h:DataW.trod enc Try.prog W 0 (fun _=>true) true n 57 cs=some x) :
 ∃ v l,cs=[v]/\kx W v l/\l.length<=Rows.uptoBulk x.1:=by
 rcases open_slice Try.underlying57 h with ⟨rfl,rfl⟩ | ⟨a,len,cap,m,n',D,Pl,rfl,_,hle,hcap,hm,rfl,hx⟩
 ·exact ⟨_,[],rfl,.inl ⟨rfl,rfl⟩,by simp⟩
 ·simp only [if_true] at hm
  subst hm
  have hc4:Try.prog.cellsOf 61=4:=by kernel_rfl
  have hc1:Try.prog.cellsOf 3=1:=by kernel_rfl
  have hc2:Try.prog.cellsOf 47=1:=by kernel_rfl
  have hc3:Try.prog.cellsOf 4=1:=by kernel_rfl
  rw [hc4] at hx
  obtain ⟨l,hl,hp⟩:=vu (P:=fun i (f:List Int × Int × Bool × Bool)=>∃ iv,W.cell? (a.add (i * 4))=some iv/\W.cell? ⟨(a.add (i * 4)).block,(a.add (i * 4)).off+1,none⟩=some (.int .i64 f.2.1)/\W.cell? ⟨(a.add (i * 4)).block,(a.add (i * 4)).off+2,none⟩=some (.bool f.2.2.1)/\W.cell? ⟨(a.add (i * 4)).block,(a.add (i * 4)).off+3,none⟩=some (.bool f.2.2.2)/\RdA W iv f.1) len (fun i hi=>by
   obtain ⟨cs',h1,h2⟩:=hx i (by omega)
   obtain ⟨hl4,hcell⟩:=rj h1
   obtain ⟨y0,y1,y2,y3,n2,ey,_,t0,t1,t2,t3⟩:=trod_struct4 Try.underlying61 h2
   simp only [hc1,hc2,hc3] at t0 t1 t2 t3
   obtain ⟨iv,ll,e0,r0,_⟩:=oP t0
   obtain ⟨z1,e1⟩:=qD t1
   obtain ⟨z2,e2⟩:=jU t2
   obtain ⟨z3,e3⟩:=jU t3
   match cs',hl4 with
   | [c0,c1,c2,c3],_ =>
    simp at e0 e1 e2 e3
    subst e0;subst e1;subst e2;subst e3
    have g0:=hcell 0 (by omega)
    have g1:=hcell 1 (by omega)
    have g2:=hcell 2 (by omega)
    have g3:=hcell 3 (by omega)
    rw [nU (by omega)] at g1 g2 g3
    exact ⟨(ll,z1,z2,z3),c0,by simpa [Addr.add] using g0,by simpa using g1,by simpa using g2,by simpa using g3,r0⟩)
  have h1:=gW ((List.range len).map D) ((List.range (m - len)).map fun j=>D (len+j))
  have h2:=kj ((List.range len).map D)
  rw [List.length_map,List.length_range] at h2
  exact ⟨_,l,rfl,.inr ⟨a,m,by rw [hl],by rw [hl];exact hle,hcap,fun j hj=>hp j hj⟩,by simp only;omega⟩
end
end Go.Proofs.Ytnfnbcbadakofaa
namespace Go.Proofs.Ytnfnbcbadakofaa
open Go.RowKit
theorem nE {c:Cx} (ok:bQ c) {D:Dn} {R:Rn} (h:Rel c D R) (rl:D.recs.length<=1000000000000):∃ G,jl D G:=by
 rcases h.st with ⟨_,q,phi,sm⟩ | ⟨q,q'⟩
 ·exact ⟨_,sm.lvok ok q rl⟩
 ·have hf:aB D=[]:=by unfold aB;rw [if_neg (by omega)]
  refine ⟨fun _=>False,fun _ q=>q.elim,fun f hm=>?_,fun _ q=>q.elim,by rw [hf];simp,rl,?_⟩
  ·rw [hf] at hm;simp at hm
  ·have:bB D=0:=by
    unfold bB
    rw [hf]
    unfold lvW
    simp [cL]
   omega
set_option maxHeartbeats 4000000 in
set_option maxRecDepth 100000 in
theorem lm (img:ByteArray) (h d:Int) (lv:Value) (l:List (List Int × Int × Bool × Bool)) (w:World) (hl:kx w lv l) (hll:l.length<=1048576) :
 Calls Try.prog 10 #[.string img,h,d,lv] w fun e w'=>e=.returned (.bool true)/\Chg () w w':=by
 have HB:Hid (∀ w,Calls Try.prog 27 #[.string img,h,d] w (jd w img (opF img) h d)):=fun w=>il img h d w
 obtain ⟨la,lc,rfl⟩:=hl.slice
 have HL:=hid hl
 clear hl
 by_cases hz:(opF img).1 ≠ 0 \/ ei h d
 ·have HZ:=hid hz
  clear hz
  go_enter Try.func10,Try.ntmps10
  go_wp2_with fail
  refine (HB.out _).mono ?_
  rintro e w1 ⟨a,n,c,pv,rfl,k1,hn,_⟩
  obtain rfl:=hn HZ.out
  clear hn
  have K1:=hid k1
  clear k1
  go_wp2
  go_loopw [9,12] (fun sv iv wr=>sv=.slice a n c/\iv=.int .i64 0/\wr=w1) (fun _ _ _=>0)
  case atStart=>exact ⟨rfl,rfl,rfl⟩
  case round =>
   obtain ⟨rfl,rfl,rfl⟩:=hrel
   by_cases h0:0 < l.length
   ·have h0':(0:Int) < (l.length:Int):=by omega
    go_wp2
    go_ret
    exact ⟨rfl,K1.out⟩
   ·have h0':¬ (0:Int) < (l.length:Int):=by omega
    go_wp2
    go_ret
    exact ⟨rfl,K1.out⟩
 ·have hz1:(opF img).1=0:=by
   by_cases q:(opF img).1=0
   ·exact q
   ·exact absurd (.inl q) hz
  have hb:¬ ei h d:=fun q=>hz (.inr q)
  have HZ:=hid hz1
  have HBD:=hid hb
  have HR0:Hid (Rel (cxO img) (stD (cxO img) h d) (stR (cxO img) h d)):=by
   have hb':=hb
   unfold ei at hb'
   exact iQ (ew hz1) (by omega) (by omega) (by omega) (by omega)
  clear hz hz1 hb
  go_enter Try.func10,Try.ntmps10
  go_wp2_with fail
  refine (HB.out _).mono ?_
  rintro e w1 ⟨a,n,c,pv,rfl,k1,_,hy⟩
  obtain ⟨w3,tv,fv,ll,k3,hI,hT,hF,rfl,hrb⟩:=hy HZ.out HBD.out
  obtain ⟨rb,V,rfl,hDI⟩:=DI.begun (c:=cxO img) rfl hrb
  have K1:=hid k1
  have K3:=hid k3
  have HI:=hid hI
  have HT:=hid hT
  have HF:=hid hF
  have H:=hid hDI
  clear hy k1 k3 hI hT hF hrb hDI HB
  go_wp2
  go_loopw [9,12] (fun sv iv wr=>∃ (k:Nat) (D:Dn) (R:Rn) (V:DV),iv=.int .i64 (k:Int)/\k<=l.length/\Rel (cxO img) D R/\DI w3 wr rb tv fv D V/\ad wr 0 sv (aN (aD img) R)/\(∀ g,sv.ownBlock=some g->¬ bN (aw V D.out) g)/\D.recs.length<=10000 * k) (fun _ iv _=>l.length - (intOf iv).toNat)
  case atStart =>
   refine ⟨0,_,_,V,rfl,Nat.zero_le _,HR0.out,H.out,?_,fun g hg q=>?_,Nat.zero_le _⟩
   ·have:=HI.out
    rw [iJ] at this
    exact ap (af this H.out.ch (fun _ _ q=>q)) (Nat.zero_le _)
   ·have h1:=(cz HI.out hg).2
    have h2:=(H.out.ow.lt q).1
    omega
  case round =>
   clear HI H HR0
   obtain ⟨k,D,R,V,rfl,hk,hD,hdi,hs,hsn,hrc⟩:=hrel
   have kw:=K3.out.trans hdi.ch
   by_cases hlt:k < l.length
   ·have hlt':(k:Int) < (l.length:Int):=by omega
    obtain ⟨g,iv,hg,i0,i1,i2,i3,hR⟩:=HL.out.at hlt
    obtain ⟨ia,ic,rfl⟩:=hR.slice
    subst hg
    obtain ⟨sa,sc,rfl⟩:=hs.slice
    replace i0:=kw.cellF i0
    replace i1:=kw.cellF i1
    replace i2:=kw.cellF i2
    replace i3:=kw.cellF i3
    have HW:Hid (Calls Try.prog 28 #[.string img,.slice sa (aN (aD img) R).length sc,.pointer rb,.agg #[.slice ia l[k].1.length ic,.int .i64 l[k].2.1,.bool l[k].2.2.1,.bool l[k].2.2.2]] wr (iT w3 wr rb tv fv img D V)):=jT HZ.out hD hdi HT.out HF.out _ hs hsn _ _ (hR.new K3.out) _ (by omega) _ _
    generalize l[k].1.length=inl at *
    generalize l[k].2.1=f at *
    generalize l[k].2.2.1=p at *
    generalize l[k].2.2.2=q at *
    generalize (aN (aD img) R).length=sn at *
    clear hD hdi hs hsn hR kw
    go_wp2_with fail
    refine Calls.mono HW.out ?_
    rintro e w4 ⟨sv,D4,R4,V4,rfl,r4,d4,s4,n4,c4,_⟩
    obtain ⟨xa,xc,rfl⟩:=s4.slice
    have R5:=hid r4
    have D5:=hid d4
    have S5:=hid s4
    have N5:=hid n4
    have C5:Hid (D4.recs.length<=10000 * (k+1)):=by show _<=_;omega
    have HLV:Hid (∀ w',Chg () w4 w'->Calls Try.prog 29 #[.string img,.slice xa (aN (aD img) R4).length xc] w' fun e w''=>e=.returned (.tuple #[(bB D4:Int),oO])/\Chg () w' w''):=fun w' k=>og HZ.out r4 _ 0 (af s4 k (fun _ _ q=>q))
    have HDL:Hid (∀ w',Chg () w4 w'->Calls Try.prog 30 #[.pointer rb] w' fun e w''=>e=.returned (.int .i64 (bB D4:Int))/\Chg () w' w''):=fun w' k=>by
     obtain ⟨G,lo⟩:=nE (ew HZ.out) r4 (by omega)
     exact iP (d4.new k) lo
    clear r4 d4 s4 n4 c4 HW i0 i1 i2 i3
    generalize (aN (aD img) R4).length=rn at *
    generalize (bB D4:Int)=lp at *
    go_wp2_with fail
    refine (HLV.out _ (Chg.refl _ _)).mono ?_
    rintro e w5 ⟨rfl,k5⟩
    have K5:=hid k5
    clear k5
    go_wp2_with fail
    refine (HDL.out _ K5.out).mono ?_
    rintro e w6 ⟨rfl,k6⟩
    have K6:=hid (K5.out.trans k6)
    clear k6
    go_wp2_with fail
    refine (dg 0 _).mono ?_
    rintro e w7 ⟨rfl,hw7⟩
    have hw7:=hw7.symm
    subst hw7
    have D6:=hid (D5.out.new K6.out)
    have S6:Hid (ad w6 0 (.slice xa rn xc) (aN (aD img) R4)):=af S5.out K6.out (fun _ _ q=>q)
    clear D5 S5 K5 K6
    go_wp2
    exact ⟨⟨k+1,D4,R4,V4,by simp,by omega,R5.out,D6.out,S6.out,N5.out,C5.out⟩,by simp [intOf];omega⟩
   ·have hlt':¬ (k:Int) < (l.length:Int):=by omega
    have KW:=hid kw
    clear hD hdi hs hsn kw
    go_wp2
    go_ret
    exact ⟨rfl,KW.out⟩
end Go.Proofs.Ytnfnbcbadakofaa
