import Derived.Test.YtnfnbcbadakofaaGreatRdb
import Derived.Test.YtnfnbcbadakofaaGreatFend
import Derived.Test.YtnfnbcbadakofaaGreatChk3
import Derived.Test.YtnfnbcbadakofaaGreatSame
import Derived.Deep.RegionHeld3
import Derived.Deep.RegionLaw
import Derived.Test.YtnfnbcbadakofaaGreatStk
import Derived.Lib.SmallJoins
import Derived.Deep.Matrix
import Derived.Deep.Strs
import Derived.Carry
import Derived.Test.YtnfnbcbadakofaaGreatWnt
import Derived.ProofKit
import Derived.OpenShut
import Derived.ShutString
import Derived.JoinedCond
namespace Go.Proofs.YtnfnbcbadakofaaGreat
open Go.RowKit
set_option maxHeartbeats 2000000
set_option maxRecDepth 100000
end Go.Proofs.YtnfnbcbadakofaaGreat
namespace Go.Proofs.YtnfnbcbadakofaaGreat
open Go.RowKit
end Go.Proofs.YtnfnbcbadakofaaGreat
namespace Go.Proofs.YtnfnbcbadakofaaGreat
open Go.RowKit Go.ChangeShapes
theorem vr {α:Type} {P:Nat->α->Prop}:∀ (n:Nat),(∀ i,i < n->∃ x,P i x)->∃ l:List α,l.length=n/\∀ i (hi:i < l.length),P i l[i]:=by
 intro n
 induction n with
 | zero=>intro _;exact ⟨[],rfl,fun i hi=>by simp at hi⟩
 | succ n ih =>
  intro h
  obtain ⟨l,hl,hp⟩:=ih (fun i hi=>h i (by omega))
  obtain ⟨x,hx⟩:=h n (by omega)
  refine ⟨l++[x],by simp [hl],fun i hi=>?_⟩
  simp only [List.length_append,List.length_cons,List.length_nil] at hi
  by_cases hin:i < l.length
  ·rw [List.getElem_append_left hin];exact hp i hin
  ·have:i=n:=by omega
   subst this
   rw [List.getElem_append_right (by omega)]
   simp [hl];exact hx
theorem pV {H:Type} (d:DataW H):1<=Rows.uptoBulk d:=by
 cases d with
 | lit l=>cases l <;> simp [Rows.uptoBulk]
 | nil=>simp [Rows.uptoBulk]
 | ptr d=>simp [Rows.uptoBulk]
 | slice elems spare=>simp [Rows.uptoBulk]
 | agg parts=>simp [Rows.uptoBulk]
 | iface t d=>simp [Rows.uptoBulk]
 | map entries=>simp [Rows.uptoBulk]
 | held h=>simp [Rows.uptoBulk]
theorem nu {H:Type} {d:DataW H} {l:List (DataW H)} (h:d ∈ l):Rows.uptoBulk d<=Rows.uptoBulkAll l:=by
 induction l with
 | nil=>cases h
 | cons x r ih =>
  simp only [Rows.uptoBulkAll]
  cases List.mem_cons.1 h with
  | inl e=>subst e;omega
  | inr e=>have:=ih e;omega
theorem jD {H:Type} (l:List (DataW H)):l.length<=Rows.uptoBulkAll l:=by
 induction l with
 | nil=>simp [Rows.uptoBulkAll]
 | cons x r ih=>have:=pV x;simp only [Rows.uptoBulkAll,List.length_cons];omega
theorem ik {H:Type} (elems spare:List (DataW H)):Rows.uptoBulkAll elems+1<=Rows.uptoBulk (.slice elems spare):=by
 simp only [Rows.uptoBulk]
 omega
section
variable {H:Type} {enc:TypeId × Value->H} {W:World}
theorem pw {n:Nat} {cs:List Value} {x:DataW H × List MemPlace} (h:DataW.trod enc Tryz.prog W 0 (fun _=>true) true n 23 cs=some x):∃ v l,cs=[v]/\RdA W v l/\l.length<=Rows.uptoBulk x.1:=by
 rcases open_ints Tryz.underlying23 Tryz.underlying3 (by kernel_rfl) h with ⟨rfl,rfl⟩ | ⟨a,len,cap,zs,rfl,_,hle,hcap,hz,rfl,hc,_⟩
 ·exact ⟨_,[],rfl,.inl ⟨rfl,rfl⟩,by simp⟩
 ·simp only [if_true] at hz
  have hlt:(zs.take len).length=len:=by rw [List.length_take];omega
  refine ⟨_,zs.take len,rfl,.inr ⟨a,cap,by rw [hlt],by rw [hlt];exact hle,hcap,fun j hj=>?_⟩,?_⟩
  ·rw [hlt] at hj
   rw [hc j (by omega),List.getD_eq_getElem?_getD,List.getD_eq_getElem?_getD,List.getElem?_take_of_lt hj]
  ·have h1:=ik (lits .i64 (zs.take len)) (lits (H:=H) .i64 (zs.drop len))
   have h2:=jD (lits (H:=H) .i64 (zs.take len))
   have h3:(lits (H:=H) .i64 (zs.take len)).length=(zs.take len).length:=by simp [lits]
   simp only
   omega
theorem rE {a:Addr} {k:Nat} {cs:List Value} (h:W.cells? 0 a k=some cs):cs.length=k/\∀ i,i < k->W.cell? (a.add i)=cs[i]?:=by
 unfold World.cells? at h
 rw [if_pos (Nat.zero_le _)] at h
 have hgen:∀ (l:List Nat) (cs:List Value),l.mapM (fun i=>W.cell? (a.add i))=some cs->cs.length=l.length/\∀ i,i < l.length->W.cell? (a.add (l.getD i 0))=cs[i]?:=by
  intro l
  induction l with
  | nil=>intro cs h;simp at h;subst h;exact ⟨rfl,fun i hi=>by simp at hi⟩
  | cons x l ih =>
   intro cs h
   rw [List.mapM_cons] at h
   cases hx:W.cell? (a.add x) with
   | none=>rw [hx] at h;cases h
   | some v =>
    rw [hx] at h
    cases hr:l.mapM (fun i=>W.cell? (a.add i)) with
    | none=>rw [hr] at h;cases h
    | some r =>
     rw [hr] at h
     have:cs=v::r:=by simpa using h.symm
     subst this
     obtain ⟨h1,h2⟩:=ih r hr
     refine ⟨by simp [h1],fun i hi=>?_⟩
     cases i with
     | zero=>simpa using hx
     | succ i=>simpa using h2 i (by simpa using hi)
 obtain ⟨h1,h2⟩:=hgen _ _ h
 rw [List.length_range] at h1 h2
 refine ⟨h1,fun i hi=>?_⟩
 have:=h2 i hi
 rw [List.getD_eq_getElem?_getD,List.getElem?_range hi] at this
 exact this
end
end Go.Proofs.YtnfnbcbadakofaaGreat
namespace Go.Proofs.YtnfnbcbadakofaaGreat
open Go.RowKit Go.ChangeShapes Go.Deep Go.Joins
section
variable {H:Type} {enc:TypeId × Value->H} {W:World}
theorem qB {n:Nat} {cs:List Value} {x:DataW H × List MemPlace} (h:DataW.trod enc Tryz.prog W 0 (fun _=>true) true n 3 cs=some x):∃ z,cs=[.int .i64 z]:=by
 obtain ⟨z,h1,_⟩:=DataW.trod_int Tryz.underlying3 h
 exact ⟨z,h1⟩
theorem om {a:Addr} {k i:Nat} (hi:i ≠ 0):(a.add k).add i=⟨(a.add k).block,(a.add k).off+i,none⟩:=by
 generalize a.add k=b
 unfold Addr.add
 rw [if_neg hi]
end
end Go.Proofs.YtnfnbcbadakofaaGreat
namespace Go.Proofs.YtnfnbcbadakofaaGreat
open Go.RowKit
def nm (w:World) (v:Value) (l:List (List Int × Int × Bool × Bool)):Prop:=
 (v=.slice none 0 0/\l=[]) \/ ∃ (a:Addr) (c:Nat),v=.slice (some a) l.length c/\l.length<=c/\c<=maxLen/\∀ j (hj:j < l.length),∃ iv,w.cell? (a.add (j * 4))=some iv /\
   w.cell? ⟨(a.add (j * 4)).block,(a.add (j * 4)).off+1,none⟩=some (.int .i64 l[j].2.1)/\w.cell? ⟨(a.add (j * 4)).block,(a.add (j * 4)).off+2,none⟩=some (.bool l[j].2.2.1)/\w.cell? ⟨(a.add (j * 4)).block,(a.add (j * 4)).off+3,none⟩=some (.bool l[j].2.2.2)/\RdA w iv l[j].1
theorem nm.slice {w:World} {v:Value} {l:List (List Int × Int × Bool × Bool)} (h:nm w v l):∃ a c,v=.slice a l.length c:=by
 rcases h with ⟨rfl,rfl⟩ | ⟨a,c,rfl,_⟩
 ·exact ⟨none,0,rfl⟩
 ·exact ⟨some a,c,rfl⟩
theorem nm.at {w:World} {a:Option Addr} {n c:Nat} {l:List (List Int × Int × Bool × Bool)} (h:nm w (.slice a n c) l) {j:Nat} (hj:j < l.length):∃ g iv,a=some g/\w.cell? (g.add (j * 4))=some iv /\
 w.cell? ⟨(g.add (j * 4)).block,(g.add (j * 4)).off+1,none⟩=some (.int .i64 l[j].2.1)/\w.cell? ⟨(g.add (j * 4)).block,(g.add (j * 4)).off+2,none⟩=some (.bool l[j].2.2.1)/\w.cell? ⟨(g.add (j * 4)).block,(g.add (j * 4)).off+3,none⟩=some (.bool l[j].2.2.2)/\RdA w iv l[j].1:=by
 rcases h with ⟨_,rfl⟩ | ⟨g,c,e,_,_,hc⟩
 ·simp at hj
 ·simp only [Value.slice.injEq] at e
  obtain ⟨iv,q⟩:=hc j hj
  exact ⟨g,iv,e.1,q⟩
end Go.Proofs.YtnfnbcbadakofaaGreat
namespace Go.Proofs.YtnfnbcbadakofaaGreat
open Go.RowKit Go.ChangeShapes Go.Deep Go.Joins
section
variable {H:Type} {enc:TypeId × Value->H} {W:World}
theorem jM {n:Nat} {cs:List Value} {x:DataW H × List MemPlace} (h:DataW.trod enc Tryz.prog W 0 (fun _=>true) true n 4 cs=some x):∃ z,cs=[.bool z]:=by
 obtain ⟨z,h1,_⟩:=DataW.trod_bool Tryz.underlying4 h
 exact ⟨z,h1⟩
theorem nh {n:Nat} {cs:List Value} {x:DataW H × List MemPlace} (h:DataW.trod enc Tryz.prog W 0 (fun _=>true) true n 22 cs=some x) :
 ∃ v l,cs=[v]/\nm W v l/\l.length<=Rows.uptoBulk x.1:=by
 rcases open_slice Tryz.underlying22 h with ⟨rfl,rfl⟩ | ⟨a,len,cap,m,n',D,Pl,rfl,_,hle,hcap,hm,rfl,hx⟩
 ·exact ⟨_,[],rfl,.inl ⟨rfl,rfl⟩,by simp⟩
 ·simp only [if_true] at hm
  subst hm
  have hc4:Tryz.prog.cellsOf 28=4:=by kernel_rfl
  have hc1:Tryz.prog.cellsOf 3=1:=by kernel_rfl
  have hc2:Tryz.prog.cellsOf 23=1:=by kernel_rfl
  have hc3:Tryz.prog.cellsOf 4=1:=by kernel_rfl
  rw [hc4] at hx
  obtain ⟨l,hl,hp⟩:=vr (P:=fun i (f:List Int × Int × Bool × Bool)=>∃ iv,W.cell? (a.add (i * 4))=some iv/\W.cell? ⟨(a.add (i * 4)).block,(a.add (i * 4)).off+1,none⟩=some (.int .i64 f.2.1)/\W.cell? ⟨(a.add (i * 4)).block,(a.add (i * 4)).off+2,none⟩=some (.bool f.2.2.1)/\W.cell? ⟨(a.add (i * 4)).block,(a.add (i * 4)).off+3,none⟩=some (.bool f.2.2.2)/\RdA W iv f.1) len (fun i hi=>by
   obtain ⟨cs',h1,h2⟩:=hx i (by omega)
   obtain ⟨hl4,hcell⟩:=rE h1
   obtain ⟨y0,y1,y2,y3,n2,ey,_,t0,t1,t2,t3⟩:=trod_struct4 Tryz.underlying28 h2
   simp only [hc1,hc2,hc3] at t0 t1 t2 t3
   obtain ⟨iv,ll,e0,r0,_⟩:=pw t0
   obtain ⟨z1,e1⟩:=qB t1
   obtain ⟨z2,e2⟩:=jM t2
   obtain ⟨z3,e3⟩:=jM t3
   match cs',hl4 with
   | [c0,c1,c2,c3],_ =>
    simp at e0 e1 e2 e3
    subst e0;subst e1;subst e2;subst e3
    have g0:=hcell 0 (by omega)
    have g1:=hcell 1 (by omega)
    have g2:=hcell 2 (by omega)
    have g3:=hcell 3 (by omega)
    rw [om (by omega)] at g1 g2 g3
    exact ⟨(ll,z1,z2,z3),c0,by simpa [Addr.add] using g0,by simpa using g1,by simpa using g2,by simpa using g3,r0⟩)
  have h1:=ik ((List.range len).map D) ((List.range (m - len)).map fun j=>D (len+j))
  have h2:=jD ((List.range len).map D)
  rw [List.length_map,List.length_range] at h2
  exact ⟨_,l,rfl,.inr ⟨a,m,by rw [hl],by rw [hl];exact hle,hcap,fun j hj=>hp j hj⟩,by simp only;omega⟩
end
end Go.Proofs.YtnfnbcbadakofaaGreat
namespace Go.Proofs.YtnfnbcbadakofaaGreat
open Go.RowKit
theorem jU {c:Cx} (ok:bM c) {D:Dn} {R:Rn} (h:Rel c D R) (rl:D.recs.length<=1000000000000):∃ G,i9 D G:=by
 rcases h.st with ⟨_,q,phi,sm⟩ | ⟨q,q'⟩
 ·exact ⟨_,sm.lvok ok q rl⟩
 ·have hf:az D=[]:=by unfold az;rw [if_neg (by omega)]
  refine ⟨fun _=>False,fun _ q=>q.elim,fun f hm=>?_,fun _ q=>q.elim,by rw [hf];simp,rl,?_⟩
  ·rw [hf] at hm;simp at hm
  ·have:bk D=0:=by
    unfold bk
    rw [hf]
    unfold lvW
    simp [cI]
   omega
end Go.Proofs.YtnfnbcbadakofaaGreat
namespace Go.Proofs.YtnfnbcbadakofaaGreat
open Go.RowKit
set_option maxHeartbeats 4000000
set_option maxRecDepth 100000
theorem tF {c:Cx} (ok:bM c) {D:Dn} {R:Rn} {ms:List Int} (hm:ms.length=3) (hw:fp ms) (h:Rel c D R):(aJ ms (a9 c (bare R))).length<=bk D+20 * (az D).length+16:=by
 obtain ⟨r,e,_,_⟩:=gU h
 by_cases q:(a9 c (bare R)).status=0
 ·have:=(gf ok hm hw r).2.2.1 q
  omega
 ·unfold aJ ge
  rw [if_pos q]
  simp [hm]
section
variable {W1 w:World} {rb:Nat} {tv fv:Value} {D:Dn} {V:DV} {R:Rn} {img:ByteArray}
theorem kH (hz:(opF img).1=0) (hD:Rel (cxO img) D R) (h:DI W1 w rb tv fv D V) (sv:Value) (hs:ad w 0 sv (aJ (aB img) R)) (hrl:D.recs.length<=900000000000) :
 Calls Tryz.prog 5 #[.string img,sv,.pointer rb] w fun e w'=>∃ u,e=.returned (.tuple #[u,.bool true])/\ad w' w.heap.size u (aJ (aB img) (a9 (cxO img) (bare R)))/\Chg () w w':=by
 obtain ⟨sa,sc,rfl⟩:=hs.slice
 have HP:=hid (qd hz hD _ 0 hs)
 have hlen:=tF (dg hz) (ms:=aB img) rfl (gx (cQ hz)) hD
 obtain ⟨r,el,eh,ed⟩:=gU hD
 obtain ⟨G,lo⟩:=jU (dg hz) hD (by omega)
 have HDL:Hid (∀ w',Chg () w w'->Calls Tryz.prog 7 #[.pointer rb] w' fun e w''=>e=.returned (.int .i64 (bk D:Int))/\Chg () w' w''):=fun w' k=>gj (h.new k) lo
 have hfl:=lo.fl
 have hlv:=lo.lv
 generalize a9 (cxO img) (bare R)=C at *
 have HSM:Hid (∀ w' a c,ad w' w.heap.size (.slice a (aJ (aB img) C).length c) (aJ (aB img) C)->Calls Tryz.prog 13 #[.slice a (aJ (aB img) C).length c,D.heap,D.depth] w' fun e w''=>e=.returned (.bool true)/\w''=w'):=fun w' a c hI=>by
  obtain ⟨l1,l2,_,_⟩:=gf (dg hz) (ms:=aB img) rfl (gx (cQ hz)) r
  rw [r.heap,r.depth]
  exact eZ _ _ _ _ _ _ hI ⟨r.h0,r.h4⟩ ⟨r.d1,r.d64⟩ l1 (fun x hx=>by have:=l2 x hx;omega)
 obtain ⟨fa,fc,hfv⟩:∃ a c,V.fv=.slice a (az D).length c:=by
  have hff:w.ownsRow W1.heap.size 72 4 V.fv V.fs.length (dfC V.fs):=h.ow.ok (frw V) (by simp [aw])
  have hfl:V.fs.length=(az D).length:=by rw [<-h.fe,List.length_map]
  rcases hff.2 with ⟨q,q0⟩ | ⟨g,c,_,q,_⟩
  ·exact ⟨none,0,by rw [q,<-hfl,q0]⟩
  ·exact ⟨_,c,by rw [q,hfl]⟩
 have x2:w.cell? ⟨rb,2,none⟩=some (.int .i64 D.heap):=h.bx.cell 2
 have x3:w.cell? ⟨rb,3,none⟩=some (.int .i64 D.depth):=h.bx.cell 3
 have x5:w.cell? ⟨rb,5,none⟩=some (.slice fa (az D).length fc):=by rw [<-hfv];exact h.bx.cell 5
 have X5:=hid x5
 generalize (az D).length=fn at *
 generalize bk D=lp at *
 generalize (aJ (aB img) R).length=sn at *
 have g1:IntKind.i64.wrap (20 * (fn:Int))=20 * (fn:Int):=by rw [IntKind.wrap_i64];omega
 have g2:IntKind.i64.wrap ((lp:Int)+20 * (fn:Int))=(lp:Int)+20 * (fn:Int):=by rw [IntKind.wrap_i64];omega
 have g3:IntKind.i64.wrap ((lp:Int)+20 * (fn:Int)+16)=(lp:Int)+20 * (fn:Int)+16:=by rw [IntKind.wrap_i64];omega
 have hle:((aJ (aB img) C).length:Int)<=(lp:Int)+20 * (fn:Int)+16:=by omega
 clear hz hD h hs hrl lo el eh ed r hlen hfl hlv hfv
 go_enter Tryz.func5,Tryz.ntmps5
 go_wp2_with fail
 refine HP.out.mono ?_
 rintro e w1 ⟨u,rfl,hu,k1⟩
 obtain ⟨ua,uc,rfl⟩:=hu.slice
 have HU:=hid hu
 have K1:=hid k1
 have y2:w1.cell? ⟨rb,2,none⟩=_:=k1.cellF x2
 have y3:w1.cell? ⟨rb,3,none⟩=_:=k1.cellF x3
 clear hu k1 x2 x3 HP
 go_wp2_with fail
 go_quiet ((go_at_call 13;exact Calls.quiet_of_same (HSM.out _ _ _ HU.out)))
 have K2:=hid (K1.out.drewN nq)
 have HU2:Hid (ad (w1.drewN nq) w.heap.size (.slice ua (aJ (aB img) C).length uc) (aJ (aB img) C)):=af HU.out ((Chg.refl () _).drewN nq) (fun _ _ q=>q)
 clear y2 y3 HU K1 HSM
 generalize w1.drewN nq=w2 at *
 go_wp2_with fail
 refine (HDL.out _ K2.out).mono ?_
 rintro e w3 ⟨rfl,k3⟩
 have K3:=hid (K2.out.trans k3)
 have HU3:Hid (ad w3 w.heap.size (.slice ua (aJ (aB img) C).length uc) (aJ (aB img) C)):=af HU2.out k3 (fun _ _ q=>q)
 have x5:w3.cell? ⟨rb,5,none⟩=some (.slice fa fn fc):=K3.out.cellF X5.out
 clear k3 K2 HU2 X5 HDL
 go_wp2_with fail
 go_quiet ((go_at_call 8;exact Calls.quiet_of_same (cX _ _)))
 go_wp2
 refine bodyPost_ret (v:=.tuple #[.slice ua (aJ (aB img) C).length uc,.bool true]) (by simp [results,Tryz.results5,go_sem]) rfl ?_
 exact ⟨_,rfl,af HU3.out ((Chg.refl () _).drewN nq) (fun _ _ q=>q),K3.out.drewN nq⟩
end
theorem qp (img:ByteArray) (h d:Int) (lv:Value) (l:List (List Int × Int × Bool × Bool)) (w:World) (hl:nm w lv l) (hll:l.length<=1048576) :
 Calls Tryz.prog 3 #[.string img,h,d,lv] w fun e w'=>e=.returned (.bool true)/\Chg () w w':=by
 have HB:Hid (∀ w,Calls Tryz.prog 4 #[.string img,h,d] w (kI w img (opF img) h d)):=fun w=>km img h d w
 obtain ⟨la,lc,rfl⟩:=hl.slice
 have HL:=hid hl
 clear hl
 by_cases hz:(opF img).1 ≠ 0 \/ eO h d
 ·have HZ:=hid hz
  clear hz
  go_enter Tryz.func3,Tryz.ntmps3
  go_wp2_with fail
  refine (HB.out _).mono ?_
  rintro e w1 ⟨a,n,c,pv,rfl,k1,hn,_⟩
  obtain rfl:=hn HZ.out
  clear hn
  have K1:=hid k1
  clear k1
  go_wp2
  go_loopw [9,12] (fun sv iv wr=>sv=.slice a n c/\iv=.int .i64 0/\wr=w1) (fun _ _ _=>0)
  case atStart=>exact ⟨rfl,rfl,rfl⟩
  case round =>
   obtain ⟨rfl,rfl,rfl⟩:=hrel
   by_cases h0:0 < l.length
   ·have h0':(0:Int) < (l.length:Int):=by omega
    go_wp2
    go_ret
    exact ⟨rfl,K1.out⟩
   ·have h0':¬ (0:Int) < (l.length:Int):=by omega
    go_wp2
    go_ret
    exact ⟨rfl,K1.out⟩
 ·have hz1:(opF img).1=0:=by
   by_cases q:(opF img).1=0
   ·exact q
   ·exact absurd (.inl q) hz
  have hb:¬ eO h d:=fun q=>hz (.inr q)
  have HZ:=hid hz1
  have HBD:=hid hb
  have HR0:Hid (Rel (cxO img) (stD (cxO img) h d) (stR (cxO img) h d)):=by
   have hb':=hb
   unfold eO at hb'
   exact mX (dg hz1) (by omega) (by omega) (by omega) (by omega)
  clear hz hz1 hb
  go_enter Tryz.func3,Tryz.ntmps3
  go_wp2_with fail
  refine (HB.out _).mono ?_
  rintro e w1 ⟨a,n,c,pv,rfl,k1,_,hy⟩
  obtain ⟨w3,tv,fv,ll,k3,hI,hT,hF,rfl,hrb⟩:=hy HZ.out HBD.out
  obtain ⟨rb,V,rfl,hDI⟩:=DI.begun (c:=cxO img) rfl hrb
  have K1:=hid k1
  have K3:=hid k3
  have HI:=hid hI
  have HT:=hid hT
  have HF:=hid hF
  have H:=hid hDI
  clear hy k1 k3 hI hT hF hrb hDI HB
  go_wp2
  go_loopw [9,12] (fun sv iv wr=>∃ (k:Nat) (D:Dn) (R:Rn) (V:DV),iv=.int .i64 (k:Int)/\k<=l.length/\Rel (cxO img) D R/\DI w3 wr rb tv fv D V/\ad wr 0 sv (aJ (aB img) R)/\(∀ g,sv.ownBlock=some g->¬ bN (aw V D.out) g)/\D.recs.length<=10000 * k) (fun _ iv _=>l.length - (intOf iv).toNat)
  case atStart =>
   refine ⟨0,_,_,V,rfl,Nat.zero_le _,HR0.out,H.out,?_,fun g hg q=>?_,Nat.zero_le _⟩
   ·have:=HI.out
    rw [md] at this
    exact am (af this H.out.ch (fun _ _ q=>q)) (Nat.zero_le _)
   ·have h1:=(cy HI.out hg).2
    have h2:=(H.out.ow.lt q).1
    omega
  case round =>
   clear HI H HR0
   obtain ⟨k,D,R,V,rfl,hk,hD,hdi,hs,hsn,hrc⟩:=hrel
   have kw:=K3.out.trans hdi.ch
   by_cases hlt:k < l.length
   ·have hlt':(k:Int) < (l.length:Int):=by omega
    obtain ⟨g,iv,hg,i0,i1,i2,i3,hR⟩:=HL.out.at hlt
    obtain ⟨ia,ic,rfl⟩:=hR.slice
    subst hg
    obtain ⟨sa,sc,rfl⟩:=hs.slice
    replace i0:=kw.cellF i0
    replace i1:=kw.cellF i1
    replace i2:=kw.cellF i2
    replace i3:=kw.cellF i3
    have HW:Hid (∀ w',Chg () wr w'->Calls Tryz.prog 9 #[.string img,.slice sa (aJ (aB img) R).length sc,.pointer rb,.agg #[.slice ia l[k].1.length ic,.int .i64 l[k].2.1,.bool l[k].2.2.1,.bool l[k].2.2.2]] w' (ju w3 w' rb tv fv img D V)):=fun w' kk=>nC HZ.out hD (hdi.new kk) HT.out HF.out _ (af hs kk (fun _ _ q=>q)) hsn _ _ (hR.new K3.out) _ (by omega) _ _
    have HPK:Hid (∀ w',Chg () wr w'->Calls Tryz.prog 5 #[.string img,.slice sa (aJ (aB img) R).length sc,.pointer rb] w' fun e w''=>∃ u,e=.returned (.tuple #[u,.bool true])/\ad w'' w'.heap.size u (aJ (aB img) (a9 (cxO img) (bare R)))/\Chg () w' w''):=fun w' kk=>kH HZ.out hD (hdi.new kk) _ (af hs kk (fun _ _ q=>q)) (by omega)
    have HLV:Hid (∀ w',Chg () wr w'->Calls Tryz.prog 6 #[.string img,.slice sa (aJ (aB img) R).length sc] w' fun e w''=>e=.returned (.tuple #[(bk D:Int),oO])/\Chg () w' w''):=fun w' kk=>qf HZ.out hD _ 0 (af hs kk (fun _ _ q=>q))
    have HDL:Hid (∀ w',Chg () wr w'->Calls Tryz.prog 7 #[.pointer rb] w' fun e w''=>e=.returned (.int .i64 (bk D:Int))/\Chg () w' w''):=fun w' kk=>by
     obtain ⟨G,lo⟩:=jU (dg HZ.out) hD (by omega)
     exact gj (hdi.new kk) lo
    generalize l[k].1.length=inl at *
    generalize l[k].2.1=f at *
    generalize l[k].2.2.1=p at *
    generalize l[k].2.2.2=q at *
    have RR:=hid hD
    have DD:=hid hdi
    have SS:=hid hs
    have NN:=hid hsn
    have CC:=hid hrc
    generalize (aJ (aB img) R).length=sn at *
    generalize (bk D:Int)=lp at *
    clear hD hdi hs hsn hR kw hrc
    cases p
    ·cases q
     ·clear HPK HLV HDL
      go_wp2_with fail
      refine (HW.out _ ?_).mono ?_
      ·exact (Chg.refl _ _).alloc _
      rintro e w4 ⟨sv,D4,R4,V4,rfl,r4,d4,s4,n4,c4,_⟩
      obtain ⟨xa,xc,rfl⟩:=s4.slice
      have R5:=hid r4
      have D5:=hid d4
      have S5:=hid s4
      have N5:=hid n4
      have C5:Hid (D4.recs.length<=10000 * (k+1)):=by have:=CC.out;show _<=_;omega
      clear r4 d4 s4 n4 c4 HW i0 i1 i2 i3
      generalize (aJ (aB img) R4).length=rn at *
      go_wp2
      exact ⟨⟨k+1,D4,R4,V4,by simp,by omega,R5.out,D5.out,S5.out,N5.out,C5.out⟩,by simp [intOf];omega⟩
     ·clear HPK HW
      go_wp2_with fail
      refine (HLV.out _ ?_).mono ?_
      ·exact (Chg.refl _ _).alloc _
      rintro e w5 ⟨rfl,k5⟩
      have K5:Hid (Chg () wr w5):=Chg.trans ((Chg.refl _ _).alloc _) k5
      clear k5 HLV i0 i1 i2 i3
      go_wp2_with fail
      refine (HDL.out _ K5.out).mono ?_
      rintro e w6 ⟨rfl,k6⟩
      have K6:=hid (K5.out.trans k6)
      clear k6 K5 HDL
      go_wp2_with fail
      refine (cX 0 _).mono ?_
      rintro e w7 ⟨rfl,hw7⟩
      have hw7:=hw7.symm
      subst hw7
      go_wp2
      exact ⟨⟨k+1,D,R,V,by simp,by omega,RR.out,DD.out.new K6.out,af SS.out K6.out (fun _ _ q=>q),NN.out,by have:=CC.out;omega⟩,by simp [intOf];omega⟩
    ·clear HLV HDL HW
     go_wp2_with fail
     refine (HPK.out _ ?_).mono ?_
     ·exact (Chg.refl _ _).alloc _
     rintro e w5 ⟨u,rfl,hu,k5⟩
     have kB:Chg () wr _:=(Chg.refl _ wr).alloc (Obj.cells #[.slice ia inl ic,f,.bool true,.bool q] 28)
     have K5:=hid (kB.trans k5)
     have hb:=kB.size
     obtain ⟨xa,xc,rfl⟩:=hu.slice
     have S5:Hid (ad w5 wr.heap.size (.slice xa (aJ (aB img) (a9 (cxO img) (bare R))).length xc) (aJ (aB img) (a9 (cxO img) (bare R)))):=am hu hb
     have R5:=hid (gU RR.out).1
     clear k5 kB hb hu HPK i0 i1 i2 i3
     generalize a9 (cxO img) (bare R)=C at *
     have N5:Hid (∀ g,(Value.slice xa (aJ (aB img) C).length xc).ownBlock=some g->¬ bN (aw V D.out) g):=fun g hg q=>by
      have h1:=(cy S5.out hg).1
      have h2:=(DD.out.ow.lt q).2
      omega
     have S6:Hid (ad w5 0 (.slice xa (aJ (aB img) C).length xc) (aJ (aB img) C)):=am S5.out (Nat.zero_le _)
     clear S5
     generalize (aJ (aB img) C).length=rn at *
     go_wp2
     exact ⟨⟨k+1,D,C,V,by simp,by omega,R5.out,DD.out.new K5.out,S6.out,N5.out,by have:=CC.out;omega⟩,by simp [intOf];omega⟩
   ·have hlt':¬ (k:Int) < (l.length:Int):=by omega
    have KW:=hid kw
    clear hD hdi hs hsn kw
    go_wp2
    go_ret
    exact ⟨rfl,KW.out⟩
end Go.Proofs.YtnfnbcbadakofaaGreat
