import Derived.Test.YtnfnbcbadakofaaGreatDec
import Derived.Laws.AppendOwnNone
import Derived.Deep.RegionWith
import Derived.Deep.QuietTactic
namespace Go.Proofs.YtnfnbcbadakofaaGreat
open Go.RowKit
set_option maxHeartbeats 1000000
set_option maxRecDepth 100000
def opn (s:ByteArray):Int × Int × Pg:=if 800 < s.size then (1,0,⟨[],[]⟩) else rdP (bl s)
theorem pF (s:ByteArray) (w:World) :
 Calls Tryz.prog 35 #[.string s] w fun e w'=>∃ tv fv,e=.returned (.agg #[tv,fv,(),.int .i64 (opn s).1,.int .i64 (opn s).2.1])/\ai w' w.heap.size tv (opn s).2.2.types/\aj 111 135 w' w.heap.size fv (opn s).2.2.funcs /\
  ((opn s).1 ≠ 0->tv=.slice none 0 0/\fv=.slice none 0 0)/\Chg () w w':=by
 have bo:=Blk.new w #[.slice none 0 0,.slice none 0 0,.slice none 0 0,.int .i64 0,.int .i64 0] 83
 have ka:Chg () w (w.alloc (Obj.cells #[(),(),(),oO,oO] 83)):=(Chg.refl _ w).alloc _
 by_cases hs:800 < s.size
 ·have ho:opn s=(1,0,⟨[],[]⟩):=by unfold opn;rw [if_pos hs]
  rw [ho]
  clear ho
  go_enter Tryz.func35,Tryz.ntmps35
  go_wp2
  exact bodyPost_ret (v:=.agg #[(),(),(),(1:Int),oO]) (by simp [results,Tryz.results35,go_sem]) rfl ⟨_,_,rfl,ai.nil _ _,aj.nil _ _ _ _,fun _=>⟨rfl,rfl⟩,(Chg.refl _ w).alloc _⟩
 ·have ho:opn s=rdP (bl s):=by unfold opn;rw [if_neg hs]
  rw [ho]
  clear ho
  generalize hR:rdP (bl s)=R
  have HR:=hid hR
  clear hR
  go_enter Tryz.func35,Tryz.ntmps35
  go_wp2_with fail
  refine (jN s _ (by omega)).mono ?_
  rintro e w1 ⟨nv,rfl,hnv,hch⟩
  have bo1:=bo.chg hch (fun e=>e)
  have k1:=ka.trans hch
  clear bo ka hch
  obtain ⟨na,nc,rfl⟩:=hnv.slice
  go_wp2_with fail
  refine (jk _ (bl s) _ _ hnv (by rw [cL];omega)).mono ?_
  rw [HR.out]
  rintro e w2 ⟨tv,fv,rfl,hty,hfv,hnil,hch⟩
  have bo2:=bo1.chg hch (fun e=>e)
  have k2:=k1.trans hch
  have hty2:ai w2 w.heap.size tv R.2.2.types:=hty.mono k1.size
  have hfv2:aj 111 135 w2 w.heap.size fv R.2.2.funcs:=hfv.mono k1.size
  have HN:=hid hnil
  clear bo1 k1 hch hty hfv hnv hnil
  obtain ⟨ta,tc,rfl⟩:=hty2.slice
  obtain ⟨fa,fc,rfl⟩:=hfv2.slice
  have o0:w2.cell? ⟨w.heap.size,0,none⟩=some (.slice none 0 0):=bo2.cell 0
  have o1:w2.cell? ⟨w.heap.size,1,none⟩=some (.slice none 0 0):=bo2.cell 1
  have o2:w2.cell? ⟨w.heap.size,2,none⟩=some (.slice none 0 0):=bo2.cell 2
  have o3:w2.cell? ⟨w.heap.size,3,none⟩=some (.int .i64 0):=bo2.cell 3
  have o4:w2.cell? ⟨w.heap.size,4,none⟩=some (.int .i64 0):=bo2.cell 4
  have z0:=bo2.frozen 0
  have z1:=bo2.frozen 1
  have z2:=bo2.frozen 2
  have z3:=bo2.frozen 3
  have z4:=bo2.frozen 4
  have hlt0:=bo2.lt
  go_wp2
  have b3:=(((((bo2.set 0 (.slice ta R.2.2.types.length tc)).set 1 (.slice fa R.2.2.funcs.length fc)).set 2 (.slice none 0 0)).set 3 (.int .i64 R.1)).set 4 (.int .i64 R.2.1))
  have hch4:=db w2 w.heap.size (.slice ta R.2.2.types.length tc) (.slice fa R.2.2.funcs.length fc) (.slice none 0 0) (.int .i64 R.1) (.int .i64 R.2.1)
  generalize ((((w2.setCell ⟨w.heap.size,0,none⟩ (.slice ta R.2.2.types.length tc)).setCell ⟨w.heap.size,1,none⟩ (.slice fa R.2.2.funcs.length fc)).setCell ⟨w.heap.size,2,none⟩ ()).setCell ⟨w.heap.size,3,none⟩ R.1).setCell ⟨w.heap.size,4,none⟩ R.2.1=wf at *
  have hD:Chg () w wf:=k2.trans' hch4 (fun i hi e=>by omega)
  have hA:=hty2.chg hch4 (fun g cs hb e=>hb.ne bo2 (by decide) e) (fun g cs hb e=>hb.ne bo2 (by decide) e)
  have hB:=hfv2.chg hch4 (fun g cs hb e=>hb.ne bo2 (by decide) e) (fun g cs hb e=>hb.ne bo2 (by decide) e) (fun g cs hb e=>hb.ne bo2 (by decide) e)
  clear o0 o1 o2 o3 o4 z0 z1 z2 z3 z4 hch4
  have q0:wf.cell? ⟨w.heap.size,0,none⟩=some (.slice ta R.2.2.types.length tc):=b3.cell 0
  have q1:wf.cell? ⟨w.heap.size,1,none⟩=some (.slice fa R.2.2.funcs.length fc):=b3.cell 1
  have q2:wf.cell? ⟨w.heap.size,2,none⟩=some (.slice none 0 0):=b3.cell 2
  have q3:wf.cell? ⟨w.heap.size,3,none⟩=some (.int .i64 R.1):=b3.cell 3
  have q4:wf.cell? ⟨w.heap.size,4,none⟩=some (.int .i64 R.2.1):=b3.cell 4
  exact bodyPost_ret (v:=.agg #[.slice ta R.2.2.types.length tc,.slice fa R.2.2.funcs.length fc,(),R.1,R.2.1]) (by simp [results,Tryz.results35,go_sem,q0,q1,q2,q3,q4]) rfl ⟨_,_,rfl,hA,hB,HN.out,hD⟩
end Go.Proofs.YtnfnbcbadakofaaGreat
namespace Go.Proofs.YtnfnbcbadakofaaGreat
open Go.RowKit
set_option maxHeartbeats 400000
set_option maxRecDepth 100000
def RdI (w:World) (v:Value) (l:List Int):Prop:=
 (v=.slice none 0 0/\l=[]) \/ ∃ g off cap,v=.slice (some ⟨g,off,none⟩) l.length cap/\l.length<=cap/\cap<=maxLen/\∀ j,j < l.length->w.cell? ⟨g,off+j,none⟩=some (.int .i64 (l.getD j 0))
theorem ad.rdI {w:World} {base:Nat} {v:Value} {l:List Int} (h:ad w base v l):RdI w v l:=by
 by_cases h0:0 < l.length
 ·obtain ⟨g,cap,hv,_,hle,hcap,hc⟩:=h.form h0
  exact .inr ⟨g,0,cap,hv,hle,hcap,fun j hj=>by rw [Nat.zero_add];exact hc j hj⟩
 ·have hl:l=[]:=List.eq_nil_of_length_eq_zero (by omega)
  rcases h.2 with ⟨hv,_⟩ | ⟨g,cap,cur,hv,_,_,hle,hcap,_⟩
  ·exact .inl ⟨hv,hl⟩
  ·exact .inr ⟨g,0,cap,hv,hle,hcap,fun j hj=>by omega⟩
theorem jl (a1 a2:Option Addr) (n1 n2 c1 c2:Nat) (w:World) (h:n1 ≠ n2) :
 Calls Tryz.prog 88 #[.slice a1 n1 c1,.slice a2 n2 c2] w fun e w'=>e=.returned (.bool false)/\∃ n,w'=w.drewN n:=by
 have h':((n1:Int) != (n2:Int))=true:=by rw [bne_iff_ne];omega
 clear h
 go_enter Tryz.func88,Tryz.ntmps88
 go_wp2
 go_ret
 exact ⟨rfl,0,rfl⟩
theorem eW (a1 a2:Option Addr) (g1 g2 o1 o2 c1 c2:Nat) (l1 l2:List Int) (w:World) (hl:l1.length<=10000) (he:l2.length=l1.length) (ha:0 < l1.length->a1=some ⟨g1,o1,none⟩/\a2=some ⟨g2,o2,none⟩)
 (h1:∀ j,j < l1.length->w.cell? ⟨g1,o1+j,none⟩=some (.int .i64 (l1.getD j 0))) (h2:∀ j,j < l1.length->w.cell? ⟨g2,o2+j,none⟩=some (.int .i64 (l2.getD j 0))) :
 Calls Tryz.prog 88 #[.slice a1 l1.length c1,.slice a2 l1.length c2] w fun e w'=>e=.returned (.bool (l1 == l2))/\∃ n,w'=w.drewN n:=by
 have HE:=hid he
 clear he
 go_enter Tryz.func88,Tryz.ntmps88
 go_wp2
 go_loopw [13] (fun i wr=>∃ k:Nat,k<=l1.length/\i=.int .i64 k/\(l1.take k=l2.take k)/\∃ n,wr=w.drewN n) (fun i _=>l1.length - (intOf i).toNat)
 case atStart=>exact ⟨0,Nat.zero_le _,rfl,by simp,0,rfl⟩
 case round =>
  obtain ⟨k,hk,rfl,htk,n,rfl⟩:=hrel
  have HT:=hid htk
  clear htk
  by_cases hlt:k < l1.length
  ·obtain ⟨rfl,rfl⟩:=ha (by omega)
   have y1:=h1 k hlt
   have y2:=h2 k hlt
   have hlt':(k:Int) < (l1.length:Int):=by omega
   have HN:Hid (l1.getD k 0=l2.getD k 0->l1.take (k+1)=l2.take (k+1)):=by
    intro hx
    rw [List.take_succ_eq_append_getElem hlt,List.take_succ_eq_append_getElem (by rw [HE.out];exact hlt),HT.out]
    rw [List.getD_eq_getElem?_getD,List.getD_eq_getElem?_getD,List.getElem?_eq_getElem hlt,List.getElem?_eq_getElem (by rw [HE.out];exact hlt)] at hx
    simp at hx
    rw [hx]
   have HX:Hid (l1.getD k 0 ≠ l2.getD k 0->(l1 == l2)=false):=by
    intro hx
    rw [beq_eq_false_iff_ne]
    intro e;rw [e] at hx;exact hx rfl
   generalize l1.getD k 0=x at *
   generalize l2.getD k 0=y at *
   clear h1 h2 ha
   by_cases hxy:x=y
   ·have hb:(x != y)=false:=by simp [hxy]
    have HXY:=hid hxy
    clear hxy
    go_wp2
    go_quiet (fail)
    go_wp2
    exact ⟨⟨k+1,by omega,rfl,HN.out HXY.out,_,rfl⟩,by simp [intOf];omega⟩
   ·have hb:(x != y)=true:=by simp [hxy]
    have HXY:=hid hxy
    clear hxy
    go_wp2
    go_quiet (fail)
    go_wp2
    go_ret
    exact ⟨by rw [HX.out HXY.out];rfl,_,World.drewN_drewN _ _ _⟩
  ·have e1:(l1 == l2)=true:=by
    have:=HT.out
    rw [List.take_of_length_le (by omega),List.take_of_length_le (by rw [HE.out];omega)] at this
    rw [this];simp
   go_wp2
   go_ret
   exact ⟨by rw [e1];rfl,n,rfl⟩
theorem dm (v1 v2:Value) (l1 l2:List Int) (w:World) (hl:l1.length<=10000) (h1:RdI w v1 l1) (h2:RdI w v2 l2) :
 Calls Tryz.prog 88 #[v1,v2] w fun e w'=>e=.returned (.bool (l1 == l2))/\∃ n,w'=w.drewN n:=by
 have f1:∃ a c,v1=.slice a l1.length c:=by
  rcases h1 with ⟨rfl,rfl⟩ | ⟨g,o,c,rfl,_⟩
  ·exact ⟨none,0,rfl⟩
  ·exact ⟨_,_,rfl⟩
 have f2:∃ a c,v2=.slice a l2.length c:=by
  rcases h2 with ⟨rfl,rfl⟩ | ⟨g,o,c,rfl,_⟩
  ·exact ⟨none,0,rfl⟩
  ·exact ⟨_,_,rfl⟩
 by_cases he:l2.length=l1.length
 ·by_cases h0:0 < l1.length
  ·rcases h1 with ⟨_,rfl⟩ | ⟨g1,o1,c1,rfl,_,_,k1⟩
   ·simp at h0
   rcases h2 with ⟨_,rfl⟩ | ⟨g2,o2,c2,rfl,_,_,k2⟩
   ·simp at he;simp [<-he] at h0
   rw [he]
   exact eW _ _ g1 g2 o1 o2 c1 c2 l1 l2 w hl he (fun _=>⟨rfl,rfl⟩) k1 (fun j hj=>k2 j (by omega))
  ·obtain ⟨a1,c1,rfl⟩:=f1
   obtain ⟨a2,c2,rfl⟩:=f2
   rw [he]
   exact eW a1 a2 0 0 0 0 c1 c2 l1 l2 w hl he (fun h=>absurd h h0) (fun j hj=>by omega) (fun j hj=>by omega)
 ·obtain ⟨a1,c1,rfl⟩:=f1
  obtain ⟨a2,c2,rfl⟩:=f2
  have e1:(l1 == l2)=false:=by rw [beq_eq_false_iff_ne];intro e;exact he (by rw [e])
  rw [e1]
  exact jl a1 a2 _ _ c1 c2 w (fun e=>he e.symm)
theorem RdI.new {w w':World} {v:Value} {l:List Int} (h:RdI w v l) (k:Chg () w w'):RdI w' v l:=by
 rcases h with h | ⟨g,off,cap,hv,hle,hcap,hc⟩
 ·exact .inl h
 ·refine .inr ⟨g,off,cap,hv,hle,hcap,fun j hj=>?_⟩
  have h1:=hc j hj
  exact (World.cell?_of_block (w:=w) (k.block g (World.block_lt_of_cell? w _ h1) (fun e=>e))).trans h1
theorem RdI.news {w:World} {g off:Nat} {l:List Int} (hc:∀ j,j < l.length->w.cell? ⟨g,off+j,none⟩=some (.int .i64 (l.getD j 0))):∀ j u,(aE l)[j]?=some u->w.cell? ((⟨g,off,none⟩:Addr).add j)=some u:=by
 intro j u hu
 have hadd:(⟨g,off,none⟩:Addr).add j=⟨g,off+j,none⟩:=by unfold Addr.add;split <;> simp_all
 rw [hadd]
 have hj:j < l.length:=by
  rcases Nat.lt_or_ge j l.length with h | h
  ·exact h
  ·rw [List.getElem?_eq_none (by simpa [aE] using h)] at hu;cases hu
 rw [hc j hj]
 simp [aE,List.getElem?_eq_getElem hj] at hu
 rw [List.getD_eq_getElem?_getD,List.getElem?_eq_getElem hj]
 simpa using hu
theorem cE (v1 v2:Value) (l1 l2:List Int) (w:World) (hl1:l1.length<=10000) (hl2:l2.length<=10000) (h1:RdI w v1 l1) (h2:RdI w v2 l2) :
 Calls Tryz.prog 68 #[v1,v2] w fun e w'=>∃ v,e=.returned v/\ad w' w.heap.size v (l1++l2)/\Chg () w w':=by
 obtain ⟨i,hi1,hi2,hi3,hi4⟩:=dK
 have Hi1:=hid hi1
 have Hi2:=hid hi2
 have Hi3:=hid hi3
 have Hi4:=hid hi4
 clear hi1 hi2 hi3 hi4
 have h0:w.ownsRow w.heap.size 3 1 (.slice none 0 0) 0 []:=World.ownsRow_nil _ _ _ _
 rcases h1 with ⟨rfl,rfl⟩ | ⟨g1,o1,c1,rfl,hle1,hcap1,k1⟩
 ·rcases h2 with ⟨rfl,rfl⟩ | ⟨g2,o2,c2,rfl,hle2,hcap2,k2⟩
  ·go_enter Tryz.func68,Tryz.ntmps68
   go_wp2
   go_ret
   exact ⟨_,rfl,World.ownsRow_nil _ _ _ _,Chg.refl _ _⟩
  ·have HNEWS:Hid _:=RdI.news k2
   clear k2
   go_enter Tryz.func68,Tryz.ntmps68
   go_wp2_with (first | (at_builtin;refine wpList_append_own_none rfl _ _ 23 rfl w.heap.size 3 i 1 Tryz.underlying23 Hi1.out _ _ _ rfl h0 rfl ?_) | (at_builtin;refine wpList_append_own _ rfl _ _ 23 rfl w.heap.size 3 i (.int .i64 0) 1 8 Tryz.underlying23 Hi1.out Hi2.out Hi3.out Hi4.out rfl (by decide) _ _ _ rfl h0 ⟨g2,o2,none⟩ l2.length c2 (aE l2) rfl ?c0 HNEWS.out ?c2 ?c3 ?c4 ?c5 ?_))
   case c0=>simp [aE]
   case c2=>intro u hu;simp [aE] at hu;obtain ⟨x,_,rfl⟩:=hu;rfl
   case c3=>unfold maxLen;omega
   case c4=>omega
   case c5=>exact Nat.le_refl _
   ·intro v' w1 hown hgrow _
    go_wp2
    go_ret
    exact ⟨_,rfl,by unfold ad;simpa using hown,(Chg.refl _ w).grown hgrow (fun k hk=>by cases hk)⟩
 ·have HN1:Hid _:=RdI.news k1
  clear k1
  have hd:=hid h2
  clear h2
  rcases hd.out with ⟨rfl,rfl⟩ | ⟨g2,o2,c2,rfl,hle2,hcap2,k2⟩
  ·go_enter Tryz.func68,Tryz.ntmps68
   go_wp2_with (first | (at_builtin;refine wpList_append_own _ rfl _ _ 23 rfl w.heap.size 3 i (.int .i64 0) 1 8 Tryz.underlying23 Hi1.out Hi2.out Hi3.out Hi4.out rfl (by decide) _ _ _ rfl h0 ⟨g1,o1,none⟩ l1.length c1 (aE l1) rfl ?c0 HN1.out ?c2 ?c3 ?c4 ?c5 ?_))
   case c0=>simp [aE]
   case c2=>intro u hu;simp [aE] at hu;obtain ⟨x,_,rfl⟩:=hu;rfl
   case c3=>unfold maxLen;omega
   case c4=>omega
   case c5=>exact Nat.le_refl _
   ·intro v' w1 hown hgrow _
    go_wp2_with (first | (at_builtin;refine wpList_append_own_none rfl _ _ 23 rfl w.heap.size 3 i 1 Tryz.underlying23 Hi1.out _ _ _ rfl hown rfl ?_))
    go_ret
    exact ⟨_,rfl,by unfold ad;simpa using hown,(Chg.refl _ w).grown hgrow (fun k hk=>by cases hk)⟩
  ·clear k2
   go_enter Tryz.func68,Tryz.ntmps68
   go_wp2_with (first | (at_builtin;refine wpList_append_own _ rfl _ _ 23 rfl w.heap.size 3 i (.int .i64 0) 1 8 Tryz.underlying23 Hi1.out Hi2.out Hi3.out Hi4.out rfl (by decide) _ _ _ rfl h0 ⟨g1,o1,none⟩ l1.length c1 (aE l1) rfl ?c0 HN1.out ?c2 ?c3 ?c4 ?c5 ?_))
   case c0=>simp [aE]
   case c2=>intro u hu;simp [aE] at hu;obtain ⟨x,_,rfl⟩:=hu;rfl
   case c3=>unfold maxLen;omega
   case c4=>omega
   case c5=>exact Nat.le_refl _
   ·intro v' w1 hown hgrow _
    have k1:Chg () w w1:=(Chg.refl _ w).grown hgrow (fun k hk=>by cases hk)
    have hsz:=k1.size
    have HN2:Hid (∀ j u,(aE l2)[j]?=some u->w1.cell? ((⟨g2,o2,none⟩:Addr).add j)=some u):=by
     rcases hd.out.new k1 with ⟨h,_⟩ | ⟨g,o,c,h,_,_,kk⟩
     ·cases h
     ·simp only [Value.slice.injEq,Option.some.injEq,Addr.mk.injEq] at h
      obtain ⟨⟨rfl,rfl,_⟩,_,rfl⟩:=h
      exact RdI.news kk
    clear hgrow
    go_wp2_with (first | (at_builtin;refine wpList_append_own _ rfl _ _ 23 rfl w.heap.size 3 i (.int .i64 0) 1 8 Tryz.underlying23 Hi1.out Hi2.out Hi3.out Hi4.out rfl (by decide) _ _ _ rfl hown ⟨g2,o2,none⟩ l2.length c2 (aE l2) rfl ?c0 HN2.out ?c2 ?c3 ?c4 ?c5 ?_))
    case c0=>simp [aE]
    case c2=>intro u hu;simp [aE] at hu;obtain ⟨x,_,rfl⟩:=hu;rfl
    case c3=>unfold maxLen;omega
    case c4=>omega
    case c5=>omega
    ·intro v'' w2 hown2 hgrow2 _
     go_wp2
     go_ret
     refine ⟨_,rfl,?_,k1.grown hgrow2 (fun k hk=>.inr (hown.lt k hk).1)⟩
     unfold ad
     simpa [aE] using hown2
end Go.Proofs.YtnfnbcbadakofaaGreat
namespace Go.Proofs.YtnfnbcbadakofaaGreat
open Go.RowKit
set_option maxHeartbeats 400000
set_option maxRecDepth 100000
def aU (l:List Int) (k:Int):Int:=if k < 0 \/ (l.length:Int)<=k then 0 else l.getD k.toNat 0
theorem iP (a:Option Addr) (n c:Nat) (k:Int) (w:World) (h:k < 0 \/ (n:Int)<=k) :
 Calls Tryz.prog 53 #[.slice a n c,k] w fun e w'=>e=.returned (.int .i64 0)/\w'=w:=by
 by_cases h1:k < 0
 ·clear h
  go_enter Tryz.func53,Tryz.ntmps53
  go_wp2
  go_ret
  exact ⟨rfl,rfl⟩
 ·have h2:(n:Int)<=k:=by omega
  clear h
  go_enter Tryz.func53,Tryz.ntmps53
  go_wp2
  go_ret
  exact ⟨rfl,rfl⟩
theorem kE (g n c j:Nat) (x:Int) (w:World) (h:j < n) (hc:w.cell? ⟨g,j,none⟩=some (.int .i64 x)) :
 Calls Tryz.prog 53 #[.slice g n c,j] w fun e w'=>e=.returned (.int .i64 x)/\w'=w:=by
 have h':(j:Int) < n:=by omega
 go_enter Tryz.func53,Tryz.ntmps53
 go_wp2
 go_ret
 exact ⟨rfl,rfl⟩
theorem bq (v:Value) (l:List Int) (k:Int) (w:World) (base:Nat) (h:ad w base v l) :
 Calls Tryz.prog 53 #[v,k] w fun e w'=>e=.returned (.int .i64 (aU l k))/\w'=w:=by
 by_cases hk:k < 0 \/ (l.length:Int)<=k
 ·obtain ⟨a,c,rfl⟩:=h.slice
  unfold aU;rw [if_pos hk]
  exact iP a _ c k w hk
 ·obtain ⟨j,rfl⟩:∃ j:Nat,k=(j:Int):=⟨k.toNat,by omega⟩
  obtain ⟨g,c,rfl,_,_,_,hc⟩:=h.form (by omega)
  unfold aU;rw [if_neg hk]
  exact kE g _ c j _ w (by omega) (hc j (by omega))
def aP (fs:List Fn) (f:Int):List Int:=
 if h:0<=f/\f.toNat < fs.length then (if (fs[f.toNat]'h.2).args < 0 \/ ((fs[f.toNat]'h.2).locals.length:Int) < (fs[f.toNat]'h.2).args then [] else (fs[f.toNat]'h.2).locals.take (fs[f.toNat]'h.2).args.toNat) else []
def j5 (fs:List Fn) (f:Int):Int:=if h:0<=f/\f.toNat < fs.length then (fs[f.toNat]'h.2).result else 0
theorem aj.formS {eF eI:TypeId} {w:World} {base:Nat} {v:Value} {fs:List Fn} (h:aj eF eI w base v fs) (hl:0 < fs.length) :
 ∃ g cap,v=.slice (some ⟨g,0,none⟩) fs.length cap/\fs.length<=cap/\(∀ j (hj:j < fs.length),∃ lv cv,w.cell? ⟨g,j * 4,none⟩=some (.int .i64 fs[j].args)/\w.cell? ⟨g,j * 4+1,none⟩=some lv /\
  w.cell? ⟨g,j * 4+2,none⟩=some (.int .i64 fs[j].result)/\w.cell? ⟨g,j * 4+3,none⟩=some cv/\ad w base lv fs[j].locals/\bG eI w base cv fs[j].code):=by
 obtain ⟨xs,h0,h,hx⟩:=h
 have hc:=fun g=>World.ownsRow.cells (g:=g) h
 subst h0
 simp only [List.length_map] at *
 rcases h.2 with ⟨_,h0⟩ | ⟨g,cap,cur,rfl,hb,hgg,hle,hcap,_⟩
 ·omega
 ·refine ⟨g,cap,rfl,hle,fun j hj=>?_⟩
  have hadd:∀ j,(⟨g,0,none⟩:Addr).add j=⟨g,j,none⟩:=by intro j;unfold Addr.add;split <;> simp_all
  have key:∀ (c:List (Fn × Value × Value)) (j:Nat) (hj:j < c.length),(fnC c)[j * 4]?=some (.int .i64 c[j].1.args)/\(fnC c)[j * 4+1]?=some c[j].2.1/\(fnC c)[j * 4+2]?=some (.int .i64 c[j].1.result)/\(fnC c)[j * 4+3]?=some c[j].2.2:=by
   intro c
   induction c with
   | nil=>intro j hj;simp at hj
   | cons x c ih =>
    intro j hj
    have e:fnC (x::c)=.int .i64 x.1.args::x.2.1::.int .i64 x.1.result::x.2.2::fnC c:=by simp [fnC]
    rcases j with _ | j
    ·rw [e];simp
    ·have:=ih j (by simpa using hj)
     rw [e,show (j+1) * 4=j * 4+4 by omega]
     simpa using this
  obtain ⟨k1,k2,k3,k4⟩:=key xs j hj
  have a1:=hc g rfl _ _ k1
  have a2:=hc g rfl _ _ k2
  have a3:=hc g rfl _ _ k3
  have a4:=hc g rfl _ _ k4
  rw [hadd] at a1 a2 a3 a4
  have hm:=hx xs[j] (List.getElem_mem hj)
  exact ⟨xs[j].2.1,xs[j].2.2,by simpa using a1,a2,by simpa using a3,a4,by simpa using hm.1,by simpa using hm.2⟩
theorem ad.take {w:World} {base:Nat} {a:Option Addr} {n cap:Nat} {l:List Int} (h:ad w base (.slice a n cap) l) (k:Nat) (hk:k<=l.length) (hn:a=none->k=0/\cap=0):ad w base (.slice a k cap) (l.take k):=by
 have hlen:(l.take k).length=k:=by rw [List.length_take];omega
 unfold ad
 rw [hlen]
 refine ⟨by simp;omega,?_⟩
 rcases h.2 with ⟨hv,_⟩ | ⟨g,cap',cur,hv,hb,hgg,hle,hcap,hcs,htk⟩
 ·simp only [Value.slice.injEq] at hv
  obtain ⟨rfl,_,rfl⟩:=hv
  obtain ⟨rfl,_⟩:=hn rfl
  exact .inl ⟨rfl,rfl⟩
 ·simp only [Value.slice.injEq] at hv
  obtain ⟨rfl,_,rfl⟩:=hv
  refine .inr ⟨g,cap,cur,rfl,hb,hgg,by omega,hcap,hcs,?_⟩
  have e:=congrArg (List.take k) htk
  simp only [Nat.mul_one,List.take_take] at e ⊢
  rw [Nat.min_eq_left (by omega)] at e
  rw [e];simp [aE,List.map_take]
def aq (fs:List Fn) (k:Int):Fn:=if h:0<=k/\k.toNat < fs.length then fs[k.toNat]'h.2 else ⟨0,[],0,[]⟩
def bT (l:List Int) (k:Int):List Int:=if k < 0 \/ (l.length:Int) < k then [] else l.take k.toNat
theorem fY (fs:List Fn) (k:Int):aP fs k=bT (aq fs k).locals (aq fs k).args:=by
 unfold aP aq bT
 by_cases hk:0<=k/\k.toNat < fs.length
 ·simp only [dif_pos hk]
 ·simp [dif_neg hk]
theorem qz (fs:List Fn) (k:Int):j5 fs k=(aq fs k).result:=by
 unfold j5 aq
 by_cases hk:0<=k/\k.toNat < fs.length
 ·simp only [dif_pos hk]
 ·simp only [dif_neg hk]
theorem oD (a:Option Addr) (n c:Nat) (k:Int) (w:World) (h:k < 0 \/ (n:Int) < k) :
 Calls Tryz.prog 77 #[.slice a n c,k] w fun e w'=>e=.returned (.slice none 0 0)/\w'=w:=by
 by_cases h1:k < 0
 ·clear h
  go_enter Tryz.func77,Tryz.ntmps77
  go_wp2
  go_ret
  exact ⟨rfl,rfl⟩
 ·have h2:(n:Int) < k:=by omega
  clear h
  go_enter Tryz.func77,Tryz.ntmps77
  go_wp2
  go_ret
  exact ⟨rfl,rfl⟩
theorem mf (a:Option Addr) (n c x:Nat) (w:World) (hx:x<=n) (hm:n<=c) (_hla:a=none->x=0/\c=0) :
 Calls Tryz.prog 77 #[.slice a n c,x] w fun e w'=>e=.returned (.slice a x c)/\w'=w:=by
 have h2:(x:Int)<=n:=by omega
 have h3:(x:Int)<=c:=by omega
 go_enter Tryz.func77,Tryz.ntmps77
 go_wp2
 go_ret
 exact ⟨rfl,rfl⟩
theorem gn (v:Value) (l:List Int) (k:Int) (w:World) (base:Nat) (h:ad w base v l) :
 Calls Tryz.prog 77 #[v,k] w fun e w'=>∃ u,e=.returned u/\ad w base u (bT l k)/\w'=w:=by
 by_cases hk:k < 0 \/ (l.length:Int) < k
 ·obtain ⟨a,c,rfl⟩:=h.slice
  have e1:bT l k=[]:=if_pos hk
  rw [e1]
  refine (oD a _ c k w hk).mono ?_
  rintro e w' ⟨rfl,rfl⟩
  exact ⟨_,rfl,World.ownsRow_nil _ _ _ _,rfl⟩
 ·obtain ⟨x,rfl⟩:∃ x:Nat,k=(x:Int):=⟨k.toNat,by omega⟩
  have e1:bT l (x:Int)=l.take x:=if_neg hk
  rw [e1]
  obtain ⟨a,c,rfl⟩:=h.slice
  have hm:l.length<=c/\(a=none->x=0/\c=0):=by
   rcases h.2 with ⟨hv,h0⟩ | ⟨g',cap',cur,hv,_,_,hle,_⟩
   ·simp only [Value.slice.injEq] at hv
    obtain ⟨rfl,h3,rfl⟩:=hv
    exact ⟨by omega,fun _=>⟨by omega,rfl⟩⟩
   ·simp only [Value.slice.injEq] at hv
    obtain ⟨rfl,_,rfl⟩:=hv
    exact ⟨hle,fun e=>by cases e⟩
  refine (mf a _ c x w (by omega) hm.1 hm.2).mono ?_
  rintro e w' ⟨rfl,rfl⟩
  exact ⟨_,rfl,h.take _ (by omega) hm.2,rfl⟩
theorem io (lv:Value) (f:Fn) (ca:Option Addr) (cn cc:Nat) (w:World) (base:Nat) (h:ad w base lv f.locals) :
 Calls Tryz.prog 93 #[.agg #[f.args,lv,f.result,.slice ca cn cc]] w fun e w'=>∃ u,e=.returned u/\ad w' base u (bT f.locals f.args)/\Chg () w w':=by
 have kb:Chg () w (w.alloc (Obj.cells #[f.args,lv,f.result,.slice ca cn cc] 111)):=(Chg.refl () w).alloc _
 have h1:=h.chg kb (fun _ _ _ e=>e)
 obtain ⟨la,lc,rfl⟩:=h.slice
 go_enter Tryz.func93,Tryz.ntmps93
 go_wp2_with fail
 refine (gn _ f.locals f.args _ base h1).mono ?_
 rintro e w1 ⟨u,rfl,hu,rfl⟩
 obtain ⟨ua,uc,rfl⟩:=hu.slice
 go_wp2
 go_ret
 exact ⟨_,rfl,hu,kb⟩
theorem iR (a:Option Addr) (n c:Nat) (k:Int) (w:World) (h:k < 0 \/ (n:Int)<=k) :
 Calls Tryz.prog 37 #[.slice a n c,k] w fun e w'=>e=.returned (.agg #[oO,(),oO,()])/\Chg () w w':=by
 have ka:Chg () w (w.alloc (Obj.cells #[oO,(),oO,()] 111)):=(Chg.refl _ w).alloc _
 by_cases h1:k < 0
 ·clear h
  go_enter Tryz.func37,Tryz.ntmps37
  go_wp2
  exact bodyPost_ret (v:=.agg #[oO,(),oO,()]) (by simp [results,Tryz.results37,go_sem]) rfl ⟨rfl,ka⟩
 ·have h2:(n:Int)<=k:=by omega
  clear h
  go_enter Tryz.func37,Tryz.ntmps37
  go_wp2
  exact bodyPost_ret (v:=.agg #[oO,(),oO,()]) (by simp [results,Tryz.results37,go_sem]) rfl ⟨rfl,ka⟩
theorem ij (g n c j ln lc cn cc:Nat) (la ca:Option Addr) (x r:Int) (w:World) (h:j < n) (hg:g < w.heap.size) (hc0:w.cell? ⟨g,j * 4,none⟩=some (.int .i64 x)) (hc1:w.cell? ⟨g,j * 4+1,none⟩=some (.slice la ln lc))
 (hc2:w.cell? ⟨g,j * 4+2,none⟩=some (.int .i64 r)) (hc3:w.cell? ⟨g,j * 4+3,none⟩=some (.slice ca cn cc)) :
 Calls Tryz.prog 37 #[.slice g n c,j] w fun e w'=>e=.returned (.agg #[x,.slice la ln lc,r,.slice ca cn cc])/\Chg () w w':=by
 have h':(j:Int) < n:=by omega
 have d0:(w.alloc (Obj.cells #[oO,(),oO,()] 111)).cell? ⟨g,j * 4,none⟩=some (.int .i64 x):=(World.cell?_of_block (Below.heap_alloc _ _ _ hg)).trans hc0
 have d1:(w.alloc (Obj.cells #[oO,(),oO,()] 111)).cell? ⟨g,j * 4+1,none⟩=some (.slice la ln lc):=(World.cell?_of_block (Below.heap_alloc _ _ _ hg)).trans hc1
 have d2:(w.alloc (Obj.cells #[oO,(),oO,()] 111)).cell? ⟨g,j * 4+2,none⟩=some (.int .i64 r):=(World.cell?_of_block (Below.heap_alloc _ _ _ hg)).trans hc2
 have d3:(w.alloc (Obj.cells #[oO,(),oO,()] 111)).cell? ⟨g,j * 4+3,none⟩=some (.slice ca cn cc):=(World.cell?_of_block (Below.heap_alloc _ _ _ hg)).trans hc3
 clear hc0 hc1 hc2 hc3
 go_enter Tryz.func37,Tryz.ntmps37
 go_wp2
 exact bodyPost_ret (v:=.agg #[x,.slice la ln lc,r,.slice ca cn cc]) (by simp [results,Tryz.results37,go_sem]) rfl ⟨rfl,(Chg.refl _ w).alloc _⟩
theorem fq (v:Value) (fs:List Fn) (k:Int) (w:World) (base:Nat) (h:aj 111 135 w base v fs) :
 Calls Tryz.prog 37 #[v,k] w fun e w'=>∃ lv cv,e=.returned (.agg #[.int .i64 (aq fs k).args,lv,.int .i64 (aq fs k).result,cv])/\ad w' base lv (aq fs k).locals/\bG 135 w' base cv (aq fs k).code/\Chg () w w':=by
 by_cases hk:0<=k/\k.toNat < fs.length
 ·obtain ⟨j,rfl⟩:∃ j:Nat,k=(j:Int):=⟨k.toNat,by omega⟩
  obtain ⟨g,c,rfl,_,hc⟩:=h.formS (by omega)
  have hj:j < fs.length:=by omega
  have e1:aq fs (j:Int)=fs[j]:=by unfold aq;rw [dif_pos hk];rfl
  rw [e1]
  obtain ⟨lv,cv,h0,h1,h2,h3,hl,hi⟩:=hc j hj
  obtain ⟨la,lc,rfl⟩:=hl.slice
  obtain ⟨ca,cc,rfl⟩:=hi.slice
  refine (ij g _ c j _ lc _ cc la ca _ _ w hj (World.block_lt_of_cell? w _ h0) h0 h1 h2 h3).mono ?_
  rintro e w' ⟨rfl,hch⟩
  exact ⟨_,_,rfl,hl.chg hch (fun _ _ _ e=>e),hi.chg hch (fun _ _ _ e=>e),hch⟩
 ·obtain ⟨a,c,rfl⟩:=h.slice
  have e1:aq fs k=⟨0,[],0,[]⟩:=by unfold aq;rw [dif_neg hk]
  rw [e1]
  refine (iR a _ c k w (by omega)).mono ?_
  rintro e w' ⟨rfl,hch⟩
  exact ⟨_,_,rfl,World.ownsRow_nil _ _ _ _,World.ownsRow_nil _ _ _ _,hch⟩
end Go.Proofs.YtnfnbcbadakofaaGreat
namespace Go.Proofs.YtnfnbcbadakofaaGreat
open Go.RowKit
set_option maxHeartbeats 400000
set_option maxRecDepth 100000
def wB (n lo hi:Int):Bool:=decide (lo<=n) && decide (n<=hi)
theorem cd (n lo hi:Int) (w:World) :
 Calls Tryz.prog 70 #[n,lo,hi] w fun e w'=>e=.returned (.bool (wB n lo hi))/\w'=w:=by
 by_cases h1:lo<=n
 ·by_cases h2:n<=hi
  ·have e1:wB n lo hi=true:=by simp [wB,h1,h2]
   rw [e1]
   go_enter Tryz.func70,Tryz.ntmps70
   go_wp2
   go_ret
   exact ⟨by simp,rfl⟩
  ·have e1:wB n lo hi=false:=by simp [wB,h2]
   rw [e1]
   go_enter Tryz.func70,Tryz.ntmps70
   go_wp2
   go_ret
   exact ⟨by simp,rfl⟩
 ·have e1:wB n lo hi=false:=by simp [wB];omega
  rw [e1]
  go_enter Tryz.func70,Tryz.ntmps70
  go_wp2
  go_ret
  exact ⟨rfl,rfl⟩
def RR (w:World) (rb:Nat) (s:ByteArray) (st:Nat × Bool):Prop:=Blk w rb #[.string s,.int .i64 st.1,.bool (!st.2)] 122
def nx (ns:List Int) (lo hi:Int) (s:Nat × Bool):Int × (Nat × Bool):=
 if s.2=true then (lo,s) else
 if ns.length<=s.1 \/ ns.getD s.1 0 < lo \/ hi < ns.getD s.1 0 then (lo,(s.1,true)) else (ns.getD s.1 0,(s.1+1,false))
theorem iK {w:World} {rb:Nat} {s:ByteArray} {st:Nat × Bool} (hr:RR w rb s st) (n:Nat) :
 RR ((w.drewN n).setCell ⟨rb,2,none⟩ (.bool false)) rb s (st.1,true)/\Chg (fun k=>k=rb) w ((w.drewN n).setCell ⟨rb,2,none⟩ (.bool false)):=
 ⟨(Blk.set (Blk.drewN hr n) 2 (.bool false)),Chg.setCell (S:=fun k=>k=rb) ((Chg.refl _ w).drewN n) _ _ (.inl rfl)⟩
theorem p9 {w:World} {rb:Nat} {s:ByteArray} {p:Nat} {b:Bool} (hr:RR w rb s (p,b)) (n:Nat) :
 RR ((w.drewN n).setCell ⟨rb,1,none⟩ ((p:Int)+1:Int)) rb s (p+1,b)/\Chg (fun k=>k=rb) w ((w.drewN n).setCell ⟨rb,1,none⟩ ((p:Int)+1:Int)):=
 ⟨(Blk.set (Blk.drewN hr n) 1 (.int .i64 ((p:Int)+1))),Chg.setCell (S:=fun k=>k=rb) ((Chg.refl _ w).drewN n) _ _ (.inl rfl)⟩
theorem s9 (rb:Nat) (s:ByteArray) (p:Nat) (lo hi:Int) (w:World) (hr:RR w rb s (p,true)) :
 Calls Tryz.prog 41 #[.pointer rb,lo,hi] w fun e w'=>e=.returned (.int .i64 lo)/\RR w' rb s (p,true)/\Chg (fun k=>k=rb) w w':=by
 have h2:w.cell? ⟨rb,2,none⟩=some (.bool false):=Blk.cell hr 2
 go_enter Tryz.func41,Tryz.ntmps41
 go_wp2
 go_ret
 exact ⟨rfl,hr,Chg.refl _ _⟩
theorem sJ (rb:Nat) (s:ByteArray) (p:Nat) (lo hi:Int) (w:World) (hr:RR w rb s (p,false)) (hp:s.size<=p) :
 Calls Tryz.prog 41 #[.pointer rb,lo,hi] w fun e w'=>e=.returned (.int .i64 lo)/\RR w' rb s (p,true)/\Chg (fun k=>k=rb) w w':=by
 have h0:w.cell? ⟨rb,0,none⟩=some (.string s):=Blk.cell hr 0
 have h1:w.cell? ⟨rb,1,none⟩=some (.int .i64 p):=Blk.cell hr 1
 have h2:w.cell? ⟨rb,2,none⟩=some (.bool true):=Blk.cell hr 2
 have hf:w.frozen? ⟨rb,2,none⟩=false:=Blk.frozen hr 2
 have hp':(s.size:Int)<=(p:Int):=by omega
 go_enter Tryz.func41,Tryz.ntmps41
 go_wp2
 go_quiet (fail)
 go_wp2
 go_ret
 exact ⟨rfl,iK hr _⟩
theorem sw (b:UInt8):IntKind.i64.wrap (b.toNat:Int)=(b.toNat:Int):=by rw [IntKind.wrap_i64];have:=b.toNat_lt;omega
theorem tM (rb:Nat) (s:ByteArray) (p:Nat) (lo hi:Int) (w:World) (hr:RR w rb s (p,false)) (hp:p < s.size) (hs:s.size<=10000)
 (hb:wB (s[p].toNat:Int) lo hi=true) :
 Calls Tryz.prog 41 #[.pointer rb,lo,hi] w fun e w'=>e=.returned (.int .i64 (s[p].toNat:Int))/\RR w' rb s (p+1,false)/\Chg (fun k=>k=rb) w w':=by
 have h0:w.cell? ⟨rb,0,none⟩=some (.string s):=Blk.cell hr 0
 have h1:w.cell? ⟨rb,1,none⟩=some (.int .i64 p):=Blk.cell hr 1
 have h2:w.cell? ⟨rb,2,none⟩=some (.bool true):=Blk.cell hr 2
 have hf:w.frozen? ⟨rb,1,none⟩=false:=Blk.frozen hr 1
 have hp':(p:Int) < (s.size:Int):=by omega
 have hw1:=sw s[p]
 have hw2:=gI s[p]
 go_enter Tryz.func41,Tryz.ntmps41
 go_wp2
 go_quiet ((go_at_call 70;exact Calls.quiet_of_same (cd _ _ _ _)))
 go_wp2
 go_quiet (fail)
 go_wp2
 go_ret
 exact ⟨rfl,p9 hr _⟩
theorem sZ (rb:Nat) (s:ByteArray) (p:Nat) (lo hi:Int) (w:World) (hr:RR w rb s (p,false)) (hp:p < s.size)
 (hb:wB (s[p].toNat:Int) lo hi=false) :
 Calls Tryz.prog 41 #[.pointer rb,lo,hi] w fun e w'=>e=.returned (.int .i64 lo)/\RR w' rb s (p,true)/\Chg (fun k=>k=rb) w w':=by
 have h0:w.cell? ⟨rb,0,none⟩=some (.string s):=Blk.cell hr 0
 have h1:w.cell? ⟨rb,1,none⟩=some (.int .i64 p):=Blk.cell hr 1
 have h2:w.cell? ⟨rb,2,none⟩=some (.bool true):=Blk.cell hr 2
 have hf:w.frozen? ⟨rb,2,none⟩=false:=Blk.frozen hr 2
 have hp':(p:Int) < (s.size:Int):=by omega
 have hw1:=sw s[p]
 go_enter Tryz.func41,Tryz.ntmps41
 go_wp2
 go_quiet ((go_at_call 70;exact Calls.quiet_of_same (cd _ _ _ _)))
 go_wp2
 go_ret
 exact ⟨rfl,iK hr _⟩
theorem oB (s:ByteArray) (p:Nat) (hp:p < s.size):(bl s).getD p 0=(s[p].toNat:Int):=by
 have hk:p < (bl s).length:=by rw [cL];exact hp
 rw [List.getD_eq_getElem?_getD,List.getElem?_eq_getElem hk]
 simp [bl];rfl
theorem bL (rb:Nat) (s:ByteArray) (st:Nat × Bool) (lo hi:Int) (w:World) (hr:RR w rb s st) (hs:s.size<=10000) :
 Calls Tryz.prog 41 #[.pointer rb,lo,hi] w fun e w'=>e=.returned (.int .i64 (nx (bl s) lo hi st).1)/\RR w' rb s (nx (bl s) lo hi st).2/\Chg (fun k=>k=rb) w w':=by
 obtain ⟨p,b⟩:=st
 cases b with
 | true =>
  have e1:nx (bl s) lo hi (p,true)=(lo,(p,true)):=by simp [nx]
  rw [e1];exact s9 rb s p lo hi w hr
 | false =>
  by_cases hp:s.size<=p
  ·have e1:nx (bl s) lo hi (p,false)=(lo,(p,true)):=by unfold nx;rw [if_neg (by simp),if_pos (.inl (by rw [cL];exact hp))]
   rw [e1];exact sJ rb s p lo hi w hr hp
  ·have hp':p < s.size:=by omega
   have hg:=oB s p hp'
   cases hb:wB (s[p].toNat:Int) lo hi with
   | true =>
    have e1:nx (bl s) lo hi (p,false)=((s[p].toNat:Int),(p+1,false)):=by
     unfold nx;simp [wB] at hb
     rw [if_neg (by simp),if_neg (by rw [cL];simp only [hg];omega),hg]
    rw [e1];exact tM rb s p lo hi w hr hp' hs hb
   | false =>
    have e1:nx (bl s) lo hi (p,false)=(lo,(p,true)):=by
     unfold nx;simp [wB] at hb
     rw [if_neg (by simp),if_pos (by rw [cL];simp only [hg];omega)]
    rw [e1];exact sZ rb s p lo hi w hr hp' hb
end Go.Proofs.YtnfnbcbadakofaaGreat
namespace Go.Proofs.YtnfnbcbadakofaaGreat
open Go.RowKit
def nxL (ns:List Int) (hi:Int):Nat->Nat × Bool->List Int × (Nat × Bool)
 | 0,s=>([],s)
 | k+1,s=>((nxL ns hi k s).1++[(nx ns 0 hi (nxL ns hi k s).2).1],(nx ns 0 hi (nxL ns hi k s).2).2)
theorem fR (ns:List Int) (hi:Int) (k:Nat) (s:Nat × Bool):(nxL ns hi k s).1.length=k:=by
 induction k with
 | zero=>rfl
 | succ k ih=>simp [nxL,ih]
set_option maxHeartbeats 400000 in
set_option maxRecDepth 100000 in
theorem eU (rb:Nat) (b:ByteArray) (s:Nat × Bool) (c hi:Int) (w:World) (h:RR w rb b s) (hl:b.size<=10000) (hc:c<=10000) :
 Calls Tryz.prog 42 #[.pointer rb,c,hi] w fun e w'=>∃ v,e=.returned v/\ad w' w.heap.size v (nxL (bl b) hi c.toNat s).1/\RR w' rb b (nxL (bl b) hi c.toNat s).2/\Chg (fun k=>k=rb) w w':=by
 obtain ⟨i,hi1,hi2,hi3,hi4⟩:=dK
 have Hi1:=hid hi1
 have Hi2:=hid hi2
 have Hi3:=hid hi3
 have Hi4:=hid hi4
 clear hi1 hi2 hi3 hi4
 go_enter Tryz.func42,Tryz.ntmps42
 go_wp2
 go_loopw [7,8] (fun v i wr=>∃ k:Nat,k<=c.toNat/\i=.int .i64 k/\ad wr w.heap.size v (nxL (bl b) hi k s).1/\RR wr rb b (nxL (bl b) hi k s).2/\Chg (fun k=>k=rb) w wr) (fun _ i _=>c.toNat - (intOf i).toNat)
 case atStart=>exact ⟨0,Nat.zero_le _,rfl,World.ownsRow_nil _ _ _ _,h,Chg.refl _ _⟩
 case round =>
  obtain ⟨k,hk,rfl,hown,hrs,hch⟩:=hrel
  by_cases hlt:(k:Int) < c
  ·go_wp2_with fail
   refine (bL rb b _ 0 hi _ hrs hl).mono ?_
   rintro e w1 ⟨rfl,hrs1,hch1⟩
   have hown1:ad w1 w.heap.size u7 (nxL (bl b) hi k s).1:=af hown hch1 (fun g hg e=>ao hown hrs (by decide) (by rw [hg,e]))
   have hsz:w.heap.size<=w1.heap.size:=Nat.le_trans hch.size hch1.size
   generalize hX:(nx (bl b) 0 hi (nxL (bl b) hi k s).2).1=X
   have HX:=hid hX
   clear hX
   go_wp2_with (at_builtin;refine wpList_append_lies _ rfl _ _ 23 rfl w.heap.size 3 i (.int .i64 0) 1 8 Tryz.underlying23 Hi1.out Hi2.out Hi3.out Hi4.out rfl (by decide) _ _ _ rfl (World.ownsRow.alloc hown1 _) ⟨w1.heap.size,0,none⟩ 1 1 [.int .i64 X] rfl rfl ?c1 ?c2 (by decide) ?c3 ?c4 ?c5 _ rfl ?_)
   case c1=>exact cell_one_new _ _ _
   case c2=>intro u hu;simp at hu;subst hu;rfl
   case c3=>rw [fR];unfold maxLen;omega
   case c4=>rw [fR];omega
   case c5=>simp;omega
   ·intro g cap w2 hown2 hgrow hat hlt2
    go_wp2
    have hch2:Chg (fun k=>k=rb) w w2:=(((hch.trans hch1).alloc _).grown hgrow (fun k hk=>.inr (hown1.lt k hk).1))
    have hrd2:RR w2 rb b (nx (bl b) 0 hi (nxL (bl b) hi k s).2).2:=(Blk.alloc hrs1 _).grown hgrow (fun e=>by have:=(hown1.lt rb e.symm).1;have:=Blk.lt h;omega)
    refine ⟨⟨k+1,by omega,rfl,?_,hrd2,hch2⟩,by simp [intOf];omega⟩
    rw [<-HX.out,fR] at hown2
    have e3:=fR (bl b) hi k s
    unfold ad
    simp only [nxL,aE,List.map_append,List.length_append,List.map_cons,List.map_nil,List.length_cons,List.length_nil,e3] at hown2 ⊢
    exact hown2
  ·go_wp2
   go_ret
   have e1:c.toNat=k:=by omega
   rw [e1]
   exact ⟨u7,rfl,hown,hrs,hch⟩
end Go.Proofs.YtnfnbcbadakofaaGreat
namespace Go.Proofs.YtnfnbcbadakofaaGreat
open Go.RowKit
set_option maxHeartbeats 1000000
set_option maxRecDepth 100000
theorem iX (a fa:Option Addr) (nT cap nf fc:Nat) (lo op:Int) (w:World) (h1:0<=op) (h2:op<=12 \/ 16<=op) (h3:op<=18) (hlo:0<=lo) (hlo2:lo<=10000) :
 Calls Tryz.prog 90 #[.agg #[.slice a nT cap,.slice fa nf fc],lo,op] w fun e w' =>
  e=.returned (.tuple #[.int .i64 (bA nT 0 lo 0 op).1,.int .i64 (bA nT 0 lo 0 op).2])/\Chg () w w':=by
 have hop:op=0 \/ op=1 \/ op=2 \/ op=3 \/ op=4 \/ op=5 \/ op=6 \/ op=7 \/ op=8 \/ op=9 \/ op=10 \/ op=11 \/ op=12 \/ op=16 \/ op=17 \/ op=18:=by omega
 clear h1 h2 h3
 rcases hop with rfl | rfl | rfl | rfl | rfl | rfl | rfl | rfl | rfl | rfl | rfl | rfl | rfl | rfl | rfl | rfl
 all_goals
  go_enter Tryz.func90,Tryz.ntmps90
  go_wp2
  first
   | (go_ret2;exact ⟨rfl,bi _⟩)
   | (go_quiet (fail)
      go_wp2
      go_ret2
      exact ⟨rfl,lS _ _⟩)
theorem mE (a fa:Option Addr) (nT cap nf fc:Nat) (fu lo co op x:Int) (w:World) (h1:0<=op) (h2:op<=18) (hlo:0<=lo) (hlo2:lo<=10000) (hco:0<=co) (hco2:co<=10000) (hfu:0<=fu) (hfu2:fu<=10000) :
 Calls Tryz.prog 71 #[.agg #[.slice a nT cap,.slice fa nf fc],lo,co,fu,op,x] w fun e w' =>
  e=.returned (.bool (wB x (bA nT fu lo co op).1 (bA nT fu lo co op).2))/\Chg () w w':=by
 by_cases h13:op=13
 ·subst h13
  go_enter Tryz.func71,Tryz.ntmps71
  go_wp2_with fail
  refine (cd _ _ _ _).mono ?_
  rintro e w1 ⟨rfl,rfl⟩
  go_wp2
  go_ret
  exact ⟨rfl,bi _⟩
 ·by_cases h14:op=14
  ·subst h14
   go_enter Tryz.func71,Tryz.ntmps71
   go_wp2_with fail
   refine (cd _ _ _ _).mono ?_
   rintro e w1 ⟨rfl,rfl⟩
   go_wp2
   go_ret
   exact ⟨rfl,bi _⟩
  ·have e13:(op == 13)=false:=by simp [h13]
   have e14:(op == 14)=false:=by simp [h14]
   by_cases h15:op=15
   ·subst h15
    go_enter Tryz.func71,Tryz.ntmps71
    go_wp2_with fail
    refine (cd _ _ _ _).mono ?_
    rintro e w1 ⟨rfl,rfl⟩
    go_wp2
    go_ret
    exact ⟨rfl,bi _⟩
   ·have e15:(op == 15)=false:=by simp [h15]
    have eb:bA nT fu lo co op=bA nT 0 lo 0 op:=by unfold bA;simp [h13,h14,h15]
    rw [eb]
    have hop:op<=12 \/ 16<=op:=by omega
    clear h13 h14 h15 eb
    go_enter Tryz.func71,Tryz.ntmps71
    go_wp2_with fail
    refine (iX a fa nT cap nf fc lo op _ h1 hop h2 hlo hlo2).mono ?_
    rintro e w1 ⟨rfl,hch⟩
    go_wp2_with fail
    refine (cd _ _ _ _).mono ?_
    rintro e w2 ⟨rfl,rfl⟩
    go_wp2
    go_ret
    exact ⟨rfl,(bi _).trans hch⟩
theorem m7 (tv fv:Value) (ls:List (List Int)) (op a x:Int) (w:World) (base:Nat) (h:ai w base tv ls) (hfv:∃ fa nf fc,fv=.slice fa nf fc) (hn:ls.length<=10000) (hls:∀ j,(ls.getD j []).length<=10000)
 (ha:(op=8 \/ op=9)->1<=a/\a<=ls.length) :
 Calls Tryz.prog 72 #[.agg #[tv,fv],op,a,x] w fun e w'=>e=.returned (.bool (wB x 0 (gB ls op a)))/\Chg () w w':=by
 obtain ⟨fa,nf,fc,rfl⟩:=hfv
 by_cases h89:op=8 \/ op=9
 ·obtain ⟨ha1,ha2⟩:=ha h89
  obtain ⟨j,rfl⟩:∃ j:Nat,a=(j:Int)+1:=⟨(a - 1).toNat,by omega⟩
  obtain ⟨g,cap,u,rfl,hle,hc,hu⟩:=h.cell j (by omega)
  obtain ⟨ua,uc,rfl⟩:=hu.slice
  have hj:(j:Int) < (ls.length:Int):=by omega
  have hgl:=(World.block_lt_of_cell? w _ hc)
  simp only at hgl
  have hlj:=hls j
  have e1:gB ls op ((j:Int)+1)=((ls.getD j []).length:Int) - 1:=by
   unfold gB flds
   rw [if_neg (by omega),if_neg (by omega)]
   have:((j:Int)+1 - 1).toNat=j:=by omega
   rw [this]
  rw [e1]
  clear e1 ha
  generalize ls.getD j []=L at *
  rcases h89 with rfl | rfl
  ·go_enter Tryz.func72,Tryz.ntmps72
   go_wp2_with fail
   refine (cd _ _ _ _).mono ?_
   rintro e w2 ⟨rfl,rfl⟩
   go_wp2
   go_ret
   exact ⟨rfl,bi _⟩
  ·go_enter Tryz.func72,Tryz.ntmps72
   go_wp2_with fail
   refine (cd _ _ _ _).mono ?_
   rintro e w2 ⟨rfl,rfl⟩
   go_wp2
   go_ret
   exact ⟨rfl,bi _⟩
 ·obtain ⟨ta,tc,rfl⟩:=h.slice
  have h8:(op == 8)=false:=by simp;omega
  have h9:(op == 9)=false:=by simp;omega
  have e1:wB x 0 (gB ls op a)=(x == 0):=by
   unfold gB wB;rw [if_pos (by omega)]
   by_cases hx:x=0
   ·subst hx;rfl
   ·have:(x == 0)=false:=by simp [hx]
    rw [this];simp;omega
  rw [e1]
  go_enter Tryz.func72,Tryz.ntmps72
  go_wp2
  go_ret
  exact ⟨rfl,bi _⟩
end Go.Proofs.YtnfnbcbadakofaaGreat
namespace Go.Proofs.YtnfnbcbadakofaaGreat
open Go.RowKit
def cC (s:Nat × Bool) (g:Bool):Nat × Bool:=if s.2=false/\g=false then (s.1 - 1,true) else s
def nxI (ns:List Int) (ls:List (List Int)) (fu lo co:Int) (s:Nat × Bool):(Int × Int × Int) × (Nat × Bool):=
 let q1:=nx ns 0 18 s
 let q2:=nx ns 0 255 q1.2
 let q3:=nx ns 0 255 (cC q2.2 (wB q2.1 (bA ls.length fu lo co q1.1).1 (bA ls.length fu lo co q1.1).2))
 ((q1.1,q2.1,q3.1),cC q3.2 (wB q3.1 0 (gB ls q1.1 q2.1)))
def nxC (ns:List Int) (ls:List (List Int)) (fu lo co:Int):Nat->Nat × Bool->List (Int × Int × Int) × (Nat × Bool)
 | 0,s=>([],s)
 | k+1,s =>
  if (nxC ns ls fu lo co k s).2.2=true then nxC ns ls fu lo co k s else
  ((nxC ns ls fu lo co k s).1++[(nxI ns ls fu lo co (nxC ns ls fu lo co k s).2).1],(nxI ns ls fu lo co (nxC ns ls fu lo co k s).2).2)
theorem qC (ns:List Int) (ls:List (List Int)) (fu lo co:Int) (k:Nat) (s:Nat × Bool):(nxC ns ls fu lo co k s).1.length<=k:=by
 induction k with
 | zero=>simp [nxC]
 | succ k ih =>
  simp only [nxC];split
  ·omega
  ·rw [List.length_append,List.length_singleton];omega
theorem p8 (ns:List Int) (ls:List (List Int)) (fu lo co:Int) (k j:Nat) (s:Nat × Bool) (h:(nxC ns ls fu lo co k s).2.2=true):nxC ns ls fu lo co (k+j) s=nxC ns ls fu lo co k s:=by
 induction j with
 | zero=>rfl
 | succ j ih=>rw [<-Nat.add_assoc,nxC,if_pos (by rw [ih];exact h),ih]
theorem fF (ns:List Int) (lo hi:Int) (s:Nat × Bool) :
 (s.2=true/\nx ns lo hi s=(lo,s)) \/ (s.2=false/\(ns.length<=s.1 \/ ns.getD s.1 0 < lo \/ hi < ns.getD s.1 0)/\nx ns lo hi s=(lo,(s.1,true))) \/
 (s.2=false/\s.1 < ns.length/\lo<=ns.getD s.1 0/\ns.getD s.1 0<=hi/\nx ns lo hi s=(ns.getD s.1 0,(s.1+1,false))):=by
 unfold nx
 by_cases h:s.2=true
 ·rw [if_pos h];exact .inl ⟨h,rfl⟩
 ·have h':s.2=false:=by simpa using h
  rw [if_neg h]
  by_cases k:ns.length<=s.1 \/ ns.getD s.1 0 < lo \/ hi < ns.getD s.1 0
  ·rw [if_pos k];exact .inr (.inl ⟨h',k,rfl⟩)
  ·rw [if_neg k];exact .inr (.inr ⟨h',by omega,by omega,by omega,rfl⟩)
theorem dY (ns:List Int) (lo hi:Int) (s:Nat × Bool) (h:lo<=hi):lo<=(nx ns lo hi s).1/\(nx ns lo hi s).1<=hi:=by
 rcases fF ns lo hi s with ⟨_,e⟩ | ⟨_,_,e⟩ | ⟨_,_,h1,h2,e⟩ <;> rw [e]
 ·exact ⟨Int.le_refl _,h⟩
 ·exact ⟨Int.le_refl _,h⟩
 ·exact ⟨h1,h2⟩
theorem bX (ns:List Int) (lo hi:Int) (s:Nat × Bool) (h:s.2=true):nx ns lo hi s=(lo,s):=by unfold nx;rw [if_pos h]
theorem pK (ns:List Int) (lo hi:Int) (s:Nat × Bool) (h:(nx ns lo hi s).2.2=false):1<=(nx ns lo hi s).2.1/\(nx ns lo hi s).2.1<=ns.length:=by
 rcases fF ns lo hi s with ⟨h0,e⟩ | ⟨_,_,e⟩ | ⟨_,h0,h1,h2,e⟩ <;> rw [e] at h ⊢
 ·simp [h0] at h
 ·simp at h
 ·exact ⟨by simp,h0⟩
structure GS (w wk:World) (rb:Nat) (b:ByteArray) (s:Nat × Bool) (base:Nat) (tv fv:Value) (ls:List (List Int)):Prop where
 rr:RR wk rb b s
 ty:ai wk base tv ls
 pb:Blk wk w.heap.size #[tv,fv] 43
 ob:Blk wk (w.heap.size+1) #[oO,(),oO,()] 93
 ch:Chg (fun k=>k=rb) w wk
 hr:rb < w.heap.size
theorem ai.rr {w w':World} {rb:Nat} {b:ByteArray} {s:Nat × Bool} {base:Nat} {v:Value} {ls:List (List Int)} (h:ai w base v ls) (hr:RR w rb b s) (k:Chg (fun k=>k=rb) w w'):ai w' base v ls:=
 h.chg k (fun _ _ hb e=>(hb.ne hr (by decide)) e) (fun _ _ hb e=>(hb.ne hr (by decide)) e)
theorem ad.rr {w w':World} {rb:Nat} {b:ByteArray} {s:Nat × Bool} {base:Nat} {v:Value} {l:List Int} (h:ad w base v l) (hr:RR w rb b s) (k:Chg (fun k=>k=rb) w w'):ad w' base v l:=
 h.chg k (fun _ _ hb e=>(hb.ne hr (by decide)) e)
theorem bG.rr {eI:TypeId} (he:eI ≠ 122) {w w':World} {rb:Nat} {b:ByteArray} {s:Nat × Bool} {base:Nat} {v:Value} {l:List (Int × Int × Int)} (h:bG eI w base v l) (hr:RR w rb b s) (k:Chg (fun k=>k=rb) w w'):bG eI w' base v l:=
 h.chg k (fun _ _ hb e=>(hb.ne hr he) e)
section
variable {w wk wk':World} {rb:Nat} {b:ByteArray} {s s':Nat × Bool} {base:Nat} {tv fv:Value} {ls:List (List Int)}
theorem GS.step (h:GS w wk rb b s base tv fv ls) (k:Chg (fun k=>k=rb) wk wk') (hrr:RR wk' rb b s'):GS w wk' rb b s' base tv fv ls:=
 have hr:=h.hr
 ⟨hrr,h.ty.rr h.rr k,h.pb.chg k (by omega),h.ob.chg k (by omega),h.ch.trans k,h.hr⟩
theorem GS.new (h:GS w wk rb b s base tv fv ls) (k:Chg () wk wk'):GS w wk' rb b s base tv fv ls:=
 ⟨Blk.chg h.rr k (fun e=>e),h.ty.new k,h.pb.chg k (fun e=>e),h.ob.chg k (fun e=>e),h.ch.trans k.ofNew,h.hr⟩
theorem GS.setG (h:GS w wk rb b s base tv fv ls) {gb:Nat} {gc:Array Value} (hb:Blk wk gb gc 93) (hg:w.heap.size+2<=gb) (i:Nat) (v:Value):GS w (wk.setCell ⟨gb,i,none⟩ v) rb b s base tv fv ls:=
 have hr:=h.hr
 ⟨Blk.setOther h.rr _ _ (by simp;omega),h.ty.set hb (by decide) (by decide) i v,h.pb.setOther _ _ (by simp;omega),h.ob.setOther _ _ (by simp;omega),h.ch.setCell _ _ (.inr (by simp;omega)),h.hr⟩
theorem GS.begin (h:RR w rb b s) (ht:ai w base tv ls) :
 GS w ((w.alloc (Obj.cells #[tv,fv] 43)).alloc (Obj.cells #[oO,(),oO,()] 93)) rb b s base tv fv ls:=
 have k:Chg () w ((w.alloc (Obj.cells #[tv,fv] 43)).alloc (Obj.cells #[oO,(),oO,()] 93)):=((Chg.refl _ w).alloc _).alloc _
 ⟨Blk.chg h k (fun e=>e),ht.new k,(Blk.new w _ 43).alloc _,Blk.new' (by simp) _ 93,k.ofNew,Blk.lt h⟩
theorem GS.grow {cv:Value} {n:Nat} {xs:List Value} (h:GS w wk rb b s base tv fv ls)
 (hcv:wk.ownsRow w.heap.size 107 3 cv n xs) (k:Chg (fun k=>some k=cv.ownBlock) wk wk'):GS w wk' rb b s base tv fv ls:=by
 have ne:∀ g cs e,Blk wk g cs e->e ≠ 107->¬ some g=cv.ownBlock:=fun g cs e hb he hg=>by
  obtain ⟨cs',hb'⟩:=ay hcv hg.symm
  exact hb.ne hb' he rfl
 exact ⟨Blk.chg h.rr k (ne _ _ _ h.rr (by decide)),h.ty.chg k (fun g cs hb=>ne g cs 3 hb (by decide)) (fun g cs hb=>ne g cs 23 hb (by decide)),
  h.pb.chg k (ne _ _ _ h.pb (by decide)),h.ob.chg k (ne _ _ _ h.ob (by decide)),h.ch.trans' k (fun i hi e=>by have:=(hcv.lt i e.symm).1;omega),h.hr⟩
end
theorem sR:∃ i:TypeInfo,Tryz.prog.info? 107=some i/\i.zero=some (.agg #[oO,oO,oO])/\i.size=3/\i.bytes=24:=cO (by kernel_rfl)
end Go.Proofs.YtnfnbcbadakofaaGreat
