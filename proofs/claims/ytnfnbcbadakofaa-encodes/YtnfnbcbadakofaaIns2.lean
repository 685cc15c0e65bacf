import Derived.Test.YtnfnbcbadakofaaIns
namespace Go.Proofs.Ytnfnbcbadakofaa
open Go.RowKit
set_option maxHeartbeats 400000
set_option maxRecDepth 100000
def TypesV (w:World) (base:Nat) (v:Value) (ls:List (List Int)):Prop:=
 ∃ vs:List Value,w.ownsRow base 47 1 v ls.length vs/\∀ j u,vs[j]?=some u->IntsV w base u (ls.getD j [])
theorem TypesV.slice {w:World} {base:Nat} {v:Value} {ls:List (List Int)} (h:TypesV w base v ls):∃ a cap,v=.slice a ls.length cap:=by
 obtain ⟨vs,h,_⟩:=h
 rcases h.2 with ⟨h1,h2⟩ | ⟨g,cap,cur,rfl,_⟩
 ·exact ⟨none,0,by rw [h1,h2]⟩
 ·exact ⟨_,_,rfl⟩
theorem TypesV.mono {w:World} {base base':Nat} {v:Value} {ls:List (List Int)} (h:TypesV w base v ls) (hb:base'<=base):TypesV w base' v ls:=by
 obtain ⟨vs,h,k⟩:=h
 exact ⟨vs,own_mono h hb,fun j u hj=>own_mono (k j u hj) hb⟩
theorem TypesV.chg {S:Nat->Prop} {w w':World} {base:Nat} {v:Value} {ls:List (List Int)} (h:TypesV w base v ls) (k:Chg S w w') (h3:∀ g cs,Blk w g cs 3->¬ S g) (h47:∀ g cs,Blk w g cs 47->¬ S g):TypesV w' base v ls:=by
 obtain ⟨vs,h,hk⟩:=h
 exact ⟨vs,own_chg h k (fun g hg=>by obtain ⟨cs,hb⟩:=own_blk h hg;exact h47 g cs hb),fun j u hj=>own_chg (hk j u hj) k (fun g hg=>by obtain ⟨cs,hb⟩:=own_blk (hk j u hj) hg;exact h3 g cs hb)⟩
theorem TypesV.cell {w:World} {base:Nat} {v:Value} {ls:List (List Int)} (h:TypesV w base v ls) (j:Nat) (hj:j < ls.length) :
 ∃ g cap u,v=.slice (some ⟨g,0,none⟩) ls.length cap/\ls.length<=cap/\w.cell? ⟨g,j,none⟩=some u/\IntsV w base u (ls.getD j []):=by
 obtain ⟨vs,h,hk⟩:=h
 have hc:=fun g=>World.ownsRow.cells (g:=g) h
 have hlen:vs.length=ls.length:=by have:=h.1;omega
 rcases h.2 with ⟨_,h0⟩ | ⟨g,cap,cur,rfl,hb,hgg,hle,hcap,_⟩
 ·omega
 ·obtain ⟨u,hu⟩:∃ u,vs[j]?=some u:=⟨vs[j],by simp⟩
  refine ⟨g,cap,u,rfl,hle,?_,hk j u hu⟩
  have:=hc g rfl j u hu
  have hadd:(⟨g,0,none⟩:Addr).add j=⟨g,j,none⟩:=by unfold Addr.add;split <;> simp_all
  rwa [hadd] at this
def flds (ls:List (List Int)) (a:Int):List Int:=if a < 1 \/ (ls.length:Int) < a then [] else ls.getD (a - 1).toNat []
theorem fieldsOf_no (a:Option Addr) (n cap:Nat) (t:Int) (w:World) (h:t < 1 \/ (n:Int) < t) :
 Calls Try.prog 105 #[.slice a n cap,t] w fun e w'=>e=.returned (.slice none 0 0)/\w'=w:=by
 by_cases h1:t < 1
 ·clear h
  go_enter Try.func105,Try.ntmps105
  go_wp2
  go_ret
  exact ⟨rfl,rfl⟩
 ·have h2:(n:Int) < t:=by omega
  clear h
  go_enter Try.func105,Try.ntmps105
  go_wp2
  go_ret
  exact ⟨rfl,rfl⟩
theorem fieldsOf_yes (g n cap j:Nat) (u:Value) (w:World) (h:j < n) (hn:n<=10000) (hc:w.cell? ⟨g,j,none⟩=some u) (hu:∃ a m c,u=.slice a m c) :
 Calls Try.prog 105 #[.slice g n cap,((j:Int)+1:Int)] w fun e w'=>e=.returned u/\w'=w:=by
 obtain ⟨a,m,c,rfl⟩:=hu
 have h':(j:Int) < n:=by omega
 go_enter Try.func105,Try.ntmps105
 go_wp2
 go_ret
 exact ⟨rfl,rfl⟩
theorem fieldsOf_any (tv:Value) (ls:List (List Int)) (t:Int) (w:World) (base:Nat) (h:TypesV w base tv ls) (hn:ls.length<=10000) :
 Calls Try.prog 105 #[tv,t] w fun e w'=>∃ u,e=.returned u/\IntsV w base u (flds ls t)/\w'=w:=by
 by_cases ht:t < 1 \/ (ls.length:Int) < t
 ·obtain ⟨a,cap,rfl⟩:=h.slice
  refine (fieldsOf_no a _ cap t w ht).mono ?_
  rintro e w' ⟨rfl,rfl⟩
  refine ⟨_,rfl,?_,rfl⟩
  unfold flds;rw [if_pos ht]
  exact World.ownsRow_nil _ _ _ _
 ·obtain ⟨j,rfl⟩:∃ j:Nat,t=(j:Int)+1:=⟨(t - 1).toNat,by omega⟩
  obtain ⟨g,cap,u,rfl,hle,hc,hu⟩:=h.cell j (by omega)
  obtain ⟨a,c,hs⟩:=hu.slice
  refine (fieldsOf_yes g _ cap j u w (by omega) hn hc ⟨a,_,c,hs⟩).mono ?_
  rintro e w' ⟨rfl,rfl⟩
  refine ⟨_,rfl,?_,rfl⟩
  unfold flds;rw [if_neg ht]
  have e1:((j:Int)+1 - 1).toNat=j:=by omega
  rw [e1]
  exact hu
def gB (ls:List (List Int)) (op a:Int):Int:=if op ≠ 8/\op ≠ 9 then 0 else ((flds ls a).length:Int) - 1
theorem greatestB_any (tv:Value) (ls:List (List Int)) (fu lo co op a:Int) (w:World) (base:Nat) (h:TypesV w base tv ls) (hn:ls.length<=10000) (hf:(flds ls a).length<=10000) :
 Calls Try.prog 136 #[.agg #[tv,fu,lo,co],op,a] w fun e w'=>e=.returned (.int .i64 (gB ls op a))/\Chg () w w':=by
 by_cases h8:op=8
 ·subst h8
  go_enter Try.func136,Try.ntmps136
  go_wp2_with fail
  refine (fieldsOf_any tv ls a _ base (h.chg (fin_new0 _) (fun _ _ _ e=>e) (fun _ _ _ e=>e)) hn).mono ?_
  rintro e w1 ⟨u,rfl,hu,rfl⟩
  obtain ⟨x,c,rfl⟩:=hu.slice
  go_wp2
  go_ret
  exact ⟨rfl,fin_new0 _⟩
 ·by_cases h9:op=9
  ·subst h9
   go_enter Try.func136,Try.ntmps136
   go_wp2_with fail
   refine (fieldsOf_any tv ls a _ base (h.chg (fin_new0 _) (fun _ _ _ e=>e) (fun _ _ _ e=>e)) hn).mono ?_
   rintro e w1 ⟨u,rfl,hu,rfl⟩
   obtain ⟨x,c,rfl⟩:=hu.slice
   go_wp2
   go_ret
   exact ⟨rfl,fin_new0 _⟩
  ·have h8':(op != 8)=true:=by simp [h8]
   have h9':(op != 9)=true:=by simp [h9]
   have e1:gB ls op a=0:=by simp [gB,h8,h9]
   rw [e1]
   clear e1 h8 h9
   go_enter Try.func136,Try.ntmps136
   go_wp2
   go_ret
   exact ⟨rfl,fin_new0 _⟩
end Go.Proofs.Ytnfnbcbadakofaa
