import Derived.Test.YtnfnbcbadakofaaRdec
namespace Go.Proofs.Ytnfnbcbadakofaa
open Go.RowKit
set_option maxHeartbeats 1000000
set_option maxRecDepth 100000
theorem InsV.form {eI:TypeId} {w:World} {base:Nat} {v:Value} {c:List (Int × Int × Int)} (h:InsV eI w base v c) (hl:0 < c.length) :
 ∃ g cap,v=.slice (some ⟨g,0,none⟩) c.length cap/\base<=g/\c.length<=cap/\cap<=maxLen/\(∀ j (hj:j < c.length),w.cell? ⟨g,j * 3,none⟩=some (.int .i64 c[j].1)/\w.cell? ⟨g,j * 3+1,none⟩=some (.int .i64 c[j].2.1)/\w.cell? ⟨g,j * 3+2,none⟩=some (.int .i64 c[j].2.2)):=by
 have hc:=fun g=>World.ownsRow.cells (g:=g) h
 rcases h.2 with ⟨_,h0⟩ | ⟨g,cap,cur,rfl,hb,hgg,hle,hcap,_⟩
 ·omega
 ·refine ⟨g,cap,rfl,hb,hle,hcap,fun j hj=>?_⟩
  have hadd:∀ j,(⟨g,0,none⟩:Addr).add j=⟨g,j,none⟩:=by intro j;unfold Addr.add;split <;> simp_all
  have key:∀ (c:List (Int × Int × Int)) (j:Nat) (hj:j < c.length),(insC c)[j * 3]?=some (.int .i64 c[j].1)/\(insC c)[j * 3+1]?=some (.int .i64 c[j].2.1)/\(insC c)[j * 3+2]?=some (.int .i64 c[j].2.2):=by
   intro c
   induction c with
   | nil=>intro j hj;simp at hj
   | cons x c ih =>
    intro j hj
    have e:insC (x::c)=.int .i64 x.1::.int .i64 x.2.1::.int .i64 x.2.2::insC c:=by simp [insC]
    rcases j with _ | j
    ·rw [e];simp
    ·have:=ih j (by simpa using hj)
     rw [e,show (j+1) * 3=j * 3+3 by omega]
     simpa using this
  obtain ⟨k1,k2,k3⟩:=key c j hj
  have a1:=hc g rfl _ _ k1
  have a2:=hc g rfl _ _ k2
  have a3:=hc g rfl _ _ k3
  rw [hadd] at a1 a2 a3
  exact ⟨a1,a2,a3⟩
end Go.Proofs.Ytnfnbcbadakofaa
