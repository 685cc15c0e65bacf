import Derived.Test.YtnfnbcbadakofaaChk
import Derived.Deep.RegionWith
namespace Go.Proofs.Ytnfnbcbadakofaa
open Go.RowKit
set_option maxHeartbeats 400000
set_option maxRecDepth 100000
theorem FuncsV.formS {eF eI:TypeId} {w:World} {base:Nat} {v:Value} {fs:List Fn} (h:FuncsV eF eI w base v fs) (hl:0 < fs.length) :
 ∃ g cap,v=.slice (some ⟨g,0,none⟩) fs.length cap/\fs.length<=cap/\(∀ j (hj:j < fs.length),∃ lv cv,w.cell? ⟨g,j * 4,none⟩=some (.int .i64 fs[j].args)/\w.cell? ⟨g,j * 4+1,none⟩=some lv /\
  w.cell? ⟨g,j * 4+2,none⟩=some (.int .i64 fs[j].result)/\w.cell? ⟨g,j * 4+3,none⟩=some cv/\IntsV w base lv fs[j].locals/\InsV eI w base cv fs[j].code):=by
 obtain ⟨xs,h0,h,hx⟩:=h
 have hc:=fun g=>World.ownsRow.cells (g:=g) h
 subst h0
 simp only [List.length_map] at *
 rcases h.2 with ⟨_,h0⟩ | ⟨g,cap,cur,rfl,hb,hgg,hle,hcap,_⟩
 ·omega
 ·refine ⟨g,cap,rfl,hle,fun j hj=>?_⟩
  have hadd:∀ j,(⟨g,0,none⟩:Addr).add j=⟨g,j,none⟩:=by intro j;unfold Addr.add;split <;> simp_all
  have key:∀ (c:List (Fn × Value × Value)) (j:Nat) (hj:j < c.length),(fnC c)[j * 4]?=some (.int .i64 c[j].1.args)/\(fnC c)[j * 4+1]?=some c[j].2.1/\(fnC c)[j * 4+2]?=some (.int .i64 c[j].1.result)/\(fnC c)[j * 4+3]?=some c[j].2.2:=by
   intro c
   induction c with
   | nil=>intro j hj;simp at hj
   | cons x c ih =>
    intro j hj
    have e:fnC (x::c)=.int .i64 x.1.args::x.2.1::.int .i64 x.1.result::x.2.2::fnC c:=by simp [fnC]
    rcases j with _ | j
    ·rw [e];simp
    ·have:=ih j (by simpa using hj)
     rw [e,show (j+1) * 4=j * 4+4 by omega]
     simpa using this
  obtain ⟨k1,k2,k3,k4⟩:=key xs j hj
  have a1:=hc g rfl _ _ k1
  have a2:=hc g rfl _ _ k2
  have a3:=hc g rfl _ _ k3
  have a4:=hc g rfl _ _ k4
  rw [hadd] at a1 a2 a3 a4
  have hm:=hx xs[j] (List.getElem_mem hj)
  exact ⟨xs[j].2.1,xs[j].2.2,by simpa using a1,a2,by simpa using a3,a4,by simpa using hm.1,by simpa using hm.2⟩
end Go.Proofs.Ytnfnbcbadakofaa
