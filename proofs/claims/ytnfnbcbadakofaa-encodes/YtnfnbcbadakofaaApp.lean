import Derived.Test.YtnfnbcbadakofaaChk3
namespace Go.Proofs.Ytnfnbcbadakofaa
open Go.RowKit
theorem wp_app {ops:Array Oper} {rest:List Oper} {o:Oper} {a:Act} {Q:Exit->Act->World->Prop} {w:World} (hgd:o.guard=none) (s x:Operand)
 (ho:o.op=.call { callee:=.builtin .append,args:=#[s,x],argTypes:=#[47,47] }) (base:Nat) (v u:Value) (l l':List Int) (hs:a.eval s=v) (hx:a.eval x=u) (hown:IntsV w base v l) (hu:RdI w u l')
 (hlen:l.length+l'.length<=10000000) (hbase:base<=w.heap.size)
 (h:∀ x n c w',n=l.length+l'.length->IntsV w' base (.slice x n c) (l++l')->Chg (fun j=>some j=v.ownBlock) w w'->wpList Try.prog ops Q rest (a.put o.dst (.slice x n c)) w'):wpList Try.prog ops Q (o::rest) a w:=by
 obtain ⟨i,hi1,hi2,hi3,hi4⟩:=info3
 rcases hu with ⟨rfl,rfl⟩ | ⟨g,off,c,rfl,hle,hcap,hc⟩
 ·refine wpList_append_own_none hgd s x 47 ho base 3 i 1 Try.underlying47 hi1 v _ _ hs hown hx ?_
  obtain ⟨b,c,hv⟩:=hown.slice
  have:=h b l.length c w (by simp) (by rw [List.append_nil];rw [hv] at hown;exact hown) (Chg.refl _ w)
  rw [hv];exact this
 ·refine wpList_append_own _ hgd s x 47 ho base 3 i (.int .i64 0) 1 8 Try.underlying47 hi1 hi2 hi3 hi4 rfl (by decide) v _ _ hs hown ⟨g,off,none⟩ l'.length c (ints l') hx (by simp [ints]) (RdI.news hc) (fun u hu=>by simp only [ints,List.mem_map] at hu;obtain ⟨y,_,rfl⟩:=hu;rfl) (by unfold maxLen;omega) (by omega) hbase ?_
  intro v' w' hown' hgrow _
  have hI:IntsV w' base v' (l++l'):=by unfold IntsV;simpa [ints] using hown'
  obtain ⟨b,c',hv⟩:=hI.slice
  rw [hv] at hI ⊢
  exact h b _ c' w' (by simp) hI (chg_of_grown hgrow |>.mono (fun j _ e=>e))
end Go.Proofs.Ytnfnbcbadakofaa
