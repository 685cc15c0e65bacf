import Derived.Test.YtnfnbcbadakofaaTxt
import Derived.Test.YtnfnbcbadakofaaGfn
namespace Go.Proofs.Ytnfnbcbadakofaa
open Go.RowKit
theorem IntsV.rdA {w:World} {base:Nat} {v:Value} {l:List Int} (h:IntsV w base v l):RdA w v l:=by
 by_cases h0:0 < l.length
 ·obtain ⟨g,cap,hv,_,hle,hcap,hc⟩:=h.form h0
  refine .inr ⟨⟨g,0,none⟩,cap,hv,hle,hcap,fun j hj=>?_⟩
  have hadd:(⟨g,0,none⟩:Addr).add j=⟨g,j,none⟩:=by unfold Addr.add;split <;> simp_all
  rw [hadd];exact hc j hj
 ·have hl:l=[]:=List.eq_nil_of_length_eq_zero (by omega)
  rcases h.2 with ⟨hv,_⟩ | ⟨g,cap,cur,hv,_,_,hle,hcap,_⟩
  ·exact .inl ⟨hv,hl⟩
  ·exact .inr ⟨⟨g,0,none⟩,cap,hv,hle,hcap,fun j hj=>by omega⟩
set_option maxHeartbeats 1000000 in
set_option maxRecDepth 100000 in
theorem bytes_rd (v:Value) (ns:List Int) (w:World) (hv:RdA w v ns) (hl:ns.length<=10000000) :
 Calls Try.prog 72 #[v] w fun e w'=>e=.returned (.string (strOfNums (lows ns)))/\Chg () w w':=by
 obtain ⟨va,vc,rfl⟩:=hv.slice
 have HV:=hid hv
 clear hv
 go_enter Try.func72,Try.ntmps72
 go_wp2
 go_loopw [3,4] (fun u iv wr=>∃ (k:Nat) (L:List Int),k<=ns.length/\iv=.int .i64 (k:Int)/\L=lows (ns.take k)/\u=.string (strOfNums L)/\Chg () w wr) (fun _ iv _=>ns.length - (intOf iv).toNat)
 case atStart=>exact ⟨0,[],Nat.zero_le _,rfl,rfl,rfl,Chg.refl _ _⟩
 case round =>
  obtain ⟨k,L,hk,rfl,hL,rfl,kk⟩:=hrel
  have HL:=hid hL
  clear hL
  by_cases hlt:k < ns.length
  ·have hlt':(k:Int) < (ns.length:Int):=by omega
   obtain ⟨a,c',hve,_,_,hc⟩:=(HV.out.new kk).form (by omega)
   simp only [Value.slice.injEq] at hve
   obtain ⟨rfl,_,rfl⟩:=hve
   have y:=hc k hlt
   have HS:Hid (lows (ns.take (k+1))=lows (ns.take k)++[ns.getD k 0 % 256]):=by
    show lows (ns.take (k+1))=lows (ns.take k)++[ns.getD k 0 % 256]
    unfold lows
    rw [List.take_succ_eq_append_getElem hlt,List.map_append,List.getD_eq_getElem?_getD,List.getElem?_eq_getElem hlt];rfl
   clear hc
   generalize ns.getD k 0=t at *
   have hcv:=bytes_conv (w:=wr.alloc (Obj.cells #[.int .u8 (t % 256)] 5)) (base:=0) (v:=.slice wr.heap.size 1 1) (l:=[t % 256])
    ⟨rfl,.inr ⟨wr.heap.size,1,#[.int .u8 (t % 256)],rfl,Nat.zero_le _,heap_alloc_new wr _,Nat.le_refl _,by unfold maxLen;omega,rfl,rfl⟩⟩
   have hLl:(strOfNums L).size<=10000000:=by rw [strOfNums_size,HL.out];unfold lows;rw [List.length_map,List.length_take];omega
   have hT1:(strOfNums [t % 256]).size=1:=strOfNums_size _
   go_wp2
   refine ⟨⟨k+1,L++[t % 256],by omega,rfl,by rw [HS.out,HL.out],?_,kk.alloc _⟩,by simp [intOf];omega⟩
   rw [strOfNums_append]
  ·have hkk:k=ns.length:=by omega
   have hlt':(ns.length:Int)<=(k:Int):=by omega
   have HE:Hid (L=lows ns):=by
    show L=lows ns
    rw [HL.out,hkk,List.take_length]
   clear hkk
   go_wp2
   go_ret
   exact ⟨by rw [<-HE.out];rfl,kk⟩
theorem wp_appA {ops:Array Oper} {rest:List Oper} {o:Oper} {a:Act} {Q:Exit->Act->World->Prop} {w:World} (hgd:o.guard=none) (s x:Operand)
 (ho:o.op=.call { callee:=.builtin .append,args:=#[s,x],argTypes:=#[47,47] }) (base:Nat) (v u:Value) (l l':List Int) (hs:a.eval s=v) (hx:a.eval x=u) (hown:IntsV w base v l) (hu:RdA w u l')
 (hlen:l.length+l'.length<=17592186044416) (hbase:base<=w.heap.size)
 (h:∀ x n c w',n=l.length+l'.length->IntsV w' base (.slice x n c) (l++l')->Chg (fun j=>some j=v.ownBlock) w w'->wpList Try.prog ops Q rest (a.put o.dst (.slice x n c)) w'):wpList Try.prog ops Q (o::rest) a w:=by
 obtain ⟨i,hi1,hi2,hi3,hi4⟩:=info3
 rcases hu with ⟨rfl,rfl⟩ | ⟨ad,c,rfl,hle,hcap,hc⟩
 ·refine wpList_append_own_none hgd s x 47 ho base 3 i 1 Try.underlying47 hi1 v _ _ hs hown hx ?_
  obtain ⟨b,c,hv⟩:=hown.slice
  have:=h b l.length c w (by simp) (by rw [List.append_nil];rw [hv] at hown;exact hown) (Chg.refl _ w)
  rw [hv];exact this
 ·have hnews:∀ j u,(ints l')[j]?=some u->w.cell? (ad.add j)=some u:=by
   intro j u hu
   have hj:j < l'.length:=by
    rcases Nat.lt_or_ge j l'.length with h | h
    ·exact h
    ·rw [List.getElem?_eq_none (by simpa [ints] using h)] at hu;cases hu
   rw [hc j hj]
   simp [ints,List.getElem?_eq_getElem hj] at hu
   rw [List.getD_eq_getElem?_getD,List.getElem?_eq_getElem hj]
   simpa using hu
  refine wpList_append_own _ hgd s x 47 ho base 3 i (.int .i64 0) 1 8 Try.underlying47 hi1 hi2 hi3 hi4 rfl (by decide) v _ _ hs hown ad l'.length c (ints l') hx (by simp [ints]) hnews (fun u hu=>by simp only [ints,List.mem_map] at hu;obtain ⟨y,_,rfl⟩:=hu;rfl) (by unfold maxLen;omega) (by omega) hbase ?_
  intro v' w' hown' hgrow _
  have hI:IntsV w' base v' (l++l'):=by unfold IntsV;simpa [ints] using hown'
  obtain ⟨b,c',hv⟩:=hI.slice
  rw [hv] at hI ⊢
  exact h b _ c' w' (by simp) hI (chg_of_grown hgrow |>.mono (fun j _ e=>e))
end Go.Proofs.Ytnfnbcbadakofaa
