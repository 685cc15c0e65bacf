import Derived.Test.YtnfnbcbadakofaaChk3
import Derived.Laws.BytesArg
namespace Go.Proofs.Ytnfnbcbadakofaa
open Go.RowKit
set_option maxHeartbeats 1000000
set_option maxRecDepth 100000
def BytesV (w:World) (base:Nat) (v:Value) (l:List Int):Prop:=w.ownsRow base 5 1 v l.length (l.map (Value.int .u8))
theorem BytesV.slice {w:World} {base:Nat} {v:Value} {l:List Int} (h:BytesV w base v l):∃ a cap,v=.slice a l.length cap:=by
 rcases h.2 with ⟨h1,h2⟩ | ⟨g,cap,cur,rfl,_⟩
 ·exact ⟨none,0,by rw [h1,h2]⟩
 ·exact ⟨_,_,rfl⟩
theorem info5:∃ i:TypeInfo,Try.prog.info? 5=some i/\i.zero=some (.int .u8 0)/\i.size=1/\i.bytes=1:=info_of (by kernel_rfl)
def lows (ns:List Int):List Int:=ns.map (· % 256)
theorem lows_id {ns:List Int} (h:∀ n ∈ ns,0<=n/\n<=255):lows ns=ns:=by
 unfold lows
 induction ns with
 | nil=>rfl
 | cons n ns ih =>
  rw [List.map_cons,ih (fun m hm=>h m (by simp [hm]))]
  have:=h n (by simp)
  congr 1;omega
theorem bytes_conv {w:World} {base:Nat} {v:Value} {l:List Int} (h:BytesV w base v l):(convert 151 9 v).run Try.prog w=.ok (.string (strOfNums l)) w:=by
 rcases h.2 with ⟨rfl,h0⟩ | ⟨g,cap,cur,rfl,hb,hgg,hle,hcap,_⟩
 ·have:l=[]:=List.eq_nil_of_length_eq_zero h0
  subst this
  exact run_convert_bytes_nil (P:=Try.prog) w 151 5 Try.underlying151 Try.underlying5 0 0 9 Try.underlying9
 ·have hc:=World.ownsRow.cells (g:=g) h rfl
  refine run_convert_bytes_arg (P:=Try.prog) w 151 5 Try.underlying151 Try.underlying5 g 0 l.length cap l rfl (fun j hj=>?_) 9 Try.underlying9
  have:=hc j (.int .u8 (l.getD j 0)) (by simp [List.getElem?_eq_getElem hj])
  have hadd:(⟨g,0,none⟩:Addr).add j=⟨g,j,none⟩:=by unfold Addr.add;split <;> simp_all
  rw [hadd] at this
  rw [Nat.zero_add];exact this
theorem textOf_any (v:Value) (ns:List Int) (w:World) (b1:Nat) (hv:IntsV w b1 v ns) (hl:ns.length<=10000) :
 Calls Try.prog 48 #[v] w fun e w'=>e=.returned (.string (strOfNums (lows ns)))/\Chg () w w':=by
 obtain ⟨va,vc,rfl⟩:=hv.slice
 obtain ⟨i,hi1,hi2,hi3,hi4⟩:=info5
 have Hi1:=hid hi1
 have Hi2:=hid hi2
 have Hi3:=hid hi3
 have Hi4:=hid hi4
 clear hi1 hi2 hi3 hi4
 have HV:=hid hv
 clear hv
 go_enter Try.func48,Try.ntmps48
 go_wp2
 go_loopw [3,8] (fun u iv wr=>∃ (k:Nat) (L:List Int),k<=ns.length/\iv=.int .i64 (k:Int)/\L=lows (ns.take k)/\BytesV wr w.heap.size u L/\Chg () w wr) (fun _ iv _=>ns.length - (intOf iv).toNat)
 case atStart=>exact ⟨0,[],Nat.zero_le _,rfl,rfl,World.ownsRow_nil _ _ _ _,Chg.refl _ _⟩
 case round =>
  obtain ⟨k,L,hk,rfl,hL,hu,kk⟩:=hrel
  have HL:=hid hL
  clear hL
  obtain ⟨ua,uc,rfl⟩:=hu.slice
  by_cases hlt:k < ns.length
  ·have hlt':(k:Int) < (ns.length:Int):=by omega
   obtain ⟨g,c',hve,_,_,_,hc⟩:=(IntsV.chg HV.out kk (fun _ _ _ e=>e)).form (by omega)
   simp only [Value.slice.injEq] at hve
   obtain ⟨rfl,_,rfl⟩:=hve
   have y:=hc k hlt
   have HS:Hid (lows (ns.take (k+1))=lows (ns.take k)++[ns.getD k 0 % 256]):=by
    show lows (ns.take (k+1))=lows (ns.take k)++[ns.getD k 0 % 256]
    unfold lows
    rw [List.take_succ_eq_append_getElem hlt,List.map_append,List.getD_eq_getElem?_getD,List.getElem?_eq_getElem hlt];rfl
   have hLl:L.length<=10000:=by rw [HL.out];unfold lows;rw [List.length_map,List.length_take];omega
   have hsz:=kk.size
   have hgl:g < wr.heap.size:=World.block_lt_of_cell? wr _ y
   clear hc
   generalize ns.getD k 0=t at *
   go_wp2_with (at_builtin;refine wpList_append_lies _ rfl _ _ 151 rfl w.heap.size 5 i (.int .u8 0) 1 1 Try.underlying151 Hi1.out Hi2.out Hi3.out Hi4.out rfl (by decide) _ _ _ rfl (World.ownsRow.alloc hu _) ⟨wr.heap.size,0,none⟩ 1 1 [.int .u8 (t % 256)] rfl rfl ?c1 ?c2 (by decide) ?c3 ?c4 ?c5 _ rfl ?_)
   case c1=>exact cell_one_new _ _ _
   case c2=>intro u hu;simp at hu;subst hu;rfl
   case c3=>unfold maxLen;omega
   case c4=>omega
   case c5=>simp;omega
   ·intro g2 cap2 w2 hown2 hgrow hat hlt2
    have hch2:Chg () w w2:=((kk.alloc _).grown hgrow (fun k hk=>.inr (hu.lt k hk).1))
    clear hgrow hat
    go_wp2
    refine ⟨⟨k+1,L++[t % 256],by omega,rfl,by rw [HS.out,HL.out],?_,hch2⟩,by simp [intOf];omega⟩
    unfold BytesV
    simpa using hown2
  ·have hkk:k=ns.length:=by omega
   have hlt':(ns.length:Int)<=(k:Int):=by omega
   have HE:Hid (L=lows ns):=by
    show L=lows ns
    rw [HL.out,hkk,List.take_length]
   have hcv:=bytes_conv hu
   clear hkk
   go_wp2
   go_ret
   exact ⟨by rw [<-HE.out];rfl,kk⟩
theorem strOfNums_append (a b:List Int):strOfNums (a++b)=strOfNums a++strOfNums b:=by
 apply ByteArray.ext
 simp [strOfNums]
end Go.Proofs.Ytnfnbcbadakofaa
