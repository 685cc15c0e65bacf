import Derived.Test.YtnfnbcbadakofaaMct
import Derived.Deep.DeepAppendRoom
import Derived.Test.YtnfnbcbadakofaaChk3
import Derived.Laws.BytesArg
import Derived.Test.YtnfnbcbadakofaaGfn
namespace Go.Proofs.Ytnfnbcbadakofaa
open Go.RowKit
def Lies (w:World) (v v':Value):Prop:=v'.ownBlock=v.ownBlock \/ ∃ g,v'.ownBlock=some g/\w.heap.size<=g
theorem Lies.refl (w:World) (v:Value):Lies w v v:=.inl rfl
theorem wp_appL {ops:Array Oper} {rest:List Oper} {o:Oper} {a:Act} {Q:Exit->Act->World->Prop} {w:World} (hgd:o.guard=none) (s x:Operand)
 (ho:o.op=.call { callee:=.builtin .append,args:=#[s,x],argTypes:=#[47,47] }) (base:Nat) (v u:Value) (l l':List Int) (hs:a.eval s=v) (hx:a.eval x=u) (hown:IntsV w base v l) (hu:RdI w u l')
 (hlen:l.length+l'.length<=10000000) (hbase:base<=w.heap.size)
 (h:∀ x n c w',n=l.length+l'.length->IntsV w' base (.slice x n c) (l++l')->Chg (fun j=>some j=v.ownBlock) w w'->Lies w v (.slice x n c)->wpList Try.prog ops Q rest (a.put o.dst (.slice x n c)) w'):wpList Try.prog ops Q (o::rest) a w:=by
 obtain ⟨i,hi1,hi2,hi3,hi4⟩:=info3
 rcases hu with ⟨rfl,rfl⟩ | ⟨g,off,c,rfl,hle,hcap,hc⟩
 ·refine wpList_append_own_none hgd s x 47 ho base 3 i 1 Try.underlying47 hi1 v _ _ hs hown hx ?_
  obtain ⟨b,c,hv⟩:=hown.slice
  have:=h b l.length c w (by simp) (by rw [List.append_nil];rw [hv] at hown;exact hown) (Chg.refl _ w) (.inl (by rw [hv]))
  rw [hv];exact this
 ·by_cases h0:l'=[]
  ·subst h0
   rcases hown.2 with ⟨hv,h0⟩ | ⟨g0,cap,cur,hv,_,_,hle0,hcap0,_⟩
   ·refine wpList_append_own _ hgd s x 47 ho base 3 i (.int .i64 0) 1 8 Try.underlying47 hi1 hi2 hi3 hi4 rfl (by decide) v _ _ hs hown ⟨g,off,none⟩ 0 c [] hx rfl (fun j u hu=>by simp at hu) (fun u hu=>by simp at hu) (by unfold maxLen;simp at hlen;omega) (by simp at hlen;omega) hbase ?_
    intro v' w' hown' hgrow hnil
    have e:=hnil.2 ⟨hv,rfl⟩
    subst e
    have hI:IntsV w' base (.slice none 0 0) (l++[]):=by
     have:l=[]:=List.eq_nil_of_length_eq_zero h0
     subst this;exact World.ownsRow_nil _ _ _ _
    exact h none 0 0 w' (by simp [h0]) hI (chg_of_grown hgrow |>.mono (fun j _ e=>e)) (.inl (by rw [hv]))
   ·refine wpList_append_own_spare (w:=w) hgd s x 47 ho base 3 i 1 Try.underlying47 hi1 hi3 g0 l.length cap (ints l) (by rw [hs,hv]) (by rw [<-hv];exact hown) ⟨g,off,none⟩ 0 c [] hx rfl (fun j u hu=>by simp at hu) (fun u hu=>by simp at hu) (by omega) ?_
    intro w' hown' hgrow
    have hI:IntsV w' base (.slice (some ⟨g0,0,none⟩) (l.length+0) cap) (l++[]):=by unfold IntsV;simpa [ints] using hown'
    exact h _ _ cap w' (by simp) hI (by rw [hv];exact (chg_of_grown hgrow).mono (fun j _ e=>e)) (.inl (by rw [hv];rfl))
  ·refine wpList_append_lies w hgd s x 47 ho base 3 i (.int .i64 0) 1 8 Try.underlying47 hi1 hi2 hi3 hi4 rfl (by decide) v _ _ hs hown ⟨g,off,none⟩ l'.length c (ints l') hx (by simp [ints]) (RdI.news hc) (fun u hu=>by simp only [ints,List.mem_map] at hu;obtain ⟨y,_,rfl⟩:=hu;rfl) (List.length_pos_iff.2 h0) (by unfold maxLen;omega) (by omega) hbase _ rfl ?_
   intro g' cap w' hown' hgrow hlies _
   have hI:IntsV w' base (.slice (some ⟨g',0,none⟩) (l.length+l'.length) cap) (l++l'):=by unfold IntsV;simpa [ints] using hown'
   refine h _ _ cap w' rfl hI (chg_of_grown hgrow |>.mono (fun j _ e=>e)) ?_
   rcases hlies with q | q
   ·exact .inl (by rw [q];rfl)
   ·exact .inr ⟨g',rfl,by omega⟩
structure FrEnd (S:Nat->Prop) (w w':World) (b off:Nat) (cs:Array Value) (e:TypeId) (base:Nat) (kv:Value) (l:List Int):Prop where
 mk ::
 ex:∃ kv',Blk w' b (cs.setIfInBounds (off+3) kv') e/\Lies w kv kv'/\IntsV w' base kv' l
 ch:Chg S w w'
theorem arr_same {cs:Array Value} {i:Nat} {v:Value} (h:cs[i]?=some v):cs.setIfInBounds i v=cs:=by
 apply Array.ext_getElem?
 intro j
 rw [Array.getElem?_setIfInBounds]
 by_cases hj:i=j
 ·subst hj
  rw [if_pos rfl]
  have:=(Array.getElem?_eq_some_iff.1 h).1
  rw [if_pos this,h]
 ·rw [if_neg hj]
set_option maxHeartbeats 1000000 in
set_option maxRecDepth 100000 in
theorem pop_any (b off:Nat) (cs:Array Value) (e:TypeId) (kv:Value) (l:List Int) (base:Nat) (w:World) (hb:Blk w b cs e) (hk:cs[off+3]?=some kv) (he:3 ≠ e) (hI:IntsV w base kv l) (hl:l.length<=10000) :
 Calls Try.prog 111 #[.pointer (some ⟨b,off,none⟩)] w fun ex w'=>ex=.returned (.int .i64 (popV l))/\FrEnd (fun j=>j=b) w w' b off cs e base kv l.dropLast:=by
 have hne:=own_ne hI hb he
 have x3:w.cell? ⟨b,off+3,none⟩=some kv:=(hb.cell (off+3)).trans hk
 have f3:=hb.frozen (off+3)
 have HB:Hid (Blk w b cs e):=hb
 clear hb
 by_cases h0:l=[]
 ·subst h0
  obtain ⟨a,c,rfl⟩:=hI.slice
  have HK:Hid (cs[off+3]?=some (.slice a 0 c)):=hk
  have HI:Hid (IntsV w base (.slice a 0 c) []):=hI
  clear hk hI
  go_enter Try.func111,Try.ntmps111
  go_wp2
  go_ret
  exact ⟨rfl,⟨⟨_,by rw [arr_same HK.out];exact HB.out,.refl _ _,HI.out⟩,Chg.refl _ _⟩⟩
 ·have hlp:0 < l.length:=List.length_pos_iff.2 h0
  obtain ⟨g,cap,rfl,hbg,hle,hcap,hc⟩:=hI.form hlp
  have y:=hc (l.length - 1) (by omega)
  have hT:=hI.take (l.length - 1) (by omega) (by intro q;cases q)
  rw [<-List.dropLast_eq_take] at hT
  have HV:Hid (l.getD (l.length - 1) 0=popV l):=by
   show l.getD (l.length - 1) 0=popV l
   unfold popV
   rw [List.getD_eq_getElem?_getD,<-List.getLast?_eq_getElem?,List.getLastD_eq_getLast?]
  have e1:(l.length:Int) - 1=((l.length - 1:Nat):Int):=by omega
  have HI:=hI
  have HT:Hid (IntsV w base (.slice (some ⟨g,0,none⟩) (l.length - 1) cap) l.dropLast):=hT
  clear hT hc hI HI
  generalize l.getD (l.length - 1) 0=t at *
  generalize hm:l.length - 1=m at *
  have hn:l.length=m+1:=by omega
  rw [hn] at x3 hk hle e1
  clear hm
  have hgb:g ≠ b:=fun q=>hne (by rw [q];rfl)
  go_enter Try.func111,Try.ntmps111
  go_wp2
  go_ret
  exact ⟨by rw [<-HV.out];rfl,⟨⟨.slice (some ⟨g,0,none⟩) m cap,HB.out.set (off+3) _,.inl rfl,own_set HT.out _ _ (fun q=>hgb (by simpa [Value.ownBlock] using q))⟩,(Chg.refl _ w).setCell _ _ (.inl rfl)⟩⟩
set_option maxHeartbeats 1000000 in
set_option maxRecDepth 100000 in
theorem push_any (b off:Nat) (cs:Array Value) (e:TypeId) (kv:Value) (l:List Int) (v:Int) (base:Nat) (w:World) (hb:Blk w b cs e) (hk:cs[off+3]?=some kv) (he:3 ≠ e) (hI:IntsV w base kv l) (hl:l.length<=100000) (hbase:base<=w.heap.size) :
 Calls Try.prog 129 #[.pointer (some ⟨b,off,none⟩),.int .i64 v] w fun ex w'=>ex=.returned (.tuple #[])/\FrEnd (fun j=>j=b \/ some j=kv.ownBlock) w w' b off cs e base kv (l++[v]):=by
 have hne:=own_ne hI hb he
 have x3:w.cell? ⟨b,off+3,none⟩=some kv:=(hb.cell (off+3)).trans hk
 have hlt:=hb.lt
 have HB:Hid (Blk w b cs e):=hb
 clear hb
 obtain ⟨a,c,rfl⟩:=hI.slice
 have HK:Hid (cs[off+3]?=some (.slice a l.length c)):=hk
 clear hk
 have HI:Hid (IntsV w base (.slice a l.length c) l):=hI
 have j1:Chg (fun _=>False) w (w.alloc (Obj.cells #[.int .i64 v] 3)):=(Chg.refl _ w).alloc _
 go_enter Try.func129,Try.ntmps129
 go_wp2_with (at_builtin;refine wp_appL rfl _ _ rfl base (.slice a l.length c) (.slice (some ⟨w.heap.size,0,none⟩) 1 1) l [v] rfl rfl ?h1 ?h2 ?h3 ?h4 ?_)
 case h1=>exact HI.out.chg j1 (fun _ _ _ e=>e)
 case h2=>exact lit_rd [v] 1 rfl (by unfold maxLen;omega)
 case h3=>simp;omega
 case h4=>exact Nat.le_trans hbase j1.size
 intro a2 n2 c2 w2 hn2 hI2 hch2 hl2
 have hbk:Blk w2 b cs e:=(HB.out.chg j1 (fun q=>q)).chg hch2 (fun q=>hne q.symm)
 have f3:=hbk.frozen (off+3)
 have x3':w2.cell? ⟨b,off+3,none⟩=some (.slice a l.length c):=(hbk.cell (off+3)).trans HK.out
 have hlt2:=hbk.lt
 have hnb:(Value.slice a2 n2 c2).ownBlock ≠ some b:=own_ne hI2 hbk he
 have hL:Lies w (.slice a l.length c) (.slice a2 n2 c2):=by
  rcases hl2 with q | ⟨g,q,hg⟩
  ·exact .inl q
  ·exact .inr ⟨g,q,Nat.le_trans j1.size hg⟩
 have HN:Hid (n2=l.length+[v].length):=hn2
 clear hn2
 go_wp2
 refine bodyPost_end (v:=.tuple #[]) (by simp [results,Try.results129]) rfl ⟨rfl,⟨⟨_,hbk.set (off+3) _,hL,own_set hI2 _ _ hnb⟩,?_⟩⟩
 exact (Chg.setCell (S:=fun j=>j=b \/ some j=(Value.slice a l.length c).ownBlock) ((j1.mono (fun _ _ q=>q.elim)).trans (hch2.mono (fun _ _ q=>.inr q))) _ _ (.inl (.inl rfl)))
theorem IntsV.rdrop {w:World} {base:Nat} {a:Option Addr} {n c:Nat} {l:List Int} (h:IntsV w base (.slice a n c) l) (k:Nat) (hk:k < l.length):∃ g,a=some ⟨g,0,none⟩/\RdI w (.slice (some ⟨g,k,none⟩) (l.length - k) (c - k)) (l.drop k):=by
 obtain ⟨g,cap,he,_,hle,hcap,hc⟩:=h.form (by omega)
 simp only [Value.slice.injEq] at he
 obtain ⟨rfl,rfl,rfl⟩:=he
 refine ⟨g,rfl,.inr ⟨g,k,c - k,?_,?_,?_,?_⟩⟩
 ·rw [List.length_drop]
 ·rw [List.length_drop];omega
 ·omega
 ·intro j hj
  rw [List.length_drop] at hj
  have:=hc (k+j) (by omega)
  rw [this]
  rw [List.getD_eq_getElem?_getD,List.getD_eq_getElem?_getD,List.getElem?_drop]
def PaEnd (w:World) (b off:Nat) (cs:Array Value) (e:TypeId) (base:Nat) (kv:Value) (l:List Int) (n:Nat) (ex:Ending) (w':World):Prop:=
 ∃ u,ex=.returned u/\IntsV w' w.heap.size u (popN l n)/\FrEnd (fun j=>j=b) w w' b off cs e base kv (resN l n)
set_option maxHeartbeats 1000000 in
set_option maxRecDepth 100000 in
theorem popAll_any (b off:Nat) (cs:Array Value) (e:TypeId) (kv:Value) (l:List Int) (n:Nat) (base:Nat) (w:World) (hb:Blk w b cs e) (hk:cs[off+3]?=some kv) (he:3 ≠ e) (hI:IntsV w base kv l) (hl:l.length<=10000) (hn:n<=10000) :
 Calls Try.prog 127 #[.pointer (some ⟨b,off,none⟩),.int .i64 (n:Int)] w (PaEnd w b off cs e base kv l n):=by
 have hne:=own_ne hI hb he
 have x3:w.cell? ⟨b,off+3,none⟩=some kv:=(hb.cell (off+3)).trans hk
 have HB:Hid (Blk w b cs e):=hb
 clear hb
 obtain ⟨a,c,rfl⟩:=hI.slice
 have HK:Hid (cs[off+3]?=some (.slice a l.length c)):=hk
 have HI:Hid (IntsV w base (.slice a l.length c) l):=hI
 clear hk
 by_cases h0:l.length < n
 ·have h0':(l.length:Int) - (n:Int) < 0:=by omega
  have HP:Hid (popN l n=[]/\resN l n=l):=by
   show popN l n=[]/\resN l n=l
   unfold popN resN;rw [if_pos h0,if_pos h0];exact ⟨rfl,rfl⟩
  clear hI
  go_enter Try.func127,Try.ntmps127
  go_wp2
  go_ret
  refine ⟨_,rfl,?_,⟨⟨_,by rw [arr_same HK.out];exact HB.out,.refl _ _,?_⟩,Chg.refl _ _⟩⟩
  ·rw [HP.out.1];exact World.ownsRow_nil _ _ _ _
  ·rw [HP.out.2];exact HI.out
 ·have HP:Hid (popN l n=l.drop (l.length - n)/\resN l n=l.take (l.length - n)):=by
   show popN l n=_/\resN l n=_
   unfold popN resN;rw [if_neg h0,if_neg h0];exact ⟨rfl,rfl⟩
  have e1:(l.length:Int) - (n:Int)=((l.length - n:Nat):Int):=by omega
  generalize hm:l.length - n=m at *
  have hm':m<=l.length:=by omega
  have hmi:(m:Int)<=(l.length:Int):=by omega
  clear hI h0 hm
  rcases HI.out.two with ⟨hv,hl0⟩ | ⟨g,c',hv⟩
  ·simp only [Value.slice.injEq] at hv
   obtain ⟨rfl,_,rfl⟩:=hv
   have hz:l.length=0:=by rw [hl0];rfl
   have hm0:m=0:=by omega
   subst hm0
   rw [hz] at x3 e1 HK HI hmi
   go_enter Try.func127,Try.ntmps127
   go_wp2_with fail
   refine (joined_any (.slice none 0 0) (.slice none 0 0) [] [] _ (by simp) (by simp) (.inl ⟨rfl,rfl⟩) (.inl ⟨rfl,rfl⟩)).mono ?_
   rintro ex w1 ⟨u,rfl,hu,k1⟩
   obtain ⟨ua,uc,rfl⟩:=hu.slice
   have hbk:=HB.out.chg k1 (fun q=>q)
   have x3':w1.cell? ⟨b,off+3,none⟩=some (.slice none 0 0):=(hbk.cell (off+3)).trans HK.out
   have f3:=hbk.frozen (off+3)
   clear x3
   go_wp2
   go_ret
   refine ⟨_,rfl,?_,⟨⟨.slice none 0 0,hbk.set (off+3) _,.inl rfl,?_⟩,?_⟩⟩
   ·rw [HP.out.1,hl0];exact own_set hu ⟨b,off+3,none⟩ _ (own_ne hu hbk he)
   ·rw [HP.out.2,hl0];exact World.ownsRow_nil _ _ _ _
   ·exact (k1.mono (fun _ _ q=>q.elim)).setCell _ _ (.inl rfl)
  ·simp only [Value.slice.injEq] at hv
   obtain ⟨rfl,_,rfl⟩:=hv
   have hcl:l.length<=c:=by
    rcases HI.out.2 with ⟨q,_⟩ | ⟨g',cap,cur,q,_,_,q2,_⟩
    ·cases q
    ·simp only [Value.slice.injEq] at q;obtain ⟨_,_,rfl⟩:=q;exact q2
   have hcm2:c<=maxLen:=by
    rcases HI.out.2 with ⟨q,_⟩ | ⟨g',cap,cur,q,_,_,q2,q3,_⟩
    ·cases q
    ·simp only [Value.slice.injEq] at q;obtain ⟨_,_,rfl⟩:=q;exact q3
   have hgb:g ≠ b:=fun q=>hne (by rw [q];rfl)
   have hT:=HI.out.take m hm' (by intro q;cases q)
   have HT:Hid (IntsV w base (.slice (some ⟨g,0,none⟩) m c) (l.take m)):=hT
   clear hT hne
   by_cases hcm:m < c
   ·have hrd:RdI w (.slice (some ⟨g,m,none⟩) (l.length - m) (c - m)) (l.drop m):=by
     by_cases hlt:m < l.length
     ·obtain ⟨g',q1,q2⟩:=HI.out.rdrop m hlt
      simp only [Option.some.injEq,Addr.mk.injEq] at q1
      obtain ⟨rfl,_⟩:=q1
      exact q2
     ·have:l.drop m=[]:=List.drop_eq_nil_of_le (by omega)
      rw [this]
      exact .inr ⟨g,m,c - m,by rw [show l.length - m=0 by omega];rfl,by simp,by omega,fun j hj=>by simp at hj⟩
    have HR:Hid (RdI w (.slice (some ⟨g,m,none⟩) (l.length - m) (c - m)) (l.drop m)):=hrd
    clear hrd
    have hcm0:c - m ≠ 0:=by omega
    generalize hN:l.length=N at *
    go_enter Try.func127,Try.ntmps127
    go_wp2_with fail
    refine (joined_any (.slice (some ⟨g,m,none⟩) (N - m) (c - m)) (.slice none 0 0) (l.drop m) [] _ (by rw [List.length_drop];omega) (by simp) HR.out (.inl ⟨rfl,rfl⟩)).mono ?_
    rintro ex w1 ⟨u,rfl,hu,k1⟩
    rw [List.append_nil] at hu
    obtain ⟨ua,uc,rfl⟩:=hu.slice
    rw [show (l.drop m).length=N - m by rw [List.length_drop,hN]] at hu ⊢
    have hbk:=HB.out.chg k1 (fun q=>q)
    have x3':w1.cell? ⟨b,off+3,none⟩=some (.slice (some ⟨g,0,none⟩) N c):=(hbk.cell (off+3)).trans HK.out
    have f3:=hbk.frozen (off+3)
    clear x3
    go_wp2
    go_ret
    refine ⟨_,rfl,?_,⟨⟨.slice (some ⟨g,0,none⟩) m c,hbk.set (off+3) _,.inl rfl,?_⟩,?_⟩⟩
    ·rw [HP.out.1];exact own_set hu ⟨b,off+3,none⟩ _ (own_ne hu hbk he)
    ·rw [HP.out.2];exact own_set (own_chg HT.out k1 (fun _ _ q=>q)) _ _ (fun q=>hgb (by simpa [Value.ownBlock] using q))
    ·exact (k1.mono (fun _ _ q=>q.elim)).setCell _ _ (.inl rfl)
   ·have hce:c=m:=by omega
    subst hce
    have hlm:l.length=c:=by omega
    have hde:l.drop c=[]:=List.drop_eq_nil_of_le (by omega)
    rw [hlm] at x3 HK e1 hmi
    have HLM:Hid (l.length=c):=hlm
    clear hlm
    go_enter Try.func127,Try.ntmps127
    go_wp2_with fail
    refine (joined_any _ (.slice none 0 0) [] [] _ (by simp) (by simp) (.inr ⟨g,0,0,by first | rfl | simp,by simp,by unfold maxLen;omega,fun j hj=>by simp at hj⟩) (.inl ⟨rfl,rfl⟩)).mono ?_
    rintro ex w1 ⟨u,rfl,hu,k1⟩
    obtain ⟨ua,uc,rfl⟩:=hu.slice
    have hbk:=HB.out.chg k1 (fun q=>q)
    have x3':w1.cell? ⟨b,off+3,none⟩=some (.slice (some ⟨g,0,none⟩) c c):=(hbk.cell (off+3)).trans HK.out
    have f3:=hbk.frozen (off+3)
    clear x3
    go_wp2
    go_ret
    refine ⟨_,rfl,?_,⟨⟨.slice (some ⟨g,0,none⟩) c c,hbk.set (off+3) _,.inl rfl,?_⟩,?_⟩⟩
    ·rw [HP.out.1,hde];exact own_set hu ⟨b,off+3,none⟩ _ (own_ne hu hbk he)
    ·rw [HP.out.2];exact own_set (own_chg HT.out k1 (fun _ _ q=>q)) _ _ (fun q=>hgb (by simpa [Value.ownBlock] using q))
    ·exact (k1.mono (fun _ _ q=>q.elim)).setCell _ _ (.inl rfl)
end Go.Proofs.Ytnfnbcbadakofaa
namespace Go.Proofs.Ytnfnbcbadakofaa
open Go.RowKit
set_option maxHeartbeats 400000 in
theorem wrapped_any (n:Int) (w:World):Calls Try.prog 134 #[.int .i64 n] w fun e w'=>e=.returned (.int .i64 (n % 65536))/\w'=w:=by
 have hb:=Int.emod_nonneg n (show (65536:Int) ≠ 0 by decide)
 have hc:=Int.emod_lt_of_pos n (show (0:Int) < 65536 by decide)
 have he:(0<=n.tmod 65536/\n.tmod 65536=n % 65536) \/ (n.tmod 65536 < 0 /\ -65536 < n.tmod 65536/\n.tmod 65536+65536=n % 65536) \/ (n.tmod 65536=0/\n % 65536=0):=by
  rw [Int.tmod_eq_emod]
  split
  ·omega
  ·have:((65536:Int).natAbs:Int)=65536:=rfl
   omega
 rcases he with ⟨h0,h1⟩ | ⟨h0,h1,h2⟩ | ⟨h0,h1⟩
 ·have H:Hid (n.tmod 65536=n % 65536):=h1
  clear h1 hb hc
  go_enter Try.func134,Try.ntmps134
  go_wp2
  go_ret
  exact ⟨by rw [<-H.out];rfl,rfl⟩
 ·have H:Hid (n.tmod 65536+65536=n % 65536):=h2
  clear h2 hb hc
  have hw:wrap64 (n.tmod 65536+65536)=n.tmod 65536+65536:=by unfold wrap64;omega
  go_enter Try.func134,Try.ntmps134
  go_wp2
  go_ret
  exact ⟨by rw [<-H.out];first | rfl | (simp only [hw];rfl),rfl⟩
 ·have H:Hid (n % 65536=0):=h1
  clear h1 hb hc
  go_enter Try.func134,Try.ntmps134
  go_wp2
  go_ret
  exact ⟨by rw [H.out];first | rfl | (simp only [h0];rfl),rfl⟩
theorem truth_any (b:Bool) (w:World):Calls Try.prog 133 #[.bool b] w fun e w'=>e=.returned (.int .i64 (if b=true then 1 else 0))/\w'=w:=by
 cases b <;> (go_enter Try.func133,Try.ntmps133;go_wp2;go_ret;exact ⟨rfl,rfl⟩)
theorem refTo_any (n:Int) (h0:-1000000<=n) (h1:n<=1000000) (w:World):Calls Try.prog 126 #[.int .i64 n] w fun e w'=>e=.returned (.int .i64 (n+1))/\w'=w:=by
 go_enter Try.func126,Try.ntmps126
 go_wp2
 go_ret
 exact ⟨rfl,rfl⟩
theorem fieldPlace_any (r f:Int) (h0:0<=r) (h1:r<=1000000) (h2:0<=f) (h3:f<=1000000) (w:World):Calls Try.prog 131 #[.int .i64 r,.int .i64 f] w fun e w'=>e=.returned (.int .i64 (r+f))/\w'=w:=by
 go_enter Try.func131,Try.ntmps131
 go_wp2
 go_ret
 exact ⟨rfl,rfl⟩
set_option maxHeartbeats 400000 in
theorem reckoned_any (op a b:Int) (hop:op=1 \/ op=2 \/ op=3 \/ op=4 \/ op=12) (ha:0<=a) (ha':a<=65535) (hb:0<=b) (hb':b<=65535) (w:World) :
 Calls Try.prog 132 #[.int .i64 op,.int .i64 a,.int .i64 b] w fun e w'=>e=.returned (.int .i64 (recP op a b))/\w'=w:=by
 rcases hop with rfl | rfl | rfl | rfl | rfl
 ·have e:recP 1 a b=(a+b) % 65536:=rfl
  rw [e]
  go_enter Try.func132,Try.ntmps132
  go_wp2_with fail
  refine (wrapped_any _ _).mono ?_
  rintro ex w1 ⟨rfl,rfl⟩
  go_wp2
  go_ret
  exact ⟨rfl,rfl⟩
 ·have e:recP 2 a b=(a - b) % 65536:=rfl
  rw [e]
  go_enter Try.func132,Try.ntmps132
  go_wp2_with fail
  refine (wrapped_any _ _).mono ?_
  rintro ex w1 ⟨rfl,rfl⟩
  go_wp2
  go_ret
  exact ⟨rfl,rfl⟩
 ·have e:recP 3 a b=(a * b) % 65536:=rfl
  rw [e]
  have h0:0<=a * b:=Int.mul_nonneg ha hb
  have h1:a * b<=65535 * 65535:=Int.mul_le_mul ha' hb' hb (by decide)
  generalize hp:a * b=p at *
  go_enter Try.func132,Try.ntmps132
  go_wp2_with fail
  refine (wrapped_any _ _).mono ?_
  rintro ex w1 ⟨rfl,rfl⟩
  go_wp2
  go_ret
  exact ⟨rfl,rfl⟩
 ·have e:recP 4 a b=if a < b then 1 else 0:=rfl
  rw [e]
  by_cases h:a < b
  ·rw [if_pos h]
   go_enter Try.func132,Try.ntmps132
   go_wp2_with fail
   refine (truth_any _ _).mono ?_
   rintro ex w1 ⟨rfl,rfl⟩
   go_wp2
   go_ret
   exact ⟨by simp,rfl⟩
  ·rw [if_neg h]
   have h':b<=a:=by omega
   go_enter Try.func132,Try.ntmps132
   go_wp2_with fail
   refine (truth_any _ _).mono ?_
   rintro ex w1 ⟨rfl,rfl⟩
   go_wp2
   go_ret
   exact ⟨by simp,rfl⟩
 ·have e:recP 12 a b=if a=b then 1 else 0:=rfl
  rw [e]
  by_cases h:a=b
  ·rw [if_pos h]
   go_enter Try.func132,Try.ntmps132
   go_wp2_with fail
   refine (truth_any _ _).mono ?_
   rintro ex w1 ⟨rfl,rfl⟩
   go_wp2
   go_ret
   exact ⟨by simp,rfl⟩
  ·rw [if_neg h]
   go_enter Try.func132,Try.ntmps132
   go_wp2_with fail
   refine (truth_any _ _).mono ?_
   rintro ex w1 ⟨rfl,rfl⟩
   go_wp2
   go_ret
   exact ⟨by simp,rfl⟩
end Go.Proofs.Ytnfnbcbadakofaa
namespace Go.Proofs.Ytnfnbcbadakofaa
open Go.RowKit
theorem IntsV.rdA {w:World} {base:Nat} {v:Value} {l:List Int} (h:IntsV w base v l):RdA w v l:=by
 by_cases h0:0 < l.length
 ·obtain ⟨g,cap,hv,_,hle,hcap,hc⟩:=h.form h0
  refine .inr ⟨⟨g,0,none⟩,cap,hv,hle,hcap,fun j hj=>?_⟩
  have hadd:(⟨g,0,none⟩:Addr).add j=⟨g,j,none⟩:=by unfold Addr.add;split <;> simp_all
  rw [hadd];exact hc j hj
 ·have hl:l=[]:=List.eq_nil_of_length_eq_zero (by omega)
  rcases h.2 with ⟨hv,_⟩ | ⟨g,cap,cur,hv,_,_,hle,hcap,_⟩
  ·exact .inl ⟨hv,hl⟩
  ·exact .inr ⟨⟨g,0,none⟩,cap,hv,hle,hcap,fun j hj=>by omega⟩
end Go.Proofs.Ytnfnbcbadakofaa
namespace Go.Proofs.Ytnfnbcbadakofaa
open Go.RowKit
def Sep (u v:Value):Prop:=∀ g,u.ownBlock=some g->v.ownBlock ≠ some g
theorem Sep.symm {u v:Value} (h:Sep u v):Sep v u:=fun g h1 h2=>h g h2 h1
theorem Sep.nil (u:Value):Sep u (.slice none 0 0):=fun g _ h=>by cases h
theorem Sep.lies {w:World} {u v v':Value} (h:Sep u v) (hl:Lies w v v') (hu:∀ g,u.ownBlock=some g->g < w.heap.size):Sep u v':=by
 intro g hg hv
 rcases hl with q | ⟨g',q,hg'⟩
 ·rw [q] at hv;exact h g hg hv
 ·rw [q] at hv;simp at hv;have:=hu g hg;omega
theorem Sep.new {w:World} {u v:Value} {base:Nat} {l:List Int} (hv:IntsV w base v l) (hu:∀ g,u.ownBlock=some g->g < base):Sep u v:=by
 intro g hg h
 have:=(hv.lt g h).1
 have:=hu g hg
 omega
structure RV where
 wv:Value
 bv:Value
 lv:Value
 kv:Value
 ov:Value
 xs:List (Fr × Value × Value)
def RV.fl (V:RV):List Value:=V.xs.flatMap fun x=>[x.2.1,x.2.2]
structure RSp (V:RV):Prop where
 wl:Sep V.wv V.lv
 wk:Sep V.wv V.kv
 wo:Sep V.wv V.ov
 lk:Sep V.lv V.kv
 lo:Sep V.lv V.ov
 ko:Sep V.kv V.ov
 fw:∀ u ∈ V.fl,Sep u V.wv
 fl:∀ u ∈ V.fl,Sep u V.lv
 fk:∀ u ∈ V.fl,Sep u V.kv
 fo:∀ u ∈ V.fl,Sep u V.ov
 ff:V.fl.Pairwise Sep
def rcs (s:ByteArray) (tv fv sv iv:Value) (R:Rn) (V:RV):Array Value:=
 #[.string s,tv,fv,sv,.int .i64 R.heap,.int .i64 R.depth,.int .i64 R.status,V.wv,V.bv,.int .i64 R.top.fn,.int .i64 R.top.pc,V.lv,V.kv,iv,.int .i64 R.used,V.ov]
structure RI (W1 w:World) (rb:Nat) (s:ByteArray) (tv fv sv iv:Value) (R:Rn) (V:RV):Prop where
 ch:Chg (fun j=>j=rb) W1 w
 bx:Blk w rb (rcs s tv fv sv iv R V) 125
 ww:IntsV w W1.heap.size V.wv R.words
 ll:IntsV w W1.heap.size V.lv R.top.locals
 kk:IntsV w W1.heap.size V.kv R.top.stack
 oo:IntsV w W1.heap.size V.ov R.out
 be:V.xs.map (·.1)=R.below
 bb:w.ownsRow W1.heap.size 123 4 V.bv V.xs.length (frC V.xs)
 xx:∀ x ∈ V.xs,IntsV w W1.heap.size x.2.1 x.1.locals/\IntsV w W1.heap.size x.2.2 x.1.stack
 sp:RSp V
section
variable {W1 w w':World} {rb:Nat} {s:ByteArray} {tv fv sv iv:Value} {R:Rn} {V:RV}
theorem RV.fl_mem {V:RV} {u:Value} (h:u ∈ V.fl):∃ x ∈ V.xs,u=x.2.1 \/ u=x.2.2:=by
 unfold RV.fl at h
 rw [List.mem_flatMap] at h
 obtain ⟨x,hx,hu⟩:=h
 exact ⟨x,hx,by simpa using hu⟩
theorem RI.fl_own (h:RI W1 w rb s tv fv sv iv R V) {u:Value} (hu:u ∈ V.fl):∃ l,IntsV w W1.heap.size u l:=by
 obtain ⟨x,hx,rfl | rfl⟩:=V.fl_mem hu
 ·exact ⟨_,(h.xx x hx).1⟩
 ·exact ⟨_,(h.xx x hx).2⟩
theorem RI.fl_lt (h:RI W1 w rb s tv fv sv iv R V) {u:Value} (hu:u ∈ V.fl):∀ g,u.ownBlock=some g->g < w.heap.size:=by
 obtain ⟨l,hl⟩:=h.fl_own hu
 exact fun g hg=>(hl.lt g hg).2
theorem IntsV.lts {w:World} {base:Nat} {v:Value} {l:List Int} (h:IntsV w base v l):∀ g,v.ownBlock=some g->g < w.heap.size:=fun g hg=>(h.lt g hg).2
theorem IntsV.apart {w w':World} {base:Nat} {u v:Value} {l:List Int} {S:Nat->Prop} (h:IntsV w base u l) {b:Nat} {cs:Array Value} {e:TypeId} (hb:Blk w b cs e) (he:3 ≠ e) (k:Chg S w w') (hS:∀ j,S j->j=b \/ some j=v.ownBlock) (hs:Sep u v):IntsV w' base u l:=
 own_chg h k (fun g hg hSg=>by
  rcases hS g hSg with q | q
  ·exact own_ne h hb he (by rw [hg,q])
  ·exact hs g hg q.symm)
theorem RI.frames (h:RI W1 w rb s tv fv sv iv R V) {v:Value} {lv:List Int} {base:Nat} (hv:IntsV w base v lv) {S:Nat->Prop} (k:Chg S w w') (hS:∀ j,S j->j=rb \/ some j=v.ownBlock) (hs:∀ u ∈ V.fl,Sep u v) :
 w'.ownsRow W1.heap.size 123 4 V.bv V.xs.length (frC V.xs)/\∀ x ∈ V.xs,IntsV w' W1.heap.size x.2.1 x.1.locals/\IntsV w' W1.heap.size x.2.2 x.1.stack:=by
 refine ⟨own_chg h.bb k (fun g hg hSg=>?_),fun x hx=>?_⟩
 ·obtain ⟨cs,hb⟩:=own_blk h.bb hg
  rcases hS g hSg with q | q
  ·subst q;exact hb.ne h.bx (by decide) rfl
  ·obtain ⟨cs',hb'⟩:=own_blk hv q.symm;exact hb.ne hb' (by decide) rfl
 ·exact ⟨(h.xx x hx).1.apart h.bx (by decide) k hS (hs _ (List.mem_flatMap.2 ⟨x,hx,by simp⟩)),(h.xx x hx).2.apart h.bx (by decide) k hS (hs _ (List.mem_flatMap.2 ⟨x,hx,by simp⟩))⟩
theorem RI.chg1 (h:RI W1 w rb s tv fv sv iv R V) {v:Value} {lv:List Int} (hv:IntsV w W1.heap.size v lv) {S:Nat->Prop} (k:Chg S w w') (hS:∀ j,S j->j=rb \/ some j=v.ownBlock):Chg (fun j=>j=rb) W1 w':=
 h.ch.trans' k (fun i hi q=>by
  rcases hS i q with q | q
  ·exact q
  ·have:=(hv.lt i q.symm).1;omega)
theorem RI.stk (h:RI W1 w rb s tv fv sv iv R V) {S:Nat->Prop} {kv':Value} {l':List Int} (hS:∀ j,S j->j=rb \/ some j=V.kv.ownBlock) (k:Chg S w w') (hb:Blk w' rb ((rcs s tv fv sv iv R V).setIfInBounds 12 kv') 125) (hL:Lies w V.kv kv') (hI:IntsV w' W1.heap.size kv' l') :
 RI W1 w' rb s tv fv sv iv { R with top:={ R.top with stack:=l' } } { V with kv:=kv' }:=by
 obtain ⟨f1,f2⟩:=h.frames h.kk k hS h.sp.fk
 refine ⟨h.chg1 h.kk k hS,hb,h.ww.apart h.bx (by decide) k hS h.sp.wk,h.ll.apart h.bx (by decide) k hS h.sp.lk,hI,h.oo.apart h.bx (by decide) k hS h.sp.ko.symm,h.be,f1,f2,?_⟩
 exact ⟨h.sp.wl,h.sp.wk.lies hL h.ww.lts,h.sp.wo,h.sp.lk.lies hL h.ll.lts,h.sp.lo,(h.sp.ko.symm.lies hL h.oo.lts).symm,h.sp.fw,h.sp.fl,fun u hu=>(h.sp.fk u hu).lies hL (h.fl_lt hu),h.sp.fo,h.sp.ff⟩
theorem RI.num (h:RI W1 w rb s tv fv sv iv R V) {i:Nat} {v:Value} {R':Rn} (e:(rcs s tv fv sv iv R V).setIfInBounds i v=rcs s tv fv sv iv R' V) (e1:R'.words=R.words) (e2:R'.top.locals=R.top.locals) (e3:R'.top.stack=R.top.stack) (e4:R'.out=R.out) (e5:R'.below=R.below) :
 RI W1 (w.setCell ⟨rb,i,none⟩ v) rb s tv fv sv iv R' V:=by
 have k:Chg (fun j=>j=rb) w (w.setCell ⟨rb,i,none⟩ v):=(Chg.refl _ w).setCell _ _ (.inl rfl)
 have hS:∀ j,j=rb->j=rb \/ some j=V.kv.ownBlock:=fun j q=>.inl q
 obtain ⟨f1,f2⟩:=h.frames h.kk k hS h.sp.fk
 refine ⟨h.chg1 h.kk k hS,by rw [<-e];exact h.bx.set i v,?_,?_,?_,?_,by rw [e5];exact h.be,f1,f2,h.sp⟩
 ·rw [e1];exact h.ww.apart h.bx (by decide) k hS h.sp.wk
 ·rw [e2];exact h.ll.apart h.bx (by decide) k hS h.sp.lk
 ·rw [e3];exact own_set h.kk _ _ (own_ne h.kk h.bx (by decide))
 ·rw [e4];exact h.oo.apart h.bx (by decide) k hS h.sp.ko.symm
theorem RI.new (h:RI W1 w rb s tv fv sv iv R V) (k:Chg (fun _=>False) w w'):RI W1 w' rb s tv fv sv iv R V:=by
 have hS:∀ j,False->j=rb \/ some j=V.kv.ownBlock:=fun j q=>q.elim
 obtain ⟨f1,f2⟩:=h.frames h.kk k hS h.sp.fk
 exact ⟨h.chg1 h.kk k hS,h.bx.chg k (fun q=>q),own_chg h.ww k (fun _ _ q=>q),own_chg h.ll k (fun _ _ q=>q),own_chg h.kk k (fun _ _ q=>q),own_chg h.oo k (fun _ _ q=>q),h.be,f1,f2,h.sp⟩
end
structure KR (w w':World):Prop where
 size:w.heap.size<=w'.heap.size
 keep:∀ b cs e,Blk w b cs e->e ≠ 3->e ≠ 123->e ≠ 125->Blk w' b cs e
theorem KR.refl (w:World):KR w w:=⟨Nat.le_refl _,fun _ _ _ h _ _ _=>h⟩
theorem KR.trans {a b c:World} (h:KR a b) (k:KR b c):KR a c:=⟨Nat.le_trans h.size k.size,fun x cs e q h3 h4 h5=>k.keep x cs e (h.keep x cs e q h3 h4 h5) h3 h4 h5⟩
theorem KR.new {w w':World} (k:Chg (fun _=>False) w w'):KR w w':=⟨k.size,fun _b _ _ h _ _ _=>h.chg k (fun q=>q)⟩
theorem KR.of {w w':World} {S:Nat->Prop} (k:Chg S w w') {rb:Nat} {cs0:Array Value} (hb:Blk w rb cs0 125) {v:Value} {l:List Int} {base:Nat} (hv:IntsV w base v l) (hS:∀ j,S j->j=rb \/ some j=v.ownBlock):KR w w':=
 ⟨k.size,fun b cs e h h3 _ h5=>h.chg k (fun q=>by
  rcases hS b q with q | q
  ·subst q;exact h.ne hb h5 rfl
  ·obtain ⟨cs',hb'⟩:=own_blk hv q.symm;exact h.ne hb' h3 rfl)⟩
def RunEnd (W1 w:World) (rb:Nat) (s:ByteArray) (tv fv sv iv:Value) (R:Rn) (ex:Ending) (w':World):Prop:=ex=.returned (.tuple #[])/\KR w w'/\∃ V,RI W1 w' rb s tv fv sv iv R V
end Go.Proofs.Ytnfnbcbadakofaa
namespace Go.Proofs.Ytnfnbcbadakofaa
open Go.RowKit
theorem recL_0 (ls:List (List Int)) (v:Int) (ws:List Int):recL ls 0 (v::ws)=v::recL ls (flds ls v).length ws:=rfl
theorem recL_s (ls:List (List Int)) (n:Nat) (v:Int) (ws:List Int):recL ls (n+1) (v::ws)=0::recL ls n ws:=rfl
theorem recL_nil (ls:List (List Int)) (n:Nat):recL ls n []=[]:=by cases n <;> rfl
set_option maxHeartbeats 2000000 in
set_option maxRecDepth 100000 in
theorem recordsIn_any (tv:Value) (ls:List (List Int)) (wa:Option Addr) (wc:Nat) (ws:List Int) (w:World) (ht:TypesV w 0 tv ls) (hw:IntsV w 0 (.slice wa ws.length wc) ws) (hl:ls.length<=10000) (h5:∀ t,(flds ls t).length<=5) (hwl:ws.length<=4000) :
 Calls Try.prog 103 #[tv,.slice wa ws.length wc] w fun ex w'=>∃ u,ex=.returned u/\IntsV w' w.heap.size u (recL ls 0 ws)/\Chg (fun _=>False) w w':=by
 obtain ⟨ta,tc,htv⟩:=ht.slice
 have HTY:Hid (TypesV w 0 tv ls):=ht
 have HW:Hid (IntsV w 0 (.slice wa ws.length wc) ws):=hw
 have H5:Hid (∀ t,(flds ls t).length<=5):=h5
 clear ht hw h5
 generalize ls.length=tn at htv
 subst htv
 obtain ⟨T,hT⟩:∃ r,recL ls 0 ws=r:=⟨_,rfl⟩
 rw [hT]
 have HT:Hid (recL ls 0 ws=T):=hT
 clear hT
 go_enter Try.func103,Try.ntmps103
 go_wp2
 go_loopw [5,6,11] (fun lv ev iv wr=>∃ (k n:Nat) (a:Option Addr) (c:Nat) (L:List Int) (left:Nat),k<=ws.length/\iv=.int .i64 (k:Int)/\ev=.int .i64 (left:Int)/\left<=5/\lv=.slice a n c/\IntsV wr w.heap.size (.slice a n c) L/\L.length=k/\Chg (fun _=>False) w wr/\L++recL ls left (ws.drop k)=T) (fun _ _ iv _=>ws.length - (intOf iv).toNat)
 case atStart=>exact ⟨0,0,none,0,[],0,Nat.zero_le _,rfl,rfl,Nat.zero_le _,rfl,World.ownsRow_nil _ _ _ _,rfl,Chg.refl _ _,by rw [List.drop_zero];exact HT.out⟩
 case round =>
  obtain ⟨k,n,a,c,L,left,hk,rfl,rfl,hle,rfl,hI,hLk,hC,hE⟩:=hrel
  have HI:Hid (IntsV wr w.heap.size (.slice a n c) L):=hI
  have HC:Hid (Chg (fun _=>False) w wr):=hC
  have HE:Hid (L++recL ls left (ws.drop k)=T):=hE
  have HLK:Hid (L.length=k):=hLk
  clear hI hC hE hLk HT
  by_cases hlt:k < ws.length
  ·have hlt':(k:Int) < (ws.length:Int):=by omega
   have HWW:IntsV wr 0 (.slice wa ws.length wc) ws:=own_chg HW.out HC.out (fun _ _ q=>q)
   obtain ⟨g,wc',hve,_,_,_,hc⟩:=HWW.form (by omega)
   simp only [Value.slice.injEq] at hve
   obtain ⟨rfl,_,rfl⟩:=hve
   have y:=hc k hlt
   have HD:Hid (ws.drop k=ws.getD k 0::ws.drop (k+1)):=by
    show ws.drop k=ws.getD k 0::ws.drop (k+1)
    rw [List.drop_eq_getElem_cons hlt,List.getD_eq_getElem?_getD,List.getElem?_eq_getElem hlt];rfl
   have HE1:Hid (L++recL ls left (ws.getD k 0::ws.drop (k+1))=T):=by
    show _=T
    rw [<-HE.out,HD.out]
   clear hc HE HD HWW
   generalize ws.getD k 0=v at *
   have hsz:=HC.out.size
   have hLn:L.length<=4000:=by rw [HLK.out];omega
   by_cases hz:left=0
   ·subst hz
    have HE2:Hid (L++v::recL ls (flds ls v).length (ws.drop (k+1))=T):=by
     show _=T
     rw [<-HE1.out,recL_0]
    clear HE1
    have h55:=H5.out v
    go_wp2_with fail
    refine (fieldsOf_any _ ls v wr 0 (HTY.out.chg HC.out (fun _ _ _ q=>q) (fun _ _ _ q=>q)) hl).mono ?_
    rintro ex w1 ⟨u,rfl,hu,hw1⟩
    have hw1:=hw1.symm
    subst hw1
    obtain ⟨ua,uc,rfl⟩:=hu.slice
    clear hu
    have j1:Chg (fun _=>False) wr (wr.alloc (Obj.cells #[.int .i64 v] 3)):=(Chg.refl _ _).alloc _
    go_wp2_with (at_builtin;refine wp_appL rfl _ _ rfl w.heap.size (.slice a n c) (.slice (some ⟨wr.heap.size,0,none⟩) 1 1) L [v] rfl rfl ?h1 ?h2 ?h3 ?h4 ?_)
    case h1=>exact HI.out.chg j1 (fun _ _ _ e=>e)
    case h2=>exact lit_rd [v] 1 rfl (by unfold maxLen;omega)
    case h3=>simp;omega
    case h4=>exact Nat.le_trans hsz j1.size
    intro a2 n2 c2 w4 hn2 hI2 hch2 hl2
    clear hn2
    have hC4:Chg (fun _=>False) w w4:=(HC.out.trans j1).trans' hch2 (fun i hi q=>by have:=(HI.out.lt i q.symm).1;omega)
    go_wp2
    exact ⟨⟨k+1,n2,a2,c2,L++[v],(flds ls v).length,by omega,rfl,by simp,h55,rfl,hI2,by rw [List.length_append,HLK.out];rfl,hC4,by rw [<-HE2.out];simp⟩,by simp [intOf];omega⟩
   ·obtain ⟨left,rfl⟩:∃ m,left=m+1:=⟨left - 1,by omega⟩
    have HE2:Hid (L++0::recL ls left (ws.drop (k+1))=T):=by
     show _=T
     rw [<-HE1.out,recL_s]
    clear HE1
    have j1:Chg (fun _=>False) wr (wr.alloc (Obj.cells #[.int .i64 0] 3)):=(Chg.refl _ _).alloc _
    go_wp2_with (at_builtin;refine wp_appL rfl _ _ rfl w.heap.size (.slice a n c) (.slice (some ⟨wr.heap.size,0,none⟩) 1 1) L [0] rfl rfl ?h1 ?h2 ?h3 ?h4 ?_)
    case h1=>exact HI.out.chg j1 (fun _ _ _ e=>e)
    case h2=>exact lit_rd [0] 1 rfl (by unfold maxLen;omega)
    case h3=>simp;omega
    case h4=>exact Nat.le_trans hsz j1.size
    intro a2 n2 c2 w4 hn2 hI2 hch2 hl2
    clear hn2
    have hC4:Chg (fun _=>False) w w4:=(HC.out.trans j1).trans' hch2 (fun i hi q=>by have:=(HI.out.lt i q.symm).1;omega)
    go_wp2
    exact ⟨⟨k+1,n2,a2,c2,L++[0],left,by omega,rfl,by simp,by omega,rfl,hI2,by rw [List.length_append,HLK.out];rfl,hC4,by rw [<-HE2.out];simp⟩,by simp [intOf];omega⟩
  ·have hkk:k=ws.length:=by omega
   have hlt':(ws.length:Int)<=(k:Int):=by omega
   have HE1:Hid (L=T):=by
    show L=T
    rw [<-HE.out,hkk,List.drop_eq_nil_of_le (Nat.le_refl _),recL_nil,List.append_nil]
   clear HE
   go_wp2
   go_ret
   exact ⟨_,rfl,by rw [<-HE1.out];exact HI.out,HC.out⟩
end Go.Proofs.Ytnfnbcbadakofaa
