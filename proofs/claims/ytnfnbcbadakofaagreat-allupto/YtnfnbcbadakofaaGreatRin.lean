import Derived.Test.YtnfnbcbadakofaaGreatSta
import Derived.Test.YtnfnbcbadakofaaGreatSms
import Derived.Deep.DeepAppendRoom
import Derived.Test.YtnfnbcbadakofaaGreatRdb
namespace Go.Proofs.YtnfnbcbadakofaaGreat
open Go.RowKit
set_option maxHeartbeats 1000000
set_option maxRecDepth 100000
def bD (w:World) (v v':Value):Prop:=v'.ownBlock=v.ownBlock \/ ∃ g,v'.ownBlock=some g/\w.heap.size<=g
theorem bD.refl (w:World) (v:Value):bD w v v:=.inl rfl
theorem bI {ops:Array Oper} {rest:List Oper} {o:Oper} {a:Act} {Q:Exit->Act->World->Prop} {w:World} (hgd:o.guard=none) (s x:Operand)
 (ho:o.op=.call { callee:=.builtin .append,args:=#[s,x],argTypes:=#[23,23] }) (base:Nat) (v u:Value) (l l':List Int) (hs:a.eval s=v) (hx:a.eval x=u) (hown:ad w base v l) (hu:RdI w u l')
 (hlen:l.length+l'.length<=10000000) (hbase:base<=w.heap.size)
 (h:∀ x n c w',n=l.length+l'.length->ad w' base (.slice x n c) (l++l')->Chg (fun j=>some j=v.ownBlock) w w'->bD w v (.slice x n c)->wpList Tryz.prog ops Q rest (a.put o.dst (.slice x n c)) w'):wpList Tryz.prog ops Q (o::rest) a w:=by
 obtain ⟨i,hi1,hi2,hi3,hi4⟩:=dK
 rcases hu with ⟨rfl,rfl⟩ | ⟨g,off,c,rfl,hle,hcap,hc⟩
 ·refine wpList_append_own_none hgd s x 23 ho base 3 i 1 Tryz.underlying23 hi1 v _ _ hs hown hx ?_
  obtain ⟨b,c,hv⟩:=hown.slice
  have:=h b l.length c w (by simp) (by rw [List.append_nil];rw [hv] at hown;exact hown) (Chg.refl _ w) (.inl (by rw [hv]))
  rw [hv];exact this
 ·by_cases h0:l'=[]
  ·subst h0
   rcases hown.2 with ⟨hv,h0⟩ | ⟨g0,cap,cur,hv,_,_,hle0,hcap0,_⟩
   ·refine wpList_append_own _ hgd s x 23 ho base 3 i (.int .i64 0) 1 8 Tryz.underlying23 hi1 hi2 hi3 hi4 rfl (by decide) v _ _ hs hown ⟨g,off,none⟩ 0 c [] hx rfl (fun j u hu=>by simp at hu) (fun u hu=>by simp at hu) (by unfold maxLen;simp at hlen;omega) (by simp at hlen;omega) hbase ?_
    intro v' w' hown' hgrow hnil
    have e:=hnil.2 ⟨hv,rfl⟩
    subst e
    have hI:ad w' base (.slice none 0 0) (l++[]):=by
     have:l=[]:=List.eq_nil_of_length_eq_zero h0
     subst this;exact World.ownsRow_nil _ _ _ _
    exact h none 0 0 w' (by simp [h0]) hI (aM hgrow |>.mono (fun j _ e=>e)) (.inl (by rw [hv]))
   ·refine wpList_append_own_spare (w:=w) hgd s x 23 ho base 3 i 1 Tryz.underlying23 hi1 hi3 g0 l.length cap (aE l) (by rw [hs,hv]) (by rw [<-hv];exact hown) ⟨g,off,none⟩ 0 c [] hx rfl (fun j u hu=>by simp at hu) (fun u hu=>by simp at hu) (by omega) ?_
    intro w' hown' hgrow
    have hI:ad w' base (.slice g0 (l.length+0) cap) (l++[]):=by unfold ad;simpa [aE] using hown'
    exact h _ _ cap w' (by simp) hI (by rw [hv];exact (aM hgrow).mono (fun j _ e=>e)) (.inl (by rw [hv];rfl))
  ·refine wpList_append_lies w hgd s x 23 ho base 3 i (.int .i64 0) 1 8 Tryz.underlying23 hi1 hi2 hi3 hi4 rfl (by decide) v _ _ hs hown ⟨g,off,none⟩ l'.length c (aE l') hx (by simp [aE]) (RdI.news hc) (fun u hu=>by simp only [aE,List.mem_map] at hu;obtain ⟨y,_,rfl⟩:=hu;rfl) (List.length_pos_iff.2 h0) (by unfold maxLen;omega) (by omega) hbase _ rfl ?_
   intro g' cap w' hown' hgrow hlies _
   have hI:ad w' base (.slice g' (l.length+l'.length) cap) (l++l'):=by unfold ad;simpa [aE] using hown'
   refine h _ _ cap w' rfl hI (aM hgrow |>.mono (fun j _ e=>e)) ?_
   rcases hlies with q | q
   ·exact .inl (by rw [q];rfl)
   ·exact .inr ⟨g',rfl,by omega⟩
structure pz (S:Nat->Prop) (w w':World) (b off:Nat) (cs:Array Value) (e:TypeId) (base:Nat) (kv:Value) (l:List Int):Prop where
 mk ::
 ex:∃ kv',Blk w' b (cs.setIfInBounds (off+3) kv') e/\bD w kv kv'/\ad w' base kv' l
 ch:Chg S w w'
theorem dQ {cs:Array Value} {i:Nat} {v:Value} (h:cs[i]?=some v):cs.setIfInBounds i v=cs:=by
 apply Array.ext_getElem?
 intro j
 rw [Array.getElem?_setIfInBounds]
 by_cases hj:i=j
 ·subst hj
  rw [if_pos rfl]
  have:=(Array.getElem?_eq_some_iff.1 h).1
  rw [if_pos this,h]
 ·rw [if_neg hj]
theorem qA (b off:Nat) (cs:Array Value) (e:TypeId) (kv:Value) (l:List Int) (base:Nat) (w:World) (hb:Blk w b cs e) (hk:cs[off+3]?=some kv) (he:3 ≠ e) (hI:ad w base kv l) (hl:l.length<=10000) :
 Calls Tryz.prog 79 #[.pointer (some ⟨b,off,none⟩)] w fun ex w'=>ex=.returned (.int .i64 (aF l))/\pz (fun j=>j=b) w w' b off cs e base kv l.dropLast:=by
 have hne:=ao hI hb he
 have x3:w.cell? ⟨b,off+3,none⟩=some kv:=(hb.cell (off+3)).trans hk
 have f3:=hb.frozen (off+3)
 have HB:=hid hb
 clear hb
 by_cases h0:l=[]
 ·subst h0
  obtain ⟨a,c,rfl⟩:=hI.slice
  have HK:Hid (cs[off+3]?=some (.slice a 0 c)):=hk
  have HI:Hid (ad w base (.slice a 0 c) []):=hI
  clear hk hI
  go_enter Tryz.func79,Tryz.ntmps79
  go_wp2
  go_ret
  exact ⟨rfl,⟨⟨_,by rw [dQ HK.out];exact HB.out,.refl _ _,HI.out⟩,Chg.refl _ _⟩⟩
 ·have hlp:0 < l.length:=List.length_pos_iff.2 h0
  obtain ⟨g,cap,rfl,hbg,hle,hcap,hc⟩:=hI.form hlp
  have y:=hc (l.length - 1) (by omega)
  have hT:=hI.take (l.length - 1) (by omega) (by intro q;cases q)
  rw [<-List.dropLast_eq_take] at hT
  have HV:Hid (l.getD (l.length - 1) 0=aF l):=by
   show l.getD (l.length - 1) 0=aF l
   unfold aF
   rw [List.getD_eq_getElem?_getD,<-List.getLast?_eq_getElem?,List.getLastD_eq_getLast?]
  have e1:(l.length:Int) - 1=((l.length - 1:Nat):Int):=by omega
  have HI:=hI
  have HT:=hid hT
  clear hT hc hI HI
  generalize l.getD (l.length - 1) 0=t at *
  generalize hm:l.length - 1=m at *
  have hn:l.length=m+1:=by omega
  rw [hn] at x3 hk hle e1
  clear hm
  have hgb:g ≠ b:=fun q=>hne (by rw [q];rfl)
  go_enter Tryz.func79,Tryz.ntmps79
  go_wp2
  go_ret
  exact ⟨by rw [<-HV.out];rfl,⟨⟨.slice g m cap,HB.out.set (off+3) _,.inl rfl,aH HT.out _ _ (fun q=>hgb (by simpa [Value.ownBlock] using q))⟩,(Chg.refl _ w).setCell _ _ (.inl rfl)⟩⟩
theorem pE (b off:Nat) (cs:Array Value) (e:TypeId) (kv:Value) (l:List Int) (v:Int) (base:Nat) (w:World) (hb:Blk w b cs e) (hk:cs[off+3]?=some kv) (he:3 ≠ e) (hI:ad w base kv l) (hl:l.length<=100000) (hbase:base<=w.heap.size) :
 Calls Tryz.prog 95 #[.pointer (some ⟨b,off,none⟩),v] w fun ex w'=>ex=.returned (.tuple #[])/\pz (fun j=>j=b \/ some j=kv.ownBlock) w w' b off cs e base kv (l++[v]):=by
 have hne:=ao hI hb he
 have x3:w.cell? ⟨b,off+3,none⟩=some kv:=(hb.cell (off+3)).trans hk
 have hlt:=hb.lt
 have HB:=hid hb
 clear hb
 obtain ⟨a,c,rfl⟩:=hI.slice
 have HK:=hid hk
 clear hk
 have HI:=hid hI
 have j1:Chg () w (w.alloc (Obj.cells #[v] 3)):=(Chg.refl _ w).alloc _
 go_enter Tryz.func95,Tryz.ntmps95
 go_wp2_with (at_builtin;refine bI rfl _ _ rfl base (.slice a l.length c) (.slice w.heap.size 1 1) l [v] rfl rfl ?h1 ?h2 ?h3 ?h4 ?_)
 case h1=>exact HI.out.chg j1 (fun _ _ _ e=>e)
 case h2=>exact bK [v] 1 rfl (by unfold maxLen;omega)
 case h3=>simp;omega
 case h4=>exact Nat.le_trans hbase j1.size
 intro a2 n2 c2 w2 hn2 hI2 hch2 hl2
 have hbk:Blk w2 b cs e:=(HB.out.chg j1 (fun q=>q)).chg hch2 (fun q=>hne q.symm)
 have f3:=hbk.frozen (off+3)
 have x3':w2.cell? ⟨b,off+3,none⟩=some (.slice a l.length c):=(hbk.cell (off+3)).trans HK.out
 have hlt2:=hbk.lt
 have hnb:(Value.slice a2 n2 c2).ownBlock ≠ some b:=ao hI2 hbk he
 have hL:bD w (.slice a l.length c) (.slice a2 n2 c2):=by
  rcases hl2 with q | ⟨g,q,hg⟩
  ·exact .inl q
  ·exact .inr ⟨g,q,Nat.le_trans j1.size hg⟩
 have HN:=hid hn2
 clear hn2
 go_wp2
 refine bodyPost_end (v:=.tuple #[]) (by simp [results,Tryz.results95]) rfl ⟨rfl,⟨⟨_,hbk.set (off+3) _,hL,aH hI2 _ _ hnb⟩,?_⟩⟩
 exact (Chg.setCell (S:=fun j=>j=b \/ some j=(Value.slice a l.length c).ownBlock) ((j1.mono (fun _ _ q=>q.elim)).trans (hch2.mono (fun _ _ q=>.inr q))) _ _ (.inl (.inl rfl)))
theorem ad.rdrop {w:World} {base:Nat} {a:Option Addr} {n c:Nat} {l:List Int} (h:ad w base (.slice a n c) l) (k:Nat) (hk:k < l.length):∃ g,a=some ⟨g,0,none⟩/\RdI w (.slice (some ⟨g,k,none⟩) (l.length - k) (c - k)) (l.drop k):=by
 obtain ⟨g,cap,he,_,hle,hcap,hc⟩:=h.form (by omega)
 simp only [Value.slice.injEq] at he
 obtain ⟨rfl,rfl,rfl⟩:=he
 refine ⟨g,rfl,.inr ⟨g,k,c - k,?_,?_,?_,?_⟩⟩
 ·rw [List.length_drop]
 ·rw [List.length_drop];omega
 ·omega
 ·intro j hj
  rw [List.length_drop] at hj
  have:=hc (k+j) (by omega)
  rw [this]
  rw [List.getD_eq_getElem?_getD,List.getD_eq_getElem?_getD,List.getElem?_drop]
def uF (w:World) (b off:Nat) (cs:Array Value) (e:TypeId) (base:Nat) (kv:Value) (l:List Int) (n:Nat) (ex:Ending) (w':World):Prop:=
 ∃ u,ex=.returned u/\ad w' w.heap.size u (cS l n)/\pz (fun j=>j=b) w w' b off cs e base kv (dw l n)
theorem ky (b off:Nat) (cs:Array Value) (e:TypeId) (kv:Value) (l:List Int) (n:Nat) (base:Nat) (w:World) (hb:Blk w b cs e) (hk:cs[off+3]?=some kv) (he:3 ≠ e) (hI:ad w base kv l) (hl:l.length<=10000) (hn:n<=10000) :
 Calls Tryz.prog 94 #[.pointer (some ⟨b,off,none⟩),n] w (uF w b off cs e base kv l n):=by
 have hne:=ao hI hb he
 have x3:w.cell? ⟨b,off+3,none⟩=some kv:=(hb.cell (off+3)).trans hk
 have HB:=hid hb
 clear hb
 obtain ⟨a,c,rfl⟩:=hI.slice
 have HK:=hid hk
 have HI:=hid hI
 clear hk
 by_cases h0:l.length < n
 ·have h0':(l.length:Int) - (n:Int) < 0:=by omega
  have HP:Hid (cS l n=[]/\dw l n=l):=by
   show cS l n=[]/\dw l n=l
   unfold cS dw;rw [if_pos h0,if_pos h0];exact ⟨rfl,rfl⟩
  clear hI
  go_enter Tryz.func94,Tryz.ntmps94
  go_wp2
  go_ret
  refine ⟨_,rfl,?_,⟨⟨_,by rw [dQ HK.out];exact HB.out,.refl _ _,?_⟩,Chg.refl _ _⟩⟩
  ·rw [HP.out.1];exact World.ownsRow_nil _ _ _ _
  ·rw [HP.out.2];exact HI.out
 ·have HP:Hid (cS l n=l.drop (l.length - n)/\dw l n=l.take (l.length - n)):=by
   show cS l n=_/\dw l n=_
   unfold cS dw;rw [if_neg h0,if_neg h0];exact ⟨rfl,rfl⟩
  have e1:(l.length:Int) - (n:Int)=((l.length - n:Nat):Int):=by omega
  generalize hm:l.length - n=m at *
  have hm':m<=l.length:=by omega
  have hmi:(m:Int)<=(l.length:Int):=by omega
  clear hI h0 hm
  rcases HI.out.two with ⟨hv,hl0⟩ | ⟨g,c',hv⟩
  ·simp only [Value.slice.injEq] at hv
   obtain ⟨rfl,_,rfl⟩:=hv
   have hz:l.length=0:=by rw [hl0];rfl
   have hm0:m=0:=by omega
   subst hm0
   rw [hz] at x3 e1 HK HI hmi
   go_enter Tryz.func94,Tryz.ntmps94
   go_wp2_with fail
   refine (cE (.slice none 0 0) (.slice none 0 0) [] [] _ (by simp) (by simp) (.inl ⟨rfl,rfl⟩) (.inl ⟨rfl,rfl⟩)).mono ?_
   rintro ex w1 ⟨u,rfl,hu,k1⟩
   obtain ⟨ua,uc,rfl⟩:=hu.slice
   have hbk:=HB.out.chg k1 (fun q=>q)
   have x3':w1.cell? ⟨b,off+3,none⟩=some (.slice none 0 0):=(hbk.cell (off+3)).trans HK.out
   have f3:=hbk.frozen (off+3)
   clear x3
   go_wp2
   go_ret
   refine ⟨_,rfl,?_,⟨⟨.slice none 0 0,hbk.set (off+3) _,.inl rfl,?_⟩,?_⟩⟩
   ·rw [HP.out.1,hl0];exact aH hu ⟨b,off+3,none⟩ _ (ao hu hbk he)
   ·rw [HP.out.2,hl0];exact World.ownsRow_nil _ _ _ _
   ·exact (k1.mono (fun _ _ q=>q.elim)).setCell _ _ (.inl rfl)
  ·simp only [Value.slice.injEq] at hv
   obtain ⟨rfl,_,rfl⟩:=hv
   have hcl:l.length<=c:=by
    rcases HI.out.2 with ⟨q,_⟩ | ⟨g',cap,cur,q,_,_,q2,_⟩
    ·cases q
    ·simp only [Value.slice.injEq] at q;obtain ⟨_,_,rfl⟩:=q;exact q2
   have hcm2:c<=maxLen:=by
    rcases HI.out.2 with ⟨q,_⟩ | ⟨g',cap,cur,q,_,_,q2,q3,_⟩
    ·cases q
    ·simp only [Value.slice.injEq] at q;obtain ⟨_,_,rfl⟩:=q;exact q3
   have hgb:g ≠ b:=fun q=>hne (by rw [q];rfl)
   have hT:=HI.out.take m hm' (by intro q;cases q)
   have HT:=hid hT
   clear hT hne
   by_cases hcm:m < c
   ·have hrd:RdI w (.slice (some ⟨g,m,none⟩) (l.length - m) (c - m)) (l.drop m):=by
     by_cases hlt:m < l.length
     ·obtain ⟨g',q1,q2⟩:=HI.out.rdrop m hlt
      simp only [Option.some.injEq,Addr.mk.injEq] at q1
      obtain ⟨rfl,_⟩:=q1
      exact q2
     ·have:l.drop m=[]:=List.drop_eq_nil_of_le (by omega)
      rw [this]
      exact .inr ⟨g,m,c - m,by rw [show l.length - m=0 by omega];rfl,by simp,by omega,fun j hj=>by simp at hj⟩
    have HR:=hid hrd
    clear hrd
    have hcm0:c - m ≠ 0:=by omega
    generalize hN:l.length=N at *
    go_enter Tryz.func94,Tryz.ntmps94
    go_wp2_with fail
    refine (cE (.slice (some ⟨g,m,none⟩) (N - m) (c - m)) (.slice none 0 0) (l.drop m) [] _ (by rw [List.length_drop];omega) (by simp) HR.out (.inl ⟨rfl,rfl⟩)).mono ?_
    rintro ex w1 ⟨u,rfl,hu,k1⟩
    rw [List.append_nil] at hu
    obtain ⟨ua,uc,rfl⟩:=hu.slice
    rw [show (l.drop m).length=N - m by rw [List.length_drop,hN]] at hu ⊢
    have hbk:=HB.out.chg k1 (fun q=>q)
    have x3':w1.cell? ⟨b,off+3,none⟩=some (.slice g N c):=(hbk.cell (off+3)).trans HK.out
    have f3:=hbk.frozen (off+3)
    clear x3
    go_wp2
    go_ret
    refine ⟨_,rfl,?_,⟨⟨.slice g m c,hbk.set (off+3) _,.inl rfl,?_⟩,?_⟩⟩
    ·rw [HP.out.1];exact aH hu ⟨b,off+3,none⟩ _ (ao hu hbk he)
    ·rw [HP.out.2];exact aH (af HT.out k1 (fun _ _ q=>q)) _ _ (fun q=>hgb (by simpa [Value.ownBlock] using q))
    ·exact (k1.mono (fun _ _ q=>q.elim)).setCell _ _ (.inl rfl)
   ·have hce:c=m:=by omega
    subst hce
    have hlm:l.length=c:=by omega
    have hde:l.drop c=[]:=List.drop_eq_nil_of_le (by omega)
    rw [hlm] at x3 HK e1 hmi
    have HLM:=hid hlm
    clear hlm
    go_enter Tryz.func94,Tryz.ntmps94
    go_wp2_with fail
    refine (cE _ (.slice none 0 0) [] [] _ (by simp) (by simp) (.inr ⟨g,0,0,by first | rfl | simp,by simp,by unfold maxLen;omega,fun j hj=>by simp at hj⟩) (.inl ⟨rfl,rfl⟩)).mono ?_
    rintro ex w1 ⟨u,rfl,hu,k1⟩
    obtain ⟨ua,uc,rfl⟩:=hu.slice
    have hbk:=HB.out.chg k1 (fun q=>q)
    have x3':w1.cell? ⟨b,off+3,none⟩=some (.slice g c c):=(hbk.cell (off+3)).trans HK.out
    have f3:=hbk.frozen (off+3)
    clear x3
    go_wp2
    go_ret
    refine ⟨_,rfl,?_,⟨⟨.slice g c c,hbk.set (off+3) _,.inl rfl,?_⟩,?_⟩⟩
    ·rw [HP.out.1,hde];exact aH hu ⟨b,off+3,none⟩ _ (ao hu hbk he)
    ·rw [HP.out.2];exact aH (af HT.out k1 (fun _ _ q=>q)) _ _ (fun q=>hgb (by simpa [Value.ownBlock] using q))
    ·exact (k1.mono (fun _ _ q=>q.elim)).setCell _ _ (.inl rfl)
end Go.Proofs.YtnfnbcbadakofaaGreat
namespace Go.Proofs.YtnfnbcbadakofaaGreat
open Go.RowKit
set_option maxHeartbeats 400000 in
theorem dF (n:Int) (w:World):Calls Tryz.prog 100 #[n] w fun e w'=>e=.returned (.int .i64 (n % 65536))/\w'=w:=by
 have hb:=Int.emod_nonneg n (show (65536:Int) ≠ 0 by decide)
 have hc:=Int.emod_lt_of_pos n (show (0:Int) < 65536 by decide)
 have he:(0<=n.tmod 65536/\n.tmod 65536=n % 65536) \/ (n.tmod 65536 < 0 /\ -65536 < n.tmod 65536/\n.tmod 65536+65536=n % 65536) \/ (n.tmod 65536=0/\n % 65536=0):=by
  rw [Int.tmod_eq_emod]
  split
  ·omega
  ·have:((65536:Int).natAbs:Int)=65536:=rfl
   omega
 rcases he with ⟨h0,h1⟩ | ⟨h0,h1,h2⟩ | ⟨h0,h1⟩
 ·have H:=hid h1
  clear h1 hb hc
  go_enter Tryz.func100,Tryz.ntmps100
  go_wp2
  go_ret
  exact ⟨by rw [<-H.out];rfl,rfl⟩
 ·have H:=hid h2
  clear h2 hb hc
  have hw:wrap64 (n.tmod 65536+65536)=n.tmod 65536+65536:=by unfold wrap64;omega
  go_enter Tryz.func100,Tryz.ntmps100
  go_wp2
  go_ret
  exact ⟨by rw [<-H.out];first | rfl | (simp only [hw];rfl),rfl⟩
 ·have H:=hid h1
  clear h1 hb hc
  go_enter Tryz.func100,Tryz.ntmps100
  go_wp2
  go_ret
  exact ⟨by rw [H.out];first | rfl | (simp only [h0];rfl),rfl⟩
theorem dq (b:Bool) (w:World):Calls Tryz.prog 99 #[.bool b] w fun e w'=>e=.returned (.int .i64 (if b=true then 1 else 0))/\w'=w:=by
 cases b <;> (go_enter Tryz.func99,Tryz.ntmps99;go_wp2;go_ret;exact ⟨rfl,rfl⟩)
theorem gA (n:Int) (h0:-1000000<=n) (h1:n<=1000000) (w:World):Calls Tryz.prog 78 #[n] w fun e w'=>e=.returned (.int .i64 (n+1))/\w'=w:=by
 go_enter Tryz.func78,Tryz.ntmps78
 go_wp2
 go_ret
 exact ⟨rfl,rfl⟩
theorem eE (r f:Int) (h0:0<=r) (h1:r<=1000000) (h2:0<=f) (h3:f<=1000000) (w:World):Calls Tryz.prog 97 #[r,f] w fun e w'=>e=.returned (.int .i64 (r+f))/\w'=w:=by
 go_enter Tryz.func97,Tryz.ntmps97
 go_wp2
 go_ret
 exact ⟨rfl,rfl⟩
set_option maxHeartbeats 400000 in
theorem cR (op a b:Int) (hop:op=1 \/ op=2 \/ op=3 \/ op=4 \/ op=12) (ha:0<=a) (ha':a<=65535) (hb:0<=b) (hb':b<=65535) (w:World) :
 Calls Tryz.prog 98 #[op,a,b] w fun e w'=>e=.returned (.int .i64 (dB op a b))/\w'=w:=by
 rcases hop with rfl | rfl | rfl | rfl | rfl
 ·have e:dB 1 a b=(a+b) % 65536:=rfl
  rw [e]
  go_enter Tryz.func98,Tryz.ntmps98
  go_wp2_with fail
  refine (dF _ _).mono ?_
  rintro ex w1 ⟨rfl,rfl⟩
  go_wp2
  go_ret
  exact ⟨rfl,rfl⟩
 ·have e:dB 2 a b=(a - b) % 65536:=rfl
  rw [e]
  go_enter Tryz.func98,Tryz.ntmps98
  go_wp2_with fail
  refine (dF _ _).mono ?_
  rintro ex w1 ⟨rfl,rfl⟩
  go_wp2
  go_ret
  exact ⟨rfl,rfl⟩
 ·have e:dB 3 a b=(a * b) % 65536:=rfl
  rw [e]
  have h0:0<=a * b:=Int.mul_nonneg ha hb
  have h1:a * b<=65535 * 65535:=Int.mul_le_mul ha' hb' hb (by decide)
  generalize hp:a * b=p at *
  go_enter Tryz.func98,Tryz.ntmps98
  go_wp2_with fail
  refine (dF _ _).mono ?_
  rintro ex w1 ⟨rfl,rfl⟩
  go_wp2
  go_ret
  exact ⟨rfl,rfl⟩
 ·have e:dB 4 a b=if a < b then 1 else 0:=rfl
  rw [e]
  by_cases h:a < b
  ·rw [if_pos h]
   go_enter Tryz.func98,Tryz.ntmps98
   go_wp2_with fail
   refine (dq _ _).mono ?_
   rintro ex w1 ⟨rfl,rfl⟩
   go_wp2
   go_ret
   exact ⟨by simp,rfl⟩
  ·rw [if_neg h]
   have h':b<=a:=by omega
   go_enter Tryz.func98,Tryz.ntmps98
   go_wp2_with fail
   refine (dq _ _).mono ?_
   rintro ex w1 ⟨rfl,rfl⟩
   go_wp2
   go_ret
   exact ⟨by simp,rfl⟩
 ·have e:dB 12 a b=if a=b then 1 else 0:=rfl
  rw [e]
  by_cases h:a=b
  ·rw [if_pos h]
   go_enter Tryz.func98,Tryz.ntmps98
   go_wp2_with fail
   refine (dq _ _).mono ?_
   rintro ex w1 ⟨rfl,rfl⟩
   go_wp2
   go_ret
   exact ⟨by simp,rfl⟩
  ·rw [if_neg h]
   go_enter Tryz.func98,Tryz.ntmps98
   go_wp2_with fail
   refine (dq _ _).mono ?_
   rintro ex w1 ⟨rfl,rfl⟩
   go_wp2
   go_ret
   exact ⟨by simp,rfl⟩
end Go.Proofs.YtnfnbcbadakofaaGreat
namespace Go.Proofs.YtnfnbcbadakofaaGreat
open Go.RowKit
def Sep (u v:Value):Prop:=∀ g,u.ownBlock=some g->v.ownBlock ≠ some g
theorem Sep.symm {u v:Value} (h:Sep u v):Sep v u:=fun g h1 h2=>h g h2 h1
theorem Sep.nil (u:Value):Sep u (.slice none 0 0):=fun g _ h=>by cases h
theorem Sep.lies {w:World} {u v v':Value} (h:Sep u v) (hl:bD w v v') (hu:∀ g,u.ownBlock=some g->g < w.heap.size):Sep u v':=by
 intro g hg hv
 rcases hl with q | ⟨g',q,hg'⟩
 ·rw [q] at hv;exact h g hg hv
 ·rw [q] at hv;simp at hv;have:=hu g hg;omega
theorem Sep.new {w:World} {u v:Value} {base:Nat} {l:List Int} (hv:ad w base v l) (hu:∀ g,u.ownBlock=some g->g < base):Sep u v:=by
 intro g hg h
 have:=(hv.lt g h).1
 have:=hu g hg
 omega
structure RV where
 wv:Value
 bv:Value
 lv:Value
 kv:Value
 ov:Value
 xs:List (Fr × Value × Value)
def RV.fl (V:RV):List Value:=V.xs.flatMap fun x=>[x.2.1,x.2.2]
structure RSp (V:RV):Prop where
 wl:Sep V.wv V.lv
 wk:Sep V.wv V.kv
 wo:Sep V.wv V.ov
 lk:Sep V.lv V.kv
 lo:Sep V.lv V.ov
 ko:Sep V.kv V.ov
 fw:∀ u ∈ V.fl,Sep u V.wv
 fl:∀ u ∈ V.fl,Sep u V.lv
 fk:∀ u ∈ V.fl,Sep u V.kv
 fo:∀ u ∈ V.fl,Sep u V.ov
 ff:V.fl.Pairwise Sep
def rcs (s:ByteArray) (tv fv sv iv:Value) (R:Rn) (V:RV):Array Value:=
 #[.string s,tv,fv,sv,.int .i64 R.heap,.int .i64 R.depth,.int .i64 R.status,V.wv,V.bv,.int .i64 R.top.fn,.int .i64 R.top.pc,V.lv,V.kv,iv,.int .i64 R.used,V.ov]
structure RI (W1 w:World) (rb:Nat) (s:ByteArray) (tv fv sv iv:Value) (R:Rn) (V:RV):Prop where
 ch:Chg (fun j=>j=rb) W1 w
 bx:Blk w rb (rcs s tv fv sv iv R V) 62
 ww:ad w W1.heap.size V.wv R.words
 ll:ad w W1.heap.size V.lv R.top.locals
 kk:ad w W1.heap.size V.kv R.top.stack
 oo:ad w W1.heap.size V.ov R.out
 be:V.xs.map (·.1)=R.below
 bb:w.ownsRow W1.heap.size 60 4 V.bv V.xs.length (frC V.xs)
 xx:∀ x ∈ V.xs,ad w W1.heap.size x.2.1 x.1.locals/\ad w W1.heap.size x.2.2 x.1.stack
 sp:RSp V
section
variable {W1 w w':World} {rb:Nat} {s:ByteArray} {tv fv sv iv:Value} {R:Rn} {V:RV}
theorem RV.fl_mem {V:RV} {u:Value} (h:u ∈ V.fl):∃ x ∈ V.xs,u=x.2.1 \/ u=x.2.2:=by
 unfold RV.fl at h
 rw [List.mem_flatMap] at h
 obtain ⟨x,hx,hu⟩:=h
 exact ⟨x,hx,by simpa using hu⟩
theorem RI.fl_own (h:RI W1 w rb s tv fv sv iv R V) {u:Value} (hu:u ∈ V.fl):∃ l,ad w W1.heap.size u l:=by
 obtain ⟨x,hx,rfl | rfl⟩:=V.fl_mem hu
 ·exact ⟨_,(h.xx x hx).1⟩
 ·exact ⟨_,(h.xx x hx).2⟩
theorem RI.fl_lt (h:RI W1 w rb s tv fv sv iv R V) {u:Value} (hu:u ∈ V.fl):∀ g,u.ownBlock=some g->g < w.heap.size:=by
 obtain ⟨l,hl⟩:=h.fl_own hu
 exact fun g hg=>(hl.lt g hg).2
theorem ad.lts {w:World} {base:Nat} {v:Value} {l:List Int} (h:ad w base v l):∀ g,v.ownBlock=some g->g < w.heap.size:=fun g hg=>(h.lt g hg).2
theorem ad.apart {w w':World} {base:Nat} {u v:Value} {l:List Int} {S:Nat->Prop} (h:ad w base u l) {b:Nat} {cs:Array Value} {e:TypeId} (hb:Blk w b cs e) (he:3 ≠ e) (k:Chg S w w') (hS:∀ j,S j->j=b \/ some j=v.ownBlock) (hs:Sep u v):ad w' base u l:=
 af h k (fun g hg hSg=>by
  rcases hS g hSg with q | q
  ·exact ao h hb he (by rw [hg,q])
  ·exact hs g hg q.symm)
theorem RI.frames (h:RI W1 w rb s tv fv sv iv R V) {v:Value} {lv:List Int} {base:Nat} (hv:ad w base v lv) {S:Nat->Prop} (k:Chg S w w') (hS:∀ j,S j->j=rb \/ some j=v.ownBlock) (hs:∀ u ∈ V.fl,Sep u v) :
 w'.ownsRow W1.heap.size 60 4 V.bv V.xs.length (frC V.xs)/\∀ x ∈ V.xs,ad w' W1.heap.size x.2.1 x.1.locals/\ad w' W1.heap.size x.2.2 x.1.stack:=by
 refine ⟨af h.bb k (fun g hg hSg=>?_),fun x hx=>?_⟩
 ·obtain ⟨cs,hb⟩:=ay h.bb hg
  rcases hS g hSg with q | q
  ·subst q;exact hb.ne h.bx (by decide) rfl
  ·obtain ⟨cs',hb'⟩:=ay hv q.symm;exact hb.ne hb' (by decide) rfl
 ·exact ⟨(h.xx x hx).1.apart h.bx (by decide) k hS (hs _ (List.mem_flatMap.2 ⟨x,hx,by simp⟩)),(h.xx x hx).2.apart h.bx (by decide) k hS (hs _ (List.mem_flatMap.2 ⟨x,hx,by simp⟩))⟩
theorem RI.chg1 (h:RI W1 w rb s tv fv sv iv R V) {v:Value} {lv:List Int} (hv:ad w W1.heap.size v lv) {S:Nat->Prop} (k:Chg S w w') (hS:∀ j,S j->j=rb \/ some j=v.ownBlock):Chg (fun j=>j=rb) W1 w':=
 h.ch.trans' k (fun i hi q=>by
  rcases hS i q with q | q
  ·exact q
  ·have:=(hv.lt i q.symm).1;omega)
theorem RI.stk (h:RI W1 w rb s tv fv sv iv R V) {S:Nat->Prop} {kv':Value} {l':List Int} (hS:∀ j,S j->j=rb \/ some j=V.kv.ownBlock) (k:Chg S w w') (hb:Blk w' rb ((rcs s tv fv sv iv R V).setIfInBounds 12 kv') 62) (hL:bD w V.kv kv') (hI:ad w' W1.heap.size kv' l') :
 RI W1 w' rb s tv fv sv iv { R with top:={ R.top with stack:=l' } } { V with kv:=kv' }:=by
 obtain ⟨f1,f2⟩:=h.frames h.kk k hS h.sp.fk
 refine ⟨h.chg1 h.kk k hS,hb,h.ww.apart h.bx (by decide) k hS h.sp.wk,h.ll.apart h.bx (by decide) k hS h.sp.lk,hI,h.oo.apart h.bx (by decide) k hS h.sp.ko.symm,h.be,f1,f2,?_⟩
 exact ⟨h.sp.wl,h.sp.wk.lies hL h.ww.lts,h.sp.wo,h.sp.lk.lies hL h.ll.lts,h.sp.lo,(h.sp.ko.symm.lies hL h.oo.lts).symm,h.sp.fw,h.sp.fl,fun u hu=>(h.sp.fk u hu).lies hL (h.fl_lt hu),h.sp.fo,h.sp.ff⟩
theorem RI.num (h:RI W1 w rb s tv fv sv iv R V) {i:Nat} {v:Value} {R':Rn} (e:(rcs s tv fv sv iv R V).setIfInBounds i v=rcs s tv fv sv iv R' V) (e1:R'.words=R.words) (e2:R'.top.locals=R.top.locals) (e3:R'.top.stack=R.top.stack) (e4:R'.out=R.out) (e5:R'.below=R.below) :
 RI W1 (w.setCell ⟨rb,i,none⟩ v) rb s tv fv sv iv R' V:=by
 have k:Chg (fun j=>j=rb) w (w.setCell ⟨rb,i,none⟩ v):=(Chg.refl _ w).setCell _ _ (.inl rfl)
 have hS:∀ j,j=rb->j=rb \/ some j=V.kv.ownBlock:=fun j q=>.inl q
 obtain ⟨f1,f2⟩:=h.frames h.kk k hS h.sp.fk
 refine ⟨h.chg1 h.kk k hS,by rw [<-e];exact h.bx.set i v,?_,?_,?_,?_,by rw [e5];exact h.be,f1,f2,h.sp⟩
 ·rw [e1];exact h.ww.apart h.bx (by decide) k hS h.sp.wk
 ·rw [e2];exact h.ll.apart h.bx (by decide) k hS h.sp.lk
 ·rw [e3];exact aH h.kk _ _ (ao h.kk h.bx (by decide))
 ·rw [e4];exact h.oo.apart h.bx (by decide) k hS h.sp.ko.symm
theorem RI.new (h:RI W1 w rb s tv fv sv iv R V) (k:Chg () w w'):RI W1 w' rb s tv fv sv iv R V:=by
 have hS:∀ j,False->j=rb \/ some j=V.kv.ownBlock:=fun j q=>q.elim
 obtain ⟨f1,f2⟩:=h.frames h.kk k hS h.sp.fk
 exact ⟨h.chg1 h.kk k hS,h.bx.chg k (fun q=>q),af h.ww k (fun _ _ q=>q),af h.ll k (fun _ _ q=>q),af h.kk k (fun _ _ q=>q),af h.oo k (fun _ _ q=>q),h.be,f1,f2,h.sp⟩
end
structure KR (w w':World):Prop where
 size:w.heap.size<=w'.heap.size
 keep:∀ b cs e,Blk w b cs e->e ≠ 3->e ≠ 60->e ≠ 62->Blk w' b cs e
theorem KR.refl (w:World):KR w w:=⟨Nat.le_refl _,fun _ _ _ h _ _ _=>h⟩
theorem KR.trans {a b c:World} (h:KR a b) (k:KR b c):KR a c:=⟨Nat.le_trans h.size k.size,fun x cs e q h3 h4 h5=>k.keep x cs e (h.keep x cs e q h3 h4 h5) h3 h4 h5⟩
theorem KR.new {w w':World} (k:Chg () w w'):KR w w':=⟨k.size,fun _b _ _ h _ _ _=>h.chg k (fun q=>q)⟩
theorem KR.of {w w':World} {S:Nat->Prop} (k:Chg S w w') {rb:Nat} {cs0:Array Value} (hb:Blk w rb cs0 62) {v:Value} {l:List Int} {base:Nat} (hv:ad w base v l) (hS:∀ j,S j->j=rb \/ some j=v.ownBlock):KR w w':=
 ⟨k.size,fun b cs e h h3 _ h5=>h.chg k (fun q=>by
  rcases hS b q with q | q
  ·subst q;exact h.ne hb h5 rfl
  ·obtain ⟨cs',hb'⟩:=ay hv q.symm;exact h.ne hb' h3 rfl)⟩
def aS (W1 w:World) (rb:Nat) (s:ByteArray) (tv fv sv iv:Value) (R:Rn) (ex:Ending) (w':World):Prop:=ex=.returned (.tuple #[])/\KR w w'/\∃ V,RI W1 w' rb s tv fv sv iv R V
end Go.Proofs.YtnfnbcbadakofaaGreat
namespace Go.Proofs.YtnfnbcbadakofaaGreat
open Go.RowKit
structure Rw where
 e:TypeId
 k:Nat
 v:Value
 n:Nat
 xs:List Value
structure Own (base:Nat) (w:World) (L:List Rw):Prop where
 ok:∀ r ∈ L,w.ownsRow base r.e r.k r.v r.n r.xs
 sp:L.Pairwise fun a b=>Sep a.v b.v
def bN (L:List Rw) (j:Nat):Prop:=∃ r ∈ L,r.v.ownBlock=some j
theorem cy {w:World} {base:Nat} {e:TypeId} {k:Nat} {v:Value} {n:Nat} {xs:List Value} (h:w.ownsRow base e k v n xs) {g:Nat} (hg:v.ownBlock=some g):base<=g/\g < w.heap.size:=by
 rcases h.2 with ⟨rfl,_⟩ | ⟨g',cap,cur,rfl,hb,hgg,_⟩
 ·simp [Value.ownBlock] at hg
 ·simp [Value.ownBlock] at hg;subst hg;exact ⟨hb,(Array.getElem?_eq_some_iff.1 hgg).1⟩
section
variable {base:Nat} {w w' w'':World} {L L' L'' A B:List Rw} {r r':Rw}
theorem Own.lt (h:Own base w L) {j:Nat} (hj:bN L j):base<=j/\j < w.heap.size:=by
 obtain ⟨r,hr,q⟩:=hj;exact cy (h.ok r hr) q
theorem Own.off (h:Own base w L) {S:Nat->Prop} (k:Chg S w w') (hS:∀ j,bN L j->¬ S j):Own base w' L:=
 ⟨fun r hr=>af (h.ok r hr) k (fun g hg=>hS g ⟨r,hr,hg⟩),h.sp⟩
theorem Own.new (h:Own base w L) (k:Chg () w w'):Own base w' L:=h.off k (fun _ _ q=>q)
theorem Own.perm (h:Own base w L) (p:L.Perm L'):Own base w L':=
 ⟨fun r hr=>h.ok r (p.mem_iff.2 hr),(p.pairwise_iff (fun hs=>hs.symm)).1 h.sp⟩
theorem Own.sub (h:Own base w L) (p:L'.Sublist L):Own base w L':=⟨fun r hr=>h.ok r (p.subset hr),h.sp.sublist p⟩
theorem ck (p:L.Perm L') {j:Nat}:bN L j ↔ bN L' j:=⟨fun ⟨r,a,b⟩=>⟨r,p.mem_iff.1 a,b⟩,fun ⟨r,a,b⟩=>⟨r,p.mem_iff.2 a,b⟩⟩
theorem Own.upd (h:Own base w (r::B)) {S:Nat->Prop} (k:Chg S w w') (hS:∀ j,S j->¬ bN B j \/ r.v.ownBlock=some j) (hr:w'.ownsRow base r'.e r'.k r'.v r'.n r'.xs) (hl:bD w r.v r'.v):Own base w' (r'::B):=by
 have hsp:=List.pairwise_cons.1 h.sp
 have hlt:∀ b ∈ B,∀ g,b.v.ownBlock=some g->base<=g/\g < w.heap.size:=fun b hb g hg=>cy (h.ok b (by simp [hb])) hg
 refine ⟨fun x hx=>?_,List.pairwise_cons.2 ⟨fun b hb=>?_,hsp.2⟩⟩
 ·rcases List.mem_cons.1 hx with rfl | hx
  ·exact hr
  ·refine af (h.ok x (by simp [hx])) k (fun g hg q=>?_)
   rcases hS g q with z | z
   ·exact z ⟨x,hx,hg⟩
   ·exact hsp.1 x hx g z hg
 ·exact (((hsp.1 b hb).symm).lies hl (fun g hg=>(hlt b hb g hg).2)).symm
theorem Own.add (h:Own base w L) (k:Chg () w w') (hr:w'.ownsRow base r'.e r'.k r'.v r'.n r'.xs) (hn:∀ g,r'.v.ownBlock=some g->w.heap.size<=g):Own base w' (r'::L):=by
 refine ⟨fun x hx=>?_,List.pairwise_cons.2 ⟨fun b hb g h1 h2=>?_,h.sp⟩⟩
 ·rcases List.mem_cons.1 hx with rfl | hx
  ·exact hr
  ·exact af (h.ok x hx) k (fun _ _ q=>q)
 ·have:=cy (h.ok b hb) h2;have:=hn g h1;omega
structure Ev (rb:Nat) (L:List Rw) (w:World) (L':List Rw) (w':World):Prop where
 ch:Chg (fun j=>j=rb \/ bN L j) w w'
 nw:∀ j,bN L' j->bN L j \/ w.heap.size<=j
theorem Ev.refl (rb:Nat) (L:List Rw) (w:World):Ev rb L w L w:=⟨Chg.refl _ _,fun _ h=>.inl h⟩
theorem Ev.trans {rb:Nat} (h:Ev rb L w L' w') (k:Ev rb L' w' L'' w''):Ev rb L w L'' w'':=
 ⟨h.ch.trans' k.ch (fun i hi q=>by
  rcases q with q | q
  ·exact .inl q
  ·rcases h.nw i q with z | z
   ·exact .inr z
   ·omega),fun j hj=>by
  rcases k.nw j hj with q | q
  ·exact h.nw j q
  ·exact .inr (Nat.le_trans h.ch.size q)⟩
theorem Ev.new (rb:Nat) (L:List Rw) (k:Chg () w w'):Ev rb L w L w':=⟨k.mono (fun _ _ q=>q.elim),fun _ h=>.inl h⟩
theorem Ev.drew {rb:Nat} (h:Ev rb L w L' w'):Ev rb L w L' w'.drew:=⟨h.ch.drew,h.nw⟩
theorem Ev.drewN {rb:Nat} (h:Ev rb L w L' w') (n:Nat):Ev rb L w L' (w'.drewN n):=⟨h.ch.drewN n,h.nw⟩
theorem Ev.of_upd {rb:Nat} {S:Nat->Prop} (k:Chg S w w') (hS:∀ j,S j->j=rb \/ r.v.ownBlock=some j) (hl:bD w r.v r'.v):Ev rb (r::B) w (r'::B) w':=
 ⟨k.mono (fun j _ q=>(hS j q).imp id fun z=>⟨r,by simp,z⟩),fun j ⟨x,hx,hj⟩=>by
  rcases List.mem_cons.1 hx with rfl | hx
  ·rcases hl with q | ⟨g,q,hg⟩
   ·exact .inl ⟨r,by simp,by rw [<-q];exact hj⟩
   ·rw [q] at hj;cases hj;exact .inr hg
  ·exact .inl ⟨x,by simp [hx],hj⟩⟩
theorem Ev.of_add {rb:Nat} (k:Chg () w w') (hn:∀ g,r'.v.ownBlock=some g->w.heap.size<=g):Ev rb L w (r'::L) w':=
 ⟨k.mono (fun _ _ q=>q.elim),fun j ⟨x,hx,hj⟩=>by
  rcases List.mem_cons.1 hx with rfl | hx
  ·exact .inr (hn j hj)
  ·exact .inl ⟨x,hx,hj⟩⟩
theorem Ev.perm {rb:Nat} (h:Ev rb L w L' w') {M M':List Rw} (p:L.Perm M) (p':L'.Perm M'):Ev rb M w M' w':=
 ⟨h.ch.mono (fun _ _ q=>q.imp id (ck p).1),fun j hj=>(h.nw j ((ck p').2 hj)).imp (ck p).1 id⟩
theorem Ev.sub {rb:Nat} (h:Ev rb L w L' w') (p:L''.Sublist L'):Ev rb L w L'' w':=⟨h.ch,fun j ⟨r,a,b⟩=>h.nw j ⟨r,p.subset a,b⟩⟩
theorem Ev.blk {rb:Nat} (h:Ev rb L w L' w') {b:Nat} {cs:Array Value} {e:TypeId} (hb:Blk w b cs e) (h1:b ≠ rb) (h2:¬ bN L b):Blk w' b cs e:=hb.chg h.ch (fun q=>q.elim h1 h2)
end
structure DV where
 fv:Value
 rv:Value
 ov:Value
 fs:List (DFr × Value × Value)
 rs:List (List (Int × Bool) × Value)
def vrw (v:Value) (l:List (Int × Bool)):Rw:=⟨104,2,v,l.length,vlC l⟩
def dfC (fs:List (DFr × Value × Value)):List Value:=fs.flatMap fun x=>[.int .i64 x.1.fn,.int .i64 x.1.pc,x.2.1,x.2.2]
def frw (V:DV):Rw:=⟨72,4,V.fv,V.fs.length,dfC V.fs⟩
def rrw (V:DV):Rw:=⟨74,1,V.rv,V.rs.length,V.rs.map (·.2)⟩
def orw (V:DV) (out:List Int):Rw:=⟨3,1,V.ov,out.length,aE out⟩
def fsr (fs:List (DFr × Value × Value)):List Rw:=fs.flatMap fun x=>[vrw x.2.1 x.1.locals,vrw x.2.2 x.1.stack]
def rsr (rs:List (List (Int × Bool) × Value)):List Rw:=rs.map fun x=>vrw x.2 x.1
def aw (V:DV) (out:List Int):List Rw:=frw V::rrw V::orw V out::(fsr V.fs++rsr V.rs)
def dcs (tv fv:Value) (D:Dn) (V:DV):Array Value:=#[tv,fv,.int .i64 D.heap,.int .i64 D.depth,.int .i64 D.status,V.fv,V.rv,V.ov,.int .i64 (D.used:Int)]
structure DI (W1 w:World) (rb:Nat) (tv fv:Value) (D:Dn) (V:DV):Prop where
 ch:Chg () W1 w
 bx:Blk w rb (dcs tv fv D V) 53
 rn:W1.heap.size<=rb
 ow:Own W1.heap.size w (aw V D.out)
 fe:V.fs.map (·.1)=az D
 re:V.rs.map (·.1)=D.recs
def aG (W1 w:World) (rb:Nat) (tv fv:Value) (V:DV) (out:List Int) (D':Dn) (w':World):Prop:=∃ V',DI W1 w' rb tv fv D' V'/\Ev rb (aw V out) w (aw V' D'.out) w'
theorem oV (V:DV) (out:List Int):∀ r ∈ aw V out,r.e ≠ 53:=by
 intro r hr
 simp only [aw,List.mem_cons,List.mem_append,fsr,rsr,List.mem_flatMap,List.mem_map,List.not_mem_nil,or_false] at hr
 rcases hr with rfl | rfl | rfl | ⟨x,_,rfl | rfl⟩ | ⟨x,_,rfl⟩ <;> simp [frw,rrw,orw,vrw]
section
variable {W1 w w':World} {rb:Nat} {tv fv:Value} {D D':Dn} {V V':DV}
theorem DI.nrb (h:DI W1 w rb tv fv D V):¬ bN (aw V D.out) rb:=fun ⟨r,hr,q⟩=>ao (h.ow.ok r hr) h.bx (oV V D.out r hr) q
theorem DI.new (h:DI W1 w rb tv fv D V) (k:Chg () w w'):DI W1 w' rb tv fv D V:=⟨h.ch.trans k,h.bx.chg k (fun q=>q),h.rn,h.ow.new k,h.fe,h.re⟩
theorem DI.drew (h:DI W1 w rb tv fv D V):DI W1 w.drew rb tv fv D V:=h.new (Chg.refl _ w).drew
theorem DI.drewN (h:DI W1 w rb tv fv D V) (n:Nat):DI W1 (w.drewN n) rb tv fv D V:=h.new ((Chg.refl _ w).drewN n)
theorem DI.ev (h:DI W1 w rb tv fv D V) {L':List Rw} (k:Ev rb (aw V D.out) w L' w'):Chg () W1 w':=
 h.ch.trans' k.ch (fun i hi q=>by
  rcases q with q | q
  ·have:=h.rn;omega
  ·have:=h.ow.lt q;omega)
structure OE (base rb:Nat) (w0:World) (L0:List Rw) (w:World) (L:List Rw):Prop where
 ow:Own base w L
 ev:Ev rb L0 w0 L w
 nb:¬ bN L rb
 lt:rb < w.heap.size
section
variable {base:Nat} {w0:World} {L0 L M B:List Rw} {r r':Rw}
theorem OE.upd (h:OE base rb w0 L0 w (r::B)) {S:Nat->Prop} (k:Chg S w w') (hS:∀ j,S j->j=rb \/ r.v.ownBlock=some j) (hr:w'.ownsRow base r'.e r'.k r'.v r'.n r'.xs) (hl:bD w r.v r'.v):OE base rb w0 L0 w' (r'::B):=by
 refine ⟨h.ow.upd k (fun j q=>(hS j q).imp (fun z ⟨x,hx,hj⟩=>h.nb ⟨x,by simp [hx],by rw [<-z];exact hj⟩) id) hr hl,h.ev.trans (Ev.of_upd k hS hl),?_,Nat.lt_of_lt_of_le h.lt k.size⟩
 rintro ⟨x,hx,hj⟩
 rcases List.mem_cons.1 hx with rfl | hx
 ·rcases hl with q | ⟨g,q,hg⟩
  ·exact h.nb ⟨r,by simp,by rw [<-q];exact hj⟩
  ·rw [q] at hj;cases hj;have:=h.lt;omega
 ·exact h.nb ⟨x,by simp [hx],hj⟩
theorem OE.add (h:OE base rb w0 L0 w L) (k:Chg () w w') (hr:w'.ownsRow base r'.e r'.k r'.v r'.n r'.xs) (hn:∀ g,r'.v.ownBlock=some g->w.heap.size<=g):OE base rb w0 L0 w' (r'::L):=by
 refine ⟨h.ow.add k hr hn,h.ev.trans (Ev.of_add k hn),?_,Nat.lt_of_lt_of_le h.lt k.size⟩
 rintro ⟨x,hx,hj⟩
 rcases List.mem_cons.1 hx with rfl | hx
 ·have:=hn _ hj;have:=h.lt;omega
 ·exact h.nb ⟨x,hx,hj⟩
theorem OE.perm (h:OE base rb w0 L0 w L) (p:L.Perm M):OE base rb w0 L0 w M:=⟨h.ow.perm p,h.ev.perm (.refl _) p,fun q=>h.nb ((ck p).2 q),h.lt⟩
theorem OE.sub (h:OE base rb w0 L0 w L) (p:M.Sublist L):OE base rb w0 L0 w M:=⟨h.ow.sub p,h.ev.sub p,fun ⟨x,hx,hj⟩=>h.nb ⟨x,p.subset hx,hj⟩,h.lt⟩
theorem OE.new (h:OE base rb w0 L0 w L) (k:Chg () w w'):OE base rb w0 L0 w' L:=⟨h.ow.new k,h.ev.trans (Ev.new rb L k),h.nb,Nat.lt_of_lt_of_le h.lt k.size⟩
theorem OE.box (h:OE base rb w0 L0 w L) (k:Chg (fun j=>j=rb) w w'):OE base rb w0 L0 w' L:=
 ⟨h.ow.off k (fun j hj q=>h.nb (by rw [<-q];exact hj)),h.ev.trans ⟨k.mono (fun _ _ q=>.inl q),fun _ q=>.inl q⟩,h.nb,Nat.lt_of_lt_of_le h.lt k.size⟩
end
theorem DI.oe (h:DI W1 w rb tv fv D V):OE W1.heap.size rb w (aw V D.out) w (aw V D.out):=⟨h.ow,Ev.refl _ _ _,h.nrb,h.bx.lt⟩
theorem DI.fin (h:DI W1 w rb tv fv D V) {L:List Rw} (o:OE W1.heap.size rb w (aw V D.out) w' L) (p:L.Perm (aw V' D'.out)) (hb:Blk w' rb (dcs tv fv D' V') 53) (fe:V'.fs.map (·.1)=az D') (re:V'.rs.map (·.1)=D'.recs):aG W1 w rb tv fv V D.out D' w':=
 ⟨V',⟨h.ev o.ev,hb,h.rn,o.ow.perm p,fe,re⟩,o.ev.perm (.refl _) p⟩
theorem dE (fs:List (DFr × Value × Value)):(dfC fs).length=fs.length * 4:=by
 induction fs with
 | nil=>rfl
 | cons x fs ih=>simp only [dfC,List.flatMap_cons,List.length_append,List.length_cons,List.length_nil] at ih ⊢;omega
theorem dy (fs:List (DFr × Value × Value)) (x:DFr × Value × Value):dfC (fs++[x])=dfC fs++[.int .i64 x.1.fn,.int .i64 x.1.pc,x.2.1,x.2.2]:=by simp [dfC]
theorem lK (l:List (Int × Bool)):(vlC l).length=l.length * 2:=by
 induction l with
 | nil=>rfl
 | cons x l ih=>simp only [vlC,List.flatMap_cons,List.length_append,List.length_cons,List.length_nil] at ih ⊢;omega
theorem DI.top (h:DI W1 w rb tv fv D V) (hs:D.status=0 \/ D.status=2):∃ xs lv kv,V.fs=xs++[(D.top,lv,kv)]/\xs.map (·.1)=D.below:=by
 have e:=h.fe
 unfold az at e
 rw [if_pos hs] at e
 obtain ⟨xs,y,hxy⟩:∃ xs y,V.fs=xs++[y]:=by
  have hne:V.fs ≠ []:=by intro q;rw [q] at e;simp at e
  exact ⟨V.fs.dropLast,V.fs.getLast hne,(List.dropLast_concat_getLast hne).symm⟩
 rw [hxy,List.map_append,List.map_singleton] at e
 obtain ⟨e1,e2⟩:=List.append_inj' e rfl
 simp only [List.cons.injEq,and_true] at e2
 obtain ⟨a,b,c⟩:=y
 simp only at e2
 subst e2
 exact ⟨xs,b,c,hxy,e1⟩
theorem DI.frs (h:DI W1 w rb tv fv D V) {xs:List (DFr × Value × Value)} {x:DFr × Value × Value} (e:V.fs=xs++[x]):∃ g cap,V.fv=.slice (some ⟨g,0,none⟩) (xs.length+1) cap/\W1.heap.size<=g/\g < w.heap.size/\xs.length+1<=cap/\cap<=maxLen /\
 w.cell? ⟨g,xs.length * 4,none⟩=some (.int .i64 x.1.fn)/\w.cell? ⟨g,xs.length * 4+1,none⟩=some (.int .i64 x.1.pc)/\w.cell? ⟨g,xs.length * 4+2,none⟩=some x.2.1/\w.cell? ⟨g,xs.length * 4+3,none⟩=some x.2.2/\(∀ i,w.frozen? ⟨g,i,none⟩=false)/\∃ cs,Blk w g cs 72:=by
 have ho:w.ownsRow W1.heap.size 72 4 V.fv V.fs.length (dfC V.fs):=h.ow.ok (frw V) (by simp [aw])
 have hl:V.fs.length=xs.length+1:=by rw [e];simp
 have hc:=fun g=>World.ownsRow.cells (g:=g) ho
 have ho':=ho
 rcases ho.2 with ⟨_,h0⟩ | ⟨g,cap,cur,hv,hb,hgg,hle,hcap,_⟩
 ·omega
 ·have hq:∀ i v,[Value.int .i64 x.1.fn,.int .i64 x.1.pc,x.2.1,x.2.2][i]?=some v->w.cell? ⟨g,xs.length * 4+i,none⟩=some v:=fun i v hi=>by
   have hi4:i < 4:=by have:=(List.getElem?_eq_some_iff.1 hi).1;simpa using this
   have:=hc g (by rw [hv];rfl) (xs.length * 4+i) v (by rw [e,dy,List.getElem?_append_right (by rw [dE];omega),dE,show xs.length * 4+i - xs.length * 4=i by omega];exact hi)
   have hadd:(⟨g,0,none⟩:Addr).add (xs.length * 4+i)=⟨g,xs.length * 4+i,none⟩:=by unfold Addr.add;split <;> simp_all
   rwa [hadd] at this
  refine ⟨g,cap,by rw [hv,hl],hb,(Array.getElem?_eq_some_iff.1 hgg).1,by omega,hcap,hq 0 _ rfl,hq 1 _ rfl,hq 2 _ rfl,hq 3 _ rfl,fun i=>Blk.frozen (cs:=cur) (e:=72) hgg i,cur,hgg⟩
end
end Go.Proofs.YtnfnbcbadakofaaGreat
namespace Go.Proofs.YtnfnbcbadakofaaGreat
open Go.RowKit
theorem tm (ls:List (List Int)) (v:Int) (ws:List Int):cD ls 0 (v::ws)=v::cD ls (flds ls v).length ws:=rfl
theorem sH (ls:List (List Int)) (n:Nat) (v:Int) (ws:List Int):cD ls (n+1) (v::ws)=0::cD ls n ws:=rfl
theorem og (ls:List (List Int)) (n:Nat):cD ls n []=[]:=by cases n <;> rfl
set_option maxHeartbeats 2000000 in
set_option maxRecDepth 100000 in
theorem iF (tv:Value) (ls:List (List Int)) (wa:Option Addr) (wc:Nat) (ws:List Int) (w:World) (ht:ai w 0 tv ls) (hw:ad w 0 (.slice wa ws.length wc) ws) (hl:ls.length<=10000) (h5:∀ t,(flds ls t).length<=5) (hwl:ws.length<=4000) :
 Calls Tryz.prog 46 #[tv,.slice wa ws.length wc] w fun ex w'=>∃ u,ex=.returned u/\ad w' w.heap.size u (cD ls 0 ws)/\Chg () w w':=by
 obtain ⟨ta,tc,htv⟩:=ht.slice
 have HTY:=hid ht
 have HW:=hid hw
 have H5:=hid h5
 clear ht hw h5
 generalize ls.length=tn at htv
 subst htv
 obtain ⟨T,hT⟩:∃ r,cD ls 0 ws=r:=⟨_,rfl⟩
 rw [hT]
 have HT:=hid hT
 clear hT
 go_enter Tryz.func46,Tryz.ntmps46
 go_wp2
 go_loopw [5,6,11] (fun lv ev iv wr=>∃ (k n:Nat) (a:Option Addr) (c:Nat) (L:List Int) (left:Nat),k<=ws.length/\iv=.int .i64 (k:Int)/\ev=.int .i64 (left:Int)/\left<=5/\lv=.slice a n c/\ad wr w.heap.size (.slice a n c) L/\L.length=k/\Chg () w wr/\L++cD ls left (ws.drop k)=T) (fun _ _ iv _=>ws.length - (intOf iv).toNat)
 case atStart=>exact ⟨0,0,none,0,[],0,Nat.zero_le _,rfl,rfl,Nat.zero_le _,rfl,World.ownsRow_nil _ _ _ _,rfl,Chg.refl _ _,by rw [List.drop_zero];exact HT.out⟩
 case round =>
  obtain ⟨k,n,a,c,L,left,hk,rfl,rfl,hle,rfl,hI,hLk,hC,hE⟩:=hrel
  have HI:=hid hI
  have HC:=hid hC
  have HE:=hid hE
  have HLK:=hid hLk
  clear hI hC hE hLk HT
  by_cases hlt:k < ws.length
  ·have hlt':(k:Int) < (ws.length:Int):=by omega
   have HWW:ad wr 0 (.slice wa ws.length wc) ws:=af HW.out HC.out (fun _ _ q=>q)
   obtain ⟨g,wc',hve,_,_,_,hc⟩:=HWW.form (by omega)
   simp only [Value.slice.injEq] at hve
   obtain ⟨rfl,_,rfl⟩:=hve
   have y:=hc k hlt
   have HD:Hid (ws.drop k=ws.getD k 0::ws.drop (k+1)):=by
    show ws.drop k=ws.getD k 0::ws.drop (k+1)
    rw [List.drop_eq_getElem_cons hlt,List.getD_eq_getElem?_getD,List.getElem?_eq_getElem hlt];rfl
   have HE1:Hid (L++cD ls left (ws.getD k 0::ws.drop (k+1))=T):=by
    show _=T
    rw [<-HE.out,HD.out]
   clear hc HE HD HWW
   generalize ws.getD k 0=v at *
   have hsz:=HC.out.size
   have hLn:L.length<=4000:=by rw [HLK.out];omega
   by_cases hz:left=0
   ·subst hz
    have HE2:Hid (L++v::cD ls (flds ls v).length (ws.drop (k+1))=T):=by
     show _=T
     rw [<-HE1.out,tm]
    clear HE1
    have h55:=H5.out v
    go_wp2_with fail
    refine (bO _ ls v wr 0 (HTY.out.chg HC.out (fun _ _ _ q=>q) (fun _ _ _ q=>q)) hl).mono ?_
    rintro ex w1 ⟨u,rfl,hu,hw1⟩
    have hw1:=hw1.symm
    subst hw1
    obtain ⟨ua,uc,rfl⟩:=hu.slice
    clear hu
    have j1:Chg () wr (wr.alloc (Obj.cells #[v] 3)):=(Chg.refl _ _).alloc _
    go_wp2_with (at_builtin;refine bI rfl _ _ rfl w.heap.size (.slice a n c) (.slice wr.heap.size 1 1) L [v] rfl rfl ?h1 ?h2 ?h3 ?h4 ?_)
    case h1=>exact HI.out.chg j1 (fun _ _ _ e=>e)
    case h2=>exact bK [v] 1 rfl (by unfold maxLen;omega)
    case h3=>simp;omega
    case h4=>exact Nat.le_trans hsz j1.size
    intro a2 n2 c2 w4 hn2 hI2 hch2 hl2
    clear hn2
    have hC4:Chg () w w4:=(HC.out.trans j1).trans' hch2 (fun i hi q=>by have:=(HI.out.lt i q.symm).1;omega)
    go_wp2
    exact ⟨⟨k+1,n2,a2,c2,L++[v],(flds ls v).length,by omega,rfl,by simp,h55,rfl,hI2,by rw [List.length_append,HLK.out];rfl,hC4,by rw [<-HE2.out];simp⟩,by simp [intOf];omega⟩
   ·obtain ⟨left,rfl⟩:∃ m,left=m+1:=⟨left - 1,by omega⟩
    have HE2:Hid (L++0::cD ls left (ws.drop (k+1))=T):=by
     show _=T
     rw [<-HE1.out,sH]
    clear HE1
    have j1:Chg () wr (wr.alloc (Obj.cells #[oO] 3)):=(Chg.refl _ _).alloc _
    go_wp2_with (at_builtin;refine bI rfl _ _ rfl w.heap.size (.slice a n c) (.slice wr.heap.size 1 1) L [0] rfl rfl ?h1 ?h2 ?h3 ?h4 ?_)
    case h1=>exact HI.out.chg j1 (fun _ _ _ e=>e)
    case h2=>exact bK [0] 1 rfl (by unfold maxLen;omega)
    case h3=>simp;omega
    case h4=>exact Nat.le_trans hsz j1.size
    intro a2 n2 c2 w4 hn2 hI2 hch2 hl2
    clear hn2
    have hC4:Chg () w w4:=(HC.out.trans j1).trans' hch2 (fun i hi q=>by have:=(HI.out.lt i q.symm).1;omega)
    go_wp2
    exact ⟨⟨k+1,n2,a2,c2,L++[0],left,by omega,rfl,by simp,by omega,rfl,hI2,by rw [List.length_append,HLK.out];rfl,hC4,by rw [<-HE2.out];simp⟩,by simp [intOf];omega⟩
  ·have hkk:k=ws.length:=by omega
   have hlt':(ws.length:Int)<=(k:Int):=by omega
   have HE1:Hid (L=T):=by
    show L=T
    rw [<-HE.out,hkk,List.drop_eq_nil_of_le (Nat.le_refl _),og,List.append_nil]
   clear HE
   go_wp2
   go_ret
   exact ⟨_,rfl,by rw [<-HE1.out];exact HI.out,HC.out⟩
end Go.Proofs.YtnfnbcbadakofaaGreat
