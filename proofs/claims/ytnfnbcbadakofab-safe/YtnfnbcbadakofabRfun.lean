import Derived.Test.YtnfnbcbadakofabChk2
import Derived.Deep.QuietTactic
namespace Go.Proofs.Ytnfnbcbadakofab
open Go.RowKit
set_option maxHeartbeats 400000
set_option maxRecDepth 100000
def wB (n lo hi:Int):Bool:=decide (lo<=n) && decide (n<=hi)
theorem within_any (n lo hi:Int) (w:World) :
 Calls Try.prog 67 #[n,lo,hi] w fun e w'=>e=.returned (.bool (wB n lo hi))/\w'=w:=by
 by_cases h1:lo<=n
 ·by_cases h2:n<=hi
  ·have e1:wB n lo hi=true:=by simp [wB,h1,h2]
   rw [e1]
   go_enter Try.func67,Try.ntmps67
   go_wp2
   go_ret
   exact ⟨by simp,rfl⟩
  ·have e1:wB n lo hi=false:=by simp [wB,h2]
   rw [e1]
   go_enter Try.func67,Try.ntmps67
   go_wp2
   go_ret
   exact ⟨by simp,rfl⟩
 ·have e1:wB n lo hi=false:=by simp [wB];omega
  rw [e1]
  go_enter Try.func67,Try.ntmps67
  go_wp2
  go_ret
  exact ⟨rfl,rfl⟩
def RR (w:World) (rb:Nat) (s:ByteArray) (st:Nat × Bool):Prop:=Blk w rb #[.string s,.int .i64 st.1,.bool (!st.2)] 102
def nx (ns:List Int) (lo hi:Int) (s:Nat × Bool):Int × (Nat × Bool):=
 if s.2=true then (lo,s) else
 if ns.length<=s.1 \/ ns.getD s.1 0 < lo \/ hi < ns.getD s.1 0 then (lo,(s.1,true)) else (ns.getD s.1 0,(s.1+1,false))
theorem next_stop {w:World} {rb:Nat} {s:ByteArray} {st:Nat × Bool} (hr:RR w rb s st) (n:Nat) :
 RR ((w.drewN n).setCell ⟨rb,2,none⟩ (.bool false)) rb s (st.1,true)/\Chg (fun k=>k=rb) w ((w.drewN n).setCell ⟨rb,2,none⟩ (.bool false)):=
 ⟨(Blk.set (Blk.drewN hr n) 2 (.bool false)),Chg.setCell (S:=fun k=>k=rb) ((Chg.refl _ w).drewN n) _ _ (.inl rfl)⟩
theorem next_adv {w:World} {rb:Nat} {s:ByteArray} {p:Nat} {b:Bool} (hr:RR w rb s (p,b)) (n:Nat) :
 RR ((w.drewN n).setCell ⟨rb,1,none⟩ ((p:Int)+1:Int)) rb s (p+1,b)/\Chg (fun k=>k=rb) w ((w.drewN n).setCell ⟨rb,1,none⟩ ((p:Int)+1:Int)):=
 ⟨(Blk.set (Blk.drewN hr n) 1 (.int .i64 ((p:Int)+1))),Chg.setCell (S:=fun k=>k=rb) ((Chg.refl _ w).drewN n) _ _ (.inl rfl)⟩
theorem next_a (rb:Nat) (s:ByteArray) (p:Nat) (lo hi:Int) (w:World) (hr:RR w rb s (p,true)) :
 Calls Try.prog 43 #[.pointer rb,lo,hi] w fun e w'=>e=.returned (.int .i64 lo)/\RR w' rb s (p,true)/\Chg (fun k=>k=rb) w w':=by
 have h2:w.cell? ⟨rb,2,none⟩=some (.bool false):=Blk.cell hr 2
 go_enter Try.func43,Try.ntmps43
 go_wp2
 go_ret
 exact ⟨rfl,hr,Chg.refl _ _⟩
theorem next_b (rb:Nat) (s:ByteArray) (p:Nat) (lo hi:Int) (w:World) (hr:RR w rb s (p,false)) (hp:s.size<=p) :
 Calls Try.prog 43 #[.pointer rb,lo,hi] w fun e w'=>e=.returned (.int .i64 lo)/\RR w' rb s (p,true)/\Chg (fun k=>k=rb) w w':=by
 have h0:w.cell? ⟨rb,0,none⟩=some (.string s):=Blk.cell hr 0
 have h1:w.cell? ⟨rb,1,none⟩=some (.int .i64 p):=Blk.cell hr 1
 have h2:w.cell? ⟨rb,2,none⟩=some (.bool true):=Blk.cell hr 2
 have hf:w.frozen? ⟨rb,2,none⟩=false:=Blk.frozen hr 2
 have hp':(s.size:Int)<=(p:Int):=by omega
 go_enter Try.func43,Try.ntmps43
 go_wp2
 go_quiet (fail)
 go_wp2
 go_ret
 exact ⟨rfl,next_stop hr _⟩
theorem wrapB (b:UInt8):IntKind.i64.wrap (b.toNat:Int)=(b.toNat:Int):=by rw [IntKind.wrap_i64];have:=b.toNat_lt;omega
theorem next_c (rb:Nat) (s:ByteArray) (p:Nat) (lo hi:Int) (w:World) (hr:RR w rb s (p,false)) (hp:p < s.size) (hs:s.size<=10000)
 (hb:wB (s[p].toNat:Int) lo hi=true) :
 Calls Try.prog 43 #[.pointer rb,lo,hi] w fun e w'=>e=.returned (.int .i64 (s[p].toNat:Int))/\RR w' rb s (p+1,false)/\Chg (fun k=>k=rb) w w':=by
 have h0:w.cell? ⟨rb,0,none⟩=some (.string s):=Blk.cell hr 0
 have h1:w.cell? ⟨rb,1,none⟩=some (.int .i64 p):=Blk.cell hr 1
 have h2:w.cell? ⟨rb,2,none⟩=some (.bool true):=Blk.cell hr 2
 have hf:w.frozen? ⟨rb,1,none⟩=false:=Blk.frozen hr 1
 have hp':(p:Int) < (s.size:Int):=by omega
 have hw1:=wrapB s[p]
 have hw2:=wrap64_byte s[p]
 go_enter Try.func43,Try.ntmps43
 go_wp2
 go_quiet ((go_at_call 67;exact Calls.quiet_of_same (within_any _ _ _ _)))
 go_wp2
 go_quiet (fail)
 go_wp2
 go_ret
 exact ⟨rfl,next_adv hr _⟩
theorem next_d (rb:Nat) (s:ByteArray) (p:Nat) (lo hi:Int) (w:World) (hr:RR w rb s (p,false)) (hp:p < s.size)
 (hb:wB (s[p].toNat:Int) lo hi=false) :
 Calls Try.prog 43 #[.pointer rb,lo,hi] w fun e w'=>e=.returned (.int .i64 lo)/\RR w' rb s (p,true)/\Chg (fun k=>k=rb) w w':=by
 have h0:w.cell? ⟨rb,0,none⟩=some (.string s):=Blk.cell hr 0
 have h1:w.cell? ⟨rb,1,none⟩=some (.int .i64 p):=Blk.cell hr 1
 have h2:w.cell? ⟨rb,2,none⟩=some (.bool true):=Blk.cell hr 2
 have hf:w.frozen? ⟨rb,2,none⟩=false:=Blk.frozen hr 2
 have hp':(p:Int) < (s.size:Int):=by omega
 have hw1:=wrapB s[p]
 go_enter Try.func43,Try.ntmps43
 go_wp2
 go_quiet ((go_at_call 67;exact Calls.quiet_of_same (within_any _ _ _ _)))
 go_wp2
 go_ret
 exact ⟨rfl,next_stop hr _⟩
theorem bl_get (s:ByteArray) (p:Nat) (hp:p < s.size):(bl s).getD p 0=(s[p].toNat:Int):=by
 have hk:p < (bl s).length:=by rw [bl_len];exact hp
 rw [List.getD_eq_getElem?_getD,List.getElem?_eq_getElem hk]
 simp [bl];rfl
theorem next_any (rb:Nat) (s:ByteArray) (st:Nat × Bool) (lo hi:Int) (w:World) (hr:RR w rb s st) (hs:s.size<=10000) :
 Calls Try.prog 43 #[.pointer rb,lo,hi] w fun e w'=>e=.returned (.int .i64 (nx (bl s) lo hi st).1)/\RR w' rb s (nx (bl s) lo hi st).2/\Chg (fun k=>k=rb) w w':=by
 obtain ⟨p,b⟩:=st
 cases b with
 | true =>
  have e1:nx (bl s) lo hi (p,true)=(lo,(p,true)):=by simp [nx]
  rw [e1];exact next_a rb s p lo hi w hr
 | false =>
  by_cases hp:s.size<=p
  ·have e1:nx (bl s) lo hi (p,false)=(lo,(p,true)):=by unfold nx;rw [if_neg (by simp),if_pos (.inl (by rw [bl_len];exact hp))]
   rw [e1];exact next_b rb s p lo hi w hr hp
  ·have hp':p < s.size:=by omega
   have hg:=bl_get s p hp'
   cases hb:wB (s[p].toNat:Int) lo hi with
   | true =>
    have e1:nx (bl s) lo hi (p,false)=((s[p].toNat:Int),(p+1,false)):=by
     unfold nx;simp [wB] at hb
     rw [if_neg (by simp),if_neg (by rw [bl_len];simp only [hg];omega),hg]
    rw [e1];exact next_c rb s p lo hi w hr hp' hs hb
   | false =>
    have e1:nx (bl s) lo hi (p,false)=(lo,(p,true)):=by
     unfold nx;simp [wB] at hb
     rw [if_neg (by simp),if_pos (by rw [bl_len];simp only [hg];omega)]
    rw [e1];exact next_d rb s p lo hi w hr hp' hb
end Go.Proofs.Ytnfnbcbadakofab
namespace Go.Proofs.Ytnfnbcbadakofab
open Go.RowKit
def nxL (ns:List Int) (hi:Int):Nat->Nat × Bool->List Int × (Nat × Bool)
 | 0,s=>([],s)
 | k+1,s=>((nxL ns hi k s).1++[(nx ns 0 hi (nxL ns hi k s).2).1],(nx ns 0 hi (nxL ns hi k s).2).2)
theorem nxL_len (ns:List Int) (hi:Int) (k:Nat) (s:Nat × Bool):(nxL ns hi k s).1.length=k:=by
 induction k with
 | zero=>rfl
 | succ k ih=>simp [nxL,ih]
set_option maxHeartbeats 400000 in
set_option maxRecDepth 100000 in
theorem nextTypes_any (rb:Nat) (b:ByteArray) (s:Nat × Bool) (c hi:Int) (w:World) (h:RR w rb b s) (hl:b.size<=10000) (hc:c<=10000) :
 Calls Try.prog 44 #[.pointer rb,c,hi] w fun e w'=>∃ v,e=.returned v/\IntsV w' w.heap.size v (nxL (bl b) hi c.toNat s).1/\RR w' rb b (nxL (bl b) hi c.toNat s).2/\Chg (fun k=>k=rb) w w':=by
 obtain ⟨i,hi1,hi2,hi3,hi4⟩:=info3
 have Hi1:=hid hi1
 have Hi2:=hid hi2
 have Hi3:=hid hi3
 have Hi4:=hid hi4
 clear hi1 hi2 hi3 hi4
 go_enter Try.func44,Try.ntmps44
 go_wp2
 go_loopw [7,8] (fun v i wr=>∃ k:Nat,k<=c.toNat/\i=.int .i64 k/\IntsV wr w.heap.size v (nxL (bl b) hi k s).1/\RR wr rb b (nxL (bl b) hi k s).2/\Chg (fun k=>k=rb) w wr) (fun _ i _=>c.toNat - (intOf i).toNat)
 case atStart=>exact ⟨0,Nat.zero_le _,rfl,World.ownsRow_nil _ _ _ _,h,Chg.refl _ _⟩
 case round =>
  obtain ⟨k,hk,rfl,hown,hrs,hch⟩:=hrel
  by_cases hlt:(k:Int) < c
  ·go_wp2_with fail
   refine (next_any rb b _ 0 hi _ hrs hl).mono ?_
   rintro e w1 ⟨rfl,hrs1,hch1⟩
   have hown1:IntsV w1 w.heap.size u7 (nxL (bl b) hi k s).1:=own_chg hown hch1 (fun g hg e=>own_ne hown hrs (by decide) (by rw [hg,e]))
   have hsz:w.heap.size<=w1.heap.size:=Nat.le_trans hch.size hch1.size
   generalize hX:(nx (bl b) 0 hi (nxL (bl b) hi k s).2).1=X
   have HX:=hid hX
   clear hX
   go_wp2_with (at_builtin;refine wpList_append_lies _ rfl _ _ 24 rfl w.heap.size 3 i (.int .i64 0) 1 8 Try.underlying24 Hi1.out Hi2.out Hi3.out Hi4.out rfl (by decide) _ _ _ rfl (World.ownsRow.alloc hown1 _) ⟨w1.heap.size,0,none⟩ 1 1 [.int .i64 X] rfl rfl ?c1 ?c2 (by decide) ?c3 ?c4 ?c5 _ rfl ?_)
   case c1=>exact cell_one_new _ _ _
   case c2=>intro u hu;simp at hu;subst hu;rfl
   case c3=>rw [nxL_len];unfold maxLen;omega
   case c4=>rw [nxL_len];omega
   case c5=>simp;omega
   ·intro g cap w2 hown2 hgrow hat hlt2
    go_wp2
    have hch2:Chg (fun k=>k=rb) w w2:=(((hch.trans hch1).alloc _).grown hgrow (fun k hk=>.inr (hown1.lt k hk).1))
    have hrd2:RR w2 rb b (nx (bl b) 0 hi (nxL (bl b) hi k s).2).2:=(Blk.alloc hrs1 _).grown hgrow (fun e=>by have:=(hown1.lt rb e.symm).1;have:=Blk.lt h;omega)
    refine ⟨⟨k+1,by omega,rfl,?_,hrd2,hch2⟩,by simp [intOf];omega⟩
    rw [<-HX.out,nxL_len] at hown2
    have e3:=nxL_len (bl b) hi k s
    unfold IntsV
    simp only [nxL,ints,List.map_append,List.length_append,List.map_cons,List.map_nil,List.length_cons,List.length_nil,e3] at hown2 ⊢
    exact hown2
  ·go_wp2
   go_ret
   have e1:c.toNat=k:=by omega
   rw [e1]
   exact ⟨u7,rfl,hown,hrs,hch⟩
end Go.Proofs.Ytnfnbcbadakofab
namespace Go.Proofs.Ytnfnbcbadakofab
open Go.RowKit
set_option maxHeartbeats 1000000
set_option maxRecDepth 100000
theorem operandA_any (a fa:Option Addr) (nT cap nf fc:Nat) (lo op:Int) (w:World) (h1:0<=op) (h2:op<=12 \/ 16<=op) (h3:op<=18) (hlo:0<=lo) (hlo2:lo<=10000) :
 Calls Try.prog 87 #[.agg #[.slice a nT cap,.slice fa nf fc],lo,op] w fun e w' =>
  e=.returned (.tuple #[.int .i64 (bA nT 0 lo 0 op).1,.int .i64 (bA nT 0 lo 0 op).2])/\Chg () w w':=by
 have hop:op=0 \/ op=1 \/ op=2 \/ op=3 \/ op=4 \/ op=5 \/ op=6 \/ op=7 \/ op=8 \/ op=9 \/ op=10 \/ op=11 \/ op=12 \/ op=16 \/ op=17 \/ op=18:=by omega
 clear h1 h2 h3
 rcases hop with rfl | rfl | rfl | rfl | rfl | rfl | rfl | rfl | rfl | rfl | rfl | rfl | rfl | rfl | rfl | rfl
 all_goals
  go_enter Try.func87,Try.ntmps87
  go_wp2
  first
   | (go_ret2;exact ⟨rfl,fin_new0 _⟩)
   | (go_quiet (fail)
      go_wp2
      go_ret2
      exact ⟨rfl,fin_new _ _⟩)
theorem goodA_any (a fa:Option Addr) (nT cap nf fc:Nat) (fu lo co op x:Int) (w:World) (h1:0<=op) (h2:op<=18) (hlo:0<=lo) (hlo2:lo<=10000) (hco:0<=co) (hco2:co<=10000) (hfu:0<=fu) (hfu2:fu<=10000) :
 Calls Try.prog 68 #[.agg #[.slice a nT cap,.slice fa nf fc],lo,co,fu,op,x] w fun e w' =>
  e=.returned (.bool (wB x (bA nT fu lo co op).1 (bA nT fu lo co op).2))/\Chg () w w':=by
 by_cases h13:op=13
 ·subst h13
  go_enter Try.func68,Try.ntmps68
  go_wp2_with fail
  refine (within_any _ _ _ _).mono ?_
  rintro e w1 ⟨rfl,rfl⟩
  go_wp2
  go_ret
  exact ⟨rfl,fin_new0 _⟩
 ·by_cases h14:op=14
  ·subst h14
   go_enter Try.func68,Try.ntmps68
   go_wp2_with fail
   refine (within_any _ _ _ _).mono ?_
   rintro e w1 ⟨rfl,rfl⟩
   go_wp2
   go_ret
   exact ⟨rfl,fin_new0 _⟩
  ·have e13:(op == 13)=false:=by simp [h13]
   have e14:(op == 14)=false:=by simp [h14]
   by_cases h15:op=15
   ·subst h15
    go_enter Try.func68,Try.ntmps68
    go_wp2_with fail
    refine (within_any _ _ _ _).mono ?_
    rintro e w1 ⟨rfl,rfl⟩
    go_wp2
    go_ret
    exact ⟨rfl,fin_new0 _⟩
   ·have e15:(op == 15)=false:=by simp [h15]
    have eb:bA nT fu lo co op=bA nT 0 lo 0 op:=by unfold bA;simp [h13,h14,h15]
    rw [eb]
    have hop:op<=12 \/ 16<=op:=by omega
    clear h13 h14 h15 eb
    go_enter Try.func68,Try.ntmps68
    go_wp2_with fail
    refine (operandA_any a fa nT cap nf fc lo op _ h1 hop h2 hlo hlo2).mono ?_
    rintro e w1 ⟨rfl,hch⟩
    go_wp2_with fail
    refine (within_any _ _ _ _).mono ?_
    rintro e w2 ⟨rfl,rfl⟩
    go_wp2
    go_ret
    exact ⟨rfl,(fin_new0 _).trans hch⟩
theorem goodB_any (tv fv:Value) (ls:List (List Int)) (op a x:Int) (w:World) (base:Nat) (h:TypesV w base tv ls) (hfv:∃ fa nf fc,fv=.slice fa nf fc) (hn:ls.length<=10000) (hls:∀ j,(ls.getD j []).length<=10000)
 (ha:(op=8 \/ op=9)->1<=a/\a<=ls.length) :
 Calls Try.prog 69 #[.agg #[tv,fv],op,a,x] w fun e w'=>e=.returned (.bool (wB x 0 (gB ls op a)))/\Chg () w w':=by
 obtain ⟨fa,nf,fc,rfl⟩:=hfv
 by_cases h89:op=8 \/ op=9
 ·obtain ⟨ha1,ha2⟩:=ha h89
  obtain ⟨j,rfl⟩:∃ j:Nat,a=(j:Int)+1:=⟨(a - 1).toNat,by omega⟩
  obtain ⟨g,cap,u,rfl,hle,hc,hu⟩:=h.cell j (by omega)
  obtain ⟨ua,uc,rfl⟩:=hu.slice
  have hj:(j:Int) < (ls.length:Int):=by omega
  have hgl:=(World.block_lt_of_cell? w _ hc)
  simp only at hgl
  have hlj:=hls j
  have e1:gB ls op ((j:Int)+1)=((ls.getD j []).length:Int) - 1:=by
   unfold gB flds
   rw [if_neg (by omega),if_neg (by omega)]
   have:((j:Int)+1 - 1).toNat=j:=by omega
   rw [this]
  rw [e1]
  clear e1 ha
  generalize ls.getD j []=L at *
  rcases h89 with rfl | rfl
  ·go_enter Try.func69,Try.ntmps69
   go_wp2_with fail
   refine (within_any _ _ _ _).mono ?_
   rintro e w2 ⟨rfl,rfl⟩
   go_wp2
   go_ret
   exact ⟨rfl,fin_new0 _⟩
  ·go_enter Try.func69,Try.ntmps69
   go_wp2_with fail
   refine (within_any _ _ _ _).mono ?_
   rintro e w2 ⟨rfl,rfl⟩
   go_wp2
   go_ret
   exact ⟨rfl,fin_new0 _⟩
 ·obtain ⟨ta,tc,rfl⟩:=h.slice
  have h8:(op == 8)=false:=by simp;omega
  have h9:(op == 9)=false:=by simp;omega
  have e1:wB x 0 (gB ls op a)=(x == 0):=by
   unfold gB wB;rw [if_pos (by omega)]
   by_cases hx:x=0
   ·subst hx;rfl
   ·have:(x == 0)=false:=by simp [hx]
    rw [this];simp;omega
  rw [e1]
  go_enter Try.func69,Try.ntmps69
  go_wp2
  go_ret
  exact ⟨rfl,fin_new0 _⟩
end Go.Proofs.Ytnfnbcbadakofab
namespace Go.Proofs.Ytnfnbcbadakofab
open Go.RowKit
def fixS (s:Nat × Bool) (g:Bool):Nat × Bool:=if s.2=false/\g=false then (s.1 - 1,true) else s
def nxI (ns:List Int) (ls:List (List Int)) (fu lo co:Int) (s:Nat × Bool):(Int × Int × Int) × (Nat × Bool):=
 let q1:=nx ns 0 18 s
 let q2:=nx ns 0 255 q1.2
 let q3:=nx ns 0 255 (fixS q2.2 (wB q2.1 (bA ls.length fu lo co q1.1).1 (bA ls.length fu lo co q1.1).2))
 ((q1.1,q2.1,q3.1),fixS q3.2 (wB q3.1 0 (gB ls q1.1 q2.1)))
def nxC (ns:List Int) (ls:List (List Int)) (fu lo co:Int):Nat->Nat × Bool->List (Int × Int × Int) × (Nat × Bool)
 | 0,s=>([],s)
 | k+1,s =>
  if (nxC ns ls fu lo co k s).2.2=true then nxC ns ls fu lo co k s else
  ((nxC ns ls fu lo co k s).1++[(nxI ns ls fu lo co (nxC ns ls fu lo co k s).2).1],(nxI ns ls fu lo co (nxC ns ls fu lo co k s).2).2)
theorem nxC_len (ns:List Int) (ls:List (List Int)) (fu lo co:Int) (k:Nat) (s:Nat × Bool):(nxC ns ls fu lo co k s).1.length<=k:=by
 induction k with
 | zero=>simp [nxC]
 | succ k ih =>
  simp only [nxC];split
  ·omega
  ·rw [List.length_append,List.length_singleton];omega
theorem nxC_stop (ns:List Int) (ls:List (List Int)) (fu lo co:Int) (k j:Nat) (s:Nat × Bool) (h:(nxC ns ls fu lo co k s).2.2=true):nxC ns ls fu lo co (k+j) s=nxC ns ls fu lo co k s:=by
 induction j with
 | zero=>rfl
 | succ j ih=>rw [<-Nat.add_assoc,nxC,if_pos (by rw [ih];exact h),ih]
theorem nx_cases (ns:List Int) (lo hi:Int) (s:Nat × Bool) :
 (s.2=true/\nx ns lo hi s=(lo,s)) \/ (s.2=false/\(ns.length<=s.1 \/ ns.getD s.1 0 < lo \/ hi < ns.getD s.1 0)/\nx ns lo hi s=(lo,(s.1,true))) \/
 (s.2=false/\s.1 < ns.length/\lo<=ns.getD s.1 0/\ns.getD s.1 0<=hi/\nx ns lo hi s=(ns.getD s.1 0,(s.1+1,false))):=by
 unfold nx
 by_cases h:s.2=true
 ·rw [if_pos h];exact .inl ⟨h,rfl⟩
 ·have h':s.2=false:=by simpa using h
  rw [if_neg h]
  by_cases k:ns.length<=s.1 \/ ns.getD s.1 0 < lo \/ hi < ns.getD s.1 0
  ·rw [if_pos k];exact .inr (.inl ⟨h',k,rfl⟩)
  ·rw [if_neg k];exact .inr (.inr ⟨h',by omega,by omega,by omega,rfl⟩)
theorem nx_rng (ns:List Int) (lo hi:Int) (s:Nat × Bool) (h:lo<=hi):lo<=(nx ns lo hi s).1/\(nx ns lo hi s).1<=hi:=by
 rcases nx_cases ns lo hi s with ⟨_,e⟩ | ⟨_,_,e⟩ | ⟨_,_,h1,h2,e⟩ <;> rw [e]
 ·exact ⟨Int.le_refl _,h⟩
 ·exact ⟨Int.le_refl _,h⟩
 ·exact ⟨h1,h2⟩
theorem nx_stop (ns:List Int) (lo hi:Int) (s:Nat × Bool) (h:s.2=true):nx ns lo hi s=(lo,s):=by unfold nx;rw [if_pos h]
theorem nx_pos (ns:List Int) (lo hi:Int) (s:Nat × Bool) (h:(nx ns lo hi s).2.2=false):1<=(nx ns lo hi s).2.1/\(nx ns lo hi s).2.1<=ns.length:=by
 rcases nx_cases ns lo hi s with ⟨h0,e⟩ | ⟨_,_,e⟩ | ⟨_,h0,h1,h2,e⟩ <;> rw [e] at h ⊢
 ·simp [h0] at h
 ·simp at h
 ·exact ⟨by simp,h0⟩
structure GS (w wk:World) (rb:Nat) (b:ByteArray) (s:Nat × Bool) (base:Nat) (tv fv:Value) (ls:List (List Int)):Prop where
 rr:RR wk rb b s
 ty:TypesV wk base tv ls
 pb:Blk wk w.heap.size #[tv,fv] 44
 ob:Blk wk (w.heap.size+1) #[oO,(),oO,()] 107
 ch:Chg (fun k=>k=rb) w wk
 hr:rb < w.heap.size
theorem TypesV.rr {w w':World} {rb:Nat} {b:ByteArray} {s:Nat × Bool} {base:Nat} {v:Value} {ls:List (List Int)} (h:TypesV w base v ls) (hr:RR w rb b s) (k:Chg (fun k=>k=rb) w w'):TypesV w' base v ls:=
 h.chg k (fun _ _ hb e=>(hb.ne hr (by decide)) e) (fun _ _ hb e=>(hb.ne hr (by decide)) e)
theorem IntsV.rr {w w':World} {rb:Nat} {b:ByteArray} {s:Nat × Bool} {base:Nat} {v:Value} {l:List Int} (h:IntsV w base v l) (hr:RR w rb b s) (k:Chg (fun k=>k=rb) w w'):IntsV w' base v l:=
 h.chg k (fun _ _ hb e=>(hb.ne hr (by decide)) e)
theorem InsV.rr {eI:TypeId} (he:eI ≠ 102) {w w':World} {rb:Nat} {b:ByteArray} {s:Nat × Bool} {base:Nat} {v:Value} {l:List (Int × Int × Int)} (h:InsV eI w base v l) (hr:RR w rb b s) (k:Chg (fun k=>k=rb) w w'):InsV eI w' base v l:=
 h.chg k (fun _ _ hb e=>(hb.ne hr he) e)
section
variable {w wk wk':World} {rb:Nat} {b:ByteArray} {s s':Nat × Bool} {base:Nat} {tv fv:Value} {ls:List (List Int)}
theorem GS.step (h:GS w wk rb b s base tv fv ls) (k:Chg (fun k=>k=rb) wk wk') (hrr:RR wk' rb b s'):GS w wk' rb b s' base tv fv ls:=
 have hr:=h.hr
 ⟨hrr,h.ty.rr h.rr k,h.pb.chg k (by omega),h.ob.chg k (by omega),h.ch.trans k,h.hr⟩
theorem GS.new (h:GS w wk rb b s base tv fv ls) (k:Chg () wk wk'):GS w wk' rb b s base tv fv ls:=
 ⟨Blk.chg h.rr k (fun e=>e),h.ty.new k,h.pb.chg k (fun e=>e),h.ob.chg k (fun e=>e),h.ch.trans k.ofNew,h.hr⟩
theorem GS.setG (h:GS w wk rb b s base tv fv ls) {gb:Nat} {gc:Array Value} (hb:Blk wk gb gc 107) (hg:w.heap.size+2<=gb) (i:Nat) (v:Value):GS w (wk.setCell ⟨gb,i,none⟩ v) rb b s base tv fv ls:=
 have hr:=h.hr
 ⟨Blk.setOther h.rr _ _ (by simp;omega),h.ty.set hb (by decide) (by decide) i v,h.pb.setOther _ _ (by simp;omega),h.ob.setOther _ _ (by simp;omega),h.ch.setCell _ _ (.inr (by simp;omega)),h.hr⟩
theorem GS.begin (h:RR w rb b s) (ht:TypesV w base tv ls) :
 GS w ((w.alloc (Obj.cells #[tv,fv] 44)).alloc (Obj.cells #[oO,(),oO,()] 107)) rb b s base tv fv ls:=
 have k:Chg () w ((w.alloc (Obj.cells #[tv,fv] 44)).alloc (Obj.cells #[oO,(),oO,()] 107)):=((Chg.refl _ w).alloc _).alloc _
 ⟨Blk.chg h k (fun e=>e),ht.new k,(Blk.new w _ 44).alloc _,Blk.new' (by simp) _ 107,k.ofNew,Blk.lt h⟩
theorem GS.grow {cv:Value} {n:Nat} {xs:List Value} (h:GS w wk rb b s base tv fv ls)
 (hcv:wk.ownsRow w.heap.size 131 3 cv n xs) (k:Chg (fun k=>some k=cv.ownBlock) wk wk'):GS w wk' rb b s base tv fv ls:=by
 have ne:∀ g cs e,Blk wk g cs e->e ≠ 131->¬ some g=cv.ownBlock:=fun g cs e hb he hg=>by
  obtain ⟨cs',hb'⟩:=own_blk hcv hg.symm
  exact hb.ne hb' he rfl
 exact ⟨Blk.chg h.rr k (ne _ _ _ h.rr (by decide)),h.ty.chg k (fun g cs hb=>ne g cs 3 hb (by decide)) (fun g cs hb=>ne g cs 24 hb (by decide)),
  h.pb.chg k (ne _ _ _ h.pb (by decide)),h.ob.chg k (ne _ _ _ h.ob (by decide)),h.ch.trans' k (fun i hi e=>by have:=(hcv.lt i e.symm).1;omega),h.hr⟩
end
theorem info74:∃ i:TypeInfo,Try.prog.info? 131=some i/\i.zero=some (.agg #[oO,oO,oO])/\i.size=3/\i.bytes=24:=info_of (by kernel_rfl)
end Go.Proofs.Ytnfnbcbadakofab
