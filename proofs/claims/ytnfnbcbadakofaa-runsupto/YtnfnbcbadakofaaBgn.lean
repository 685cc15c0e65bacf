import Derived.Test.YtnfnbcbadakofaaStt
import Derived.Test.YtnfnbcbadakofaaRin
namespace Go.Proofs.Ytnfnbcbadakofaa
open Go.RowKit
set_option maxHeartbeats 2000000
set_option maxRecDepth 100000
theorem ij (v:Value) (l:List Int) (h d:Int) (w:World) (b1:Nat) (hv:ad w b1 v l) (hh:0<=h/\h<=4000) (hd:1<=d/\d<=64) (hl:(l.length:Int)<=2 * h+20 * d+16) (hx:∀ x ∈ l,0<=x/\x < 65536) :
 Calls Try.prog 55 #[v,h,d] w fun e w'=>e=.returned (.bool true)/\w'=w:=by
 obtain ⟨a,c,rfl⟩:=hv.slice
 obtain ⟨hh1,hh2⟩:=hh
 obtain ⟨hd1,hd2⟩:=hd
 have hll:l.length<=9296:=by omega
 have HX:=hid hx
 have HV:=hid hv
 clear hx hv
 go_enter Try.func55,Try.ntmps55
 go_wp2
 go_loopw [7] (fun i wr=>∃ k:Nat,k<=l.length/\i=.int .i64 k/\wr=w) (fun i _=>l.length - (intOf i).toNat)
 case atStart=>exact ⟨0,Nat.zero_le _,rfl,rfl⟩
 case round =>
  obtain ⟨k,hk,rfl,rfl⟩:=hrel
  by_cases hlt:k < l.length
  ·have hlt':(k:Int) < (l.length:Int):=by omega
   obtain ⟨g,c',hve,_,_,_,hc⟩:=ad.form HV.out (by omega)
   simp only [Value.slice.injEq] at hve
   obtain ⟨rfl,_,rfl⟩:=hve
   have y:=hc k hlt
   have hm:l.getD k 0 ∈ l:=by rw [List.getD_eq_getElem?_getD,List.getElem?_eq_getElem hlt];exact List.getElem_mem hlt
   obtain ⟨x1,x2⟩:=HX.out _ hm
   clear hc hm
   generalize l.getD k 0=x at *
   have x1':¬ x < 0:=by omega
   have x2':¬ (65536<=x):=by omega
   go_wp2
   exact ⟨⟨k+1,by omega,rfl,trivial⟩,by simp [intOf];omega⟩
  ·have hlt':(l.length:Int)<=(k:Int):=by omega
   go_wp2
   go_ret
   exact ⟨rfl,rfl⟩
def vlC (l:List (Int × Bool)):List Value:=l.flatMap fun x=>[.int .i64 x.1,.bool x.2]
theorem jB (l:List (Int × Bool)) (x:Int × Bool):vlC (l++[x])=vlC l++[.int .i64 x.1,.bool x.2]:=by simp [vlC]
def aP (w:World) (base:Nat) (v:Value) (l:List (Int × Bool)):Prop:=w.ownsRow base 162 2 v l.length (vlC l)
theorem aP.slice {w:World} {base:Nat} {v:Value} {l:List (Int × Bool)} (h:aP w base v l):∃ a cap,v=.slice a l.length cap:=by
 rcases h.2 with ⟨h1,h2⟩ | ⟨g,cap,cur,rfl,_⟩
 ·exact ⟨none,0,by rw [h1,h2]⟩
 ·exact ⟨_,_,rfl⟩
theorem gM:∃ i:TypeInfo,Try.prog.info? 162=some i/\i.zero=some (.agg #[oO,.bool false])/\i.size=2/\i.bytes=16:=cQ (by kernel_rfl)
def cB (l:List Int) (k:Nat):List (Int × Bool):=(l.drop k).map fun t=>(0,decide (0 < t))
theorem lr (l:List Int) (k j:Nat) (h:k+j < l.length):((l.drop k).take (j+1)).map (fun t=>((0:Int),decide (0 < t)))=((l.drop k).take j).map (fun t=>((0:Int),decide (0 < t)))++[(0,decide (0 < l.getD (k+j) 0))]:=by
 have hj:j < (l.drop k).length:=by rw [List.length_drop];omega
 rw [List.take_succ_eq_append_getElem hj,List.map_append]
 simp [List.getD_eq_getElem?_getD,List.getElem?_eq_getElem h]
theorem iI (v:Value) (l:List Int) (k:Nat) (w:World) (b1:Nat) (hv:ad w b1 v l) (hk:k<=l.length) (hl:l.length<=10000) :
 Calls Try.prog 73 #[v,k] w fun e w'=>∃ u,e=.returned u/\aP w' w.heap.size u (cB l k)/\Chg () w w':=by
 obtain ⟨va,vc,rfl⟩:=hv.slice
 obtain ⟨i,hi1,hi2,hi3,hi4⟩:=gM
 have Hi1:=hid hi1
 have Hi2:=hid hi2
 have Hi3:=hid hi3
 have Hi4:=hid hi4
 clear hi1 hi2 hi3 hi4
 have HV:=hid hv
 clear hv
 go_enter Try.func73,Try.ntmps73
 go_wp2
 go_loopw [5,6] (fun u iv wr=>∃ (j:Nat) (L:List (Int × Bool)),iv=.int .i64 ((k+j:Nat):Int)/\k+j<=l.length/\L=((l.drop k).take j).map (fun t=>((0:Int),decide (0 < t)))/\aP wr w.heap.size u L/\Chg () w wr) (fun _ iv _=>l.length - (intOf iv).toNat)
 case atStart=>exact ⟨0,[],by simp,by omega,by simp,World.ownsRow_nil _ _ _ _,Chg.refl _ _⟩
 case round =>
  obtain ⟨j,L,rfl,hj,hL,hu,kk⟩:=hrel
  have HL:=hid hL
  clear hL
  obtain ⟨ua,uc,rfl⟩:=hu.slice
  by_cases hlt:k+j < l.length
  ·have hlt':((k+j:Nat):Int) < (l.length:Int):=by omega
   obtain ⟨g,c',hve,_,_,_,hc⟩:=(ad.chg HV.out kk (fun _ _ _ e=>e)).form (by omega)
   simp only [Value.slice.injEq] at hve
   obtain ⟨rfl,_,rfl⟩:=hve
   have y:=hc (k+j) hlt
   have HS:Hid _:=lr l k j hlt
   have hLl:L.length<=10000:=by rw [HL.out,List.length_map,List.length_take,List.length_drop];omega
   have hsz:=kk.size
   have hgl:g < wr.heap.size:=World.block_lt_of_cell? wr _ y
   clear hc
   generalize l.getD (k+j) 0=t at *
   go_wp2_with (at_builtin;refine wpList_append_lies _ rfl _ _ 132 rfl w.heap.size 162 i (.agg #[oO,.bool false]) 2 16 Try.underlying132 Hi1.out Hi2.out Hi3.out Hi4.out rfl (by decide) _ _ _ rfl (World.ownsRow.alloc hu _) ⟨wr.heap.size,0,none⟩ 1 1 [.int .i64 0,.bool (decide (0 < t))] rfl rfl ?c1 ?c2 (by decide) ?c3 ?c4 ?c5 _ rfl ?_)
   case c1=>exact World.news_of_block (B:=wr.heap.size) (cs:=#[.int .i64 0,.bool (decide (0 < t))]) (Blk.new' rfl _ 162)
   case c2=>intro u hu;simp at hu;rcases hu with rfl | rfl <;> rfl
   case c3=>unfold maxLen;omega
   case c4=>omega
   case c5=>simp;omega
   ·intro g2 cap2 w2 hown2 hgrow hat hlt2
    have hch2:Chg () w w2:=((kk.alloc _).grown hgrow (fun k hk=>.inr (hu.lt k hk).1))
    clear hgrow hat
    go_wp2
    refine ⟨⟨j+1,L++[(0,decide (0 < t))],by simp;omega,by omega,?_,?_,hch2⟩,by simp [intOf];omega⟩
    ·rw [HS.out,HL.out]
    ·unfold aP
     rw [jB,List.length_append]
     exact hown2
  ·have hlt':(l.length:Int)<=((k+j:Nat):Int):=by omega
   have hE:L=cB l k:=by
    rw [HL.out];unfold cB
    rw [List.take_of_length_le (by rw [List.length_drop];omega)]
   have HE:=hid hE
   clear hE
   go_wp2
   go_ret
   exact ⟨_,rfl,by rw [<-HE.out];exact hu,kk⟩
theorem l7:∃ i:TypeInfo,Try.prog.info? 134=some i/\i.zero=some (.agg #[oO,oO,(),()])/\i.size=4/\i.bytes=64:=cQ (by kernel_rfl)
def ke (w:World) (tv fv:Value) (h d:Int) (l:List Int) (e:Ending) (w':World):Prop:=
 ∃ rb frv bv,e=.returned (.pointer (some ⟨rb,0,none⟩))/\Blk w' rb #[tv,fv,.int .i64 h,.int .i64 d,.int .i64 0,frv,.slice none 0 0,.slice none 0 0,.int .i64 0] 120/\w'.ownsRow w.heap.size 134 4 frv 1 [.int .i64 0,.int .i64 0,bv,.slice none 0 0] /\
  aP w' w.heap.size bv (cB l 0)/\w.heap.size<=rb/\Chg () w w'
theorem kI (ta fa:Option Addr) (tn tc fc:Nat) (h d:Int) (fs:List Fn) (w:World) (b1:Nat) (hf:aj 92 99 w b1 (.slice fa fs.length fc) fs) (h0:0 < fs.length) (hll:fs[0].locals.length<=10000) :
 Calls Try.prog 54 #[.agg #[.slice ta tn tc,.slice fa fs.length fc],h,d] w (ke w (.slice ta tn tc) (.slice fa fs.length fc) h d fs[0].locals):=by
 obtain ⟨i,hi1,hi2,hi3,hi4⟩:=l7
 have Hi1:=hid hi1
 have Hi2:=hid hi2
 have Hi3:=hid hi3
 have Hi4:=hid hi4
 clear hi1 hi2 hi3 hi4
 have kb:Chg () w ((w.alloc (Obj.cells #[.slice ta tn tc,.slice fa fs.length fc] 28)).alloc (Obj.cells #[.slice ta tn tc,.slice fa fs.length fc,h,d,oO,(),(),(),oO] 120)):=((Chg.refl _ w).alloc _).alloc _
 have bx:Blk ((w.alloc (Obj.cells #[.slice ta tn tc,.slice fa fs.length fc] 28)).alloc (Obj.cells #[.slice ta tn tc,.slice fa fs.length fc,h,d,oO,(),(),(),oO] 120)) (w.heap.size+1) #[.slice ta tn tc,.slice fa fs.length fc,h,d,oO,(),(),(),oO] 120:=Blk.new' (w:=w.alloc (Obj.cells #[.slice ta tn tc,.slice fa fs.length fc] 28)) (by simp) _ 120
 obtain ⟨g,cap,hfe,_,hcells⟩:=hf.formS h0
 simp only [Value.slice.injEq] at hfe
 obtain ⟨rfl,_,rfl⟩:=hfe
 obtain ⟨lv,cv,_,h1,_,_,hl,_⟩:=hcells 0 h0
 simp only [Nat.zero_mul,Nat.zero_add] at h1
 have hgl:g < w.heap.size:=World.block_lt_of_cell? w _ h1
 have hl0:=hl.chg kb (fun _ _ _ e=>e)
 obtain ⟨la,lc,rfl⟩:=hl.slice
 clear hcells hl
 have h0':(0:Int) < (fs.length:Int):=by omega
 generalize fs[0].locals=l at *
 go_enter Try.func54,Try.ntmps54
 go_wp2_with fail
 generalize ((w.alloc (Obj.cells #[.slice ta tn tc,.slice g fs.length fc] 28)).alloc (Obj.cells #[.slice ta tn tc,.slice g fs.length fc,h,d,oO,(),(),(),oO] 120))=W0 at *
 refine (iI _ l 0 _ b1 hl0 (Nat.zero_le _) hll).mono ?_
 rintro e w2 ⟨u,rfl,hu,k2⟩
 obtain ⟨ua,uc,rfl⟩:=hu.slice
 have bx2:=bx.chg k2 (fun e=>e)
 have hlt2:=bx2.lt
 have hsz:=(kb.trans k2).size
 have hu2:aP w2 w.heap.size (.slice ua (cB l 0).length uc) (cB l 0):=ap hu kb.size
 have kT:=kb.trans k2
 clear bx k2 hl0 h1 hu kb
 have y5:w2.cell? ⟨w.heap.size+1,5,none⟩=some (.slice none 0 0):=bx2.cell 5
 have z5:=bx2.frozen 5
 generalize hBE:cB l 0=B at *
 have HBE:=hid hBE
 clear hBE
 go_wp2_with (at_builtin;refine wpList_append_lies _ rfl _ _ 117 rfl w.heap.size 134 i (.agg #[oO,oO,(),()]) 4 64 Try.underlying117 Hi1.out Hi2.out Hi3.out Hi4.out rfl (by decide) _ _ _ rfl (World.ownsRow_nil _ _ _ _) ⟨w2.heap.size,0,none⟩ 1 1 [.int .i64 0,.int .i64 0,.slice ua B.length uc,.slice none 0 0] rfl rfl ?c1 ?c2 (by decide) ?c3 ?c4 ?c5 _ rfl ?_)
 case c1=>exact World.news_of_block (B:=w2.heap.size) (cs:=#[.int .i64 0,.int .i64 0,.slice ua B.length uc,.slice none 0 0]) (Blk.new' rfl _ 134)
 case c2=>intro u hu;simp at hu;rcases hu with rfl | rfl | rfl | rfl <;> rfl
 case c3=>unfold maxLen;omega
 case c4=>omega
 case c5=>simp;omega
 ·intro g2 cap2 w3 hown hgrow hat hlt3
  have k3:Chg () w2 w3:=((Chg.refl _ w2).alloc _).grown hgrow (fun j hj=>by cases hj)
  have bx3:=bx2.chg k3 (fun e=>e)
  have hu3:aP w3 w.heap.size (.slice ua B.length uc) B:=af hu2 k3 (fun _ _ e=>e)
  have kT3:=kT.trans k3
  clear hgrow hat y5 z5 bx2 k3 hu2 kT
  have y5:w3.cell? ⟨w.heap.size+1,5,none⟩=some (.slice none 0 0):=bx3.cell 5
  have z5:=bx3.frozen 5
  go_wp2
  go_ret
  have kz:Chg (fun b=>b=w.heap.size+1) w3 (w3.setCell ⟨w.heap.size+1,5,none⟩ (.slice g2 (0+1) cap2)):=Chg.setCell (S:=fun b=>b=w.heap.size+1) (Chg.refl _ w3) _ _ (Or.inl rfl)
  rw [ke,HBE.out]
  exact ⟨_,_,_,rfl,bx3.set 5 _,af hown kz (fun g hg e=>am hown bx3 (by decide) (by rw [hg,e])),af hu3 kz (fun g hg e=>am hu3 bx3 (by decide) (by rw [hg,e])),by omega,kT3.trans' kz (fun i hi e=>by omega)⟩
theorem jz {s:ByteArray} {fs:List Fn} {h d:Int} (hs:s.size<=800) (hb:¬ ei h d) (hl:(aq fs 0).locals.length<=8) :
 ((ep s fs h d).length:Int)<=2 * h+20 * d+16/\∀ x ∈ ep s fs h d,0<=x/\x < 65536:=by
 unfold ei at hb
 have hh:0<=h/\h<=4000/\1<=d/\d<=64:=by omega
 have e:ep s fs h d=aD s++[h,d,0]++[0]++[1]++(0::List.replicate (aq fs 0).locals.length 0):=by
  simp [ep,gG,aX]
 rw [e]
 constructor
 ·have hm:(aD s).length=3:=rfl
  simp [hm];omega
 ·intro x hx
  have r1:=el s 257 hs (by decide) s.size
  have r2:=el s 263 hs (by decide) s.size
  have r3:=el s 269 hs (by decide) s.size
  simp only [aD,List.mem_append,List.mem_cons,List.mem_replicate,List.not_mem_nil,or_false] at hx
  rcases hx with ((((hx | hx | hx) | hx | hx | hx) | hx) | hx) | hx | ⟨_,hx⟩ <;> omega
theorem dR {s:ByteArray} (h:(opF s).1=0):s.size<=800:=by
 by_cases h1:(opn s).1=0
 ·unfold opn at h1
  by_cases h2:800 < s.size
  ·rw [if_pos h2] at h1;cases h1
  ·omega
 ·rw [j8 h1] at h;exact absurd h h1
theorem jy {s:ByteArray} (h:(opF s).1=0):0 < (opF s).2.2.1.funcs.length/\(aq (opF s).2.2.1.funcs 0).locals.length<=8:=by
 have hw:=(oA h).1
 have h1:0 < (opF s).2.2.1.funcs.length:=hw.f1
 have hfn:aq (opF s).2.2.1.funcs 0=(opF s).2.2.1.funcs[0]:=by unfold aq;rw [dif_pos ⟨by omega,by simpa using h1⟩];rfl
 refine ⟨h1,?_⟩
 rw [hfn]
 exact (hw.fs 0 h1).l8
theorem nu (s:ByteArray) (h d:Int) (w:World):Calls Try.prog 32 #[.string s,h,d] w (fE w s (opF s) h d):=by
 refine kQ s h d w (opF s) (fun w=>gy s w) dR ?_
 by_cases hz:(opF s).1=0
 ·have:=(jy hz).2;omega
 ·have hp:(opF s).2.2.1=⟨[],[]⟩:=by
   by_cases h1:(opn s).1=0
   ·rcases hA:cA (opn s).2.2 (opn s).2.2.funcs 0 [] with k | sps
    ·rw [lV h1 k hA]
    ·rw [lO h1 sps hA] at hz;exact absurd rfl hz
   ·rw [j8 h1]
  rw [hp];simp [aq]
end Go.Proofs.Ytnfnbcbadakofaa
