import Derived.Test.YtnfnbcbadakofaaGreatStt
import Derived.Test.YtnfnbcbadakofaaGreatStk
import Derived.Test.YtnfnbcbadakofaaGreatSta
namespace Go.Proofs.YtnfnbcbadakofaaGreat
open Go.RowKit
set_option maxHeartbeats 2000000
set_option maxRecDepth 100000
theorem eZ (v:Value) (l:List Int) (h d:Int) (w:World) (b1:Nat) (hv:ad w b1 v l) (hh:0<=h/\h<=4000) (hd:1<=d/\d<=64) (hl:(l.length:Int)<=2 * h+20 * d+16) (hx:∀ x ∈ l,0<=x/\x < 65536) :
 Calls Tryz.prog 13 #[v,h,d] w fun e w'=>e=.returned (.bool true)/\w'=w:=by
 obtain ⟨a,c,rfl⟩:=hv.slice
 obtain ⟨hh1,hh2⟩:=hh
 obtain ⟨hd1,hd2⟩:=hd
 have hll:l.length<=9296:=by omega
 have HX:=hid hx
 have HV:=hid hv
 clear hx hv
 go_enter Tryz.func13,Tryz.ntmps13
 go_wp2
 go_loopw [7] (fun i wr=>∃ k:Nat,k<=l.length/\i=.int .i64 k/\wr=w) (fun i _=>l.length - (intOf i).toNat)
 case atStart=>exact ⟨0,Nat.zero_le _,rfl,rfl⟩
 case round =>
  obtain ⟨k,hk,rfl,rfl⟩:=hrel
  by_cases hlt:k < l.length
  ·have hlt':(k:Int) < (l.length:Int):=by omega
   obtain ⟨g,c',hve,_,_,_,hc⟩:=ad.form HV.out (by omega)
   simp only [Value.slice.injEq] at hve
   obtain ⟨rfl,_,rfl⟩:=hve
   have y:=hc k hlt
   have hm:l.getD k 0 ∈ l:=by rw [List.getD_eq_getElem?_getD,List.getElem?_eq_getElem hlt];exact List.getElem_mem hlt
   obtain ⟨x1,x2⟩:=HX.out _ hm
   clear hc hm
   generalize l.getD k 0=x at *
   have x1':¬ x < 0:=by omega
   have x2':¬ (65536<=x):=by omega
   go_wp2
   exact ⟨⟨k+1,by omega,rfl,trivial⟩,by simp [intOf];omega⟩
  ·have hlt':(l.length:Int)<=(k:Int):=by omega
   go_wp2
   go_ret
   exact ⟨rfl,rfl⟩
def vlC (l:List (Int × Bool)):List Value:=l.flatMap fun x=>[.int .i64 x.1,.bool x.2]
theorem jI (l:List (Int × Bool)) (x:Int × Bool):vlC (l++[x])=vlC l++[.int .i64 x.1,.bool x.2]:=by simp [vlC]
def aO (w:World) (base:Nat) (v:Value) (l:List (Int × Bool)):Prop:=w.ownsRow base 104 2 v l.length (vlC l)
theorem aO.slice {w:World} {base:Nat} {v:Value} {l:List (Int × Bool)} (h:aO w base v l):∃ a cap,v=.slice a l.length cap:=by
 rcases h.2 with ⟨h1,h2⟩ | ⟨g,cap,cur,rfl,_⟩
 ·exact ⟨none,0,by rw [h1,h2]⟩
 ·exact ⟨_,_,rfl⟩
theorem gQ:∃ i:TypeInfo,Tryz.prog.info? 104=some i/\i.zero=some (.agg #[oO,.bool false])/\i.size=2/\i.bytes=16:=cO (by kernel_rfl)
def cz (l:List Int) (k:Nat):List (Int × Bool):=(l.drop k).map fun t=>(0,decide (0 < t))
theorem lh (l:List Int) (k j:Nat) (h:k+j < l.length):((l.drop k).take (j+1)).map (fun t=>((0:Int),decide (0 < t)))=((l.drop k).take j).map (fun t=>((0:Int),decide (0 < t)))++[(0,decide (0 < l.getD (k+j) 0))]:=by
 have hj:j < (l.drop k).length:=by rw [List.length_drop];omega
 rw [List.take_succ_eq_append_getElem hj,List.map_append]
 simp [List.getD_eq_getElem?_getD,List.getElem?_eq_getElem h]
theorem iS (v:Value) (l:List Int) (k:Nat) (w:World) (b1:Nat) (hv:ad w b1 v l) (hk:k<=l.length) (hl:l.length<=10000) :
 Calls Tryz.prog 27 #[v,k] w fun e w'=>∃ u,e=.returned u/\aO w' w.heap.size u (cz l k)/\Chg () w w':=by
 obtain ⟨va,vc,rfl⟩:=hv.slice
 obtain ⟨i,hi1,hi2,hi3,hi4⟩:=gQ
 have Hi1:=hid hi1
 have Hi2:=hid hi2
 have Hi3:=hid hi3
 have Hi4:=hid hi4
 clear hi1 hi2 hi3 hi4
 have HV:=hid hv
 clear hv
 go_enter Tryz.func27,Tryz.ntmps27
 go_wp2
 go_loopw [5,6] (fun u iv wr=>∃ (j:Nat) (L:List (Int × Bool)),iv=.int .i64 ((k+j:Nat):Int)/\k+j<=l.length/\L=((l.drop k).take j).map (fun t=>((0:Int),decide (0 < t)))/\aO wr w.heap.size u L/\Chg () w wr) (fun _ iv _=>l.length - (intOf iv).toNat)
 case atStart=>exact ⟨0,[],by simp,by omega,by simp,World.ownsRow_nil _ _ _ _,Chg.refl _ _⟩
 case round =>
  obtain ⟨j,L,rfl,hj,hL,hu,kk⟩:=hrel
  have HL:=hid hL
  clear hL
  obtain ⟨ua,uc,rfl⟩:=hu.slice
  by_cases hlt:k+j < l.length
  ·have hlt':((k+j:Nat):Int) < (l.length:Int):=by omega
   obtain ⟨g,c',hve,_,_,_,hc⟩:=(ad.chg HV.out kk (fun _ _ _ e=>e)).form (by omega)
   simp only [Value.slice.injEq] at hve
   obtain ⟨rfl,_,rfl⟩:=hve
   have y:=hc (k+j) hlt
   have HS:Hid _:=lh l k j hlt
   have hLl:L.length<=10000:=by rw [HL.out,List.length_map,List.length_take,List.length_drop];omega
   have hsz:=kk.size
   have hgl:g < wr.heap.size:=World.block_lt_of_cell? wr _ y
   clear hc
   generalize l.getD (k+j) 0=t at *
   go_wp2_with (at_builtin;refine wpList_append_lies _ rfl _ _ 70 rfl w.heap.size 104 i (.agg #[oO,.bool false]) 2 16 Tryz.underlying70 Hi1.out Hi2.out Hi3.out Hi4.out rfl (by decide) _ _ _ rfl (World.ownsRow.alloc hu _) ⟨wr.heap.size,0,none⟩ 1 1 [.int .i64 0,.bool (decide (0 < t))] rfl rfl ?c1 ?c2 (by decide) ?c3 ?c4 ?c5 _ rfl ?_)
   case c1=>exact World.news_of_block (B:=wr.heap.size) (cs:=#[.int .i64 0,.bool (decide (0 < t))]) (Blk.new' rfl _ 104)
   case c2=>intro u hu;simp at hu;rcases hu with rfl | rfl <;> rfl
   case c3=>unfold maxLen;omega
   case c4=>omega
   case c5=>simp;omega
   ·intro g2 cap2 w2 hown2 hgrow hat hlt2
    have hch2:Chg () w w2:=((kk.alloc _).grown hgrow (fun k hk=>.inr (hu.lt k hk).1))
    clear hgrow hat
    go_wp2
    refine ⟨⟨j+1,L++[(0,decide (0 < t))],by simp;omega,by omega,?_,?_,hch2⟩,by simp [intOf];omega⟩
    ·rw [HS.out,HL.out]
    ·unfold aO
     rw [jI,List.length_append]
     exact hown2
  ·have hlt':(l.length:Int)<=((k+j:Nat):Int):=by omega
   have hE:L=cz l k:=by
    rw [HL.out];unfold cz
    rw [List.take_of_length_le (by rw [List.length_drop];omega)]
   have HE:=hid hE
   clear hE
   go_wp2
   go_ret
   exact ⟨_,rfl,by rw [<-HE.out];exact hu,kk⟩
theorem lE:∃ i:TypeInfo,Tryz.prog.info? 72=some i/\i.zero=some (.agg #[oO,oO,(),()])/\i.size=4/\i.bytes=64:=cO (by kernel_rfl)
def jA (w:World) (tv fv:Value) (h d:Int) (l:List Int) (e:Ending) (w':World):Prop:=
 ∃ rb frv bv,e=.returned (.pointer (some ⟨rb,0,none⟩))/\Blk w' rb #[tv,fv,.int .i64 h,.int .i64 d,.int .i64 0,frv,.slice none 0 0,.slice none 0 0,.int .i64 0] 53/\w'.ownsRow w.heap.size 72 4 frv 1 [.int .i64 0,.int .i64 0,bv,.slice none 0 0] /\
  aO w' w.heap.size bv (cz l 0)/\w.heap.size<=rb/\Chg () w w'
theorem kP (ta fa:Option Addr) (tn tc fc:Nat) (h d:Int) (fs:List Fn) (w:World) (b1:Nat) (hf:aj 93 107 w b1 (.slice fa fs.length fc) fs) (h0:0 < fs.length) (hll:fs[0].locals.length<=10000) :
 Calls Tryz.prog 12 #[.agg #[.slice ta tn tc,.slice fa fs.length fc],h,d] w (jA w (.slice ta tn tc) (.slice fa fs.length fc) h d fs[0].locals):=by
 obtain ⟨i,hi1,hi2,hi3,hi4⟩:=lE
 have Hi1:=hid hi1
 have Hi2:=hid hi2
 have Hi3:=hid hi3
 have Hi4:=hid hi4
 clear hi1 hi2 hi3 hi4
 have kb:Chg () w ((w.alloc (Obj.cells #[.slice ta tn tc,.slice fa fs.length fc] 43)).alloc (Obj.cells #[.slice ta tn tc,.slice fa fs.length fc,h,d,oO,(),(),(),oO] 53)):=((Chg.refl _ w).alloc _).alloc _
 have bx:Blk ((w.alloc (Obj.cells #[.slice ta tn tc,.slice fa fs.length fc] 43)).alloc (Obj.cells #[.slice ta tn tc,.slice fa fs.length fc,h,d,oO,(),(),(),oO] 53)) (w.heap.size+1) #[.slice ta tn tc,.slice fa fs.length fc,h,d,oO,(),(),(),oO] 53:=Blk.new' (w:=w.alloc (Obj.cells #[.slice ta tn tc,.slice fa fs.length fc] 43)) (by simp) _ 53
 obtain ⟨g,cap,hfe,_,hcells⟩:=hf.formS h0
 simp only [Value.slice.injEq] at hfe
 obtain ⟨rfl,_,rfl⟩:=hfe
 obtain ⟨lv,cv,_,h1,_,_,hl,_⟩:=hcells 0 h0
 simp only [Nat.zero_mul,Nat.zero_add] at h1
 have hgl:g < w.heap.size:=World.block_lt_of_cell? w _ h1
 have hl0:=hl.chg kb (fun _ _ _ e=>e)
 obtain ⟨la,lc,rfl⟩:=hl.slice
 clear hcells hl
 have h0':(0:Int) < (fs.length:Int):=by omega
 generalize fs[0].locals=l at *
 go_enter Tryz.func12,Tryz.ntmps12
 go_wp2_with fail
 generalize ((w.alloc (Obj.cells #[.slice ta tn tc,.slice g fs.length fc] 43)).alloc (Obj.cells #[.slice ta tn tc,.slice g fs.length fc,h,d,oO,(),(),(),oO] 53))=W0 at *
 refine (iS _ l 0 _ b1 hl0 (Nat.zero_le _) hll).mono ?_
 rintro e w2 ⟨u,rfl,hu,k2⟩
 obtain ⟨ua,uc,rfl⟩:=hu.slice
 have bx2:=bx.chg k2 (fun e=>e)
 have hlt2:=bx2.lt
 have hsz:=(kb.trans k2).size
 have hu2:aO w2 w.heap.size (.slice ua (cz l 0).length uc) (cz l 0):=am hu kb.size
 have kT:=kb.trans k2
 clear bx k2 hl0 h1 hu kb
 have y5:w2.cell? ⟨w.heap.size+1,5,none⟩=some (.slice none 0 0):=bx2.cell 5
 have z5:=bx2.frozen 5
 generalize hBE:cz l 0=B at *
 have HBE:=hid hBE
 clear hBE
 go_wp2_with (at_builtin;refine wpList_append_lies _ rfl _ _ 50 rfl w.heap.size 72 i (.agg #[oO,oO,(),()]) 4 64 Tryz.underlying50 Hi1.out Hi2.out Hi3.out Hi4.out rfl (by decide) _ _ _ rfl (World.ownsRow_nil _ _ _ _) ⟨w2.heap.size,0,none⟩ 1 1 [.int .i64 0,.int .i64 0,.slice ua B.length uc,.slice none 0 0] rfl rfl ?c1 ?c2 (by decide) ?c3 ?c4 ?c5 _ rfl ?_)
 case c1=>exact World.news_of_block (B:=w2.heap.size) (cs:=#[.int .i64 0,.int .i64 0,.slice ua B.length uc,.slice none 0 0]) (Blk.new' rfl _ 72)
 case c2=>intro u hu;simp at hu;rcases hu with rfl | rfl | rfl | rfl <;> rfl
 case c3=>unfold maxLen;omega
 case c4=>omega
 case c5=>simp;omega
 ·intro g2 cap2 w3 hown hgrow hat hlt3
  have k3:Chg () w2 w3:=((Chg.refl _ w2).alloc _).grown hgrow (fun j hj=>by cases hj)
  have bx3:=bx2.chg k3 (fun e=>e)
  have hu3:aO w3 w.heap.size (.slice ua B.length uc) B:=af hu2 k3 (fun _ _ e=>e)
  have kT3:=kT.trans k3
  clear hgrow hat y5 z5 bx2 k3 hu2 kT
  have y5:w3.cell? ⟨w.heap.size+1,5,none⟩=some (.slice none 0 0):=bx3.cell 5
  have z5:=bx3.frozen 5
  go_wp2
  go_ret
  have kz:Chg (fun b=>b=w.heap.size+1) w3 (w3.setCell ⟨w.heap.size+1,5,none⟩ (.slice g2 (0+1) cap2)):=Chg.setCell (S:=fun b=>b=w.heap.size+1) (Chg.refl _ w3) _ _ (Or.inl rfl)
  rw [jA,HBE.out]
  exact ⟨_,_,_,rfl,bx3.set 5 _,af hown kz (fun g hg e=>ao hown bx3 (by decide) (by rw [hg,e])),af hu3 kz (fun g hg e=>ao hu3 bx3 (by decide) (by rw [hg,e])),by omega,kT3.trans' kz (fun i hi e=>by omega)⟩
theorem jr {s:ByteArray} {fs:List Fn} {h d:Int} (hs:s.size<=800) (hb:¬ eO h d) (hl:(aq fs 0).locals.length<=8) :
 ((dW s fs h d).length:Int)<=2 * h+20 * d+16/\∀ x ∈ dW s fs h d,0<=x/\x < 65536:=by
 unfold eO at hb
 have hh:0<=h/\h<=4000/\1<=d/\d<=64:=by omega
 have e:dW s fs h d=aB s++[h,d,0]++[0]++[1]++(0::List.replicate (aq fs 0).locals.length 0):=by
  simp [dW,ge,aW]
 rw [e]
 constructor
 ·have hm:(aB s).length=3:=rfl
  simp [hm];omega
 ·intro x hx
  have r1:=ep s 257 hs (by decide) s.size
  have r2:=ep s 263 hs (by decide) s.size
  have r3:=ep s 269 hs (by decide) s.size
  simp only [aB,List.mem_append,List.mem_cons,List.mem_replicate,List.not_mem_nil,or_false] at hx
  rcases hx with ((((hx | hx | hx) | hx | hx | hx) | hx) | hx) | hx | ⟨_,hx⟩ <;> omega
theorem cQ {s:ByteArray} (h:(opF s).1=0):s.size<=800:=by
 by_cases h1:(opn s).1=0
 ·unfold opn at h1
  by_cases h2:800 < s.size
  ·rw [if_pos h2] at h1;cases h1
  ·omega
 ·rw [jR h1] at h;exact absurd h h1
theorem jQ {s:ByteArray} (h:(opF s).1=0):0 < (opF s).2.2.1.funcs.length/\(aq (opF s).2.2.1.funcs 0).locals.length<=8:=by
 have hw:=(nO h).1
 have h1:0 < (opF s).2.2.1.funcs.length:=hw.f1
 have hfn:aq (opF s).2.2.1.funcs 0=(opF s).2.2.1.funcs[0]:=by unfold aq;rw [dif_pos ⟨by omega,by simpa using h1⟩];rfl
 refine ⟨h1,?_⟩
 rw [hfn]
 exact (hw.fs 0 h1).l8
theorem mt (s:ByteArray) (h d:Int) (w:World):Calls Tryz.prog 10 #[.string s,h,d] w (fH w s (opF s) h d):=by
 refine kt s h d w (opF s) (fun w=>gK s w) cQ ?_
 by_cases hz:(opF s).1=0
 ·have:=(jQ hz).2;omega
 ·have hp:(opF s).2.2.1=⟨[],[]⟩:=by
   by_cases h1:(opn s).1=0
   ·rcases hA:cx (opn s).2.2 (opn s).2.2.funcs 0 [] with k | sps
    ·rw [l5 h1 k hA]
    ·rw [lP h1 sps hA] at hz;exact absurd rfl hz
   ·rw [jR h1]
  rw [hp];simp [aq]
end Go.Proofs.YtnfnbcbadakofaaGreat
namespace Go.Proofs.YtnfnbcbadakofaaGreat
open Go.RowKit
structure Rn where
 heap:Int
 depth:Int
 status:Int
 words:List Int
 below:List Fr
 top:Fr
 inp:List Int
 used:Nat
 out:List Int
structure Cx where
 ls:List (List Int)
 fs:List Fn
 sps:List aC
structure Mv where
 to:List Int
 refs:List Int
def mvP (ls:List (List Int)) (frm:List Int) (m:Mv) (ref:Int):Int × Mv:=
 if ref - 1 < 0 \/ (frm.length:Int)<=ref - 1 then (0,m)
 else if m.refs.getD (ref - 1).toNat 0 ≠ 0 then (m.refs.getD (ref - 1).toNat 0,m)
 else if (frm.length:Int) < ref+((flds ls (frm.getD (ref - 1).toNat 0)).length:Int) then (0,m)
 else ((m.to.length:Int)+1,⟨m.to++(frm.drop (ref - 1).toNat).take (1+(flds ls (frm.getD (ref - 1).toNat 0)).length),m.refs.set (ref - 1).toNat ((m.to.length:Int)+1)⟩)
def mv1 (ls:List (List Int)) (frm:List Int) (kind v:Int) (m:Mv):Int × Mv:=if kind ≠ 0 then mvP ls frm m v else (v,m)
def mvL (ls:List (List Int)) (frm:List Int) (kinds:List Int):Nat->List Int->Mv->List Int × Mv
 | _,[],m=>([],m)
 | k,v::vs,m=>((mv1 ls frm (aU kinds k) v m).1::(mvL ls frm kinds (k+1) vs (mv1 ls frm (aU kinds k) v m).2).1,(mvL ls frm kinds (k+1) vs (mv1 ls frm (aU kinds k) v m).2).2)
def skP (sps:List aC) (f i:Int):List Int:=(spP sps f i).getD []
def cK (c:Cx) (frm:List Int) (f:Fr) (m:Mv):Fr × Mv:=
 (⟨f.fn,f.pc,(mvL c.ls frm (aq c.fs f.fn).locals 0 f.locals m).1,(mvL c.ls frm (skP c.sps f.fn f.pc) 0 f.stack (mvL c.ls frm (aq c.fs f.fn).locals 0 f.locals m).2).1⟩,
  (mvL c.ls frm (skP c.sps f.fn f.pc) 0 f.stack (mvL c.ls frm (aq c.fs f.fn).locals 0 f.locals m).2).2)
def aZ (c:Cx) (frm:List Int):List Fr->Mv->List Fr × Mv
 | [],m=>([],m)
 | f::fs,m=>((cK c frm f m).1::(aZ c frm fs (cK c frm f m).2).1,(aZ c frm fs (cK c frm f m).2).2)
def mvW (ls:List (List Int)) (frm:List Int):Nat->Nat->List Int->Nat->Mv->Mv
 | 0,_,_,_,m=>m
 | n+1,k,kinds,left,m =>
  if k < m.to.length then
   if left=0 then mvW ls frm n (k+1) (flds ls (m.to.getD k 0)) (flds ls (m.to.getD k 0)).length m
   else if aU kinds ((kinds.length:Int) - left) ≠ 0 then
    mvW ls frm n (k+1) kinds (left - 1) ⟨(mvP ls frm m (m.to.getD k 0)).2.to.set k (mvP ls frm m (m.to.getD k 0)).1,(mvP ls frm m (m.to.getD k 0)).2.refs⟩
   else mvW ls frm n (k+1) kinds (left - 1) m
  else m
def mvA (c:Cx) (R:Rn):(List Fr × Fr) × Mv:=
 let b:=aZ c R.words R.below ⟨[],List.replicate R.words.length 0⟩
 let t:=cK c R.words R.top b.2
 ((b.1,t.1),mvW c.ls R.words (6 * R.words.length) 0 [] 0 t.2)
def a9 (c:Cx) (R:Rn):Rn:={ R with words:=(mvA c R).2.to,below:=(mvA c R).1.1,top:=(mvA c R).1.2 }
def aF (s:List Int):Int:=s.getLastD 0
def cG (f:Fr) (v:Int):Fr:={ f with stack:=f.stack++[v] }
def aR (f:Fr):Fr:={ f with stack:=f.stack.dropLast }
def cS (s:List Int) (n:Nat):List Int:=if s.length < n then [] else s.drop (s.length - n)
def dw (s:List Int) (n:Nat):List Int:=if s.length < n then s else s.take (s.length - n)
def dB (op a b:Int):Int:=
 if op=1 then (a+b) % 65536 else if op=2 then (a - b) % 65536 else if op=3 then (a * b) % 65536 else if op=4 then (if a < b then 1 else 0) else if a=b then 1 else 0
def uvP (x:Int × Int × Int) (R:Rn):Rn:=
 if x.1=0 then { R with top:=cG R.top x.2.1 }
 else if x.1=1 \/ x.1=2 \/ x.1=3 \/ x.1=4 \/ x.1=12 then { R with top:=cG (aR (aR R.top)) (dB x.1 (aF R.top.stack.dropLast) (aF R.top.stack)) }
 else if x.1=5 then { R with top:=cG R.top (aU R.top.locals x.2.1) }
 else if x.1=6 then { R with top:={ aR R.top with locals:=if 0<=x.2.1/\x.2.1 < (R.top.locals.length:Int) then R.top.locals.set x.2.1.toNat (aF R.top.stack) else R.top.locals } }
 else if x.1=10 then { R with top:=cG R.top 0 }
 else if x.1=11 then { R with top:=cG (aR R.top) (if aF R.top.stack=0 then 1 else 0) }
 else if x.1=17 then { R with top:=aR R.top,out:=R.out++[aF R.top.stack] }
 else if x.1=18 then { R with top:=cG R.top (R.inp.getD R.used 0 % 65536),used:=R.used+1 }
 else R
def dz (c:Cx) (t:Int) (R:Rn):Rn:=
 if R.heap < (R.words.length:Int)+((flds c.ls t).length:Int)+1 then { R with status:=4 }
 else { R with words:=R.words++t::cS R.top.stack (flds c.ls t).length,top:={ R.top with stack:=dw R.top.stack (flds c.ls t).length++[(R.words.length:Int)+1] } }
def mrP (c:Cx) (t:Int) (R:Rn):Rn:=
 dz c t (if R.heap < (R.words.length:Int)+((flds c.ls t).length:Int)+1 then a9 c R else R)
def urP (c:Cx) (x:Int × Int × Int) (R:Rn):Rn:=
 if x.1=7 then mrP c x.2.1 R
 else if x.1=8 then
  if aF R.top.stack=0 then { R with top:=aR R.top,status:=3 }
  else { R with top:=cG (aR R.top) (aU R.words (aF R.top.stack+x.2.2)) }
 else
  if aF R.top.stack.dropLast=0 then { R with top:=aR (aR R.top),status:=3 }
  else { R with top:=aR (aR R.top),words:=if 0<=aF R.top.stack.dropLast+x.2.2/\aF R.top.stack.dropLast+x.2.2 < (R.words.length:Int) then R.words.set (aF R.top.stack.dropLast+x.2.2).toNat (aF R.top.stack) else R.words }
def clP (c:Cx) (f:Int) (R:Rn):Rn:=
 if R.depth<=(R.below.length:Int)+1 then { R with status:=5 }
 else { R with below:=R.below++[{ R.top with stack:=dw R.top.stack (aP c.fs f).length }],top:=dZ f (aq c.fs f) (cS R.top.stack (aP c.fs f).length) }
def gbP (R:Rn):Rn:=
 if h:R.below=[] then { R with top:=aR R.top,out:=R.out++[aF R.top.stack],status:=1 }
 else { R with below:=R.below.dropLast,top:={ cG (R.below.getLast h) (aF R.top.stack) with pc:=(R.below.getLast h).pc+1 } }
def uD (f:Fr):Fr:={ f with pc:=f.pc+1 }
def gO (R:Rn):Rn:={ R with top:=uD R.top }
def doP (c:Cx) (x:Int × Int × Int) (R:Rn):Rn:=
 if x.1=13 then { R with top:={ R.top with pc:=x.2.1 } }
 else if x.1=14 then { R with top:={ aR R.top with pc:=if aF R.top.stack=0 then x.2.1 else R.top.pc+1 } }
 else if x.1=15 then clP c x.2.1 R
 else if x.1=16 then gbP R
 else if x.1=7 \/ x.1=8 \/ x.1=9 then gO (urP c x R)
 else gO (uvP x R)
def aV (f:Fn) (i:Int):Int × Int × Int:=if i < 0 \/ (f.code.length:Int)<=i then (0,0,0) else f.code.getD i.toNat (0,0,0)
def eC (c:Cx) (R:Rn):Int × Int × Int:=aV (aq c.fs R.top.fn) R.top.pc
def bu (c:Cx):Nat->Rn->Rn × Int
 | 0,R=>(R,R.status)
 | n+1,R=>if R.status ≠ 0 then (R,R.status) else if (eC c R).1=18/\R.inp.length<=R.used then (R,2) else bu c n (doP c (eC c R) R)
end Go.Proofs.YtnfnbcbadakofaaGreat
namespace Go.Proofs.YtnfnbcbadakofaaGreat
open Go.RowKit
def bd (ls:List (List Int)):Nat->List Int->List (Option Int)
 | _,[]=>[]
 | 0,w::ws=>some w::bd ls (flds ls w).length ws
 | l+1,_::ws=>none::bd ls l ws
def cD (ls:List (List Int)) (n:Nat) (ws:List Int):List Int:=(bd ls n ws).map fun x=>x.getD 0
def dH (recs:List Int) (kind v:Int):Bool:=decide (kind ≠ 0) && decide (v ≠ 0) && decide (aU recs (v - 1) ≠ kind)
def tvP (ns recs:List Int):List Int->Nat × Bool->List Int × (Nat × Bool)
 | [],s=>([],s)
 | k::ks,s=>((tk ns 0 65535 s).1::(tvP ns recs ks ((tk ns 0 65535 s).2.1,(tk ns 0 65535 s).2.2 || dH recs k (tk ns 0 65535 s).1)).1,(tvP ns recs ks ((tk ns 0 65535 s).2.1,(tk ns 0 65535 s).2.2 || dH recs k (tk ns 0 65535 s).1)).2)
def twP (ls:List (List Int)) (ws recs:List Int):Nat->Nat × Bool->Nat × Bool
 | 0,s=>s
 | n+1,s=>if s.1 < ws.length/\s.2=false then twP ls ws recs n (tvP ws recs (flds ls (tk ws 1 ls.length s).1) (tk ws 1 ls.length s).2).2 else s
def iU (c:Cx) (ns:List Int) (heap:Int) (s:Nat × Bool):List Int × (Nat × Bool):=
 let k:=tk ns 0 heap s
 let ws:=tkL ns 65535 k.1.toNat k.2
 (ws.1,(ws.2.1,ws.2.2 || (twP c.ls ws.1 (cD c.ls 0 ws.1) ws.1.length (0,false)).2))
def tfP (c:Cx) (ns recs:List Int) (f:Int) (waits:Bool) (s:Nat × Bool):Fr × (Nat × Bool):=
 let fn:=aq c.fs f
 let a:=tk ns 0 ((fn.code.length:Int) - 1) s
 let x:=aV fn a.1
 let p:=spP c.sps f a.1
 let ks:=if waits then bT (p.getD []) (((p.getD []).length:Int) - ((ak c.ls c.fs fn x.1 x.2.1 x.2.2).length:Int)) else p.getD []
 let l:=tvP ns recs fn.locals (a.2.1,a.2.2 || (!p.isSome || (waits && decide (x.1 ≠ 15))))
 let k:=tvP ns recs ks l.2
 (⟨f,a.1,l.1,k.1⟩,k.2)
def de (c:Cx) (ns recs:List Int):Nat->Int->Nat × Bool->List Fr × Int × (Nat × Bool)
 | 0,f,s=>([],f,s)
 | n+1,f,s=>((tfP c ns recs f true s).1::(de c ns recs n (aV (aq c.fs f) (tfP c ns recs f true s).1.pc).2.1 (tfP c ns recs f true s).2).1,(de c ns recs n (aV (aq c.fs f) (tfP c ns recs f true s).1.pc).2.1 (tfP c ns recs f true s).2).2)
def ji (c:Cx) (ns recs:List Int) (depth:Int) (s:Nat × Bool):(List Fr × Fr) × (Nat × Bool):=
 let k:=tk ns 1 depth s
 let b:=de c ns recs (k.1 - 1).toNat 0 k.2
 let t:=tfP c ns recs b.2.1 false b.2.2
 ((b.1,t.1),t.2)
def thP (ms ns:List Int) (s:Nat × Bool):(Int × Int × Int) × (Nat × Bool):=
 let m:=ms.foldl (fun s m=>(tk ns m m s).2) s
 let h:=tk ns 0 4000 m
 let d:=tk ns 1 64 h.2
 let st:=tk ns 0 5 d.2
 ((h.1,d.1,st.1),(st.2.1,st.2.2 || decide (st.1=2)))
def tuR (c:Cx) (ms ns:List Int):Rn × (Nat × Bool):=
 let h:=thP ms ns (0,false)
 if h.1.2.2=0 then
  let w:=iU c ns h.1.1 h.2
  let f:=ji c ns (cD c.ls 0 w.1) h.1.2.1 w.2
  (⟨h.1.1,h.1.2.1,0,w.1,f.1.1,f.1.2,[],0,[]⟩,f.2)
 else (⟨h.1.1,h.1.2.1,h.1.2.2,[],[],⟨0,0,[],[]⟩,[],0,[]⟩,h.2)
def tuP (c:Cx) (ms ns:List Int):Option Rn:=if (tuR c ms ns).2.2=true \/ (tuR c ms ns).2.1 < ns.length then none else some (tuR c ms ns).1
def cB (c:Cx) (R:Rn) (inp:List Int) (fuel:Nat):Rn × Int:=bu c fuel { R with inp:=inp }
end Go.Proofs.YtnfnbcbadakofaaGreat
namespace Go.Proofs.YtnfnbcbadakofaaGreat
open Go.RowKit
structure DFr where
 fn:Int
 pc:Int
 locals:List (Int × Bool)
 stack:List (Int × Bool)
structure Dn where
 heap:Int
 depth:Int
 status:Int
 below:List DFr
 top:DFr
 recs:List (List (Int × Bool))
 out:List Int
 used:Nat
def aD (f:DFr) (v:Int × Bool):DFr:={ f with stack:=f.stack++[v] }
def ax (f:DFr):DFr:={ f with stack:=f.stack.dropLast }
def au (s:List (Int × Bool)):Int × Bool:=s.getLastD (0,false)
structure Mk where
 seen:List Bool
 list:List Nat
def mkV (m:Mk) (v:Int × Bool):Mk:=
 if v.2=true/\0 < v.1/\m.seen.getD (v.1 - 1).toNat true=false then ⟨m.seen.set (v.1 - 1).toNat true,m.list++[(v.1 - 1).toNat]⟩ else m
def mkA (m:Mk) (l:List (Int × Bool)):Mk:=l.foldl mkV m
def mkF (m:Mk) (f:DFr):Mk:=mkA (mkA m f.locals) f.stack
def cI (m:Mk) (l:List DFr):Mk:=l.foldl mkF m
def lvW (recs:List (List (Int × Bool))):Nat->Nat->Mk->Nat->Nat
 | 0,_,_,n=>n
 | k+1,i,m,n=>if i < m.list.length then lvW recs k (i+1) (mkA m (recs.getD (m.list.getD i 0) [])) (n+1+(recs.getD (m.list.getD i 0) []).length) else n
def az (D:Dn):List DFr:=if D.status=0 \/ D.status=2 then D.below++[D.top] else []
def bk (D:Dn):Nat:=lvW D.recs (D.recs.length+1) 0 (cI ⟨List.replicate D.recs.length false,[]⟩ (az D)) 0
def bz (op a b:Int):Int:=
 if op=1 then (a+b) % 65536 else if op=2 then (a - b+65536) % 65536 else if op=3 then (a * b) % 65536 else if op=4 then (if a < b then 1 else 0) else 0
def fL (c:Cx) (x:Int × Int × Int) (D:Dn):Dn:=
 if x.1=7 then
  if D.heap < (bk D:Int)+1+((flds c.ls x.2.1).length:Int) then { D with status:=4 }
  else { D with recs:=D.recs++[D.top.stack.drop (D.top.stack.length - (flds c.ls x.2.1).length)],top:={ D.top with stack:=D.top.stack.take (D.top.stack.length - (flds c.ls x.2.1).length)++[((D.recs.length:Int)+1,true)] } }
 else if x.1=8 then
  if (au D.top.stack).1=0 then { D with top:=ax D.top,status:=3 }
  else { D with top:=aD (ax D.top) ((D.recs.getD ((au D.top.stack).1 - 1).toNat []).getD x.2.2.toNat (0,false)) }
 else if x.1=9 then
  if (au D.top.stack.dropLast).1=0 then { D with top:=ax (ax D.top),status:=3 }
  else { D with top:=ax (ax D.top),recs:=D.recs.set ((au D.top.stack.dropLast).1 - 1).toNat ((D.recs.getD ((au D.top.stack.dropLast).1 - 1).toNat []).set x.2.2.toNat (au D.top.stack)) }
 else if x.1=10 then { D with top:=aD D.top (0,true) }
 else if x.1=11 then { D with top:=aD (ax D.top) (if (au D.top.stack).1=0 then 1 else 0,false) }
 else if x.1=12 then { D with top:=aD (ax (ax D.top)) (if (au D.top.stack.dropLast).1=(au D.top.stack).1 then 1 else 0,false) }
 else D
def ie (c:Cx) (g:Int) (D:Dn):Dn:=
 if D.depth<=(D.below.length:Int)+1 then { D with status:=5 }
 else { D with below:=D.below++[{ D.top with stack:=D.top.stack.take (D.top.stack.length - (aP c.fs g).length) }],
               top:=⟨g,0,D.top.stack.drop (D.top.stack.length - (aP c.fs g).length)++cz (aq c.fs g).locals (aP c.fs g).length,[]⟩ }
def dc (D:Dn):Dn:=
 if h:D.below=[] then { D with top:=ax D.top,out:=D.out++[(au D.top.stack).1],status:=1 }
 else { D with below:=D.below.dropLast,top:=aD (D.below.getLast h) (au D.top.stack) }
def ap (D:Dn):Dn:={ D with top:={ D.top with pc:=D.top.pc+1 } }
def cp (c:Cx) (inp:List Int) (x:Int × Int × Int) (D:Dn):Dn:=
 if x.1=0 then { D with top:=aD D.top (x.2.1,false) }
 else if x.1=1 \/ x.1=2 \/ x.1=3 \/ x.1=4 then { D with top:=aD (ax (ax D.top)) (bz x.1 (au D.top.stack.dropLast).1 (au D.top.stack).1,false) }
 else if x.1=5 then { D with top:=aD D.top (D.top.locals.getD x.2.1.toNat (0,false)) }
 else if x.1=6 then { D with top:={ ax D.top with locals:=D.top.locals.set x.2.1.toNat (au D.top.stack) } }
 else if x.1=13 then { D with top:={ D.top with pc:=x.2.1 } }
 else if x.1=14 then { D with top:={ ax D.top with pc:=if (au D.top.stack).1=0 then x.2.1 else D.top.pc } }
 else if x.1=15 then ie c x.2.1 D
 else if x.1=16 then dc D
 else if x.1=17 then { D with top:=ax D.top,out:=D.out++[(au D.top.stack).1] }
 else if x.1=18 then { D with top:=aD D.top (inp.getD D.used 0 % 65536,false),used:=D.used+1 }
 else fL c x D
def aN (c:Cx) (inp:List Int) (x:Int × Int × Int) (D:Dn):Dn:=cp c inp x (ap D)
def bP (c:Cx) (D:Dn):Int × Int × Int:=aV (aq c.fs D.top.fn) D.top.pc
def en (c:Cx) (inp:List Int):Nat->Dn->Dn
 | 0,D=>D
 | n+1,D=>if D.status ≠ 0 then D else if (bP c D).1=18/\inp.length<=D.used then { D with status:=2 } else en c inp n (aN c inp (bP c D) D)
def dGo (c:Cx) (inp:List Int) (fuel:Nat) (D:Dn):Dn:=en c inp fuel { D with out:=[],used:=0,status:=if D.status=2 then 0 else D.status }
end Go.Proofs.YtnfnbcbadakofaaGreat
namespace Go.Proofs.YtnfnbcbadakofaaGreat
open Go.RowKit
inductive VL (P:Int->Int × Bool->Int->Prop):List Int->List (Int × Bool)->List Int->Prop
 | nil:VL P [] [] []
 | cons {k:Int} {d:Int × Bool} {v:Int} {ks:List Int} {ds:List (Int × Bool)} {vs:List Int}:P k d v->VL P ks ds vs->VL P (k::ks) (d::ds) (v::vs)
theorem VL.len {P:Int->Int × Bool->Int->Prop} {ks:List Int} {ds:List (Int × Bool)} {vs:List Int} (h:VL P ks ds vs):ds.length=ks.length/\vs.length=ks.length:=by
 induction h with
 | nil=>exact ⟨rfl,rfl⟩
 | cons _ _ ih=>simp [ih.1,ih.2]
theorem VL.app {P:Int->Int × Bool->Int->Prop} {a a':List Int} {b b':List (Int × Bool)} {c c':List Int} (h:VL P a b c) (h':VL P a' b' c'):VL P (a++a') (b++b') (c++c'):=by
 induction h with
 | nil=>exact h'
 | cons hp _ ih=>exact .cons hp ih
theorem VL.one {P:Int->Int × Bool->Int->Prop} {k:Int} {d:Int × Bool} {v:Int} (h:P k d v):VL P [k] [d] [v]:=.cons h .nil
theorem VL.mono {P Q:Int->Int × Bool->Int->Prop} (hm:∀ k d v,P k d v->Q k d v) {ks:List Int} {ds:List (Int × Bool)} {vs:List Int} (h:VL P ks ds vs):VL Q ks ds vs:=by
 induction h with
 | nil=>exact .nil
 | cons hp _ ih=>exact .cons (hm _ _ _ hp) ih
theorem VL.split {P:Int->Int × Bool->Int->Prop} {a a':List Int}:∀ {ds:List (Int × Bool)} {vs:List Int},VL P (a++a') ds vs->VL P a (ds.take a.length) (vs.take a.length)/\VL P a' (ds.drop a.length) (vs.drop a.length):=by
 induction a with
 | nil=>intro ds vs h;exact ⟨by simpa using VL.nil,by simpa using h⟩
 | cons x a ih =>
  intro ds vs h
  cases h with
  | cons hp hr=>obtain ⟨h1,h2⟩:=ih hr;exact ⟨by simpa using VL.cons hp h1,by simpa using h2⟩
theorem VL.get {P:Int->Int × Bool->Int->Prop} {ks:List Int} {ds:List (Int × Bool)} {vs:List Int} (h:VL P ks ds vs):∀ {i:Nat},i < ks.length->P (ks.getD i 0) (ds.getD i (0,false)) (vs.getD i 0):=by
 induction h with
 | nil=>intro i hi;simp at hi
 | cons hp _ ih =>
  intro i hi
  cases i with
  | zero=>simpa using hp
  | succ i=>simpa using ih (i:=i) (by simpa using hi)
theorem VL.set {P:Int->Int × Bool->Int->Prop} {ks:List Int} {ds:List (Int × Bool)} {vs:List Int} (h:VL P ks ds vs):∀ {i:Nat} {d:Int × Bool} {v:Int},P (ks.getD i 0) d v->VL P ks (ds.set i d) (vs.set i v):=by
 induction h with
 | nil=>intro i d v _;exact .nil
 | cons hp hr ih =>
  intro i d v h
  cases i with
  | zero=>exact .cons (by simpa using h) hr
  | succ i=>exact .cons hp (ih (by simpa using h))
theorem VL.snoc {P:Int->Int × Bool->Int->Prop} {ks:List Int} {k:Int} {ds:List (Int × Bool)} {vs:List Int} (h:VL P (ks++[k]) ds vs):VL P ks ds.dropLast vs.dropLast/\P k (au ds) (aF vs):=by
 obtain ⟨h1,h2⟩:=h.split
 have hl:=h.len
 simp only [List.length_append,List.length_cons,List.length_nil] at hl
 refine ⟨by rw [List.dropLast_eq_take,List.dropLast_eq_take,hl.1,hl.2];simpa using h1,?_⟩
 generalize hd:ds.drop ks.length=d' at h2
 generalize hv:vs.drop ks.length=v' at h2
 cases h2 with
 | cons hp hr =>
  cases hr
  have e1:ds=ds.take ks.length++ds.drop ks.length:=(List.take_append_drop _ _).symm
  have e2:vs=vs.take ks.length++vs.drop ks.length:=(List.take_append_drop _ _).symm
  rw [hd] at e1;rw [hv] at e2
  rw [e1,e2]
  simpa [au,aF] using hp
def bC (ls:List (List Int)):Nat->List Int->Nat
 | n,[]=>n
 | 0,w::ws=>bC ls (flds ls w).length ws
 | n+1,_::ws=>bC ls n ws
theorem fT (ls:List (List Int)) (ws:List Int):∀ n,(bd ls n ws).length=ws.length:=by
 induction ws with
 | nil=>intro n;cases n <;> rfl
 | cons w ws ih=>intro n;cases n <;> simp [bd,ih]
theorem ib (ls:List (List Int)) (ws vs:List Int):∀ n,bd ls n (ws++vs)=bd ls n ws++bd ls (bC ls n ws) vs:=by
 induction ws with
 | nil=>intro n;cases n <;> simp [bd,bC]
 | cons w ws ih=>intro n;cases n <;> simp [bd,bC,ih]
theorem ix (ls:List (List Int)) (ws vs:List Int):∀ n,bC ls n (ws++vs)=bC ls (bC ls n ws) vs:=by
 induction ws with
 | nil=>intro n;cases n <;> simp [bC]
 | cons w ws ih=>intro n;cases n <;> simp [bC,ih]
theorem gd (ls:List (List Int)) (vs:List Int):∀ n,vs.length<=n->bd ls n vs=List.replicate vs.length none/\bC ls n vs=n - vs.length:=by
 induction vs with
 | nil=>intro n _;cases n <;> simp [bd,bC]
 | cons v vs ih =>
  intro n hn
  cases n with
  | zero=>simp at hn
  | succ n =>
   obtain ⟨a,b⟩:=ih n (by simpa using hn)
   simp only [bd,bC,a,b,List.length_cons,List.replicate_succ,true_and]
   omega
theorem oz {ls:List (List Int)} {ws:List Int} (he:bC ls 0 ws=0) (t:Int) (vs:List Int) (hv:vs.length=(flds ls t).length):bd ls 0 (ws++t::vs)=bd ls 0 ws++some t::List.replicate vs.length none/\bC ls 0 (ws++t::vs)=0:=by
 obtain ⟨a,b⟩:=gd ls vs (flds ls t).length (by omega)
 rw [ib,ix,he]
 simp only [bd,bC,a,b]
 exact ⟨by first | rfl | trivial,by omega⟩
def St (ls:List (List Int)) (ws:List Int) (a:Nat) (t:Int):Prop:=(bd ls 0 ws)[a]?=some (some t)
theorem sA {ls:List (List Int)} {ws:List Int}:∀ {n a:Nat} {t:Int},(bd ls n ws)[a]?=some (some t)->bC ls n ws=0->ws[a]?=some t/\a+1+(flds ls t).length<=ws.length/\∀ i,i < (flds ls t).length->(bd ls n ws)[a+1+i]?=some none:=by
 induction ws with
 | nil=>intro n a t h;cases n <;> simp [bd] at h
 | cons w ws ih =>
  intro n a t h he
  cases n with
  | zero =>
   simp only [bd,bC] at h he ⊢
   cases a with
   | zero =>
    simp at h;subst h
    have hk:∀ (m:Nat) (ws:List Int),bC ls m ws=0->m<=ws.length/\∀ i,i < m->(bd ls m ws)[i]?=some none:=by
     intro m
     induction m with
     | zero=>intro ws _;exact ⟨Nat.zero_le _,fun i hi=>by omega⟩
     | succ m ihm =>
      intro ws he
      cases ws with
      | nil=>simp [bC] at he
      | cons w ws =>
       obtain ⟨a,b⟩:=ihm ws (by simpa [bC] using he)
       refine ⟨by simpa using a,fun i hi=>?_⟩
       cases i with
       | zero=>simp [bd]
       | succ i=>simpa [bd] using b i (by omega)
    obtain ⟨a,b⟩:=hk _ _ he
    refine ⟨by simp,by simp;omega,fun i hi=>?_⟩
    have:=b i hi
    rw [show 0+1+i=i+1 by omega]
    simpa using this
   | succ a =>
    obtain ⟨x,y,z⟩:=ih (n:=(flds ls w).length) (a:=a) (t:=t) (by simpa using h) he
    refine ⟨by simpa using x,by simp;omega,fun i hi=>?_⟩
    have:=z i hi
    rw [show a+1+1+i=(a+1+i)+1 by omega]
    simpa using this
  | succ n =>
   simp only [bd,bC] at h he ⊢
   cases a with
   | zero=>simp at h
   | succ a =>
    obtain ⟨x,y,z⟩:=ih (n:=n) (a:=a) (t:=t) (by simpa using h) he
    refine ⟨by simpa using x,by simp;omega,fun i hi=>?_⟩
    have:=z i hi
    rw [show a+1+1+i=(a+1+i)+1 by omega]
    simpa using this
theorem St.val {ls:List (List Int)} {ws:List Int} {a:Nat} {t:Int} (h:St ls ws a t) (he:bC ls 0 ws=0):ws[a]?=some t/\a+1+(flds ls t).length<=ws.length/\∀ i,i < (flds ls t).length->(bd ls 0 ws)[a+1+i]?=some none:=sA h he
theorem St.uniq {ls:List (List Int)} {ws:List Int} {a:Nat} {t t':Int} (h:St ls ws a t) (h':St ls ws a t'):t=t':=by
 unfold St at h h';rw [h] at h';simpa using h'
theorem St.apart {ls:List (List Int)} {ws:List Int} {a a':Nat} {t t':Int} (h:St ls ws a t) (h':St ls ws a' t') (he:bC ls 0 ws=0) (hne:a ≠ a') {i j:Nat} (hi:i < (flds ls t).length) (hj:j < (flds ls t').length):a+1+i ≠ a'+1+j/\a+1+i ≠ a':=by
 have z:=(h.val he).2.2
 have z':=(h'.val he).2.2
 refine ⟨fun e=>?_,fun e=>?_⟩
 ·rcases Nat.lt_or_gt_of_ne hne with hl | hl
  ·have:=z (a' - a - 1) (by omega)
   rw [show a+1+(a' - a - 1)=a' by omega] at this
   unfold St at h';rw [h'] at this;simp at this
  ·have:=z' (a - a' - 1) (by omega)
   rw [show a'+1+(a - a' - 1)=a by omega] at this
   unfold St at h;rw [h] at this;simp at this
 ·have:=z i hi
  rw [e] at this
  unfold St at h';rw [h'] at this;simp at this
theorem oi {ls:List (List Int)} {ws:List Int}:∀ {n p:Nat} {v:Int},(bd ls n ws)[p]?=some none->bd ls n (ws.set p v)=bd ls n ws/\bC ls n (ws.set p v)=bC ls n ws:=by
 induction ws with
 | nil=>intro n p v _;exact ⟨rfl,rfl⟩
 | cons w ws ih =>
  intro n p v h
  cases n with
  | zero =>
   cases p with
   | zero=>simp [bd] at h
   | succ p =>
    obtain ⟨a,b⟩:=ih (n:=(flds ls w).length) (p:=p) (v:=v) (by simpa [bd] using h)
    simp [bd,bC,a,b]
  | succ n =>
   cases p with
   | zero=>simp [bd,bC]
   | succ p =>
    obtain ⟨a,b⟩:=ih (n:=n) (p:=p) (v:=v) (by simpa [bd] using h)
    simp [bd,bC,a,b]
end Go.Proofs.YtnfnbcbadakofaaGreat
namespace Go.Proofs.YtnfnbcbadakofaaGreat
open Go.RowKit
def VR (ls:List (List Int)) (ws:List Int) (phi:Nat->Option Nat) (kind:Int) (d:Int × Bool) (v:Int):Prop:=
 (kind=0/\d.2=false/\d.1=v/\0<=v/\v < 65536) \/
 (kind ≠ 0/\d.2=true/\((d.1=0/\v=0) \/ ∃ e a:Nat,d.1=(e:Int)+1/\v=(a:Int)+1/\phi e=some a/\St ls ws a kind))
def seg (ws:List Int) (a n:Nat):List Int:=(ws.drop (a+1)).take n
structure Mm (ls:List (List Int)) (recs:List (List (Int × Bool))) (ws:List Int) (phi:Nat->Option Nat):Prop where
 full:bC ls 0 ws=0
 typ:∀ a t,St ls ws a t->1<=t/\t<=(ls.length:Int)
 inj:∀ d d' a,phi d=some a->phi d'=some a->d=d'
 dom:∀ d a,phi d=some a->d < recs.length/\∃ t,St ls ws a t/\VL (VR ls ws phi) (flds ls t) (recs.getD d []) (seg ws a (flds ls t).length)
 sur:∀ a t,St ls ws a t->∃ d,phi d=some a
structure Tp (c:Cx) (P:Int->Int × Bool->Int->Prop) (f:Int) (d:DFr) (g:Fr):Prop where
 fn:g.fn=f
 dfn:d.fn=f
 f0:0<=f
 fl:f < (c.fs.length:Int)
 pc:d.pc=g.pc
 p0:0<=g.pc
 pl:g.pc < ((aq c.fs f).code.length:Int)
 loc:VL P (aq c.fs f).locals d.locals g.locals
 stk:∃ S,spP c.sps f g.pc=some S/\VL P S d.stack g.stack
structure Wt (c:Cx) (P:Int->Int × Bool->Int->Prop) (f h:Int) (d:DFr) (g:Fr):Prop where
 fn:g.fn=f
 dfn:d.fn=f
 f0:0<=f
 fl:f < (c.fs.length:Int)
 pc:d.pc=g.pc+1
 p0:0<=g.pc
 pl:g.pc < ((aq c.fs f).code.length:Int)
 op:(aV (aq c.fs f) g.pc).1=15
 tgt:(aV (aq c.fs f) g.pc).2.1=h
 loc:VL P (aq c.fs f).locals d.locals g.locals
 stk:∃ S,spP c.sps f g.pc=some (S++aP c.fs h)/\VL P S d.stack g.stack
inductive Bel (c:Cx) (P:Int->Int × Bool->Int->Prop):List DFr->List Fr->Int->Prop
 | nil:Bel c P [] [] 0
 | snoc {ds:List DFr} {gs:List Fr} {f h:Int} {d:DFr} {g:Fr}:Bel c P ds gs f->Wt c P f h d g->Bel c P (ds++[d]) (gs++[g]) h
theorem Bel.len {c:Cx} {P:Int->Int × Bool->Int->Prop} {ds:List DFr} {gs:List Fr} {f:Int} (h:Bel c P ds gs f):ds.length=gs.length:=by
 induction h with
 | nil=>rfl
 | snoc _ _ ih=>simp [ih]
theorem Tp.mono {c:Cx} {P Q:Int->Int × Bool->Int->Prop} (hm:∀ k d v,P k d v->Q k d v) {f:Int} {d:DFr} {g:Fr} (h:Tp c P f d g):Tp c Q f d g:=
 ⟨h.fn,h.dfn,h.f0,h.fl,h.pc,h.p0,h.pl,h.loc.mono hm,let ⟨S,a,b⟩:=h.stk;⟨S,a,b.mono hm⟩⟩
theorem Wt.mono {c:Cx} {P Q:Int->Int × Bool->Int->Prop} (hm:∀ k d v,P k d v->Q k d v) {f e:Int} {d:DFr} {g:Fr} (h:Wt c P f e d g):Wt c Q f e d g:=
 ⟨h.fn,h.dfn,h.f0,h.fl,h.pc,h.p0,h.pl,h.op,h.tgt,h.loc.mono hm,let ⟨S,a,b⟩:=h.stk;⟨S,a,b.mono hm⟩⟩
theorem Bel.mono {c:Cx} {P Q:Int->Int × Bool->Int->Prop} (hm:∀ k d v,P k d v->Q k d v) {ds:List DFr} {gs:List Fr} {f:Int} (h:Bel c P ds gs f):Bel c Q ds gs f:=by
 induction h with
 | nil=>exact .nil
 | snoc _ hw ih=>exact .snoc ih (hw.mono hm)
structure Sm (c:Cx) (D:Dn) (R:Rn) (phi:Nat->Option Nat):Prop where
 h0:0<=R.heap
 h4:R.heap<=4000
 d1:1<=R.depth
 d64:R.depth<=64
 heap:D.heap=R.heap
 depth:D.depth=R.depth
 mem:Mm c.ls D.recs R.words phi
 len:(R.words.length:Int)<=R.heap
 bl:(R.below.length:Int)+1<=R.depth
 fr:∃ f,Bel c (VR c.ls R.words phi) D.below R.below f/\Tp c (VR c.ls R.words phi) f D.top R.top
structure bM (c:Cx):Prop where
 fit:∀ f i S,spP c.sps f i=some S->(cf c.ls c.fs (aq c.fs f) (aV (aq c.fs f) i).1 (aV (aq c.fs f) i).2.1 (aV (aq c.fs f) i).2.2 S).isSome /\
  ∀ T,cf c.ls c.fs (aq c.fs f) (aV (aq c.fs f) i).1 (aV (aq c.fs f) i).2.1 (aV (aq c.fs f) i).2.2 S=some T->∀ k ∈ bU (aV (aq c.fs f) i).1 (aV (aq c.fs f) i).2.1 i.toNat,0<=k/\k < ((aq c.fs f).code.length:Int)/\spP c.sps f k=some T
 zero:∀ f,0<=f->f < (c.fs.length:Int)->spP c.sps f 0=some []
 s8:∀ f i S,spP c.sps f i=some S->S.length<=8
 pg:dC ⟨c.ls,c.fs⟩
end Go.Proofs.YtnfnbcbadakofaaGreat
namespace Go.Proofs.YtnfnbcbadakofaaGreat
open Go.RowKit
theorem gy {ls:List (List Int)} {fs:List Fn} {f:Fn} {op A B:Int} {S T:List Int} (h:cf ls fs f op A B S=some T):∃ rest,S=rest++ak ls fs f op A B/\T=rest++ag ls fs f op A B/\T.length<=8/\(op=16->rest=[]):=by
 unfold cf at h
 by_cases h1:S.length < (ak ls fs f op A B).length \/ (op=16/\(ak ls fs f op A B).length < S.length)
 ·rw [if_pos h1] at h;cases h
 rw [if_neg h1] at h
 by_cases h2:(S.drop (S.length - (ak ls fs f op A B).length) == ak ls fs f op A B)=false
 ·rw [if_pos h2] at h;cases h
 rw [if_neg h2] at h
 by_cases h3:8 < (S.take (S.length - (ak ls fs f op A B).length)++ag ls fs f op A B).length
 ·rw [if_pos h3] at h;cases h
 rw [if_neg h3] at h
 simp only [Option.some.injEq] at h
 have e:S.drop (S.length - (ak ls fs f op A B).length)=ak ls fs f op A B:=by
  have:(S.drop (S.length - (ak ls fs f op A B).length) == ak ls fs f op A B)=true:=by
   cases hb:(S.drop (S.length - (ak ls fs f op A B).length) == ak ls fs f op A B)
   ·exact absurd hb h2
   ·rfl
  exact eq_of_beq this
 refine ⟨S.take (S.length - (ak ls fs f op A B).length),?_,h.symm,by rw [<-h];omega,fun ho=>?_⟩
 ·conv=>lhs;rw [<-List.take_append_drop (S.length - (ak ls fs f op A B).length) S,e]
 ·have:S.length<=(ak ls fs f op A B).length:=by
   rcases Nat.lt_or_ge (ak ls fs f op A B).length S.length with hl | hl
   ·exact absurd (Or.inr ⟨ho,hl⟩) h1
   ·exact hl
  rw [show S.length - (ak ls fs f op A B).length=0 by omega];rfl
theorem cj {c:Cx} (ok:bM c) {f:Int} (h0:0<=f) (hl:f < (c.fs.length:Int)):mC c.ls c.fs.length (f.toNat == 0) (aq c.fs f):=by
 have hj:f.toNat < c.fs.length:=by omega
 have:=ok.pg.fs f.toNat hj
 unfold aq
 rw [dif_pos ⟨h0,hj⟩]
 exact this
theorem ke {f:Fn} {i:Int} (h0:0<=i) (hl:i < (f.code.length:Int)):aV f i ∈ f.code:=by
 unfold aV
 rw [if_neg (by omega),List.getD_eq_getElem?_getD,List.getElem?_eq_getElem (by omega)]
 exact List.getElem_mem _
structure Cu (c:Cx) (D:Dn) (R:Rn) (phi:Nat->Option Nat) (f:Int) (x:Int × Int × Int) (rest:List Int):Prop where
 sm:Sm c D R phi
 bel:Bel c (VR c.ls R.words phi) D.below R.below f
 tp:Tp c (VR c.ls R.words phi) f D.top R.top
 fok:mC c.ls c.fs.length (f.toNat == 0) (aq c.fs f)
 ins:aV (aq c.fs f) R.top.pc=x
 iok:cH c.ls c.fs.length (aq c.fs f).locals.length (aq c.fs f).code.length x
 spt:spP c.sps f R.top.pc=some (rest++ak c.ls c.fs (aq c.fs f) x.1 x.2.1 x.2.2)
 stk:VL (VR c.ls R.words phi) (rest++ak c.ls c.fs (aq c.fs f) x.1 x.2.1 x.2.2) D.top.stack R.top.stack
 way:∀ k ∈ bU x.1 x.2.1 R.top.pc.toNat,0<=k/\k < ((aq c.fs f).code.length:Int)/\spP c.sps f k=some (rest++ag c.ls c.fs (aq c.fs f) x.1 x.2.1 x.2.2)
 ret:x.1=16->rest=[]
theorem Sm.cu {c:Cx} (ok:bM c) {D:Dn} {R:Rn} {phi:Nat->Option Nat} (h:Sm c D R phi):∃ f x rest,Cu c D R phi f x rest/\eC c R=x/\bP c D=x:=by
 obtain ⟨f,hb,ht⟩:=h.fr
 obtain ⟨S,hS,hV⟩:=ht.stk
 have fk:=cj ok ht.f0 ht.fl
 obtain ⟨h1,h2⟩:=ok.fit _ _ _ hS
 obtain ⟨T,hT⟩:=Option.isSome_iff_exists.1 h1
 obtain ⟨rest,e1,e2,_,e4⟩:=gy hT
 have h3:=h2 T hT
 refine ⟨f,aV (aq c.fs f) R.top.pc,rest,⟨h,hb,ht,fk,rfl,fk.ok _ (ke ht.p0 ht.pl),?_,?_,?_,e4⟩,?_,?_⟩
 ·rw [hS,e1]
 ·rw [<-e1];exact hV
 ·intro k hk;have:=h3 k hk;rw [e2] at this;exact this
 ·unfold eC;rw [ht.fn]
 ·unfold bP;rw [ht.dfn,ht.pc]
structure Nx (c:Cx) (D:Dn) (R:Rn) (D':Dn) (R':Rn):Prop where
 st:D'.status=R'.status
 out:D'.out=R'.out
 used:D'.used=R'.used
 inp:R'.inp=R.inp
 hp:R'.heap=R.heap/\R'.depth=R.depth/\D'.heap=D.heap/\D'.depth=D.depth
 go:R'.status=0->∃ phi',Sm c D' R' phi'
 ends:R'.status=0 \/ R'.status=1 \/ R'.status=3 \/ R'.status=4 \/ R'.status=5
theorem Sm.same {c:Cx} {D:Dn} {R:Rn} {phi:Nat->Option Nat} (h:Sm c D R phi) {D':Dn} {R':Rn} (hh:R'.heap=R.heap/\R'.depth=R.depth/\D'.heap=D.heap/\D'.depth=D.depth) (hw:R'.words=R.words) (hr:D'.recs=D.recs)
 (hbl:(R'.below.length:Int)+1<=R.depth) (hf:∃ f,Bel c (VR c.ls R.words phi) D'.below R'.below f/\Tp c (VR c.ls R.words phi) f D'.top R'.top):Sm c D' R' phi:=by
 obtain ⟨e1,e2,e3,e4⟩:=hh
 refine ⟨by rw [e1];exact h.h0,by rw [e1];exact h.h4,by rw [e2];exact h.d1,by rw [e2];exact h.d64,by rw [e3,e1];exact h.heap,by rw [e4,e2];exact h.depth,by rw [hr,hw];exact h.mem,by rw [hw,e1];exact h.len,by rw [e2];exact hbl,by rw [hw];exact hf⟩
theorem Cu.top {c:Cx} {D:Dn} {R:Rn} {phi:Nat->Option Nat} {f:Int} {x:Int × Int × Int} {rest:List Int} (h:Cu c D R phi f x rest) {D':Dn} {R':Rn} (hst:D'.status=0) (hst':R'.status=0) (ho:D'.out=R'.out) (hu:D'.used=R'.used) (hi:R'.inp=R.inp)
 (hh:R'.heap=R.heap/\R'.depth=R.depth/\D'.heap=D.heap/\D'.depth=D.depth) (hw:R'.words=R.words) (hr:D'.recs=D.recs) (hb:R'.below=R.below) (hb':D'.below=D.below)
 (fn:R'.top.fn=R.top.fn) (dfn:D'.top.fn=D.top.fn) (pc:D'.top.pc=R'.top.pc) (wy:R'.top.pc ∈ bU x.1 x.2.1 R.top.pc.toNat)
 (loc:VL (VR c.ls R.words phi) (aq c.fs f).locals D'.top.locals R'.top.locals) (stk:VL (VR c.ls R.words phi) (rest++ag c.ls c.fs (aq c.fs f) x.1 x.2.1 x.2.2) D'.top.stack R'.top.stack):Nx c D R D' R':=by
 obtain ⟨w1,w2,w3⟩:=h.way _ wy
 refine ⟨by rw [hst,hst'],ho,hu,hi,hh,fun _=>⟨phi,h.sm.same hh hw hr (by rw [hb];exact h.sm.bl) ⟨f,by rw [hb,hb'];exact h.bel,?_⟩⟩,.inl hst'⟩
 exact ⟨by rw [fn];exact h.tp.fn,by rw [dfn];exact h.tp.dfn,h.tp.f0,h.tp.fl,pc,w1,w2,loc,_,w3,stk⟩
theorem ei {ls:List (List Int)} {ws:List Int} {phi:Nat->Option Nat} {n:Int} (h0:0<=n) (h1:n < 65536):VR ls ws phi 0 (n,false) n:=.inl ⟨rfl,rfl,rfl,h0,h1⟩
theorem kq {ls:List (List Int)} {ws:List Int} {phi:Nat->Option Nat} {k:Int} (h:k ≠ 0):VR ls ws phi k (0,true) 0:=.inr ⟨h,rfl,.inl ⟨rfl,rfl⟩⟩
theorem VR.num {ls:List (List Int)} {ws:List Int} {phi:Nat->Option Nat} {d:Int × Bool} {v:Int} (h:VR ls ws phi 0 d v):d=(v,false)/\0<=v/\v < 65536:=by
 rcases h with ⟨_,a,b,e,f⟩ | ⟨a,_⟩
 ·exact ⟨by ext <;> simp [a,b],e,f⟩
 ·exact absurd rfl a
theorem VR.ref {ls:List (List Int)} {ws:List Int} {phi:Nat->Option Nat} {k:Int} {d:Int × Bool} {v:Int} (h:VR ls ws phi k d v) (hk:k ≠ 0):d.2=true/\((d.1=0/\v=0) \/ ∃ e a:Nat,d.1=(e:Int)+1/\v=(a:Int)+1/\phi e=some a/\St ls ws a k):=by
 rcases h with ⟨a,_⟩ | ⟨_,b,e⟩
 ·exact absurd a hk
 ·exact ⟨b,e⟩
theorem VR.zero {ls:List (List Int)} {ws:List Int} {phi:Nat->Option Nat} {k:Int} {d:Int × Bool} {v:Int} (h:VR ls ws phi k d v):d.1=0 ↔ v=0:=by
 rcases h with ⟨_,_,b,_⟩ | ⟨_,_,⟨a,b⟩ | ⟨e,a,b,d,_⟩⟩
 ·rw [b]
 ·rw [a,b]
 ·omega
theorem VR.same {ls:List (List Int)} {recs:List (List (Int × Bool))} {ws:List Int} {phi:Nat->Option Nat} (hm:Mm ls recs ws phi) {k:Int} {d d':Int × Bool} {v v':Int} (h:VR ls ws phi k d v) (h':VR ls ws phi k d' v'):d.1=d'.1 ↔ v=v':=by
 rcases h with ⟨k0,_,b,_⟩ | ⟨k0,_,h⟩
 ·rcases h' with ⟨_,_,b',_⟩ | ⟨k1,_⟩
  ·rw [b,b']
  ·exact absurd k0 k1
 ·rcases h' with ⟨k1,_⟩ | ⟨_,_,h'⟩
  ·exact absurd k1 k0
  ·rcases h with ⟨a,b⟩ | ⟨e,a,b,dd,p,s⟩ <;> rcases h' with ⟨a',b'⟩ | ⟨e',a',b',dd',p',s'⟩
   ·rw [a,b,a',b']
   ·omega
   ·omega
   ·constructor
    ·intro hh
     have:e=e':=by omega
     subst this
     rw [p] at p';simp at p';omega
    ·intro hh
     have:a=a':=by omega
     subst this
     have:=hm.inj _ _ _ p p'
     omega
theorem eK {op A:Int} {i:Nat} (h1:op ≠ 13) (h2:op ≠ 16):(i:Int)+1 ∈ bU op A i:=by
 unfold bU
 rw [if_neg h1]
 by_cases h:op=14
 ·rw [if_pos h];simp
 ·rw [if_neg h,if_neg h2];simp
theorem cP {l:List Int} {k:Int} (h0:0<=k) (h1:k < (l.length:Int)):aU l k=l.getD k.toNat 0:=by
 unfold aU;rw [if_neg (by omega)]
end Go.Proofs.YtnfnbcbadakofaaGreat
