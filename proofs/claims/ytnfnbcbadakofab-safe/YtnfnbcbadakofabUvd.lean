import Derived.Test.YtnfnbcbadakofabUva
namespace Go.Proofs.Ytnfnbcbadakofab
open Go.RowKit
set_option maxHeartbeats 1000000
set_option maxRecDepth 100000
theorem entry_yes (a:Addr) (n c j:Nat) (x:Int) (w:World) (h:j < n) (hc:w.cell? (a.add j)=some (.int .i64 x)) :
 Calls Try.prog 65 #[.slice (some a) n c,j] w fun e w'=>e=.returned (.int .i64 x)/\w'=w:=by
 have h':(j:Int) < n:=by omega
 go_enter Try.func65,Try.ntmps65
 go_wp2
 go_ret
 exact ⟨rfl,rfl⟩
theorem entry_rd (v:Value) (l:List Int) (k:Int) (w:World) (h:RdA w v l) :
 Calls Try.prog 65 #[v,k] w fun e w'=>e=.returned (.int .i64 (tyAt l k))/\w'=w:=by
 by_cases hk:k < 0 \/ (l.length:Int)<=k
 ·obtain ⟨a,c,rfl⟩:=h.slice
  unfold tyAt;rw [if_pos hk]
  exact typeAt_no a _ c k w hk
 ·obtain ⟨j,rfl⟩:∃ j:Nat,k=(j:Int):=⟨k.toNat,by omega⟩
  obtain ⟨g,c,rfl,_,_,hc⟩:=h.form (by omega)
  unfold tyAt;rw [if_neg hk]
  exact entry_yes g _ c j _ w (by omega) (hc j (by omega))
section
variable {W1 w w':World} {rb:Nat} {s:ByteArray} {tv fv sv iv:Value} {R:Rn} {V:RV}
theorem RI.put (h:RI W1 w rb s tv fv sv iv R V) {S:Nat->Prop} {ov':Value} {l':List Int} (hS:∀ j,S j->j=rb \/ some j=V.ov.ownBlock) (k:Chg S w w') (hb:Blk w' rb ((rcs s tv fv sv iv R V).setIfInBounds 15 ov') 65) (hL:Lies w V.ov ov') (hI:IntsV w' W1.heap.size ov' l') :
 RI W1 w' rb s tv fv sv iv { R with out:=l' } { V with ov:=ov' }:=by
 obtain ⟨f1,f2⟩:=h.frames h.oo k hS h.sp.fo
 refine ⟨h.chg1 h.oo k hS,hb,h.ww.apart h.bx (by decide) k hS h.sp.wo,h.ll.apart h.bx (by decide) k hS h.sp.lo,h.kk.apart h.bx (by decide) k hS h.sp.ko,hI,h.be,f1,f2,?_⟩
 exact ⟨h.sp.wl,h.sp.wk,h.sp.wo.lies hL h.ww.lts,h.sp.lk,h.sp.lo.lies hL h.ll.lts,h.sp.ko.lies hL h.kk.lts,h.sp.fw,h.sp.fl,h.sp.fk,fun u hu=>(h.sp.fo u hu).lies hL (h.fl_lt hu),h.sp.ff⟩
theorem RI.wrd (h:RI W1 w rb s tv fv sv iv R V) {S:Nat->Prop} {wv':Value} {l':List Int} (hS:∀ j,S j->j=rb \/ some j=V.wv.ownBlock) (k:Chg S w w') (hb:Blk w' rb ((rcs s tv fv sv iv R V).setIfInBounds 7 wv') 65) (hL:Lies w V.wv wv') (hI:IntsV w' W1.heap.size wv' l') :
 RI W1 w' rb s tv fv sv iv { R with words:=l' } { V with wv:=wv' }:=by
 obtain ⟨f1,f2⟩:=h.frames h.ww k hS h.sp.fw
 refine ⟨h.chg1 h.ww k hS,hb,hI,h.ll.apart h.bx (by decide) k hS h.sp.wl.symm,h.kk.apart h.bx (by decide) k hS h.sp.wk.symm,h.oo.apart h.bx (by decide) k hS h.sp.wo.symm,h.be,f1,f2,?_⟩
 exact ⟨(h.sp.wl.symm.lies hL h.ll.lts).symm,(h.sp.wk.symm.lies hL h.kk.lts).symm,(h.sp.wo.symm.lies hL h.oo.lts).symm,h.sp.lk,h.sp.lo,h.sp.ko,fun u hu=>(h.sp.fw u hu).lies hL (h.fl_lt hu),h.sp.fl,h.sp.fk,h.sp.fo,h.sp.ff⟩
theorem RI.lcl (h:RI W1 w rb s tv fv sv iv R V) {S:Nat->Prop} {lv':Value} {l':List Int} (hS:∀ j,S j->j=rb \/ some j=V.lv.ownBlock) (k:Chg S w w') (hb:Blk w' rb ((rcs s tv fv sv iv R V).setIfInBounds 11 lv') 65) (hL:Lies w V.lv lv') (hI:IntsV w' W1.heap.size lv' l') :
 RI W1 w' rb s tv fv sv iv { R with top:={ R.top with locals:=l' } } { V with lv:=lv' }:=by
 obtain ⟨f1,f2⟩:=h.frames h.ll k hS h.sp.fl
 refine ⟨h.chg1 h.ll k hS,hb,h.ww.apart h.bx (by decide) k hS h.sp.wl,hI,h.kk.apart h.bx (by decide) k hS h.sp.lk.symm,h.oo.apart h.bx (by decide) k hS h.sp.lo.symm,h.be,f1,f2,?_⟩
 exact ⟨h.sp.wl.lies hL h.ww.lts,h.sp.wk,h.sp.wo,(h.sp.lk.symm.lies hL h.kk.lts).symm,(h.sp.lo.symm.lies hL h.oo.lts).symm,h.sp.ko,h.sp.fw,fun u hu=>(h.sp.fl u hu).lies hL (h.fl_lt hu),h.sp.fk,h.sp.fo,h.sp.ff⟩
theorem ints_set (l:List Int) (k:Nat) (v:Int):(ints l).set k (.int .i64 v)=ints (l.set k v):=by unfold ints;rw [List.map_set]
theorem IntsV.setIn {w:World} {base g n cap:Nat} {l:List Int} (h:IntsV w base (.slice g n cap) l) (k:Nat) (hk:k < l.length) (v:Int):IntsV (w.setCell ⟨g,k,none⟩ v) base (.slice g n cap) (l.set k v):=by
 have hn:n=l.length:=by
  rcases h.2 with ⟨q,_⟩ | ⟨g',cap',cur,q,_⟩
  ·cases q
  ·simp only [Value.slice.injEq] at q;exact q.2.1
 subst hn
 have:=own_setIn h k (by omega) (.int .i64 v)
 rw [ints_set] at this
 unfold IntsV
 rw [List.length_set]
 exact this
theorem uv_null (h:RI W1 w rb s tv fv sv iv R V) (A B:Int) (hl:R.top.stack.length<=1000):Calls Try.prog 62 #[.pointer rb,.agg #[(10:Int),A,B]] w (RunEnd W1 w rb s tv fv sv iv (uvP (10,A,B) R)):=by
 have e:uvP (10,A,B) R = { R with top:=pushF R.top 0 }:=rfl
 rw [e]
 clear e
 have kb:Chg () w (w.alloc (Obj.cells #[(10:Int),A,B] 93)):=(Chg.refl _ w).alloc _
 have nb:Blk (w.alloc (Obj.cells #[(10:Int),A,B] 93)) w.heap.size #[(10:Int),A,B] 93:=Blk.new w _ 93
 have H:=hid (h.new kb)
 have KB:=KR.new kb
 clear h kb
 go_enter Try.func62,Try.ntmps62
 go_wp2_with fail
 refine (H.out.push 0 (by omega)).mono ?_
 rintro ex w2 ⟨rfl,k2,V2,h2⟩
 go_wp2
 exact bodyPost_end (v:=.tuple #[]) (by simp [results,Try.results62]) rfl ⟨rfl,KB.trans k2,V2,h2⟩
theorem uv_is (h:RI W1 w rb s tv fv sv iv R V) (A B:Int) (hl:R.top.stack.length<=1000):Calls Try.prog 62 #[.pointer rb,.agg #[(11:Int),A,B]] w (RunEnd W1 w rb s tv fv sv iv (uvP (11,A,B) R)):=by
 have e:uvP (11,A,B) R = { R with top:=pushF (popF R.top) (if popV R.top.stack=0 then 1 else 0) }:=rfl
 rw [e]
 clear e
 by_cases hz:popV R.top.stack=0
 ·rw [if_pos hz]
  have kb:Chg () w (w.alloc (Obj.cells #[(11:Int),A,B] 93)):=(Chg.refl _ w).alloc _
  have nb:Blk (w.alloc (Obj.cells #[(11:Int),A,B] 93)) w.heap.size #[(11:Int),A,B] 93:=Blk.new w _ 93
  have H:=hid (h.new kb)
  have KB:=KR.new kb
  clear h kb
  go_enter Try.func62,Try.ntmps62
  go_wp2_with fail
  refine (H.out.pop (by omega)).mono ?_
  rintro ex w2 ⟨rfl,k2,V2,g2⟩
  have nb2:=k2.keep _ _ _ nb (by decide) (by decide) (by decide)
  have p1:=popF_len R.top
  have G2:=hid g2
  clear g2
  go_wp2
  go_region_with (first
   | (go_at_call 84;refine (truth_any true _).mono ?_;rintro ex w4 ⟨rfl,rfl⟩)
   | (go_at_call 80;refine (G2.out.drew.push 1 (by show (popF R.top).stack.length<=100000;omega)).mono ?_;rintro ex w5 ⟨rfl,k5,V5,g5⟩))
  exact bodyPost_end (v:=.tuple #[]) (by simp [results,Try.results62]) rfl ⟨rfl,(KB.trans k2).trans ((KR.new (Chg.refl _ _).drew).trans k5),V5,g5⟩
 ·rw [if_neg hz]
  have hzb:(popV R.top.stack == 0)=false:=by simp [hz]
  have kb:Chg () w (w.alloc (Obj.cells #[(11:Int),A,B] 93)):=(Chg.refl _ w).alloc _
  have nb:Blk (w.alloc (Obj.cells #[(11:Int),A,B] 93)) w.heap.size #[(11:Int),A,B] 93:=Blk.new w _ 93
  have H:=hid (h.new kb)
  have KB:=KR.new kb
  clear h kb
  go_enter Try.func62,Try.ntmps62
  go_wp2_with fail
  refine (H.out.pop (by omega)).mono ?_
  rintro ex w2 ⟨rfl,k2,V2,g2⟩
  have nb2:=k2.keep _ _ _ nb (by decide) (by decide) (by decide)
  have p1:=popF_len R.top
  have G2:=hid g2
  clear g2
  go_wp2
  go_region_with (first
   | (go_at_call 84;refine (truth_any false _).mono ?_;rintro ex w4 ⟨rfl,rfl⟩)
   | (go_at_call 80;refine (G2.out.drew.push 0 (by show (popF R.top).stack.length<=100000;omega)).mono ?_;rintro ex w5 ⟨rfl,k5,V5,g5⟩))
  exact bodyPost_end (v:=.tuple #[]) (by simp [results,Try.results62]) rfl ⟨rfl,(KB.trans k2).trans ((KR.new (Chg.refl _ _).drew).trans k5),V5,g5⟩
theorem uv_print (h:RI W1 w rb s tv fv sv iv R V) (A B:Int) (hl:R.top.stack.length<=1000) (ho:R.out.length<=1000000):Calls Try.prog 62 #[.pointer rb,.agg #[(17:Int),A,B]] w (RunEnd W1 w rb s tv fv sv iv (uvP (17,A,B) R)):=by
 have e:uvP (17,A,B) R = { R with top:=popF R.top,out:=R.out++[popV R.top.stack] }:=rfl
 rw [e]
 clear e
 have kb:Chg () w (w.alloc (Obj.cells #[(17:Int),A,B] 93)):=(Chg.refl _ w).alloc _
 have nb:Blk (w.alloc (Obj.cells #[(17:Int),A,B] 93)) w.heap.size #[(17:Int),A,B] 93:=Blk.new w _ 93
 have H:=hid (h.new kb)
 have KB:=KR.new kb
 clear h kb
 go_enter Try.func62,Try.ntmps62
 go_wp2_with fail
 refine (H.out.pop (by omega)).mono ?_
 rintro ex w2 ⟨rfl,k2,V2,g2⟩
 have nb2:=k2.keep _ _ _ nb (by decide) (by decide) (by decide)
 have p1:=popF_len R.top
 have G2:=hid g2
 clear g2
 have x15:w2.cell? ⟨rb,15,none⟩=some V2.ov:=G2.out.bx.cell 15
 obtain ⟨oa,oc,hov⟩:=G2.out.oo.slice
 rw [hov] at x15
 have hrb:=G2.out.bx.lt
 have j1:Chg () w2 (w2.alloc (Obj.cells #[(popV R.top.stack:Int)] 3)):=(Chg.refl _ w2).alloc _
 have G3:=hid (G2.out.new j1)
 have HO:Hid (IntsV (w2.alloc (Obj.cells #[(popV R.top.stack:Int)] 3)) W1.heap.size (.slice oa R.out.length oc) R.out):=by
  show IntsV _ _ _ _
  rw [<-hov];exact G3.out.oo
 have hbs:=G3.out.base
 generalize hpv:popV R.top.stack=pv at *
 go_wp2_with (at_builtin;refine wp_appL rfl _ _ rfl W1.heap.size (.slice oa R.out.length oc) (.slice w2.heap.size 1 1) R.out [pv] rfl rfl ?h1 ?h2 ?h3 ?h4 ?_)
 case h1=>exact HO.out
 case h2=>exact lit_rd [pv] 1 rfl (by unfold maxLen;omega)
 case h3=>simp;omega
 case h4=>exact hbs
 intro a2 n2 c2 w4 hn2 hI2 hch2 hl2
 have hbk:Blk w4 rb (rcs s tv fv sv iv { R with top:=popF R.top } V2) 65:=G3.out.bx.chg hch2 (fun q=>own_ne HO.out G3.out.bx (by decide) q.symm)
 have f3:=hbk.frozen 15
 have x15':w4.cell? ⟨rb,15,none⟩=some (.slice oa R.out.length oc):=by rw [<-hov];exact hbk.cell 15
 have hlt2:=hbk.lt
 have HN:=hid hn2
 clear hn2 x15
 have kk:Chg (fun j=>j=rb \/ some j=V2.ov.ownBlock) (w2.alloc (Obj.cells #[pv] 3)) (w4.setCell ⟨rb,15,none⟩ (.slice a2 n2 c2)):=
  (Chg.mono hch2 (fun _ _ q=>.inr (by rw [hov];exact q))).setCell _ _ (.inl (.inl rfl))
 have g4:RI W1 (w4.setCell ⟨rb,15,none⟩ (.slice a2 n2 c2)) rb s tv fv sv iv { R with top:=popF R.top,out:=R.out++[pv] } { V2 with ov:=.slice a2 n2 c2 }:=
  G3.out.put (fun j q=>q) kk (hbk.set 15 _) (by rw [hov];exact hl2) (own_set hI2 _ _ (own_ne hI2 hbk (by decide)))
 have K4:=(KB.trans k2).trans ((KR.new j1).trans (KR.of kk G3.out.bx G3.out.oo (fun j q=>q)))
 go_wp2
 exact bodyPost_end (v:=.tuple #[]) (by simp [results,Try.results62]) rfl ⟨rfl,K4,_,g4⟩
theorem RI.setLoc (h:RI W1 w rb s tv fv sv iv R V) {g n lc k:Nat} (hlv:V.lv=.slice g n lc) (hk:k < R.top.locals.length) (v:Int) :
 RI W1 (w.setCell ⟨g,k,none⟩ v) rb s tv fv sv iv { R with top:={ R.top with locals:=R.top.locals.set k v } } V/\KR w (w.setCell ⟨g,k,none⟩ v):=by
 have hLL:IntsV w W1.heap.size (.slice g n lc) R.top.locals:=by rw [<-hlv];exact h.ll
 obtain ⟨gcs,hgb⟩:=own_blk hLL (g:=g) rfl
 have hgne:rb ≠ g:=h.bx.ne hgb (by decide)
 have hK:Chg (fun j=>j=rb \/ some j=V.lv.ownBlock) w (w.setCell ⟨g,k,none⟩ v):=(Chg.refl _ w).setCell _ _ (.inl (.inr (by rw [hlv];rfl)))
 refine ⟨?_,KR.of hK h.bx h.ll (fun j q=>q)⟩
 refine h.lcl (fun j q=>q) hK (lv':=V.lv) (l':=R.top.locals.set k v) ?_ (.refl _ _) (by rw [hlv];exact hLL.setIn k hk v)
 have e:(rcs s tv fv sv iv R V).setIfInBounds 11 V.lv=rcs s tv fv sv iv R V:=rfl
 rw [e];exact h.bx.setOther _ _ hgne
theorem RI.setWrd (h:RI W1 w rb s tv fv sv iv R V) {g n lc k:Nat} (hwv:V.wv=.slice g n lc) (hk:k < R.words.length) (v:Int) :
 RI W1 (w.setCell ⟨g,k,none⟩ v) rb s tv fv sv iv { R with words:=R.words.set k v } V/\KR w (w.setCell ⟨g,k,none⟩ v):=by
 have hLL:IntsV w W1.heap.size (.slice g n lc) R.words:=by rw [<-hwv];exact h.ww
 obtain ⟨gcs,hgb⟩:=own_blk hLL (g:=g) rfl
 have hgne:rb ≠ g:=h.bx.ne hgb (by decide)
 have hK:Chg (fun j=>j=rb \/ some j=V.wv.ownBlock) w (w.setCell ⟨g,k,none⟩ v):=(Chg.refl _ w).setCell _ _ (.inl (.inr (by rw [hwv];rfl)))
 refine ⟨?_,KR.of hK h.bx h.ww (fun j q=>q)⟩
 refine h.wrd (fun j q=>q) hK (wv':=V.wv) (l':=R.words.set k v) ?_ (.refl _ _) (by rw [hwv];exact hLL.setIn k hk v)
 have e:(rcs s tv fv sv iv R V).setIfInBounds 7 V.wv=rcs s tv fv sv iv R V:=rfl
 rw [e];exact h.bx.setOther _ _ hgne
end
end Go.Proofs.Ytnfnbcbadakofab
namespace Go.Proofs.Ytnfnbcbadakofab
open Go.RowKit
set_option maxHeartbeats 2000000
set_option maxRecDepth 100000
theorem rep_set {l:List Int} {k:Nat} (hk:k < l.length) (x:Int):(List.replicate k x++l.drop k).set k x=List.replicate (k+1) x++l.drop (k+1):=by
 rw [List.set_append_right k x (by simp)]
 simp only [List.length_replicate,Nat.sub_self]
 rw [List.drop_eq_getElem_cons hk,List.set_cons_zero,List.replicate_succ',List.append_assoc]
 rfl
theorem spoil_any (v:Value) (l:List Int) (base:Nat) (w:World) (hv:IntsV w base v l) (hl:l.length<=100000) :
 Calls Try.prog 28 #[v] w fun e w'=>e=.returned (.tuple #[])/\IntsV w' base v (List.replicate l.length (-987654321))/\Chg (fun j=>some j=v.ownBlock) w w':=by
 obtain ⟨a,c,rfl⟩:=hv.slice
 have HV:=hid hv
 clear hv
 go_enter Try.func28,Try.ntmps28
 go_wp2
 go_loopw [2] (fun i wr=>∃ k:Nat,k<=l.length/\i=.int .i64 k/\IntsV wr base (.slice a l.length c) (List.replicate k (-987654321)++l.drop k)/\Chg (fun j=>some j=(Value.slice a l.length c).ownBlock) w wr) (fun i _=>l.length - (intOf i).toNat)
 case atStart=>exact ⟨0,Nat.zero_le _,rfl,by simpa using HV.out,Chg.refl _ _⟩
 case round =>
  obtain ⟨k,hk,rfl,hI,kw⟩:=hrel
  by_cases hlt:k < l.length
  ·have hlt':(k:Int) < (l.length:Int):=by omega
   have hlen:(List.replicate k (-987654321:Int)++l.drop k).length=l.length:=by simp;omega
   obtain ⟨g,c',hve,_,_,_,hc⟩:=IntsV.form hI (by rw [hlen];omega)
   rw [hlen] at hve
   simp only [Value.slice.injEq] at hve
   obtain ⟨rfl,_,rfl⟩:=hve
   have y:=hc k (by rw [hlen];exact hlt)
   obtain ⟨gcs,hgb⟩:=own_blk hI (g:=g) rfl
   have yf:=hgb.frozen k
   have hset:=hI.setIn k (by rw [hlen];exact hlt) (-987654321)
   rw [rep_set hlt] at hset
   have HSET:=hid hset
   have KW:Hid (Chg (fun j=>some j=(Value.slice g l.length c).ownBlock) w (wr.setCell ⟨g,k,none⟩ (.int .i64 (-987654321)))):=kw.setCell _ _ (.inl rfl)
   clear hc hset hgb hI kw
   generalize (List.replicate k (-987654321:Int)++l.drop k).getD k 0=z at *
   go_wp2
   exact ⟨⟨k+1,by omega,by simp,HSET.out,KW.out⟩,by simp [intOf];omega⟩
  ·have hlt':¬ (k:Int) < (l.length:Int):=by omega
   have hkl:k=l.length:=by omega
   subst hkl
   rw [List.drop_length,List.append_nil] at hI
   have HI:=hid hI
   have KW:=hid kw
   clear hI kw
   go_wp2
   exact bodyPost_end (v:=.tuple #[]) (by simp [results,Try.results28]) rfl ⟨rfl,HI.out,KW.out⟩
theorem spoilt_any (v:Value) (n:Nat) (base:Nat) (w:World) (hv:IntsV w base v (List.replicate n (-987654321))) (hl:n<=100000) :
 Calls Try.prog 29 #[v] w fun e w'=>e=.returned (.bool true)/\w'=w:=by
 obtain ⟨a,c,hve⟩:=hv.slice
 rw [List.length_replicate] at hve
 subst hve
 have HV:=hid hv
 clear hv
 go_enter Try.func29,Try.ntmps29
 go_wp2
 go_loopw [3] (fun i wr=>∃ k:Nat,k<=n/\i=.int .i64 k/\wr=w) (fun i _=>n - (intOf i).toNat)
 case atStart=>exact ⟨0,Nat.zero_le _,rfl,rfl⟩
 case round =>
  obtain ⟨k,hk,rfl,rfl⟩:=hrel
  by_cases hlt:k < n
  ·have hlt':(k:Int) < (n:Int):=by omega
   obtain ⟨g,c',hve,_,_,_,hc⟩:=IntsV.form HV.out (by simp;omega)
   rw [List.length_replicate] at hve
   simp only [Value.slice.injEq] at hve
   obtain ⟨rfl,_,rfl⟩:=hve
   have y:=hc k (by simp;exact hlt)
   have e:(List.replicate n (-987654321:Int)).getD k 0 = -987654321:=by
    rw [List.getD_eq_getElem?_getD,List.getElem?_replicate,if_pos hlt];rfl
   rw [e] at y
   clear hc e
   go_wp2
   exact ⟨⟨k+1,by omega,by simp,trivial⟩,by simp [intOf];omega⟩
  ·have hlt':¬ (k:Int) < (n:Int):=by omega
   go_wp2
   go_ret
   exact ⟨rfl,rfl⟩
end Go.Proofs.Ytnfnbcbadakofab
namespace Go.Proofs.Ytnfnbcbadakofab
open Go.RowKit
section
variable {W1 w w':World} {rb:Nat} {s:ByteArray} {tv fv sv iv:Value} {R:Rn} {V:RV}
set_option maxHeartbeats 1000000 in
set_option maxRecDepth 100000 in
theorem uv_read (h:RI W1 w rb s tv fv sv iv R V) (A B:Int) (hl:R.top.stack.length<=1000) (hu:R.used<=1000000) (hin:∀ w,Chg (fun j=>j=rb) W1 w->RdA w iv R.inp) (hri:R.used < R.inp.length):Calls Try.prog 62 #[.pointer rb,.agg #[(18:Int),A,B]] w (RunEnd W1 w rb s tv fv sv iv (uvP (18,A,B) R)):=by
 have e:uvP (18,A,B) R = { R with top:=pushF R.top (R.inp.getD R.used 0 % 65536),used:=R.used+1 }:=rfl
 rw [e]
 clear e
 have kb:Chg () w (w.alloc (Obj.cells #[(18:Int),A,B] 93)):=(Chg.refl _ w).alloc _
 have nb:Blk (w.alloc (Obj.cells #[(18:Int),A,B] 93)) w.heap.size #[(18:Int),A,B] 93:=Blk.new w _ 93
 have H:=hid (h.new kb)
 have KB:=KR.new kb
 have x13:(w.alloc (Obj.cells #[(18:Int),A,B] 93)).cell? ⟨rb,13,none⟩=some iv:=H.out.bx.cell 13
 have x14:(w.alloc (Obj.cells #[(18:Int),A,B] 93)).cell? ⟨rb,14,none⟩=some (.int .i64 (R.used:Int)):=H.out.bx.cell 14
 have hrd:=hin _ H.out.ch
 obtain ⟨ia,ic,hiv⟩:=hrd.slice
 rw [hiv] at x13 hrd
 have HR:=hid hrd
 have hrb:=H.out.bx.lt
 have ety:tyAt R.inp (R.used:Int)=R.inp.getD R.used 0:=by unfold tyAt;rw [if_neg (by omega)];simp
 have hq:∀ n,Calls Try.prog 65 #[.slice ia R.inp.length ic,R.used] ((w.alloc (Obj.cells #[(18:Int),A,B] 93)).drewN n) fun e w'=>e=.returned (.int .i64 (R.inp.getD R.used 0))/\w'=(w.alloc (Obj.cells #[(18:Int),A,B] 93)).drewN n:=fun n=>by
  rw [<-ety];exact entry_rd _ R.inp (R.used:Int) _ (HR.out.new ((Chg.refl _ _).drewN n))
 clear h kb hrd ety
 generalize R.inp.getD R.used 0=x at *
 have hwr:∀ w,Calls Try.prog 85 #[x] w fun e w'=>e=.returned (.int .i64 (x % 65536))/\w'=w:=fun w=>wrapped_any x w
 generalize x % 65536=y at *
 go_enter Try.func62,Try.ntmps62
 go_wp2
 go_quiet ((go_at_call 65;exact Calls.quiet_of_same (hq _)))
 have dn:=(Chg.refl () (w.alloc (Obj.cells #[(18:Int),A,B] 93))).drewN nq
 have G2:=hid (H.out.new dn)
 clear hq x13 x14
 generalize (w.alloc (Obj.cells #[(18:Int),A,B] 93)).drewN nq=w2 at *
 have K2:=KB.trans (KR.new dn)
 clear KB dn H HR nb
 go_wp2
 go_region_with (first
  | (go_at_call 85;refine (hwr _).mono ?_;rintro ex w4 ⟨rfl,rfl⟩)
  | (go_at_call 80;refine (G2.out.drew.push (y) (by omega)).mono ?_;rintro ex w5 ⟨rfl,k5,V5,g5⟩;have y14:w5.cell? ⟨rb,14,none⟩=some (.int .i64 (R.used:Int)):=g5.bx.cell 14;have f14:=g5.bx.frozen 14;have hrb5:=g5.bx.lt))
 have e14:((R.used+1:Nat):Int)=(R.used:Int)+1:=Int.natCast_add R.used 1
 have g6:=g5.num (i:=14) (v:=.int .i64 ((R.used+1:Nat):Int)) (R':={ R with top:=pushF R.top y,used:=R.used+1 }) rfl rfl rfl rfl rfl rfl
 rw [e14] at g6
 clear e14
 have K6:=(K2.trans ((KR.new (Chg.refl _ _).drew).trans k5)).trans (KR.of ((Chg.refl (fun j=>j=rb) w5).setCell ⟨rb,14,none⟩ ((R.used:Int)+1:Int) (.inl rfl)) g5.bx g5.kk (fun j q=>.inl q))
 go_wp2
 exact bodyPost_end (v:=.tuple #[]) (by simp [results,Try.results62]) rfl ⟨rfl,K6,V5,g6⟩
end
end Go.Proofs.Ytnfnbcbadakofab
