import Derived.Test.YtnfnbcbadakofaaGreatUva
namespace Go.Proofs.YtnfnbcbadakofaaGreat
open Go.RowKit
set_option maxHeartbeats 1000000
set_option maxRecDepth 100000
theorem mY (a:Addr) (n c j:Nat) (x:Int) (w:World) (h:j < n) (hc:w.cell? (a.add j)=some (.int .i64 x)) :
 Calls Tryz.prog 53 #[.slice (some a) n c,j] w fun e w'=>e=.returned (.int .i64 x)/\w'=w:=by
 have h':(j:Int) < n:=by omega
 go_enter Tryz.func53,Tryz.ntmps53
 go_wp2
 go_ret
 exact ⟨rfl,rfl⟩
theorem ot (v:Value) (l:List Int) (k:Int) (w:World) (h:RdA w v l) :
 Calls Tryz.prog 53 #[v,k] w fun e w'=>e=.returned (.int .i64 (aU l k))/\w'=w:=by
 by_cases hk:k < 0 \/ (l.length:Int)<=k
 ·obtain ⟨a,c,rfl⟩:=h.slice
  unfold aU;rw [if_pos hk]
  exact iP a _ c k w hk
 ·obtain ⟨j,rfl⟩:∃ j:Nat,k=(j:Int):=⟨k.toNat,by omega⟩
  obtain ⟨g,c,rfl,_,_,hc⟩:=h.form (by omega)
  unfold aU;rw [if_neg hk]
  exact mY g _ c j _ w (by omega) (hc j (by omega))
section
variable {W1 w w':World} {rb:Nat} {s:ByteArray} {tv fv sv iv:Value} {R:Rn} {V:RV}
theorem RI.put (h:RI W1 w rb s tv fv sv iv R V) {S:Nat->Prop} {ov':Value} {l':List Int} (hS:∀ j,S j->j=rb \/ some j=V.ov.ownBlock) (k:Chg S w w') (hb:Blk w' rb ((rcs s tv fv sv iv R V).setIfInBounds 15 ov') 62) (hL:bD w V.ov ov') (hI:ad w' W1.heap.size ov' l') :
 RI W1 w' rb s tv fv sv iv { R with out:=l' } { V with ov:=ov' }:=by
 obtain ⟨f1,f2⟩:=h.frames h.oo k hS h.sp.fo
 refine ⟨h.chg1 h.oo k hS,hb,h.ww.apart h.bx (by decide) k hS h.sp.wo,h.ll.apart h.bx (by decide) k hS h.sp.lo,h.kk.apart h.bx (by decide) k hS h.sp.ko,hI,h.be,f1,f2,?_⟩
 exact ⟨h.sp.wl,h.sp.wk,h.sp.wo.lies hL h.ww.lts,h.sp.lk,h.sp.lo.lies hL h.ll.lts,h.sp.ko.lies hL h.kk.lts,h.sp.fw,h.sp.fl,h.sp.fk,fun u hu=>(h.sp.fo u hu).lies hL (h.fl_lt hu),h.sp.ff⟩
theorem RI.wrd (h:RI W1 w rb s tv fv sv iv R V) {S:Nat->Prop} {wv':Value} {l':List Int} (hS:∀ j,S j->j=rb \/ some j=V.wv.ownBlock) (k:Chg S w w') (hb:Blk w' rb ((rcs s tv fv sv iv R V).setIfInBounds 7 wv') 62) (hL:bD w V.wv wv') (hI:ad w' W1.heap.size wv' l') :
 RI W1 w' rb s tv fv sv iv { R with words:=l' } { V with wv:=wv' }:=by
 obtain ⟨f1,f2⟩:=h.frames h.ww k hS h.sp.fw
 refine ⟨h.chg1 h.ww k hS,hb,hI,h.ll.apart h.bx (by decide) k hS h.sp.wl.symm,h.kk.apart h.bx (by decide) k hS h.sp.wk.symm,h.oo.apart h.bx (by decide) k hS h.sp.wo.symm,h.be,f1,f2,?_⟩
 exact ⟨(h.sp.wl.symm.lies hL h.ll.lts).symm,(h.sp.wk.symm.lies hL h.kk.lts).symm,(h.sp.wo.symm.lies hL h.oo.lts).symm,h.sp.lk,h.sp.lo,h.sp.ko,fun u hu=>(h.sp.fw u hu).lies hL (h.fl_lt hu),h.sp.fl,h.sp.fk,h.sp.fo,h.sp.ff⟩
theorem RI.lcl (h:RI W1 w rb s tv fv sv iv R V) {S:Nat->Prop} {lv':Value} {l':List Int} (hS:∀ j,S j->j=rb \/ some j=V.lv.ownBlock) (k:Chg S w w') (hb:Blk w' rb ((rcs s tv fv sv iv R V).setIfInBounds 11 lv') 62) (hL:bD w V.lv lv') (hI:ad w' W1.heap.size lv' l') :
 RI W1 w' rb s tv fv sv iv { R with top:={ R.top with locals:=l' } } { V with lv:=lv' }:=by
 obtain ⟨f1,f2⟩:=h.frames h.ll k hS h.sp.fl
 refine ⟨h.chg1 h.ll k hS,hb,h.ww.apart h.bx (by decide) k hS h.sp.wl,hI,h.kk.apart h.bx (by decide) k hS h.sp.lk.symm,h.oo.apart h.bx (by decide) k hS h.sp.lo.symm,h.be,f1,f2,?_⟩
 exact ⟨h.sp.wl.lies hL h.ww.lts,h.sp.wk,h.sp.wo,(h.sp.lk.symm.lies hL h.kk.lts).symm,(h.sp.lo.symm.lies hL h.oo.lts).symm,h.sp.ko,h.sp.fw,fun u hu=>(h.sp.fl u hu).lies hL (h.fl_lt hu),h.sp.fk,h.sp.fo,h.sp.ff⟩
theorem oG (l:List Int) (k:Nat) (v:Int):(aE l).set k (.int .i64 v)=aE (l.set k v):=by unfold aE;rw [List.map_set]
theorem ad.setIn {w:World} {base g n cap:Nat} {l:List Int} (h:ad w base (.slice g n cap) l) (k:Nat) (hk:k < l.length) (v:Int):ad (w.setCell ⟨g,k,none⟩ v) base (.slice g n cap) (l.set k v):=by
 have hn:n=l.length:=by
  rcases h.2 with ⟨q,_⟩ | ⟨g',cap',cur,q,_⟩
  ·cases q
  ·simp only [Value.slice.injEq] at q;exact q.2.1
 subst hn
 have:=a8 h k (by omega) (.int .i64 v)
 rw [oG] at this
 unfold ad
 rw [List.length_set]
 exact this
theorem rS (h:RI W1 w rb s tv fv sv iv R V) (A B:Int) (hl:R.top.stack.length<=1000):Calls Tryz.prog 83 #[.pointer rb,.agg #[(10:Int),A,B]] w (aS W1 w rb s tv fv sv iv (uvP (10,A,B) R)):=by
 have e:uvP (10,A,B) R = { R with top:=cG R.top 0 }:=rfl
 rw [e]
 clear e
 have kb:Chg () w (w.alloc (Obj.cells #[(10:Int),A,B] 135)):=(Chg.refl _ w).alloc _
 have nb:Blk (w.alloc (Obj.cells #[(10:Int),A,B] 135)) w.heap.size #[(10:Int),A,B] 135:=Blk.new w _ 135
 have H:=hid (h.new kb)
 have KB:=KR.new kb
 clear h kb
 go_enter Tryz.func83,Tryz.ntmps83
 go_wp2_with fail
 refine (H.out.push 0 (by omega)).mono ?_
 rintro ex w2 ⟨rfl,k2,V2,h2⟩
 go_wp2
 exact bodyPost_end (v:=.tuple #[]) (by simp [results,Tryz.results83]) rfl ⟨rfl,KB.trans k2,V2,h2⟩
theorem tV (h:RI W1 w rb s tv fv sv iv R V) (A B:Int) (hl:R.top.stack.length<=1000):Calls Tryz.prog 83 #[.pointer rb,.agg #[(11:Int),A,B]] w (aS W1 w rb s tv fv sv iv (uvP (11,A,B) R)):=by
 have e:uvP (11,A,B) R = { R with top:=cG (aR R.top) (if aF R.top.stack=0 then 1 else 0) }:=rfl
 rw [e]
 clear e
 by_cases hz:aF R.top.stack=0
 ·rw [if_pos hz]
  have kb:Chg () w (w.alloc (Obj.cells #[(11:Int),A,B] 135)):=(Chg.refl _ w).alloc _
  have nb:Blk (w.alloc (Obj.cells #[(11:Int),A,B] 135)) w.heap.size #[(11:Int),A,B] 135:=Blk.new w _ 135
  have H:=hid (h.new kb)
  have KB:=KR.new kb
  clear h kb
  go_enter Tryz.func83,Tryz.ntmps83
  go_wp2_with fail
  refine (H.out.pop (by omega)).mono ?_
  rintro ex w2 ⟨rfl,k2,V2,g2⟩
  have nb2:=k2.keep _ _ _ nb (by decide) (by decide) (by decide)
  have p1:=cY R.top
  have G2:=hid g2
  clear g2
  go_wp2
  go_region_with (first
   | (go_at_call 99;refine (dq true _).mono ?_;rintro ex w4 ⟨rfl,rfl⟩)
   | (go_at_call 95;refine (G2.out.drew.push 1 (by show (aR R.top).stack.length<=100000;omega)).mono ?_;rintro ex w5 ⟨rfl,k5,V5,g5⟩))
  exact bodyPost_end (v:=.tuple #[]) (by simp [results,Tryz.results83]) rfl ⟨rfl,(KB.trans k2).trans ((KR.new (Chg.refl _ _).drew).trans k5),V5,g5⟩
 ·rw [if_neg hz]
  have hzb:(aF R.top.stack == 0)=false:=by simp [hz]
  have kb:Chg () w (w.alloc (Obj.cells #[(11:Int),A,B] 135)):=(Chg.refl _ w).alloc _
  have nb:Blk (w.alloc (Obj.cells #[(11:Int),A,B] 135)) w.heap.size #[(11:Int),A,B] 135:=Blk.new w _ 135
  have H:=hid (h.new kb)
  have KB:=KR.new kb
  clear h kb
  go_enter Tryz.func83,Tryz.ntmps83
  go_wp2_with fail
  refine (H.out.pop (by omega)).mono ?_
  rintro ex w2 ⟨rfl,k2,V2,g2⟩
  have nb2:=k2.keep _ _ _ nb (by decide) (by decide) (by decide)
  have p1:=cY R.top
  have G2:=hid g2
  clear g2
  go_wp2
  go_region_with (first
   | (go_at_call 99;refine (dq false _).mono ?_;rintro ex w4 ⟨rfl,rfl⟩)
   | (go_at_call 95;refine (G2.out.drew.push 0 (by show (aR R.top).stack.length<=100000;omega)).mono ?_;rintro ex w5 ⟨rfl,k5,V5,g5⟩))
  exact bodyPost_end (v:=.tuple #[]) (by simp [results,Tryz.results83]) rfl ⟨rfl,(KB.trans k2).trans ((KR.new (Chg.refl _ _).drew).trans k5),V5,g5⟩
theorem nM (h:RI W1 w rb s tv fv sv iv R V) (A B:Int) (hl:R.top.stack.length<=1000) (ho:R.out.length<=1000000):Calls Tryz.prog 83 #[.pointer rb,.agg #[(17:Int),A,B]] w (aS W1 w rb s tv fv sv iv (uvP (17,A,B) R)):=by
 have e:uvP (17,A,B) R = { R with top:=aR R.top,out:=R.out++[aF R.top.stack] }:=rfl
 rw [e]
 clear e
 have kb:Chg () w (w.alloc (Obj.cells #[(17:Int),A,B] 135)):=(Chg.refl _ w).alloc _
 have nb:Blk (w.alloc (Obj.cells #[(17:Int),A,B] 135)) w.heap.size #[(17:Int),A,B] 135:=Blk.new w _ 135
 have H:=hid (h.new kb)
 have KB:=KR.new kb
 clear h kb
 go_enter Tryz.func83,Tryz.ntmps83
 go_wp2_with fail
 refine (H.out.pop (by omega)).mono ?_
 rintro ex w2 ⟨rfl,k2,V2,g2⟩
 have nb2:=k2.keep _ _ _ nb (by decide) (by decide) (by decide)
 have p1:=cY R.top
 have G2:=hid g2
 clear g2
 have x15:w2.cell? ⟨rb,15,none⟩=some V2.ov:=G2.out.bx.cell 15
 obtain ⟨oa,oc,hov⟩:=G2.out.oo.slice
 rw [hov] at x15
 have hrb:=G2.out.bx.lt
 have j1:Chg () w2 (w2.alloc (Obj.cells #[(aF R.top.stack:Int)] 3)):=(Chg.refl _ w2).alloc _
 have G3:=hid (G2.out.new j1)
 have HO:Hid (ad (w2.alloc (Obj.cells #[(aF R.top.stack:Int)] 3)) W1.heap.size (.slice oa R.out.length oc) R.out):=by
  show ad _ _ _ _
  rw [<-hov];exact G3.out.oo
 have hbs:=G3.out.base
 generalize hpv:aF R.top.stack=pv at *
 go_wp2_with (at_builtin;refine bI rfl _ _ rfl W1.heap.size (.slice oa R.out.length oc) (.slice w2.heap.size 1 1) R.out [pv] rfl rfl ?h1 ?h2 ?h3 ?h4 ?_)
 case h1=>exact HO.out
 case h2=>exact bK [pv] 1 rfl (by unfold maxLen;omega)
 case h3=>simp;omega
 case h4=>exact hbs
 intro a2 n2 c2 w4 hn2 hI2 hch2 hl2
 have hbk:Blk w4 rb (rcs s tv fv sv iv { R with top:=aR R.top } V2) 62:=G3.out.bx.chg hch2 (fun q=>ao HO.out G3.out.bx (by decide) q.symm)
 have f3:=hbk.frozen 15
 have x15':w4.cell? ⟨rb,15,none⟩=some (.slice oa R.out.length oc):=by rw [<-hov];exact hbk.cell 15
 have hlt2:=hbk.lt
 have HN:=hid hn2
 clear hn2 x15
 have kk:Chg (fun j=>j=rb \/ some j=V2.ov.ownBlock) (w2.alloc (Obj.cells #[pv] 3)) (w4.setCell ⟨rb,15,none⟩ (.slice a2 n2 c2)):=
  (Chg.mono hch2 (fun _ _ q=>.inr (by rw [hov];exact q))).setCell _ _ (.inl (.inl rfl))
 have g4:RI W1 (w4.setCell ⟨rb,15,none⟩ (.slice a2 n2 c2)) rb s tv fv sv iv { R with top:=aR R.top,out:=R.out++[pv] } { V2 with ov:=.slice a2 n2 c2 }:=
  G3.out.put (fun j q=>q) kk (hbk.set 15 _) (by rw [hov];exact hl2) (aH hI2 _ _ (ao hI2 hbk (by decide)))
 have K4:=(KB.trans k2).trans ((KR.new j1).trans (KR.of kk G3.out.bx G3.out.oo (fun j q=>q)))
 go_wp2
 exact bodyPost_end (v:=.tuple #[]) (by simp [results,Tryz.results83]) rfl ⟨rfl,K4,_,g4⟩
theorem RI.setLoc (h:RI W1 w rb s tv fv sv iv R V) {g n lc k:Nat} (hlv:V.lv=.slice g n lc) (hk:k < R.top.locals.length) (v:Int) :
 RI W1 (w.setCell ⟨g,k,none⟩ v) rb s tv fv sv iv { R with top:={ R.top with locals:=R.top.locals.set k v } } V/\KR w (w.setCell ⟨g,k,none⟩ v):=by
 have hLL:ad w W1.heap.size (.slice g n lc) R.top.locals:=by rw [<-hlv];exact h.ll
 obtain ⟨gcs,hgb⟩:=ay hLL (g:=g) rfl
 have hgne:rb ≠ g:=h.bx.ne hgb (by decide)
 have hK:Chg (fun j=>j=rb \/ some j=V.lv.ownBlock) w (w.setCell ⟨g,k,none⟩ v):=(Chg.refl _ w).setCell _ _ (.inl (.inr (by rw [hlv];rfl)))
 refine ⟨?_,KR.of hK h.bx h.ll (fun j q=>q)⟩
 refine h.lcl (fun j q=>q) hK (lv':=V.lv) (l':=R.top.locals.set k v) ?_ (.refl _ _) (by rw [hlv];exact hLL.setIn k hk v)
 have e:(rcs s tv fv sv iv R V).setIfInBounds 11 V.lv=rcs s tv fv sv iv R V:=rfl
 rw [e];exact h.bx.setOther _ _ hgne
theorem RI.setWrd (h:RI W1 w rb s tv fv sv iv R V) {g n lc k:Nat} (hwv:V.wv=.slice g n lc) (hk:k < R.words.length) (v:Int) :
 RI W1 (w.setCell ⟨g,k,none⟩ v) rb s tv fv sv iv { R with words:=R.words.set k v } V/\KR w (w.setCell ⟨g,k,none⟩ v):=by
 have hLL:ad w W1.heap.size (.slice g n lc) R.words:=by rw [<-hwv];exact h.ww
 obtain ⟨gcs,hgb⟩:=ay hLL (g:=g) rfl
 have hgne:rb ≠ g:=h.bx.ne hgb (by decide)
 have hK:Chg (fun j=>j=rb \/ some j=V.wv.ownBlock) w (w.setCell ⟨g,k,none⟩ v):=(Chg.refl _ w).setCell _ _ (.inl (.inr (by rw [hwv];rfl)))
 refine ⟨?_,KR.of hK h.bx h.ww (fun j q=>q)⟩
 refine h.wrd (fun j q=>q) hK (wv':=V.wv) (l':=R.words.set k v) ?_ (.refl _ _) (by rw [hwv];exact hLL.setIn k hk v)
 have e:(rcs s tv fv sv iv R V).setIfInBounds 7 V.wv=rcs s tv fv sv iv R V:=rfl
 rw [e];exact h.bx.setOther _ _ hgne
end
end Go.Proofs.YtnfnbcbadakofaaGreat
namespace Go.Proofs.YtnfnbcbadakofaaGreat
open Go.RowKit
section
variable {W1 w w':World} {rb:Nat} {s:ByteArray} {tv fv sv iv:Value} {R:Rn} {V:RV}
set_option maxHeartbeats 1000000 in
set_option maxRecDepth 100000 in
theorem ph (h:RI W1 w rb s tv fv sv iv R V) (A B:Int) (hl:R.top.stack.length<=1000) (hA:0<=A) (hA2:A < (R.top.locals.length:Int)):Calls Tryz.prog 83 #[.pointer rb,.agg #[(6:Int),A,B]] w (aS W1 w rb s tv fv sv iv (uvP (6,A,B) R)):=by
 have e:uvP (6,A,B) R = { R with top:={ aR R.top with locals:=R.top.locals.set A.toNat (aF R.top.stack) } }:=by
  unfold uvP;simp only;rw [if_neg (by decide),if_neg (by decide),if_neg (by decide),if_pos trivial,if_pos ⟨hA,hA2⟩]
 rw [e]
 clear e
 have kb:Chg () w (w.alloc (Obj.cells #[(6:Int),A,B] 135)):=(Chg.refl _ w).alloc _
 have nb:Blk (w.alloc (Obj.cells #[(6:Int),A,B] 135)) w.heap.size #[(6:Int),A,B] 135:=Blk.new w _ 135
 have H:=hid (h.new kb)
 have KB:=KR.new kb
 clear h kb
 go_enter Tryz.func83,Tryz.ntmps83
 go_wp2_with fail
 refine (H.out.pop (by omega)).mono ?_
 rintro ex w2 ⟨rfl,k2,V2,g2⟩
 have nb2:=k2.keep _ _ _ nb (by decide) (by decide) (by decide)
 have p1:=cY R.top
 have G2:=hid g2
 clear g2
 have x11:w2.cell? ⟨rb,11,none⟩=some V2.lv:=G2.out.bx.cell 11
 have hpos:0 < R.top.locals.length:=by omega
 obtain ⟨g,lc,hlv,hbg,_,_,_⟩:=G2.out.ll.form (by show 0 < R.top.locals.length;exact hpos)
 change V2.lv=.slice g R.top.locals.length lc at hlv
 rw [hlv] at x11
 have hrb:=G2.out.bx.lt
 have y1:w2.cell? ⟨w.heap.size,1,none⟩=some (.int .i64 A):=nb2.cell 1
 have hLL:ad w2 W1.heap.size (.slice g R.top.locals.length lc) R.top.locals:=by rw [<-hlv];exact G2.out.ll
 have hgl:=(hLL.lt g rfl).2
 obtain ⟨gcs,hgb⟩:=ay hLL (g:=g) rfl
 obtain ⟨k,rfl⟩:∃ k:Nat,A=(k:Int):=⟨A.toNat,by omega⟩
 have hkl:k < R.top.locals.length:=by omega
 have z1:∃ u,w2.cell? ⟨g,k,none⟩=some u:=by
  obtain ⟨g',c',q,_,_,_,hc⟩:=hLL.form hpos
  simp only [Value.slice.injEq,Option.some.injEq,Addr.mk.injEq] at q
  obtain ⟨⟨rfl,_⟩,_,_⟩:=q
  exact ⟨_,hc k hkl⟩
 obtain ⟨u,z1⟩:=z1
 have fz:=hgb.frozen k
 have hkd:decide ((k:Int) < (R.top.locals.length:Int))=true:=by simp;omega
 clear hLL hl p1
 go_wp2
 go_quiet (fail)
 go_wp2
 go_region
 have g3:=(G2.out.new ((Chg.refl () w2).drewN nq).drew).setLoc hlv (by show k < R.top.locals.length;exact hkl) (aF R.top.stack)
 refine bodyPost_end (v:=.tuple #[]) (by simp [results,Tryz.results83]) rfl ⟨rfl,(KB.trans k2).trans ((KR.new ((Chg.refl () w2).drewN nq).drew).trans g3.2),V2,?_⟩
 rw [Int.toNat_natCast]
 exact g3.1
end
end Go.Proofs.YtnfnbcbadakofaaGreat
