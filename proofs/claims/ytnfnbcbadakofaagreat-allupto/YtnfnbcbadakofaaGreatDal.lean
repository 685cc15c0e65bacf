import Derived.Test.YtnfnbcbadakofaaGreatDnu
namespace Go.Proofs.YtnfnbcbadakofaaGreat
open Go.RowKit
structure MJ (W0 w:World) (mb:Nat) (sv lv:Value) (m:Mk):Prop where
 ch:Chg () W0 w
 nb:W0.heap.size<=mb
 bx:Blk w mb #[sv,lv] 68
 ss:w.ownsRow W0.heap.size 4 1 sv m.seen.length (m.seen.map .bool)
 ll:ad w W0.heap.size lv (m.list.map fun (k:Nat)=>(k:Int))
theorem MJ.new {W0 w w':World} {mb:Nat} {sv lv:Value} {m:Mk} (h:MJ W0 w mb sv lv m) (k:Chg () w w'):MJ W0 w' mb sv lv m:=
 ⟨h.ch.trans k,h.nb,h.bx.chg k (fun q=>q),af h.ss k (fun _ _ q=>q),af h.ll k (fun _ _ q=>q)⟩
def gv (G:Nat->Prop) (v:Int × Bool):Prop:=v.2=true->v.1=0 \/ ∃ e:Nat,v.1=(e:Int)+1/\G e
structure iC (G:Nat->Prop) (m:Mk):Prop where
 len:m.list.length=m.seen.countP id
 mem:∀ k ∈ m.list,G k
theorem iC.step {G:Nat->Prop} {m:Mk} (h:iC G m) {e:Nat} (he:e < m.seen.length) (hg:G e) (hs:m.seen.getD e true=false):iC G ⟨m.seen.set e true,m.list++[e]⟩:=by
 have hse:m.seen[e]=false:=by rw [List.getD_eq_getElem?_getD,List.getElem?_eq_getElem he] at hs;exact hs
 refine ⟨?_,fun k hk=>?_⟩
 ·rw [List.length_append,List.length_singleton,h.len,List.countP_set he]
  simp [hse]
 ·rcases List.mem_append.1 hk with hk | hk
  ·exact h.mem k hk
  ·simp at hk;subst hk;exact hg
theorem uH {w:World} {base:Nat} {v:Value} {l:List Bool} (h:w.ownsRow base 4 1 v l.length (l.map .bool)) (h0:0 < l.length):∃ g cap,v=.slice (some ⟨g,0,none⟩) l.length cap/\(∀ j (_hj:j < l.length),w.cell? ⟨g,j,none⟩=some (.bool (l.getD j true)))/\∃ cs,Blk w g cs 4:=by
 have hc:=fun g=>World.ownsRow.cells (g:=g) h
 rcases h.2 with ⟨_,q⟩ | ⟨g,cap,cur,hv,hb,hgg,hle,hcap,_⟩
 ·omega
 ·refine ⟨g,cap,hv,fun j hj=>?_,cur,hgg⟩
  have:=hc g (by rw [hv];rfl) j (.bool (l.getD j true)) (by rw [List.getElem?_map,List.getElem?_eq_getElem hj,List.getD_eq_getElem?_getD,List.getElem?_eq_getElem hj];rfl)
  rwa [dV,Nat.zero_add] at this
theorem pk {W0 w:World} {base:Nat} {e:TypeId} {k:Nat} {v:Value} {n:Nat} {xs:List Value} (h:w.ownsRow base e k v n xs) (c:Chg () W0 w) (hb:∀ g,v.ownBlock=some g->g < W0.heap.size):W0.ownsRow 0 e k v n xs:=by
 refine ⟨h.1,?_⟩
 rcases h.2 with hn | ⟨g,cap,cur,rfl,_,hgg,rest⟩
 ·exact .inl hn
 ·exact .inr ⟨g,cap,cur,rfl,Nat.zero_le _,(c.block g (hb g rfl) (fun q=>q)).symm.trans hgg,rest⟩
set_option maxHeartbeats 4000000 in
set_option maxRecDepth 100000 in
theorem i6 {W0 w:World} {mb:Nat} {sv lv:Value} {m:Mk} {G:Nat->Prop} (h:MJ W0 w mb sv lv m) (ok:iC G m) (hG:∀ e,G e->e < m.seen.length) (hls:m.seen.length<=1000000000000) (v:Value) (l:List (Int × Bool)) (b1:Nat) (hv:aO w b1 v l) (hvb:∀ g,v.ownBlock=some g->g < W0.heap.size) (hl:l.length<=1000) (hg:∀ x ∈ l,gv G x) :
 Calls Tryz.prog 17 #[.pointer mb,v] w fun e w'=>e=.returned (.tuple #[])/\iC G (mkA m l)/\(mkA m l).seen.length=m.seen.length/\∃ sv' lv',MJ W0 w' mb sv' lv' (mkA m l):=by
 obtain ⟨va,vc,rfl⟩:=hv.slice
 have HV:Hid (aO W0 0 (.slice va l.length vc) l):=pk hv h.ch hvb
 have H:=hid h
 have OK:=hid ok
 have HG:=hid hG
 have HL:=hid hg
 clear h ok hv hvb hG hg
 go_enter Tryz.func17,Tryz.ntmps17
 go_wp2
 go_loopw [4] (fun iv wr=>∃ (k:Nat) (mk:Mk) (sv' lv':Value),iv=.int .i64 (k:Int)/\k<=l.length/\MJ W0 wr mb sv' lv' mk/\iC G mk/\mk.seen.length=m.seen.length/\mkA mk (l.drop k)=mkA m l) (fun iv _=>l.length - (intOf iv).toNat)
 case atStart=>exact ⟨0,m,sv,lv,rfl,Nat.zero_le _,H.out,OK.out,rfl,rfl⟩
 case round =>
  obtain ⟨k,mk,sv',lv',rfl,hk,hM,hok,hsl,hE⟩:=hrel
  have HM:=hid hM
  have HOK:=hid hok
  have HE:=hid hE
  have HSL:=hid hsl
  clear hM hok hE hsl
  by_cases hlt:k < l.length
  ·have hlt':(k:Int) < (l.length:Int):=by omega
   obtain ⟨g,c',hve,_,hg0,_,_,hcc,gcs,gb⟩:=aO.form HV.out (by omega)
   simp only [Value.slice.injEq] at hve
   obtain ⟨rfl,_,rfl⟩:=hve
   obtain ⟨y0',y1'⟩:=hcc k hlt
   have y0:=HM.out.ch.cellF y0'
   have y1:=HM.out.ch.cellF y1'
   have hgx:gv G (l.getD k (0,false)):=HL.out _ (by rw [List.getD_eq_getElem?_getD,List.getElem?_eq_getElem hlt];exact List.getElem_mem hlt)
   have HS:Hid (mkA mk (l.drop k)=mkA (mkV mk (l.getD k (0,false))) (l.drop (k+1))):=by
    show mkA mk (l.drop k)=mkA (mkV mk (l.getD k (0,false))) (l.drop (k+1))
    rw [List.drop_eq_getElem_cons hlt,List.getD_eq_getElem?_getD,List.getElem?_eq_getElem hlt];rfl
   have HY0:=hid y0'
   clear hcc y0' y1' gb
   generalize l.getD k (0,false)=x at *
   obtain ⟨xn,xr⟩:=x
   simp only at y0 y1
   by_cases hq:xr=true/\0 < xn/\mk.seen.getD (xn - 1).toNat true=false
   ·obtain ⟨hxr,hx0,hse⟩:=hq
    subst hxr
    obtain ⟨e,rfl,he⟩:∃ e:Nat,xn=(e:Int)+1/\G e:=by
     rcases hgx rfl with q | q
     ·simp only at q;omega
     ·exact q
    have hel:e < mk.seen.length:=by rw [HSL.out];exact HG.out e he
    obtain ⟨g2,c2,hs2,hc2,gcs2,gb2⟩:=uH HM.out.ss (by omega)
    have x0:wr.cell? ⟨mb,0,none⟩=some (.slice g2 mk.seen.length c2):=by rw [<-hs2];exact HM.out.bx.cell 0
    have z:=hc2 e hel
    rw [show ((e:Int)+1 - 1).toNat=e by omega] at hse
    have HF:Hid (mkA ⟨mk.seen.set e true,mk.list++[e]⟩ (l.drop (k+1))=mkA m l):=by
     show mkA ⟨mk.seen.set e true,mk.list++[e]⟩ (l.drop (k+1))=mkA m l
     rw [<-HE.out,HS.out]
     unfold mkV
     rw [if_pos ⟨rfl,hx0,by simp only;rw [show ((e:Int)+1 - 1).toNat=e by omega];exact hse⟩]
     simp only
     rw [show ((e:Int)+1 - 1).toNat=e by omega]
    have HOK2:Hid (iC G ⟨mk.seen.set e true,mk.list++[e]⟩):=HOK.out.step hel he hse
    rw [hse] at z
    have zf:=gb2.frozen e
    have hee:(e:Int) < (mk.seen.length:Int):=by omega
    have hlm:mk.seen.length<=1000000000000:=by rw [HSL.out];exact hls
    have HS2:=hid hs2
    have GB2:=hid gb2
    clear hgx hs2 hc2 gb2 hse HS HE
    go_wp2
    go_quiet (fail)
    go_wp2
    have HMq:Hid (MJ W0 (wr.drewN nq) mb sv' lv' mk):=HM.out.new ((Chg.refl _ _).drewN nq)
    have GBq:Hid (Blk (wr.drewN nq) g2 gcs2 4):=GB2.out
    have x0q:(wr.drewN nq).cell? ⟨mb,0,none⟩=some (.slice g2 mk.seen.length c2):=x0
    have zq:(wr.drewN nq).cell? ⟨g2,e,none⟩=some (.bool false):=z
    have zfq:(wr.drewN nq).frozen? ⟨g2,e,none⟩=false:=zf
    have y0q:(wr.drewN nq).cell? ⟨g,k * 2,none⟩=some (.int .i64 ((e:Int)+1)):=y0
    clear HM GB2 x0 z zf y0 y1
    generalize wr.drewN nq=wq at *
    go_region
    have hgm:mb ≠ g2:=HMq.out.bx.ne GBq.out (by decide)
    have hss:=a8 (by have:=HMq.out.ss;rw [HS2.out] at this;exact this) e (by omega) (.bool true)
    have kc:Chg (fun j=>j=g2) wq (wq.setCell ⟨g2,e,none⟩ (.bool true)).drew:=(Chg.setCell (S:=fun j=>j=g2) (Chg.refl _ _) _ _ (.inl rfl)).drew
    have hgw:W0.heap.size<=g2:=(cy HMq.out.ss (by rw [HS2.out];rfl)).1
    have hM3:MJ W0 (wq.setCell ⟨g2,e,none⟩ (.bool true)).drew mb sv' lv' ⟨mk.seen.set e true,mk.list⟩:=by
     refine ⟨HMq.out.ch.trans' kc (fun i hi q=>by omega),HMq.out.nb,HMq.out.bx.chg kc hgm,?_,af HMq.out.ll kc (fun j hj q=>ao HMq.out.ll GBq.out (by decide) (by rw [hj,q]))⟩
     have e1:(mk.seen.set e true).map Value.bool=(mk.seen.map Value.bool).set e (.bool true):=by rw [List.map_set]
     show World.ownsRow _ _ _ _ sv' (mk.seen.set e true).length ((mk.seen.set e true).map Value.bool)
     rw [e1,List.length_set,HS2.out]
     exact hss
    have hb3:=hM3.ch.size
    have y03:(wq.setCell ⟨g2,e,none⟩ (.bool true)).drew.cell? ⟨g,k * 2,none⟩=some (.int .i64 ((e:Int)+1)):=hM3.ch.cellF HY0.out
    have HM3:=hid hM3
    obtain ⟨la,lc,hlv⟩:=hM3.ll.slice
    have x1:(wq.setCell ⟨g2,e,none⟩ (.bool true)).drew.cell? ⟨mb,1,none⟩=some (.slice la (mk.list.map fun (k:Nat)=>(k:Int)).length lc):=by rw [<-hlv];exact hM3.bx.cell 1
    have xf:=hM3.bx.frozen 1
    have HLV:=hid hlv
    have hll:mk.list.length<=1000000000000:=by
     rw [HOK.out.len];exact Nat.le_trans List.countP_le_length hlm
    clear hss kc hgw hM3 hlv x0q zq zfq y0q HMq GBq hgm
    generalize (wq.setCell ⟨g2,e,none⟩ (.bool true)).drew=w3 at *
    obtain ⟨i,hi1,hi2,hi3,hi4⟩:=dK
    have Hi1:Hid _:=hi1
    have Hi2:Hid _:=hi2
    have Hi3:Hid _:=hi3
    have Hi4:Hid _:=hi4
    clear hi1 hi2 hi3 hi4
    have hn3:mb ≠ w3.heap.size:=Nat.ne_of_lt HM3.out.bx.lt
    have hn3':=hn3.symm
    have hml:=HM3.out.bx.lt
    have hgl:g < w3.heap.size:=by omega
    have hg3:g ≠ w3.heap.size:=by omega
    have hg3':=hg3.symm
    have j1:Chg () w3 (w3.alloc (Obj.cells #[e] 3)).drew:=((Chg.refl _ w3).alloc _).drew
    have HM4:=hid (HM3.out.new j1)
    have HLL:Hid (HM4.out.ll=HM4.out.ll):=rfl
    obtain ⟨LL,hLL⟩:∃ LL:List Int,(mk.list.map fun (k:Nat)=>(k:Int))=LL:=⟨_,rfl⟩
    have HQ:=hid hLL
    rw [hLL] at x1 HLV
    have hlL:LL.length<=1000000000000:=by rw [<-hLL,List.length_map];exact hll
    have HROW:Hid ((w3.alloc (Obj.cells #[e] 3)).drew.ownsRow W0.heap.size 3 1 (.slice la LL.length lc) LL.length (aE LL)):=by
     have:=HM4.out.ll
     rw [HLV.out] at this
     unfold ad at this
     rw [<-hLL]
     rw [<-hLL] at this
     exact this
    have HNW:Hid (∀ j u,[Value.int .i64 (e:Int)][j]?=some u->(w3.alloc (Obj.cells #[e] 3)).drew.cell? ((⟨w3.heap.size,0,none⟩:Addr).add j)=some u):=World.news_of_block (B:=w3.heap.size) (cs:=#[.int .i64 (e:Int)]) (Blk.new' rfl _ 3).drew
    clear hLL hll HLL
    have hwr:IntKind.i64.wrap (e:Int)=(e:Int):=by rw [IntKind.wrap_i64];omega
    go_wp2
    go_region_law (refine step_append_lies _ rfl (.tmp 54) (.tmp 61) 23 rfl W0.heap.size 3 i (.int .i64 0) 1 8 Tryz.underlying23 Hi1.out Hi2.out Hi3.out Hi4.out rfl (by decide) (.slice la LL.length lc) LL.length (aE LL) (by simp [Act.eval]) (by exact HROW.out) ⟨w3.heap.size,0,none⟩ 1 1 [.int .i64 (e:Int)] (by simp [Act.eval]) rfl (by exact HNW.out) (by intro u hu;simp only [List.mem_cons,List.not_mem_nil,or_false] at hu;subst hu;rfl) (by decide) (by unfold maxLen;omega) (by omega) (by simp;omega) (w3.heap.size+1) (by simp) ?_;intro gg cap2 w4 hown hgrow hat hlt4;have hch4:Chg (fun j=>some j=(Value.slice la LL.length lc).ownBlock) (w3.alloc (Obj.cells #[e] 3)).drew w4:=(aM hgrow).mono (fun _ _ q=>q);have hbk:=HM4.out.bx.chg hch4 (fun q=>ao HROW.out HM4.out.bx (by decide) q.symm);have y1f:=hbk.frozen 1;have y1c:w4.cell? ⟨mb,1,none⟩=some (.slice la LL.length lc):=by rw [<-HLV.out];exact hbk.cell 1)
    all_goals
     have hM5:MJ W0 (w4.setCell ⟨mb,1,none⟩ (.slice gg (LL.length+1) cap2)) mb sv' (.slice gg (LL.length+1) cap2) ⟨mk.seen.set e true,mk.list++[e]⟩:=by
      have kb:Chg (fun j=>j=mb) w4 (w4.setCell ⟨mb,1,none⟩ (.slice gg (LL.length+1) cap2)):=Chg.setCell (S:=fun j=>j=mb) (Chg.refl _ _) _ _ (.inl rfl)
      refine ⟨(HM4.out.ch.trans' hch4 (fun i hi q=>by have:=cy HROW.out q.symm;omega)).trans' kb (fun i hi q=>by have:=HM4.out.nb;omega),HM4.out.nb,by have:=hbk.set 1 (.slice gg (LL.length+1) cap2);simpa using this,?_,?_⟩
      ·have s4:=af HM4.out.ss hch4 (fun g hg q=>by
        obtain ⟨cs,hb⟩:=ay HM4.out.ss hg
        exact ao HROW.out hb (by decide) q.symm)
       exact af s4 kb (fun g hg q=>ao s4 hbk (by decide) (by rw [hg,q]))
      ·have:ad w4 W0.heap.size (.slice gg (LL.length+1) cap2) ((mk.list++[e]).map fun (k:Nat)=>(k:Int)):=by
        unfold ad
        rw [List.map_append,HQ.out,List.length_append]
        simpa [aE] using hown
       exact af this kb (fun g hg q=>ao this hbk (by decide) (by rw [hg,q]))
     have HM5:Hid _:=hM5
     clear hbk y1f y1c hown hgrow hat hch4 hM5
     go_wp2
     exact ⟨⟨k+1,⟨mk.seen.set e true,mk.list++[e]⟩,_,_,rfl,by omega,HM5.out,HOK2.out,by simp only [List.length_set];exact HSL.out,HF.out⟩,by simp [intOf];omega⟩
   ·have HF:Hid (mkA mk (l.drop (k+1))=mkA m l):=by
     show mkA mk (l.drop (k+1))=mkA m l
     rw [<-HE.out,HS.out]
     unfold mkV
     rw [if_neg hq]
    cases xr with
    | false =>
     clear hq hgx
     go_wp2
     go_quiet (fail)
     go_wp2
     exact ⟨⟨k+1,mk,sv',lv',rfl,by omega,HM.out.new ((Chg.refl _ _).drewN nq),HOK.out,HSL.out,HF.out⟩,by simp [intOf];omega⟩
    | true =>
     by_cases hx0:0 < xn
     ·have hse:mk.seen.getD (xn - 1).toNat true=true:=by
       cases q:mk.seen.getD (xn - 1).toNat true with
       | true=>rfl
       | false=>exact absurd ⟨rfl,hx0,q⟩ hq
      obtain ⟨e,rfl,he⟩:∃ e:Nat,xn=(e:Int)+1/\G e:=by
       rcases hgx rfl with q | q
       ·simp only at q;omega
       ·exact q
      have hel:e < mk.seen.length:=by rw [HSL.out];exact HG.out e he
      obtain ⟨g2,c2,hs2,hc2,gcs2,gb2⟩:=uH HM.out.ss (by omega)
      have x0:wr.cell? ⟨mb,0,none⟩=some (.slice g2 mk.seen.length c2):=by rw [<-hs2];exact HM.out.bx.cell 0
      have z:=hc2 e hel
      rw [show ((e:Int)+1 - 1).toNat=e by omega] at hse
      rw [hse] at z
      have hee:(e:Int) < (mk.seen.length:Int):=by omega
      have hlm:mk.seen.length<=1000000000000:=by rw [HSL.out];exact hls
      clear hq hgx hs2 hc2 gb2 hse
      go_wp2
      go_quiet (fail)
      go_wp2
      exact ⟨⟨k+1,mk,sv',lv',rfl,by omega,HM.out.new ((Chg.refl _ _).drewN nq),HOK.out,HSL.out,HF.out⟩,by simp [intOf];omega⟩
     ·obtain rfl:xn=0:=by
       rcases hgx rfl with q | ⟨e,q,_⟩
       ·exact q
       ·simp only at q;omega
      clear hq hgx hx0
      go_wp2
      go_quiet (fail)
      go_wp2
      exact ⟨⟨k+1,mk,sv',lv',rfl,by omega,HM.out.new ((Chg.refl _ _).drewN nq),HOK.out,HSL.out,HF.out⟩,by simp [intOf];omega⟩
  ·have hlt':(l.length:Int)<=(k:Int):=by omega
   have HF:Hid (mk=mkA m l):=by
    show mk=mkA m l
    rw [<-HE.out,List.drop_eq_nil_of_le (by omega)];rfl
   go_wp2
   refine bodyPost_end (v:=.tuple #[]) (by simp [results,Tryz.results17]) rfl ⟨rfl,?_,?_,?_⟩
   ·rw [<-HF.out];exact HOK.out
   ·rw [<-HF.out];exact HSL.out
   ·rw [<-HF.out];exact ⟨_,_,HM.out⟩
end Go.Proofs.YtnfnbcbadakofaaGreat
