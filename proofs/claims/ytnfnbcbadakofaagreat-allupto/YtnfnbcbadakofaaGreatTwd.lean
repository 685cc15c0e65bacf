import Derived.Test.YtnfnbcbadakofaaGreatGbk
import Derived.Test.YtnfnbcbadakofaaGreatRin
namespace Go.Proofs.YtnfnbcbadakofaaGreat
open Go.RowKit
def V0 (wv:Value):RV:=⟨wv,.slice none 0 0,.slice none 0 0,.slice none 0 0,.slice none 0 0,[]⟩
theorem px {ns:List Int} {lo hi:Int} {s:Nat × Bool}:s.1<=(tk ns lo hi s).2.1/\((tk ns lo hi s).2.2=false->(tk ns lo hi s).2.1=s.1+1/\s.2=false):=by
 unfold tk;repeat' split
 ·exact ⟨Nat.le_refl _,fun q=>by simp at q⟩
 ·exact ⟨Nat.le_refl _,fun q=>by simp at q⟩
 ·rename_i h1 h2
  exact ⟨Nat.le_succ _,fun _=>⟨rfl,by simp only [not_or,Bool.not_eq_true] at h1;exact h1.1⟩⟩
theorem sS {ns recs:List Int} (ks:List Int):∀ s:Nat × Bool,s.1<=(tvP ns recs ks s).2.1/\((tvP ns recs ks s).2.2=false->s.2=false):=by
 induction ks with
 | nil=>intro s;exact ⟨Nat.le_refl _,fun q=>q⟩
 | cons k ks ih =>
  intro s
  rw [jF]
  simp only
  obtain ⟨a,b⟩:=ih ((tk ns 0 65535 s).2.1,(tk ns 0 65535 s).2.2 || dH recs k (tk ns 0 65535 s).1)
  obtain ⟨p,q⟩:=px (ns:=ns) (lo:=0) (hi:=65535) (s:=s)
  refine ⟨Nat.le_trans p a,fun z=>?_⟩
  have:=b z
  simp only [Bool.or_eq_false_iff] at this
  exact (q this.1).2
theorem fx {K:Act->World->Prop} {Q:Exit->Act->World->Prop} {act:World->Option Addr->Nat->Act} {C:World->Option Addr->Nat->Prop} {G:Prop} (h2:(∀ W a c,C W a c->Exit.then K Q .normal (act W a c) W)->G) (h1:∀ W a c,C W a c->Exit.then K Q .normal (act W a c) W):G:=h2 h1
theorem lg {ls:List (List Int)} {ws recs:List Int} {m:Nat} {s:Nat × Bool} (h:¬ (s.1 < ws.length/\s.2=false)):twP ls ws recs m s=s:=by
 cases m with
 | zero=>rfl
 | succ m=>unfold twP;rw [if_neg h]
theorem ux {ls:List (List Int)} {ws recs:List Int} {m:Nat} {s:Nat × Bool} (h:s.1 < ws.length/\s.2=false):twP ls ws recs (m+1) s=twP ls ws recs m (tvP ws recs (flds ls (tk ws 1 ls.length s).1) (tk ws 1 ls.length s).2).2:=by
 conv=>lhs;unfold twP
 rw [if_pos h]
def msr (n ab:Nat) (w:World):Nat:=match w.cell? ⟨ab,2,none⟩ with
 | some (.bool true)=>0
 | _=>match w.cell? ⟨ab,1,none⟩ with
  | some (.int _ i)=>n+1 - i.toNat
  | _=>0
theorem qe {n ab:Nat} {w:World} {s:Nat × Bool} (h1:w.cell? ⟨ab,1,none⟩=some (.int .i64 (s.1:Int))) (h2:w.cell? ⟨ab,2,none⟩=some (.bool s.2)):msr n ab w=if s.2=true then 0 else n+1 - s.1:=by
 unfold msr
 rw [h1,h2]
 cases s.2 <;> simp
section
variable {W0 w w':World} {tb:Nat} {img:ByteArray} {nv tv fv sv rv:Value} {ns rs:List Int} {s s':Nat × Bool} {R R':Rn} {V:RV} {c:Cx}
theorem TI.side (h:TI W0 w tb img nv tv fv sv ns s R V rv rs) {ab:Nat} {cs:Array Value} {e:TypeId} (hb:Blk w ab cs e) (h3:3 ≠ e) (h1:60 ≠ e) (h2:97 ≠ e) (hn:W0.heap.size<=ab) (k:Chg (fun j=>j=ab) w w'):TI W0 w' tb img nv tv fv sv ns s R V rv rs:=by
 have q3:∀ (u:Value) (l:List Int),ad w W0.heap.size u l->ad w' W0.heap.size u l:=fun u l hu=>af hu k (fun g hg q=>ao hu hb h3 (by rw [hg,q]))
 exact ⟨h.ch.trans' k (fun i hi q=>by omega),h.nw,h.bx.chg k (fun q=>h.bx.ne hb h2 q),q3 _ _ h.ww,q3 _ _ h.ll,q3 _ _ h.kk,h.be,af h.bb k (fun g hg q=>ao h.bb hb h1 (by rw [hg,q])),fun x hx=>⟨q3 _ _ (h.xx x hx).1,q3 _ _ (h.xx x hx).2⟩,q3 _ _ h.rr,h.sp,h.ov,h.rd⟩
set_option maxHeartbeats 4000000 in
set_option maxRecDepth 100000 in
theorem iD (h:TI W0 w tb img nv tv fv sv ns s R (V0 (.slice none 0 0)) (.slice none 0 0) []) (hw:R.words=[]) (hh0:0<=R.heap) (hh4:R.heap<=4000) (ht:ai W0 0 tv c.ls) (hl:c.ls.length<=10000) (h5:∀ t,(flds c.ls t).length<=5) :
 Calls Tryz.prog 29 #[.pointer tb] w fun ex w'=>ex=.returned (.tuple #[])/\∃ wv rv',TI W0 w' tb img nv tv fv sv ns (iU c ns R.heap s).2 { R with words:=(iU c ns R.heap s).1 } (V0 wv) rv' (cD c.ls 0 (iU c ns R.heap s).1):=by
 obtain ⟨ta,tc,htv⟩:=ht.slice
 subst htv
 obtain ⟨K,hK⟩:∃ a,tk ns 0 R.heap s=a:=⟨_,rfl⟩
 have hKr:=dG ns 0 R.heap s (by decide) hh0
 rw [hK] at hKr
 obtain ⟨n,hn⟩:∃ n:Nat,K.1=(n:Int):=⟨K.1.toNat,by omega⟩
 obtain ⟨L,hL⟩:∃ a,tkL ns 65535 n K.2=a:=⟨_,rfl⟩
 have hLl:L.1.length=n:=by rw [<-hL];exact di _ _ _ _
 obtain ⟨RS,hRS⟩:∃ a,cD c.ls 0 L.1=a:=⟨_,rfl⟩
 obtain ⟨T,hT⟩:∃ a,twP c.ls L.1 RS L.1.length (0,false)=a:=⟨_,rfl⟩
 have eT:iU c ns R.heap s=(L.1,(L.2.1,L.2.2 || T.2)):=by
  unfold iU;simp only;rw [hK,hn,Int.toNat_natCast,hL,hRS,hT]
 rw [eT]
 simp only
 rw [hRS]
 have hn4:n<=4000:=by omega
 have H:=hid h
 have HK:=hid hK
 have HN:=hid hn
 have HL:=hid hL
 have HLL:=hid hLl
 have HRS:=hid hRS
 have HT:=hid hT
 have HTY:=hid ht
 have H5:=hid h5
 have HW:=hid hw
 obtain ⟨x7,_,_,_,_,_,_,_,_⟩:=h.at
 clear h hK hL hLl hRS hT ht h5 eT hn hw hKr
 go_enter Tryz.func29,Tryz.ntmps29
 go_wp2
 go_region_with (go_at_call 45;refine ((H.out.new ((Chg.refl _ w).drew)).take 0 R.heap).mono ?_;rw [HK.out];rintro ex w1 ⟨rfl,hT1,_⟩)
 rw [HN.out]
 have H1:=hid hT1
 clear hT1 x7 H HK
 go_wp2
 go_loopw [3] (fun iv wr=>∃ (k:Nat) (wv:Value),k<=n/\iv=.int .i64 (k:Int)/\TI W0 wr tb img nv (.slice ta c.ls.length tc) fv sv ns (tkL ns 65535 k K.2).2 { R with words:=(tkL ns 65535 k K.2).1 } (V0 wv) (.slice none 0 0) []) (fun iv _=>n - (intOf iv).toNat)
 case atStart =>
  refine ⟨0,.slice none 0 0,Nat.zero_le _,rfl,?_⟩
  have e:({ R with words:=(tkL ns 65535 0 K.2).1 }:Rn)=R:=by
   show ({ R with words:=[] }:Rn)=R
   rw [<-HW.out]
  rw [e]
  exact H1.out
 case round =>
  obtain ⟨k,wv,hk,rfl,hT⟩:=hrel
  clear H1 HW
  by_cases hlt:k < n
  ·have hlt':(k:Int) < (n:Int):=by omega
   obtain ⟨S,hS⟩:∃ a,tkL ns 65535 k K.2=a:=⟨_,rfl⟩
   have hSl:S.1.length=k:=by rw [<-hS];exact di _ _ _ _
   rw [hS] at hT
   have HS:Hid (tkL ns 65535 (k+1) K.2=(S.1++[(tk ns 0 65535 S.2).1],(tk ns 0 65535 S.2).2)):=by
    show tkL ns 65535 (k+1) K.2=_
    rw [tkL,hS]
   have HT0:=hid hT
   have HSL:=hid hSl
   clear hT hS hSl
   go_wp2_with fail
   refine (HT0.out.take 0 65535).mono ?_
   generalize tk ns 0 65535 S.2=r at *
   rintro ex w2 ⟨rfl,hT2,_⟩
   have hww:ad w2 W0.heap.size wv S.1:=hT2.ww
   obtain ⟨wa,wc,hwv⟩:=hww.slice
   subst hwv
   have x10:w2.cell? ⟨tb,10,none⟩=some (.slice wa S.1.length wc):=hT2.bx.cell 10
   have hlt2:=hT2.bx.lt
   have j1:Chg () w2 (w2.alloc (Obj.cells #[r.1] 3)):=(Chg.refl _ w2).alloc _
   have HT2:=hid (hT2.new j1)
   have hbs:=HT2.out.base
   have hsl:S.1.length<=4000:=by rw [HSL.out];omega
   clear hT2 hww HT0
   go_wp2_with (at_builtin;refine bI rfl _ _ rfl W0.heap.size (.slice wa S.1.length wc) (.slice w2.heap.size 1 1) S.1 [r.1] rfl rfl ?h1 ?h2 ?h3 ?h4 ?_)
   case h1=>exact HT2.out.ww
   case h2=>exact bK [r.1] 1 rfl (by unfold maxLen;omega)
   case h3=>simp;omega
   case h4=>exact hbs
   intro a4 n4 c4 w4 hn4' hI4 hch4 hl4
   obtain ⟨hbk,g5⟩:=HT2.out.grow rfl rfl hI4 hch4
   have f10:=hbk.frozen 10
   have x104:w4.cell? ⟨tb,10,none⟩=some (.slice wa S.1.length wc):=hbk.cell 10
   have G5:=hid g5
   clear hn4' hI4 hch4 hl4 hbk g5 x10 HT2 j1 hlt2
   go_wp2
   exact ⟨⟨k+1,_,by omega,by simp,by rw [HS.out];exact G5.out⟩,by simp [intOf];omega⟩
  ·have hkk:k=n:=by omega
   have hlt':(n:Int)<=(k:Int):=by omega
   rw [hkk,HL.out] at hT
   have hww:ad wr W0.heap.size wv L.1:=hT.ww
   obtain ⟨wa,wc,hwv⟩:=hww.slice
   subst hwv
   have x4:wr.cell? ⟨tb,4,none⟩=some (.slice ta c.ls.length tc):=hT.bx.cell 4
   have x10:wr.cell? ⟨tb,10,none⟩=some (.slice wa L.1.length wc):=hT.bx.cell 10
   have HT1:=hid hT
   have HTD:Hid (TI W0 wr.drew tb img nv (.slice ta c.ls.length tc) fv sv ns L.2 { R with words:=L.1 } (V0 (.slice wa L.1.length wc)) (.slice none 0 0) []):=hT.new ((Chg.refl _ wr).drew)
   have HWD:Hid (ad wr.drew 0 (.slice wa L.1.length wc) L.1):=am HTD.out.ww (Nat.zero_le _)
   have HTYD:Hid (ai wr.drew 0 (.slice ta c.ls.length tc) c.ls):=HTY.out.chg HTD.out.ch (fun _ _ _ q=>q) (fun _ _ _ q=>q)
   have hl4:L.1.length<=4000:=by rw [HLL.out];exact hn4
   clear hT hww hkk
   go_wp2_with fail
   rename_i K6 aK6
   apply fx (K:=K6) (C:=fun W ua uc=>TI W0 W tb img nv (.slice ta c.ls.length tc) fv sv ns L.2 { R with words:=L.1 } (V0 (.slice wa L.1.length wc)) (.slice ua RS.length uc) RS)
   case h2 =>
    intro key
    go_region_with (go_at_call 46;refine (iF _ c.ls wa wc L.1 _ HTYD.out HWD.out hl H5.out hl4).mono ?_;rw [HRS.out];rintro ex w2 ⟨u,rfl,hu,k2⟩;obtain ⟨ua,uc,rfl⟩:=hu.slice;have H2:Hid (TI W0 w2 tb img nv (.slice ta c.ls.length tc) fv sv ns L.2 { R with words:=L.1 } (V0 (.slice wa L.1.length wc)) (.slice none 0 0) []):=HTD.out.new k2;have x19:w2.cell? ⟨tb,19,none⟩=some (.slice none 0 0):=H2.out.bx.cell 19;have f19:=H2.out.bx.frozen 19)
    all_goals
     have H3:=H2.out.recs (am hu HTD.out.base)
     generalize w2.setCell ⟨tb,19,none⟩ (.slice ua RS.length uc)=W at H3 ⊢
     exact key W ua uc H3
   case h1 =>
    intro W ua uc hT3
    clear HTD HWD HTYD x4 x10 HT1
    have x10:W.cell? ⟨tb,10,none⟩=some (.slice wa L.1.length wc):=hT3.bx.cell 10
    have kA:Chg () W (W.alloc (Obj.cells #[.slice wa L.1.length wc,oO,.bool false] 95)):=(Chg.refl _ W).alloc _
    have HRG:Hid (RG W (W.alloc (Obj.cells #[.slice wa L.1.length wc,oO,.bool false] 95)) W.heap.size #[.slice wa L.1.length wc,oO,.bool false] 95 (.slice wa L.1.length wc) L.1 (0,false)):=⟨kA,Nat.le_refl _,Blk.new W _ 95,rfl,rfl,rfl,(show ad W W0.heap.size (.slice wa L.1.length wc) L.1 from hT3.ww).rdA⟩
    have HT3:=hid (hT3.new kA)
    have hb0:W0.heap.size<=W.heap.size:=hT3.base
    clear hT3 kA
    go_wp2
    clear x10
    generalize W.alloc (Obj.cells #[.slice wa L.1.length wc,oO,.bool false] 95)=WA at *
    generalize hab:W.heap.size=ab at *
    go_loopw [6] (fun _ wr=>∃ (m:Nat) (s2:Nat × Bool),RG W wr ab (rgS #[.slice wa L.1.length wc,.int .i64 0,.bool false] s2) 95 (.slice wa L.1.length wc) L.1 s2/\TI W0 wr tb img nv (.slice ta c.ls.length tc) fv sv ns L.2 { R with words:=L.1 } (V0 (.slice wa L.1.length wc)) (.slice ua RS.length uc) RS/\twP c.ls L.1 RS m s2=T/\(s2.2=true \/ L.1.length<=m+s2.1)) (fun _ wr=>msr n ab wr)
    case atStart=>exact ⟨L.1.length,(0,false),HRG.out,HT3.out,HT.out,.inr (Nat.le_refl _)⟩
    case round =>
     obtain ⟨m,s2,hG,hT3,hE,hm⟩:=hrel
     clear HRG HT3 HT
     have HRG:=hid hG
     have HT3:=hid hT3
     have HE:=hid hE
     have z1:wr.cell? ⟨ab,1,none⟩=some (.int .i64 (s2.1:Int)):=(hG.bx.cell 1).trans hG.c1
     have z2:wr.cell? ⟨ab,2,none⟩=some (.bool s2.2):=(hG.bx.cell 2).trans hG.c2
     clear hG hT3 hE
     by_cases hat:s2.1 < n
     ·have hat':(s2.1:Int) < (n:Int):=by omega
      by_cases hst:s2.2=true
      ·have HST:=hid hst
       rw [hst] at z2
       clear hst hm
       have HE1:Hid (s2=T):=by
        show s2=T
        rw [<-HE.out,lg (by rw [HLL.out];rw [HST.out];simp)]
       clear HE
       have H9:Hid (TI W0 _ tb img nv (.slice ta c.ls.length tc) fv sv ns (L.2.1,true) _ (V0 (.slice wa L.1.length wc)) (.slice ua RS.length uc) RS):=HT3.out.stop
       obtain ⟨_,_,_,y2,_,_,_,_,q2⟩:=HT3.out.at
       go_wp2
       refine bodyPost_end (v:=.tuple #[]) (by simp [results,Tryz.results29]) rfl ⟨rfl,.slice wa L.1.length wc,.slice ua RS.length uc,?_⟩
       rw [<-HE1.out,HST.out,Bool.or_true]
       exact H9.out
      ·have hst':s2.2=false:=by simpa using hst
       have HST:=hid hst'
       rw [hst'] at z2
       obtain ⟨m',rfl⟩:∃ m',m=m'+1:=by
        rcases hm with q | q
        ·exact absurd q hst
        ·have:=HLL.out;exact ⟨m - 1,by omega⟩
       have hm':L.1.length<=m'+1+s2.1:=by
        rcases hm with q | q
        ·exact absurd q hst
        ·exact q
       have HE2:Hid (twP c.ls L.1 RS m' (tvP L.1 RS (flds c.ls (tk L.1 1 c.ls.length s2).1) (tk L.1 1 c.ls.length s2).2).2=T):=by
        show _=T
        rw [<-HE.out,ux ⟨by rw [HLL.out];exact hat,hst'⟩]
       have HMS:Hid (msr n ab wr=n+1 - s2.1):=by
        show msr n ab wr=_
        rw [qe ((HRG.out.bx.cell 1).trans HRG.out.c1) ((HRG.out.bx.cell 2).trans HRG.out.c2),if_neg hst]
       have hp1:=px (ns:=L.1) (lo:=1) (hi:=c.ls.length) (s:=s2)
       have HP1:Hid _:=hp1
       have x4:wr.cell? ⟨tb,4,none⟩=some (.slice ta c.ls.length tc):=HT3.out.bx.cell 4
       clear HE hst hst' hm hp1
       go_wp2_with fail
       refine (kJ HRG.out 1 c.ls.length).mono ?_
       rintro ex w4 ⟨rfl,hG4,k4⟩
       rw [eN] at hG4
       have hT4:=HT3.out.side HRG.out.bx (by decide) (by decide) (by decide) (by rw [<-hab] at *;exact hb0) k4
       generalize tk L.1 1 c.ls.length s2=r at *
       have HG4:Hid (RG W w4.drew ab (rgS #[.slice wa L.1.length wc,.int .i64 0,.bool false] r.2) 95 (.slice wa L.1.length wc) L.1 r.2):=hG4.new ((Chg.refl _ w4).drew)
       have HT4:Hid (TI W0 w4.drew tb img nv (.slice ta c.ls.length tc) fv sv ns L.2 { R with words:=L.1 } (V0 (.slice wa L.1.length wc)) (.slice ua RS.length uc) RS):=hT4.new ((Chg.refl _ w4).drew)
       have HTY4:Hid (ai w4.drew 0 (.slice ta c.ls.length tc) c.ls):=HTY.out.chg HT4.out.ch (fun _ _ _ q=>q) (fun _ _ _ q=>q)
       have HR4:Hid (ad w4.drew 0 (.slice ua RS.length uc) RS):=am HT4.out.rr (Nat.zero_le _)
       have y4:w4.cell? ⟨tb,4,none⟩=some (.slice ta c.ls.length tc):=hT4.bx.cell 4
       have y19:w4.cell? ⟨tb,19,none⟩=some (.slice ua RS.length uc):=hT4.bx.cell 19
       have h55:=H5.out r.1
       clear x4 z1 z2 hG4 hT4 k4 HRG HT3
       go_wp2
       go_region_with (first
        | (go_at_call 48;refine (bO _ c.ls r.1 _ 0 HTY4.out hl).mono ?_;rintro ex w5 ⟨u,rfl,hu,hw5⟩;have hw5:=hw5.symm;subst hw5;obtain ⟨fa,fc,rfl⟩:=hu.slice;have HU:Hid (ad w4.drew 0 (.slice fa (flds c.ls r.1).length fc) (flds c.ls r.1)):=hu;clear hu)
        | (go_at_call 47;refine (aQ HG4.out (by decide) fa ua fc uc (flds c.ls r.1) RS HU.out HR4.out (by omega)).mono ?_;rintro ex w6 ⟨u6',rfl,hu6,hG6,k6⟩;obtain ⟨xa,xc,rfl⟩:=hu6.slice))
       all_goals
        rw [eN] at hG6
        have hT6:=HT4.out.side HG4.out.bx (by decide) (by decide) (by decide) (by rw [<-hab] at *;exact hb0) k6
        have hp2:=sS (ns:=L.1) (recs:=RS) (flds c.ls r.1) r.2
        generalize tvP L.1 RS (flds c.ls r.1) r.2=t at *
        have hms:msr n ab w6=if t.2.2=true then 0 else n+1 - t.2.1:=qe ((hG6.bx.cell 1).trans hG6.c1) ((hG6.bx.cell 2).trans hG6.c2)
        have HFIN:Hid (RG W w6 ab (rgS #[.slice wa L.1.length wc,.int .i64 0,.bool false] t.2) 95 (.slice wa L.1.length wc) L.1 t.2/\TI W0 w6 tb img nv (.slice ta c.ls.length tc) fv sv ns L.2 { R with words:=L.1 } (V0 (.slice wa L.1.length wc)) (.slice ua RS.length uc) RS/\twP c.ls L.1 RS m' t.2=T/\(t.2.2=true \/ L.1.length<=m'+t.2.1)):=by
         refine ⟨hG6,hT6,HE2.out,?_⟩
         by_cases q:t.2.2=true
         ·exact .inl q
         ·have q1:=hp2.2 (by simpa using q)
          have q2:=(HP1.out.2 q1).1
          have q3:=hp2.1
          exact .inr (by omega)
        have HMS2:Hid (msr n ab w6 < msr n ab wr):=by
         show msr n ab w6 < msr n ab wr
         rw [hms,HMS.out]
         split
         ·omega
         ·rename_i q
          have q1:=hp2.2 (by simpa using q)
          have q2:=(HP1.out.2 q1).1
          have q3:=hp2.1
          omega
        clear hG6 hT6 hp2 hms k6 hu6
        go_wp2
        exact ⟨⟨m',t.2,HFIN.out⟩,HMS2.out⟩
     ·have hat':(n:Int)<=(s2.1:Int):=by omega
      by_cases hst:s2.2=true
      ·have HST:=hid hst
       rw [hst] at z2
       clear hst hm
       have HE1:Hid (s2=T):=by
        show s2=T
        rw [<-HE.out,lg (by rw [HLL.out];omega)]
       clear HE
       have H9:Hid (TI W0 _ tb img nv (.slice ta c.ls.length tc) fv sv ns (L.2.1,true) _ (V0 (.slice wa L.1.length wc)) (.slice ua RS.length uc) RS):=HT3.out.stop
       obtain ⟨_,_,_,y2,_,_,_,_,q2⟩:=HT3.out.at
       go_wp2
       refine bodyPost_end (v:=.tuple #[]) (by simp [results,Tryz.results29]) rfl ⟨rfl,.slice wa L.1.length wc,.slice ua RS.length uc,?_⟩
       rw [<-HE1.out,HST.out,Bool.or_true]
       exact H9.out
      ·have hst':s2.2=false:=by simpa using hst
       have HST:=hid hst'
       rw [hst'] at z2
       clear hst hst' hm
       have HE1:Hid (s2=T):=by
        show s2=T
        rw [<-HE.out,lg (by rw [HLL.out];omega)]
       clear HE
       go_wp2
       refine bodyPost_end (v:=.tuple #[]) (by simp [results,Tryz.results29]) rfl ⟨rfl,.slice wa L.1.length wc,.slice ua RS.length uc,?_⟩
       rw [<-HE1.out,HST.out,Bool.or_false]
       exact HT3.out
end
end Go.Proofs.YtnfnbcbadakofaaGreat
