import Derived.Test.YtnfnbcbadakofaaGreatRspr
import Derived.Test.YtnfnbcbadakofaaGreatSame
import Derived.Deep.OwnRows
import Derived.Laws.MakeOwn
namespace Go.Proofs.YtnfnbcbadakofaaGreat
open Go.RowKit
def kO (ls:List (List Int)) (fs:List Fn) (f:Fn) (x:Int × Int × Int):Prop:=
 0<=x.1/\x.1<=18/\OkI ls fs f x.1 x.2.1 x.2.2/\(ak ls fs f x.1 x.2.1 x.2.2).length<=10000/\(ag ls fs f x.1 x.2.1 x.2.2).length<=10000/\(x.1=13 \/ x.1=14->0<=x.2.1)
def fd (w0 w':World) (b0 sb gh go ch co:Nat) (b:Bool) (RR:Option aC):Prop:=
 Chg () w0 w'/\(RR=none->b=false)/\∀ sp,RR=some sp->b=true/\∃ xs',xs'.map (·.1)=sp/\SS w0 w' b0 sb gh go ch co xs'/\∀ x ∈ xs',∀ l,x.1=some l->l.length<=10000
theorem fd.no {w0 w':World} {b0 sb gh go ch co:Nat} {RR:Option aC} (k:Chg () w0 w') (h:RR=none):fd w0 w' b0 sb gh go ch co false RR:=
 ⟨k,fun _=>rfl,fun sp e=>by rw [h] at e;cases e⟩
theorem il {ls:List (List Int)} {fs:List Fn} {f:Fn} {op A B:Int} {s t:List Int} (h:cf ls fs f op A B s=some t):t.length<=8:=by
 unfold cf at h
 split at h
 ·cases h
 ·split at h
  ·cases h
  ·split at h
   ·cases h
   ·simp only [Option.some.injEq] at h;rw [<-h];omega
theorem nQ {n:Nat} {aft:Nat->List Int->Option (List Int)} {wy:Nat->List Int} {i:Nat} {sp:aC} {RR:Option aC} (hi:i < n) (h:rnd n aft wy (n - i) i sp=RR) :
 (sp.getD i none=none->rnd n aft wy (n - (i+1)) (i+1) sp=RR)/\∀ s,sp.getD i none=some s->(aft i s=none->RR=none)/\∀ t,aft i s=some t->(put n t sp (wy i)=none->RR=none)/\∀ sp',put n t sp (wy i)=some sp'->rnd n aft wy (n - (i+1)) (i+1) sp'=RR:=by
 have e:n - i=(n - (i+1))+1:=by omega
 rw [e] at h
 unfold rnd at h
 refine ⟨fun hg=>by rw [hg] at h;exact h,fun s hg=>?_⟩
 rw [hg] at h
 refine ⟨fun ha=>by simp only [ha] at h;exact h.symm,fun t ha=>?_⟩
 simp only [ha] at h
 exact ⟨fun hp=>by simp only [hp] at h;exact h.symm,fun sp' hp=>by simp only [hp] at h;exact h⟩
theorem SS.cells {w0 w:World} {b0 sb gh go ch co:Nat} {xs:List (Option (List Int) × Value)} (h:SS w0 w b0 sb gh go ch co xs) (j:Nat) (hj:j < xs.length) :
 w.cell? ⟨gh,j,none⟩=some (.bool xs[j].1.isSome)/\w.cell? ⟨go,j,none⟩=some xs[j].2/\w.frozen? ⟨gh,j,none⟩=false/\w.frozen? ⟨go,j,none⟩=false:=by
 have hadd:∀ g j,(⟨g,0,none⟩:Addr).add j=⟨g,j,none⟩:=by intro g j;unfold Addr.add;split <;> simp_all
 obtain ⟨c1,hg⟩:=bE h.has
 obtain ⟨c2,ho⟩:=bE h.of
 have a1:=World.ownsRow.cells (g:=gh) h.has rfl j (.bool xs[j].1.isSome) (by rw [List.getElem?_map,List.getElem?_eq_getElem hj];rfl)
 have a2:=World.ownsRow.cells (g:=go) h.of rfl j xs[j].2 (by rw [List.getElem?_map,List.getElem?_eq_getElem hj];rfl)
 rw [hadd] at a1 a2
 exact ⟨a1,a2,hg.frozen j,ho.frozen j⟩
theorem j8 {w0 W w1:World} {b0 sb gh go ch co bx gk i:Nat} {xs:List (Option (List Int) × Value)} {tv fv op A B u:Value} (h:SS w0 W b0 sb gh go ch co xs) (bb:Blk W bx #[tv,fv] 43) (k:Chg () W w1) (c0:W.cell? ⟨gk,i * 3,none⟩=some op) (c1:W.cell? ⟨gk,i * 3+1,none⟩=some A) (c2:W.cell? ⟨gk,i * 3+2,none⟩=some B) (d:W.cell? ⟨go,i,none⟩=some u) :
 w1.cell? ⟨bx,0,none⟩=some tv/\w1.cell? ⟨bx,1,none⟩=some fv/\w1.cell? ⟨gk,i * 3,none⟩=some op/\w1.cell? ⟨gk,i * 3+1,none⟩=some A/\w1.cell? ⟨gk,i * 3+2,none⟩=some B/\w1.cell? ⟨sb,1,none⟩=some (.slice go xs.length co)/\w1.cell? ⟨go,i,none⟩=some u:=
 have lift:∀ (a:Addr) v,W.cell? a=some v->w1.cell? a=some v:=fun a _v h'=>(World.cell?_of_block (k.block a.block (World.block_lt_of_cell? W a h') (fun e=>e))).trans h'
 ⟨(bb.chg k (fun e=>e)).cell 0,(bb.chg k (fun e=>e)).cell 1,lift _ _ c0,lift _ _ c1,lift _ _ c2,(h.box.chg k (fun e=>e)).cell 1,lift _ _ d⟩
theorem ql {n:Nat} {t:List Int} {Wl:List Int} {k:Nat} {sp:aC} {PR:Option aC} (hk:k < Wl.length) (h:put n t sp (Wl.drop k)=PR) :
 ((n:Int)<=Wl.getD k 0->PR=none)/\(¬ (n:Int)<=Wl.getD k 0->(sp.getD (Wl.getD k 0).toNat none=none->put n t (sp.set (Wl.getD k 0).toNat (some t)) (Wl.drop (k+1))=PR) /\
   ∀ u,sp.getD (Wl.getD k 0).toNat none=some u->((u == t)=false->PR=none)/\((u == t)=true->put n t (sp.set (Wl.getD k 0).toNat (some t)) (Wl.drop (k+1))=PR)):=by
 have e:Wl.drop k=Wl.getD k 0::Wl.drop (k+1):=by
  rw [List.drop_eq_getElem_cons hk,List.getD_eq_getElem?_getD,List.getElem?_eq_getElem hk];rfl
 rw [e] at h
 generalize Wl.getD k 0=x at *
 unfold put at h
 refine ⟨fun hx=>by rw [if_pos hx] at h;exact h.symm,fun hx=>?_⟩
 rw [if_neg hx] at h
 refine ⟨fun hg=>by rw [hg] at h;exact h,fun u hg=>⟨fun hu=>?_,fun hu=>?_⟩⟩
 ·rw [hg] at h;simp only [hu] at h;simpa using h.symm
 ·rw [hg] at h;simp only [hu,if_true] at h;exact h
theorem gP (w:World) (a b:Addr) (v u:Value):(w.drew.setCell a v).drew.setCell b u=((w.setCell a v).setCell b u).drew.drew:=rfl
theorem oS {op A:Int} {i:Nat} (h:op=13 \/ op=14->0<=A):(∀ k ∈ bU op A i,0<=k)/\(bU op A i).length<=2:=by
 unfold bU
 repeat' split
 all_goals (refine ⟨fun k hk=>?_,by simp⟩;simp at hk)
 all_goals first | omega | (have:=h (by omega);omega) | (rcases hk with hk | hk <;> (have:=h (by omega);omega))
theorem SS.getD {w0 w:World} {b0 sb gh go ch co:Nat} {xs:List (Option (List Int) × Value)} (_:SS w0 w b0 sb gh go ch co xs) (j:Nat) (hj:j < xs.length):(xs.map (·.1)).getD j none=xs[j].1:=by
 rw [List.getD_eq_getElem?_getD,List.getElem?_map,List.getElem?_eq_getElem hj];rfl
set_option maxHeartbeats 2000000 in
set_option maxRecDepth 100000 in
theorem j9 (w0 w:World) (b0 sb gh go ch co:Nat) (xs:List (Option (List Int) × Value)) (h:SS w0 w b0 sb gh go ch co xs) (ta fa:Option Addr) (tc fc:Nat) (ls:List (List Int)) (fs:List Fn) (fi:Nat) (hfi:fi < fs.length) (hb0:b0<=w0.heap.size)
 (ht:ai w0 b0 (.slice ta ls.length tc) ls) (hf:aj 93 107 w0 b0 (.slice fa fs.length fc) fs) (hn:ls.length<=10000) (f:Fn) (hF:f=fs[fi]) (hxl:xs.length=f.code.length) (hcl:0 < f.code.length) (hcl2:f.code.length<=10000) (hargs:∀ f ∈ fs,0<=f.args/\f.args<=(f.locals.length:Int))
 (hok:∀ j (hj:j < f.code.length),kO ls fs f f.code[j]) (hsx:∀ x ∈ xs,∀ l,x.1=some l->l.length<=10000) (RR:Option aC) (HR:Hid (rnd f.code.length (cZ ls fs f) (cU f) f.code.length 0 (xs.map (·.1))=RR)) :
 Calls Tryz.prog 44 #[.pointer sb,.agg #[.slice ta ls.length tc,.slice fa fs.length fc],fi] w fun e w'=>∃ b,e=.returned (.bool b)/\fd w0 w' b0 sb gh go ch co b RR:=by
 have kb:Chg () w (w.alloc (Obj.cells #[.slice ta ls.length tc,.slice fa fs.length fc] 43)):=(Chg.refl () w).alloc _
 have bx:Blk (w.alloc (Obj.cells #[.slice ta ls.length tc,.slice fa fs.length fc] 43)) w.heap.size #[.slice ta ls.length tc,.slice fa fs.length fc] 43:=Blk.new' rfl _ 43
 have k0:=h.ch.trans kb
 obtain ⟨g,cap,hv,_,hcells⟩:=(hf.chg k0 (fun _ _ _ e=>e) (fun _ _ _ e=>e) (fun _ _ _ e=>e)).formS (by omega)
 simp only [Value.slice.injEq] at hv
 obtain ⟨rfl,_,rfl⟩:=hv
 obtain ⟨lv,cv,_,_,_,cc3,_,hci⟩:=hcells fi hfi
 rw [<-hF] at hci
 obtain ⟨gk,kc,rfl,_,_,_,hcode⟩:=hci.form hcl
 clear hcells
 have hSW:=h.new kb
 have hfi':(fi:Int) < (fs.length:Int):=by omega
 have HOK:=hid hok
 have HARG:=hid hargs
 have HF:=hid hF
 have HSX:=hid hsx
 have HXL:=hid hxl
 clear hok hargs hF hsx hxl
 go_enter Tryz.func44,Tryz.ntmps44
 go_wp2_with fail
 generalize hbx:w.heap.size=bxn at *
 generalize (w.alloc (Obj.cells #[.slice ta ls.length tc,.slice g fs.length fc] 43))=W at *
 have hcodeW:=hid hcode
 have HCI:=hid hci
 clear hcode cc3 hci kb h hbx
 go_loopw [8] (fun iv wr=>∃ (i:Nat) (ys:List (Option (List Int) × Value)),i<=f.code.length/\iv=.int .i64 i/\SS w0 wr b0 sb gh go ch co ys/\Blk wr bxn #[.slice ta ls.length tc,.slice g fs.length fc] 43/\bG 107 wr b0 (.slice gk f.code.length kc) f.code/\ys.length=f.code.length/\(∀ x ∈ ys,∀ l,x.1=some l->l.length<=10000)/\rnd f.code.length (cZ ls fs f) (cU f) (f.code.length - i) i (ys.map (·.1))=RR) (fun iv _=>f.code.length - (intOf iv).toNat)
 case atStart=>exact ⟨0,xs,Nat.zero_le _,rfl,hSW,bx,HCI.out,HXL.out,HSX.out,HR.out⟩
 case round =>
  obtain ⟨i,ys,hi,rfl,hS,hB,hI,hyl,hys,hrn⟩:=hrel
  have HRN:=hid hrn
  have HYS:=hid hys
  have HYL:=hid hyl
  clear hrn hys hyl hcodeW HCI HR HSX HXL bx hSW k0
  by_cases hlt:i < f.code.length
  ·have hlt':(i:Int) < (f.code.length:Int):=by omega
   have hiy:i < ys.length:=by rw [HYL.out];exact hlt
   have hiy':(i:Int) < (ys.length:Int):=by omega
   obtain ⟨d1,d2,_,_⟩:=hS.cells i hiy
   have e0:wr.cell? ⟨sb,0,none⟩=some (.slice gh ys.length ch):=hS.box.cell 0
   have e1:wr.cell? ⟨sb,1,none⟩=some (.slice go ys.length co):=hS.box.cell 1
   have hgd:(ys.map (·.1)).getD i none=ys[i].1:=by rw [List.getD_eq_getElem?_getD,List.getElem?_map,List.getElem?_eq_getElem hiy];rfl
   obtain ⟨st1,st2⟩:=nQ hlt HRN.out
   rw [hgd] at st1 st2
   rcases hx:ys[i].1 with _ | s
   ·have HN:Hid _:=st1 hx
    rw [hx] at d1
    clear st1 st2 hgd hx
    go_wp2
    exact ⟨⟨i+1,ys,by omega,rfl,hS,hB,hI,HYL.out,HYS.out,HN.out⟩,by simp [intOf];omega⟩
   ·have hst:=hS.stk ys[i] (List.getElem_mem hiy) s hx
    have hsl:=HYS.out ys[i] (List.getElem_mem hiy) s hx
    have HN:Hid _:=st2 s hx
    rw [hx] at d1
    clear st1 st2 hgd hx
    generalize ys[i].2=sval at *
    obtain ⟨sa,sc,rfl⟩:=hst.slice
    obtain ⟨o0,o1,o2,o3,o4,o5⟩:=HOK.out i hlt
    obtain ⟨gk',kc',hv',_,_,_,hco⟩:=hI.form hcl
    simp only [Value.slice.injEq,Option.some.injEq,Addr.mk.injEq] at hv'
    obtain ⟨⟨rfl,_,_⟩,_,rfl⟩:=hv'
    obtain ⟨n0,n1,n2⟩:=hco i hlt
    clear hco
    have hgc:f.code.getD i (0,0,0)=f.code[i]:=by rw [List.getD_eq_getElem?_getD,List.getElem?_eq_getElem hlt];rfl
    have HN2:Hid ((cf ls fs f f.code[i].1 f.code[i].2.1 f.code[i].2.2 s=none->RR=none)/\∀ t,cf ls fs f f.code[i].1 f.code[i].2.1 f.code[i].2.2 s=some t->(put f.code.length t (ys.map (·.1)) (bU f.code[i].1 f.code[i].2.1 i)=none->RR=none)/\∀ sp',put f.code.length t (ys.map (·.1)) (bU f.code[i].1 f.code[i].2.1 i)=some sp'->rnd f.code.length (cZ ls fs f) (cU f) (f.code.length - (i+1)) (i+1) sp'=RR):=by
     have:=HN.out
     unfold cZ cU at this
     rw [hgc] at this
     exact this
    clear HN hgc HRN
    obtain ⟨⟨op,A,B⟩,hxe⟩:∃ x,x=f.code[i]:=⟨_,rfl⟩
    rw [<-hxe] at o0 o1 o2 o3 o4 o5 n0 n1 n2 HN2
    simp only at o0 o1 o2 o3 o4 o5 n0 n1 n2 HN2
    clear hxe
    have b0':wr.cell? ⟨bxn,0,none⟩=some (.slice ta ls.length tc):=hB.cell 0
    have b1':wr.cell? ⟨bxn,1,none⟩=some (.slice g fs.length fc):=hB.cell 1
    have kD:Chg () w0 wr.drew:=hS.ch.drew
    generalize hRe:cf ls fs f op A B s=R at *
    have HRE:=hid hRe
    clear hRe
    have HAF:Hid (Calls Tryz.prog 73 #[.agg #[.slice ta ls.length tc,.slice g fs.length fc],fi,.agg #[op,A,B],.slice sa s.length sc] wr.drew fun e w' =>
     ∃ v b,e=.returned (.tuple #[v,.bool b])/\bj wr.drew w' b0 v b R):=by
     have hFo:=HF.out
     subst hFo
     exact lj _ _ sa tc fc sc ls fs fi hfi op A B s wr.drew b0 (Nat.le_trans hb0 kD.size) (ht.new kD) (hf.chg kD (fun _ _ _ e=>e) (fun _ _ _ e=>e) (fun _ _ _ e=>e)) (aA hst) hsl o3 o4 hn o0 o1 o2 HARG.out R HRE
    clear o2 o3 o4 kD
    have HO5:=hid o5
    clear o5
    go_wp2_with fail
    go_region_held3 (fun w'=>w'.cell? ⟨bxn,0,none⟩=some (.slice ta ls.length tc)/\w'.cell? ⟨bxn,1,none⟩=some (.slice g fs.length fc)/\w'.cell? ⟨gk,i * 3,none⟩=some (.int .i64 op)/\w'.cell? ⟨gk,i * 3+1,none⟩=some (.int .i64 A)/\w'.cell? ⟨gk,i * 3+2,none⟩=some (.int .i64 B)/\w'.cell? ⟨sb,1,none⟩=some (.slice go ys.length co)/\w'.cell? ⟨go,i,none⟩=some (.slice sa s.length sc)) (go_keep) (first | (go_at_call 73;refine (Calls.mono HAF.out ?_);rintro e w1 ⟨av,ab,rfl,haf⟩;obtain ⟨q0,q1,q2,q3,q4,q5,q6⟩:=j8 (hS.new ((Chg.refl _ wr).drew)) hB.drew haf.1 n0 n1 n2 d2))
    clear d1 d2 e0 e1 n0 n1 n2 b0' b1' q0 q1 q5 q6 HAF
    have kW:Chg () wr w1:=((Chg.refl _ wr).drew).trans haf.1
    have hS1:=hS.new kW
    have hB1:=hB.chg kW (fun e=>e)
    have hI1:bG 107 w1 b0 (.slice gk f.code.length kc) f.code:=hI.chg kW (fun _ _ _ e=>e)
    obtain ⟨_,⟨va,vn,vc,rfl⟩,haf0,haf1⟩:=haf
    clear hS hB hI hst kW
    rcases R with _ | t
    ·have hab:=haf0 rfl
     subst hab
     have HRR:Hid (RR=none):=HN2.out.1 rfl
     clear haf0 haf1 HN2
     go_wp2
     go_ret
     exact ⟨false,rfl,fd.no hS1.ch HRR.out⟩
    ·obtain ⟨hab,hvt⟩:=haf1 t rfl
     subst hab
     have HN3:Hid _:=HN2.out.2 t rfl
     clear haf0 haf1 HN2
     go_wp2_with fail
     refine (oQ op A B i _ b0 (Nat.le_trans hb0 hS1.ch.size) (by omega)).mono ?_
     rintro e w2 ⟨wv,rfl,hwv,hch2⟩
     have hS2:=hS1.new hch2
     have hB2:=hB1.chg hch2 (fun e=>e)
     have hI2:bG 107 w2 b0 (.slice gk f.code.length kc) f.code:=hI1.chg hch2 (fun _ _ _ e=>e)
     have hv2:ad w2 b0 (.slice va vn vc) t:=ad.chg hvt hch2 (fun _ _ _ e=>e)
     obtain ⟨wa,wc,rfl⟩:=hwv.slice
     have HTL:Hid (t.length<=8):=il HRE.out
     have HNN:Hid _:=oS (i:=i) HO5.out
     clear hS1 hB1 hI1 hvt hch2 q2 q3 q4 HO5 HRE o0 o1
     generalize bU op A i=Wl at *
     have hWl2:=HNN.out.2
     generalize hPR:put f.code.length t (ys.map (·.1)) Wl=PR at *
     have HPR:=hid hPR
     clear hPR
     go_wp2_with fail
     go_loopw [12] (fun kv wx=>∃ (k:Nat) (zs:List (Option (List Int) × Value)),k<=Wl.length/\kv=.int .i64 (k:Int)/\SS w0 wx b0 sb gh go ch co zs/\Blk wx bxn #[.slice ta ls.length tc,.slice g fs.length fc] 43/\bG 107 wx b0 (.slice gk f.code.length kc) f.code/\ad wx b0 (.slice va vn vc) t/\ad wx b0 (.slice wa Wl.length wc) Wl/\zs.length=f.code.length/\(∀ x ∈ zs,∀ l,x.1=some l->l.length<=10000)/\put f.code.length t (zs.map (·.1)) (Wl.drop k)=PR) (fun kv _=>Wl.length - (intOf kv).toNat)
     case atStart=>exact ⟨0,ys,Nat.zero_le _,rfl,hS2,hB2,hI2,hv2,hwv,HYL.out,HYS.out,by rw [List.drop_zero];exact HPR.out⟩
     case round =>
      clear hS2 hB2 hI2 hv2 hwv HYL HYS HPR
      obtain ⟨k,zs,hk,rfl,hS3,hB3,hI3,hv3,hw3,hzl,hzs,hpt⟩:=hrel
      have HZL:=hid hzl
      have HZS:=hid hzs
      have HPT:=hid hpt
      clear hzl hzs hpt
      by_cases hkl:k < Wl.length
      ·have hkl':(k:Int) < (Wl.length:Int):=by omega
       obtain ⟨gw,wc',hv',_,_,_,hwc⟩:=hw3.form (by omega)
       simp only [Value.slice.injEq] at hv'
       obtain ⟨rfl,_,rfl⟩:=hv'
       have hwk:=hwc k hkl
       clear hwc
       obtain ⟨st1,st2⟩:=ql hkl HPT.out
       have hnn:0<=Wl.getD k 0:=HNN.out.1 _ (by rw [List.getD_eq_getElem?_getD,List.getElem?_eq_getElem hkl];exact List.getElem_mem hkl)
       generalize Wl.getD k 0=x at *
       by_cases hxn:(f.code.length:Int)<=x
       ·have HRR:Hid (RR=none):=HN3.out.1 (st1 hxn)
        clear st1 st2
        go_wp2
        go_ret
        exact ⟨false,rfl,fd.no hS3.ch HRR.out⟩
       ·obtain ⟨j,rfl⟩:∃ j:Nat,x=(j:Int):=⟨x.toNat,by omega⟩
        have hjz:j < zs.length:=by rw [HZL.out];omega
        have hjz':(j:Int) < (zs.length:Int):=by omega
        have hjn:(j:Int) < (f.code.length:Int):=by omega
        have st3:=st2 hxn
        simp only [Int.toNat_natCast] at st3
        rw [hS3.getD j hjz] at st3
        obtain ⟨m1,m2,m3,m4⟩:=hS3.cells j hjz
        have f0:wr.cell? ⟨sb,0,none⟩=some (.slice gh zs.length ch):=hS3.box.cell 0
        have f1:wr.cell? ⟨sb,1,none⟩=some (.slice go zs.length co):=hS3.box.cell 1
        clear st1 st2 hxn hnn
        rcases hzx:zs[j].1 with _ | u
        ·have HPN:Hid _:=st3.1 hzx
         rw [hzx] at m1
         clear st3 hzx
         go_wp2
         go_quiet (fail)
         have hS4:=hS3.new ((Chg.refl _ wr).drewN nq)
         have hB4:=hB3.drewN nq
         have hI4:bG 107 (wr.drewN nq) b0 (.slice gk f.code.length kc) f.code:=aI hI3 nq
         have hv4:ad (wr.drewN nq) b0 (.slice va vn vc) t:=aI hv3 nq
         have hw4:ad (wr.drewN nq) b0 (.slice gw Wl.length wc) Wl:=aI hw3 nq
         have hwc4:(wr.drewN nq).cell? ⟨gw,k,none⟩=some (.int .i64 (j:Int)):=hwk
         clear m1 m2 m3 m4 f0 f1 hS3 hB3 hI3 hv3 hw3 hwk
         generalize wr.drewN nq=wy at *
         go_wp2_with fail
         obtain ⟨m1,m2,m3,m4⟩:=hS4.cells j hjz
         obtain ⟨mk1,mk2,mk3⟩:=hS4.mark j hjz (.slice va vn vc) t hv4
         obtain ⟨ci,hig⟩:∃ cs,Blk wy gk cs 107:=ay hI4 rfl
         obtain ⟨cg,hgg⟩:=bE hS4.has
         obtain ⟨cw,hww⟩:∃ cs,Blk wy gw cs 3:=ay hw4 rfl
         obtain ⟨cq,hoo⟩:=bE hS4.of
         have hI5:bG 107 ((wy.drew.setCell ⟨gh,j,none⟩ (.bool true)).drew.setCell ⟨go,j,none⟩ (.slice va vn vc)) b0 (.slice gk f.code.length kc) f.code:=by
          have i1:=aH (aA hI4) ⟨gh,j,none⟩ (.bool true) (ao (aA hI4) hgg.drew (by decide))
          exact aH (aA i1) ⟨go,j,none⟩ (.slice va vn vc) (ao (aA i1) ((hoo.drew.setOther _ _ (hoo.ne hgg (by decide))).drew) (by decide))
         have f0:wy.cell? ⟨sb,0,none⟩=some (.slice gh zs.length ch):=hS4.box.cell 0
         have g0:wy.cell? ⟨gw,k,none⟩=some (.int .i64 (j:Int)):=hwc4
         have f1:(wy.setCell ⟨gh,j,none⟩ (.bool true)).cell? ⟨sb,1,none⟩=some (.slice go zs.length co):=(hS4.box.setOther ⟨gh,j,none⟩ (.bool true) (hS4.box.ne hgg (by decide))).cell 1
         have g1:(wy.setCell ⟨gh,j,none⟩ (.bool true)).cell? ⟨gw,k,none⟩=some (.int .i64 (j:Int)):=(World.cell?_of_block (w:=wy) (Below.heap_setCell _ _ _ _ (hww.ne hgg (by decide)))).trans hwc4
         have g2:(wy.setCell ⟨gh,j,none⟩ (.bool true)).cell? ⟨go,j,none⟩=some zs[j].2:=(World.cell?_of_block (w:=wy) (Below.heap_setCell _ _ _ _ (hoo.ne hgg (by decide)))).trans m2
         have g3:(wy.setCell ⟨gh,j,none⟩ (.bool true)).frozen? ⟨go,j,none⟩=false:=(hoo.setOther ⟨gh,j,none⟩ (.bool true) (hoo.ne hgg (by decide))).frozen j
         rw [gP] at mk1 hI5
         simp only [gP] at mk2 mk3
         have hrel5:∃ (k':Nat) (zs':List (Option (List Int) × Value)),k'<=Wl.length/\(Value.int .i64 ((k:Int)+1))=.int .i64 (k':Int)/\SS w0 (((wy.setCell ⟨gh,j,none⟩ (.bool true)).setCell ⟨go,j,none⟩ (.slice va vn vc)).drew.drew) b0 sb gh go ch co zs'/\Blk (((wy.setCell ⟨gh,j,none⟩ (.bool true)).setCell ⟨go,j,none⟩ (.slice va vn vc)).drew.drew) bxn #[.slice ta ls.length tc,.slice g fs.length fc] 43/\bG 107 (((wy.setCell ⟨gh,j,none⟩ (.bool true)).setCell ⟨go,j,none⟩ (.slice va vn vc)).drew.drew) b0 (.slice gk f.code.length kc) f.code/\ad (((wy.setCell ⟨gh,j,none⟩ (.bool true)).setCell ⟨go,j,none⟩ (.slice va vn vc)).drew.drew) b0 (.slice va vn vc) t/\ad (((wy.setCell ⟨gh,j,none⟩ (.bool true)).setCell ⟨go,j,none⟩ (.slice va vn vc)).drew.drew) b0 (.slice gw Wl.length wc) Wl/\zs'.length=f.code.length/\(∀ x ∈ zs',∀ l,x.1=some l->l.length<=10000)/\put f.code.length t (zs'.map (·.1)) (Wl.drop k')=PR:=by
          refine ⟨k+1,zs.set j (some t,.slice va vn vc),by omega,by simp,mk1,mk3 _ _ hB4,hI5,mk2 _ _ hv4,mk2 _ _ hw4,by rw [List.length_set];exact HZL.out,fun x m l hl=>?_,?_⟩
          ·rcases List.mem_or_eq_of_mem_set m with m | rfl
           ·exact HZS.out x m l hl
           ·simp only [Option.some.injEq] at hl
            rw [<-hl];exact Nat.le_trans HTL.out (by omega)
          ·rw [List.map_set];exact HPN.out
         have HREL:Hid _:=hrel5
         clear hrel5 mk1 mk2 mk3 hI5 hig hgg hww hoo hS4 hB4 hI4 hv4 hw4 hwc4 HPN m2 m4
         go_region
         go_wp2
         go_region
         go_wp2
         exact ⟨HREL.out,by simp [intOf];omega⟩
        ·have hst:=hS3.stk zs[j] (List.getElem_mem hjz) u hzx
         have hul:=HZS.out zs[j] (List.getElem_mem hjz) u hzx
         obtain ⟨st4,st5⟩:=st3.2 u hzx
         rw [hzx] at m1
         clear st3 hzx
         obtain ⟨ua,uc,hue⟩:=hst.slice
         rw [hue] at hst m2
         have hr1:=hst.rdI
         have hr2:=hv3.rdI
         have HS4:=hid st4
         have HS5:Hid _:=st5
         clear st4 st5 hue
         go_wp2
         go_quiet (fail)
         have hS3':=hS3.new ((Chg.refl _ wr).drewN nq)
         have hB3':=hB3.drewN nq
         have hI3':bG 107 (wr.drewN nq) b0 (.slice gk f.code.length kc) f.code:=aI hI3 nq
         have hv3':ad (wr.drewN nq) b0 (.slice va vn vc) t:=aI hv3 nq
         have hw3':ad (wr.drewN nq) b0 (.slice gw Wl.length wc) Wl:=aI hw3 nq
         have hwc':(wr.drewN nq).cell? ⟨gw,k,none⟩=some (.int .i64 (j:Int)):=hwk
         have hr1':RdI (wr.drewN nq) (.slice ua u.length uc) u:=hr1
         have hr2':RdI (wr.drewN nq) (.slice va vn vc) t:=hr2
         have m2':(wr.drewN nq).cell? ⟨go,j,none⟩=some (.slice ua u.length uc):=m2
         have f1':(wr.drewN nq).cell? ⟨sb,1,none⟩=some (.slice go zs.length co):=f1
         clear m1 m2 m3 m4 f0 f1 hS3 hB3 hI3 hv3 hw3 hwk hst hr1 hr2
         generalize wr.drewN nq=wq at *
         clear nq
         go_wp2_with fail
         go_quiet ((go_at_call 75;exact Calls.quiet_of (cW _ _ u t _ hul (by exact hr1') (by exact hr2'))))
         have hS4:=hS3'.new ((Chg.refl _ wq).drewN nq)
         have hB4:=hB3'.drewN nq
         have hI4:bG 107 (wq.drewN nq) b0 (.slice gk f.code.length kc) f.code:=aI hI3' nq
         have hv4:ad (wq.drewN nq) b0 (.slice va vn vc) t:=aI hv3' nq
         have hw4:ad (wq.drewN nq) b0 (.slice gw Wl.length wc) Wl:=aI hw3' nq
         have hwc4:(wq.drewN nq).cell? ⟨gw,k,none⟩=some (.int .i64 (j:Int)):=hwc'
         clear m2' f1' hS3' hB3' hI3' hv3' hw3' hwc' hr1' hr2'
         generalize wq.drewN nq=wy at *
         cases hut:(u == t) with
         | false =>
          have HRR:Hid (RR=none):=HN3.out.1 (HS4.out hut)
          clear HS4 HS5 hut
          go_wp2
          go_ret
          exact ⟨false,rfl,fd.no hS4.ch HRR.out⟩
         | true =>
          have HPN:Hid _:=HS5.out hut
          clear HS4 HS5 hut
          go_wp2_with fail
          obtain ⟨m1,m2,m3,m4⟩:=hS4.cells j hjz
          obtain ⟨mk1,mk2,mk3⟩:=hS4.mark j hjz (.slice va vn vc) t hv4
          obtain ⟨ci,hig⟩:∃ cs,Blk wy gk cs 107:=ay hI4 rfl
          obtain ⟨cg,hgg⟩:=bE hS4.has
          obtain ⟨cw,hww⟩:∃ cs,Blk wy gw cs 3:=ay hw4 rfl
          obtain ⟨cq,hoo⟩:=bE hS4.of
          have hI5:bG 107 ((wy.drew.setCell ⟨gh,j,none⟩ (.bool true)).drew.setCell ⟨go,j,none⟩ (.slice va vn vc)) b0 (.slice gk f.code.length kc) f.code:=by
           have i1:=aH (aA hI4) ⟨gh,j,none⟩ (.bool true) (ao (aA hI4) hgg.drew (by decide))
           exact aH (aA i1) ⟨go,j,none⟩ (.slice va vn vc) (ao (aA i1) ((hoo.drew.setOther _ _ (hoo.ne hgg (by decide))).drew) (by decide))
          have f0:wy.cell? ⟨sb,0,none⟩=some (.slice gh zs.length ch):=hS4.box.cell 0
          have g0:wy.cell? ⟨gw,k,none⟩=some (.int .i64 (j:Int)):=hwc4
          have f1:(wy.setCell ⟨gh,j,none⟩ (.bool true)).cell? ⟨sb,1,none⟩=some (.slice go zs.length co):=(hS4.box.setOther ⟨gh,j,none⟩ (.bool true) (hS4.box.ne hgg (by decide))).cell 1
          have g1:(wy.setCell ⟨gh,j,none⟩ (.bool true)).cell? ⟨gw,k,none⟩=some (.int .i64 (j:Int)):=(World.cell?_of_block (w:=wy) (Below.heap_setCell _ _ _ _ (hww.ne hgg (by decide)))).trans hwc4
          have g2:(wy.setCell ⟨gh,j,none⟩ (.bool true)).cell? ⟨go,j,none⟩=some zs[j].2:=(World.cell?_of_block (w:=wy) (Below.heap_setCell _ _ _ _ (hoo.ne hgg (by decide)))).trans m2
          have g3:(wy.setCell ⟨gh,j,none⟩ (.bool true)).frozen? ⟨go,j,none⟩=false:=(hoo.setOther ⟨gh,j,none⟩ (.bool true) (hoo.ne hgg (by decide))).frozen j
          rw [gP] at mk1 hI5
          simp only [gP] at mk2 mk3
          have hrel5:∃ (k':Nat) (zs':List (Option (List Int) × Value)),k'<=Wl.length/\(Value.int .i64 ((k:Int)+1))=.int .i64 (k':Int)/\SS w0 (((wy.setCell ⟨gh,j,none⟩ (.bool true)).setCell ⟨go,j,none⟩ (.slice va vn vc)).drew.drew) b0 sb gh go ch co zs'/\Blk (((wy.setCell ⟨gh,j,none⟩ (.bool true)).setCell ⟨go,j,none⟩ (.slice va vn vc)).drew.drew) bxn #[.slice ta ls.length tc,.slice g fs.length fc] 43/\bG 107 (((wy.setCell ⟨gh,j,none⟩ (.bool true)).setCell ⟨go,j,none⟩ (.slice va vn vc)).drew.drew) b0 (.slice gk f.code.length kc) f.code/\ad (((wy.setCell ⟨gh,j,none⟩ (.bool true)).setCell ⟨go,j,none⟩ (.slice va vn vc)).drew.drew) b0 (.slice va vn vc) t/\ad (((wy.setCell ⟨gh,j,none⟩ (.bool true)).setCell ⟨go,j,none⟩ (.slice va vn vc)).drew.drew) b0 (.slice gw Wl.length wc) Wl/\zs'.length=f.code.length/\(∀ x ∈ zs',∀ l,x.1=some l->l.length<=10000)/\put f.code.length t (zs'.map (·.1)) (Wl.drop k')=PR:=by
           refine ⟨k+1,zs.set j (some t,.slice va vn vc),by omega,by simp,mk1,mk3 _ _ hB4,hI5,mk2 _ _ hv4,mk2 _ _ hw4,by rw [List.length_set];exact HZL.out,fun x m l hl=>?_,?_⟩
           ·rcases List.mem_or_eq_of_mem_set m with m | rfl
            ·exact HZS.out x m l hl
            ·simp only [Option.some.injEq] at hl
             rw [<-hl];exact Nat.le_trans HTL.out (by omega)
           ·rw [List.map_set];exact HPN.out
          have HREL:Hid _:=hrel5
          clear hrel5 mk1 mk2 mk3 hI5 hig hgg hww hoo hS4 hB4 hI4 hv4 hw4 hwc4 HPN m2 m4
          go_region
          go_wp2
          go_region
          go_wp2
          exact ⟨HREL.out,by simp [intOf];omega⟩
      ·have hke:Wl.drop k=[]:=List.drop_eq_nil_of_le (by omega)
       have HPE:Hid (some (zs.map (·.1))=PR):=by have:=HPT.out;rw [hke] at this;exact this
       clear HPT hke
       have HN4:Hid _:=HN3.out.2 (zs.map (·.1)) HPE.out.symm
       clear HN3 HPE
       go_wp2
       exact ⟨⟨i+1,zs,by omega,rfl,hS3,hB3,hI3,HZL.out,HZS.out,HN4.out⟩,by simp [intOf];omega⟩
  ·have hie:f.code.length - i=0:=by omega
   have HN:Hid (some (ys.map (·.1))=RR):=by have:=HRN.out;rw [hie] at this;exact this
   clear HRN hie
   go_wp2
   go_ret
   refine ⟨true,rfl,hS.ch,fun e=>?_,fun sp e=>⟨rfl,ys,?_,hS,HYS.out⟩⟩
   ·have:=HN.out;rw [e] at this;cases this
   ·have:=HN.out;rw [e] at this;simpa using this
end Go.Proofs.YtnfnbcbadakofaaGreat
namespace Go.Proofs.YtnfnbcbadakofaaGreat
open Go.RowKit
theorem cN {ns:List Int} {lo hi:Int} {s:Nat × Bool} (h:(tk ns lo hi s).2.2=false):s.2=false/\lo<=(tk ns lo hi s).1/\(tk ns lo hi s).1<=hi:=by
 unfold tk at *
 by_cases h1:s.2=true \/ ns.length<=s.1
 ·rw [if_pos h1] at h;cases h
 rw [if_neg h1] at h ⊢
 by_cases h2:ns.getD s.1 0 < lo \/ hi < ns.getD s.1 0
 ·rw [if_pos h2] at h;cases h
 rw [if_neg h2] at h ⊢
 refine ⟨?_,by simp only;omega,by simp only;omega⟩
 cases hs:s.2
 ·rfl
 ·exact absurd (Or.inl hs) h1
theorem jO {ns:List Int} {hi:Int} (k:Nat):∀ {s:Nat × Bool},(tkL ns hi k s).2.2=false->s.2=false/\∀ x ∈ (tkL ns hi k s).1,0<=x/\x<=hi:=by
 induction k with
 | zero=>intro s h;exact ⟨h,fun x hx=>by simp [tkL] at hx⟩
 | succ k ih =>
  intro s h
  simp only [tkL] at h ⊢
  obtain ⟨a,b⟩:=cN h
  obtain ⟨c,d⟩:=ih a
  refine ⟨c,fun x hx=>?_⟩
  rcases List.mem_append.1 hx with hx | hx
  ·exact d x hx
  ·simp only [List.mem_singleton] at hx;subst hx;exact b
def cH (ls:List (List Int)) (fu lo co:Int) (x:Int × Int × Int):Prop:=
 (0<=x.1/\x.1<=18)/\((bA ls.length fu lo co x.1).1<=x.2.1/\x.2.1<=(bA ls.length fu lo co x.1).2)/\0<=x.2.2/\x.2.2<=gB ls x.1 x.2.1
theorem oK {ns:List Int} {ls:List (List Int)} {fu lo co:Int} {s:Nat × Bool} (h:(tkI ns ls fu lo co s).2.2=false):s.2=false/\cH ls fu lo co (tkI ns ls fu lo co s).1:=by
 simp only [tkI] at h ⊢
 obtain ⟨a,b⟩:=cN h
 obtain ⟨c,d⟩:=cN a
 obtain ⟨e,f⟩:=cN c
 exact ⟨e,f,d,b⟩
theorem oW {ns:List Int} {ls:List (List Int)} {fu lo co:Int} (k:Nat):∀ {s:Nat × Bool},(tkC ns ls fu lo co k s).2.2=false->s.2=false/\∀ x ∈ (tkC ns ls fu lo co k s).1,cH ls fu lo co x:=by
 induction k with
 | zero=>intro s h;exact ⟨h,fun x hx=>by simp [tkC] at hx⟩
 | succ k ih =>
  intro s h
  simp only [tkC] at h ⊢
  obtain ⟨a,b⟩:=oK h
  obtain ⟨c,d⟩:=ih a
  refine ⟨c,fun x hx=>?_⟩
  rcases List.mem_append.1 hx with hx | hx
  ·exact d x hx
  ·simp only [List.mem_singleton] at hx;subst hx;exact b
structure mC (ls:List (List Int)) (fu:Int) (first:Bool) (f:Fn):Prop where
 a0:0<=f.args
 a4:f.args<=4
 al:f.args<=(f.locals.length:Int)
 l8:f.locals.length<=8
 lt:∀ t ∈ f.locals,0<=t/\t<=(ls.length:Int)
 r:0<=f.result/\f.result<=(ls.length:Int)
 c1:1<=f.code.length
 c64:f.code.length<=64
 ok:∀ x ∈ f.code,cH ls fu f.locals.length f.code.length x
 fst:first=true->f.args=0/\f.result=0
theorem pf {ns:List Int} {ls:List (List Int)} {fu:Int} {first:Bool} {s:Nat × Bool} (h:(tkF ns ls fu first s).2.2=false):s.2=false/\mC ls fu first (tkF ns ls fu first s).1:=by
 have e:tkF ns ls fu first s=(let r1:=tk ns 0 (if first then 0 else 4) s;let r2:=tk ns r1.1 8 r1.2;let r3:=tkL ns ls.length r2.1.toNat r2.2;let r4:=tk ns 0 (if first then 0 else ls.length) r3.2;let r5:=tk ns 1 64 r4.2
  let r6:=tkC ns ls fu r2.1 r5.1 r5.1.toNat r5.2;(⟨r1.1,r3.1,r4.1,r6.1⟩,r6.2)):=rfl
 rw [e] at h ⊢
 simp only at h ⊢
 obtain ⟨a6,b6⟩:=oW _ h
 obtain ⟨a5,b5⟩:=cN a6
 obtain ⟨a4,b4⟩:=cN a5
 obtain ⟨a3,b3⟩:=jO _ a4
 obtain ⟨a2,b2⟩:=cN a3
 obtain ⟨a1,b1⟩:=cN a2
 have l3:=di ns ls.length (tk ns (tk ns 0 (if first then 0 else 4) s).1 8 (tk ns 0 (if first then 0 else 4) s).2).1.toNat (tk ns (tk ns 0 (if first then 0 else 4) s).1 8 (tk ns 0 (if first then 0 else 4) s).2).2
 have l6:=fun lo co k s=>jm ns ls fu lo co k s
 generalize tk ns 0 (if first then 0 else 4) s=r1 at *
 generalize tk ns r1.1 8 r1.2=r2 at *
 generalize tkL ns ls.length r2.1.toNat r2.2=r3 at *
 generalize tk ns 0 (if first then 0 else (ls.length:Int)) r3.2=r4 at *
 generalize tk ns 1 64 r4.2=r5 at *
 have l6:=l6 r2.1 r5.1 r5.1.toNat r5.2
 generalize tkC ns ls fu r2.1 r5.1 r5.1.toNat r5.2=r6 at *
 have q1:r1.1<=4:=by cases first <;> simp at b1 <;> omega
 have q4:r4.1<=(ls.length:Int):=by cases first <;> simp at b4 <;> omega
 have e3:(r3.1.length:Int)=r2.1:=by omega
 have e6:(r6.1.length:Int)=r5.1:=by omega
 refine ⟨a1,b1.1,q1,by simp only;omega,by simp only;omega,b3,⟨b4.1,q4⟩,by simp only;omega,by simp only;omega,fun x hx=>?_,fun hf=>?_⟩
 ·simp only [e3,e6];exact b6 x hx
 ·subst hf;simp at b1 b4;exact ⟨by simp only;omega,by simp only;omega⟩
theorem pe {ns:List Int} {n:Int} (k:Nat):∀ {s:Nat × Bool},(tkT ns n k s).2.2=false->s.2=false/\∀ l ∈ (tkT ns n k s).1,l.length<=5/\∀ t ∈ l,0<=t/\t<=n:=by
 induction k with
 | zero=>intro s h;exact ⟨h,fun x hx=>by simp [tkT] at hx⟩
 | succ k ih =>
  intro s h
  simp only [tkT] at h ⊢
  obtain ⟨a,b⟩:=jO _ h
  obtain ⟨c,d⟩:=cN a
  obtain ⟨e,f⟩:=ih c
  refine ⟨e,fun x hx=>?_⟩
  rcases List.mem_append.1 hx with hx | hx
  ·exact f x hx
  ·simp only [List.mem_singleton] at hx;subst hx;exact ⟨by rw [di];omega,b⟩
theorem nk {ns:List Int} {ls:List (List Int)} {fu:Int} (k:Nat):∀ {s:Nat × Bool},(cJ ns ls fu k s).2.2=false->s.2=false/\∀ j (hj:j < (cJ ns ls fu k s).1.length),mC ls fu (j == 0) (cJ ns ls fu k s).1[j]:=by
 induction k with
 | zero=>intro s h;exact ⟨h,fun x hx=>by simp [cJ] at hx⟩
 | succ k ih =>
  intro s h
  simp only [cJ] at h ⊢
  obtain ⟨a,b⟩:=pf h
  obtain ⟨c,d⟩:=ih a
  refine ⟨c,fun j hj=>?_⟩
  have hk:=fQ ns ls fu k s
  rw [List.getElem_append]
  split
  ·exact d j _
  ·rename_i hge
   have:j=k:=by simp at hj;omega
   subst this
   simpa using b
structure dC (p:Pg):Prop where
 t6:p.types.length<=6
 tf:∀ l ∈ p.types,l.length<=5/\∀ t ∈ l,0<=t/\t<=(p.types.length:Int)
 f1:1<=p.funcs.length
 f6:p.funcs.length<=6
 fs:∀ j (hj:j < p.funcs.length),mC p.types p.funcs.length (j == 0) p.funcs[j]
theorem pt {ns:List Int} {s:Nat × Bool} (h:(tkP ns s).2.2=false):dC (tkP ns s).1:=by
 have e:tkP ns s=(let r0:=tk ns 0 6 s;let r1:=tkT ns r0.1 r0.1.toNat r0.2;let r2:=tk ns 1 6 r1.2;let r3:=cJ ns r1.1 r2.1 r2.1.toNat r2.2;(⟨r1.1,r3.1⟩,r3.2)):=rfl
 rw [e] at h ⊢
 simp only at h ⊢
 obtain ⟨a3,b3⟩:=nk _ h
 obtain ⟨a2,b2⟩:=cN a3
 obtain ⟨a1,b1⟩:=pe _ a2
 obtain ⟨a0,b0⟩:=cN a1
 have l1:=fun n k s=>gX ns n k s
 have l3:=fun ls fu k s=>fQ ns ls fu k s
 generalize tk ns 0 6 s=r0 at *
 have l1:=l1 r0.1 r0.1.toNat r0.2
 generalize tkT ns r0.1 r0.1.toNat r0.2=r1 at *
 generalize tk ns 1 6 r1.2=r2 at *
 have l3:=l3 r1.1 r2.1 r2.1.toNat r2.2
 generalize cJ ns r1.1 r2.1 r2.1.toNat r2.2=r3 at *
 have e1:(r1.1.length:Int)=r0.1:=by omega
 have e3:(r3.1.length:Int)=r2.1:=by omega
 refine ⟨by simp only;omega,fun l hl=>⟨(b1 l hl).1,fun t ht=>?_⟩,by simp only;omega,by simp only;omega,fun j hj=>?_⟩
 ·simp only [e1];exact (b1 l hl).2 t ht
 ·simp only [e3];exact b3 j hj
theorem kG {s:ByteArray} (h:(opn s).1=0):dC (opn s).2.2:=by
 unfold opn at *
 by_cases h1:800 < s.size
 ·rw [if_pos h1] at h;cases h
 rw [if_neg h1] at h ⊢
 have e2:rdP (bl s)=if (tkP (bl s) (0,false)).2.2=true \/ (tkP (bl s) (0,false)).2.1 < (bl s).length then (2,((tkP (bl s) (0,false)).2.1:Int),⟨[],[]⟩) else (0,0,(tkP (bl s) (0,false)).1):=rfl
 rw [e2] at h ⊢
 by_cases h2:(tkP (bl s) (0,false)).2.2=true \/ (tkP (bl s) (0,false)).2.1 < (bl s).length
 ·rw [if_pos h2] at h;cases h
 rw [if_neg h2]
 refine pt ?_
 cases h3:(tkP (bl s) (0,false)).2.2
 ·rfl
 ·exact absurd (Or.inl h3) h2
theorem dC.tys {p:Pg} (h:dC p) (j:Nat):(p.types.getD j []).length<=5:=by
 rw [List.getD_eq_getElem?_getD]
 rcases Nat.lt_or_ge j p.types.length with hj | hj
 ·rw [List.getElem?_eq_getElem hj];exact (h.tf _ (List.getElem_mem hj)).1
 ·rw [List.getElem?_eq_none hj];simp
theorem dC.flds {p:Pg} (h:dC p) (a:Int):(flds p.types a).length<=5:=by
 unfold Proofs.YtnfnbcbadakofaaGreat.flds
 split
 ·simp
 ·exact h.tys _
theorem ml {fs:List Fn} (h:∀ f ∈ fs,f.locals.length<=8) (k:Int):(aP fs k).length<=8:=by
 unfold aP
 split
 ·split
  ·simp
  ·rename_i hk _
   have:=h _ (List.getElem_mem hk.2)
   rw [List.length_take];omega
 ·simp
theorem dC.fn {p:Pg} (h:dC p) {f:Fn} (hf:f ∈ p.funcs):∃ b,mC p.types p.funcs.length b f:=by
 obtain ⟨j,hj,rfl⟩:=List.mem_iff_getElem.1 hf
 exact ⟨_,h.fs j hj⟩
theorem mM {p:Pg} (h:dC p) (f:Fn) (op A B:Int):(ak p.types p.funcs f op A B).length<=8:=by
 have h1:=h.flds A
 have h2:=ml (fs:=p.funcs) (fun f hf=>by obtain ⟨b,hb⟩:=h.fn hf;exact hb.l8) A
 unfold ak
 repeat' split
 all_goals first | omega | simp
theorem kr (ls:List (List Int)) (fs:List Fn) (f:Fn) (op A B:Int):(ag ls fs f op A B).length<=1:=by
 unfold ag
 repeat' split
 all_goals simp
theorem dC.args {p:Pg} (h:dC p):∀ f ∈ p.funcs,0<=f.args/\f.args<=(f.locals.length:Int):=fun f hf=>by
 obtain ⟨b,hb⟩:=h.fn hf;exact ⟨hb.a0,hb.al⟩
theorem dC.code {p:Pg} (h:dC p) {f:Fn} (hf:f ∈ p.funcs):∀ x ∈ f.code,kO p.types p.funcs f x:=by
 intro x hx
 obtain ⟨b,hb⟩:=h.fn hf
 obtain ⟨⟨o1,o2⟩,⟨a1,a2⟩,b1,b2⟩:=hb.ok x hx
 obtain ⟨op,A,B⟩:=x
 simp only at *
 have h1:=mM h f op A B
 have h2:=kr p.types p.funcs f op A B
 refine ⟨o1,o2,⟨?_,?_,?_,?_⟩,by simp only;omega,by simp only;omega,?_⟩
 ·intro h;simp only at h ⊢;rcases h with rfl | rfl <;> simp [bA] at a1 a2 <;> omega
 ·intro h;simp only at h ⊢;rcases h with rfl | rfl | rfl <;> simp [bA] at a1 a2 <;> omega
 ·intro h;simp only at h ⊢;rcases h with rfl | rfl <;> simp [gB] at b2 <;> omega
 ·intro h;simp only at h ⊢;subst h;simp [bA] at a1 a2;omega
 ·intro h;simp only at h ⊢;rcases h with rfl | rfl <;> simp [bA] at a1 a2 <;> omega
theorem dC.way {p:Pg} (h:dC p) {f:Fn} (hf:f ∈ p.funcs):∀ i,∀ k ∈ cU f i,0<=k:=by
 intro i k hk
 unfold cU at hk
 have hx:(f.code.getD i (0,0,0)).1=13 \/ (f.code.getD i (0,0,0)).1=14->0<=(f.code.getD i (0,0,0)).2.1:=by
  rw [List.getD_eq_getElem?_getD]
  rcases Nat.lt_or_ge i f.code.length with hi | hi
  ·rw [List.getElem?_eq_getElem hi];exact (h.code hf _ (List.getElem_mem hi)).2.2.2.2.2
  ·rw [List.getElem?_eq_none hi];simp
 generalize f.code.getD i (0,0,0)=x at *
 unfold bU at hk
 repeat' split at hk
 all_goals simp at hk
 ·rw [hk];exact hx (.inl ‹_›)
 ·rcases hk with rfl | rfl
  ·exact hx (.inr ‹_›)
  ·omega
 ·omega
end Go.Proofs.YtnfnbcbadakofaaGreat
namespace Go.Proofs.YtnfnbcbadakofaaGreat
open Go.RowKit
def b9 (w:World) (base:Nat) (v:Value) (sp:aC):Prop:=∃ xs:List (Option (List Int) × Value),xs.map (·.1)=sp/\w.ownsRow base 138 2 v xs.length (spC xs)/\∀ x ∈ xs,ad w base x.2 (x.1.getD [])
theorem pH (w:World) (b:Nat) (x0 x1 x2 x3 x4 x5 x6 x7 x8:Value):Chg (fun k=>k=b) w (((((((((w.setCell ⟨b,0,none⟩ x0).setCell ⟨b,1,none⟩ x1).setCell ⟨b,2,none⟩ x2).setCell ⟨b,3,none⟩ x3).setCell ⟨b,4,none⟩ x4).setCell ⟨b,5,none⟩ x5).setCell ⟨b,6,none⟩ x6).setCell ⟨b,7,none⟩ x7).setCell ⟨b,8,none⟩ x8):=
 ((((db w b x0 x1 x2 x3 x4).setCell _ _ (.inl rfl)).setCell _ _ (.inl rfl)).setCell _ _ (.inl rfl)).setCell _ _ (.inl rfl)
set_option maxHeartbeats 2000000 in
theorem eM {w W wr:World} {tb rb:Nat} {s0 s1 s2 s3 s4 s5 sv qv:Value} {ys:List (Option (List Int) × Value)} {q:List Int} {b:Bool} (h:TS W wr tb #[s0,s1,s2,s3,s4,s5] sv qv ys q b) (k:Chg () w W) (hr:Blk W rb #[.slice none 0 0,.slice none 0 0,.int .i64 0,.slice none 0 0,.int .i64 0,.slice none 0 0,.slice none 0 0,.slice none 0 0,.bool false] 114) (hrb:w.heap.size<=rb) (wf:World)
 (hwf:wf=(((((((((wr.setCell ⟨rb,0,none⟩ s0).setCell ⟨rb,1,none⟩ s1).setCell ⟨rb,2,none⟩ s2).setCell ⟨rb,3,none⟩ s3).setCell ⟨rb,4,none⟩ s4).setCell ⟨rb,5,none⟩ s5).setCell ⟨rb,6,none⟩ sv).setCell ⟨rb,7,none⟩ qv).setCell ⟨rb,8,none⟩ (.bool b))) :
 b9 wf w.heap.size sv (ys.map (·.1))/\Chg () w wf/\(wf.cell? ⟨rb,0,none⟩=some s0/\wf.cell? ⟨rb,1,none⟩=some s1/\wf.cell? ⟨rb,2,none⟩=some s2/\wf.cell? ⟨rb,3,none⟩=some s3/\wf.cell? ⟨rb,4,none⟩=some s4/\wf.cell? ⟨rb,5,none⟩=some s5/\wf.cell? ⟨rb,6,none⟩=some sv/\wf.cell? ⟨rb,7,none⟩=some qv/\wf.cell? ⟨rb,8,none⟩=some (.bool b)):=by
 have hk:=pH wr rb s0 s1 s2 s3 s4 s5 sv qv (.bool b)
 rw [<-hwf] at hk
 have hr1:=hr.chg h.ch (fun e=>e)
 have b3:=((((((((hr1.set 0 s0).set 1 s1).set 2 s2).set 3 s3).set 4 s4).set 5 s5).set 6 sv).set 7 qv).set 8 (.bool b)
 rw [<-hwf] at b3
 have hs:=k.size
 have e9:((((((((#[Value.slice none 0 0,.slice none 0 0,.int .i64 0,.slice none 0 0,.int .i64 0,.slice none 0 0,.slice none 0 0,.slice none 0 0,.bool false].setIfInBounds 0 s0).setIfInBounds 1 s1).setIfInBounds 2 s2).setIfInBounds 3 s3).setIfInBounds 4 s4).setIfInBounds 5 s5).setIfInBounds 6 sv).setIfInBounds 7 qv).setIfInBounds 8 (.bool b)=#[s0,s1,s2,s3,s4,s5,sv,qv,.bool b]:=by simp
 rw [e9] at b3
 refine ⟨⟨ys,rfl,am (af h.sp hk (fun g hg e=>ao h.sp hr1 (by decide) (by rw [hg,e]))) hs,fun x m=>?_⟩,(k.trans h.ch).trans' hk (fun i hi e=>by omega),b3.cell 0,b3.cell 1,b3.cell 2,b3.cell 3,b3.cell 4,b3.cell 5,b3.cell 6,b3.cell 7,b3.cell 8⟩
 have hst:=(h.stk x m _ rfl).1
 exact am (af hst hk (fun g hg e=>ao hst hr1 (by decide) (by rw [hg,e]))) hs
end Go.Proofs.YtnfnbcbadakofaaGreat
