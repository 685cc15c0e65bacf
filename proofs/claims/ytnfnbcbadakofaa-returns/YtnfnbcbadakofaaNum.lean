import Derived.Test.YtnfnbcbadakofaaLay2
import Derived.Test.YtnfnbcbadakofaaSame
namespace Go.Proofs.Ytnfnbcbadakofaa
open Go.RowKit
def numT (l:List Int):List Int:=(l.length:Int)::l
def numI (x:Int × Int × Int):List Int:=[x.1,x.2.1,x.2.2]
def numF (f:Fn):List Int:=[f.args,(f.locals.length:Int)]++f.locals++[f.result,(f.code.length:Int)]++f.code.flatMap numI
def numP (ls:List (List Int)) (fs:List Fn):List Int:=[(ls.length:Int)]++ls.flatMap numT++[(fs.length:Int)]++fs.flatMap numF
theorem flat_step {α:Type} (g:α->List Int) (l:List α) (k:Nat) (hk:k < l.length):(l.take (k+1)).flatMap g=(l.take k).flatMap g++g l[k]:=by
 rw [List.take_succ_eq_append_getElem hk,List.flatMap_append];simp
theorem numI_len (c:List (Int × Int × Int)):(c.flatMap numI).length=3 * c.length:=by
 induction c with
 | nil=>rfl
 | cons x c ih=>rw [List.flatMap_cons,List.length_append,ih];simp [numI];omega
theorem app_box {W0 wj w':World} {v:Value} {l:List Int} {fb:Nat} {cs:Array Value} (h:IntsV wj W0.heap.size v l) (b:Blk wj fb cs 96) (hch:Chg (fun j=>some j=v.ownBlock) wj w'):Blk w' fb cs 96:=
 b.chg hch (fun e=>by obtain ⟨cs',hb⟩:=own_blk h e.symm;exact b.ne hb (by decide) rfl)
theorem Chg.cellF {w w':World} (k:Chg () w w') {a:Addr} {v:Value} (h:w.cell? a=some v):w'.cell? a=some v:=
 (World.cell?_of_block (k.block a.block (World.block_lt_of_cell? w a h) (fun e=>e))).trans h
set_option maxHeartbeats 4000000 in
set_option maxRecDepth 100000 in
theorem numbers_any (ta fa:Option Addr) (tc fc:Nat) (ls:List (List Int)) (fs:List Fn) (w:World) (b1:Nat) (ht:TypesV w b1 (.slice ta ls.length tc) ls) (hf:FuncsV 96 98 w b1 (.slice fa fs.length fc) fs) (hl1:ls.length<=6) (hl2:fs.length<=6)
 (hls:∀ l ∈ ls,l.length<=5) (hfs:∀ f ∈ fs,f.locals.length<=8/\f.code.length<=64) :
 Calls Try.prog 46 #[.agg #[.slice ta ls.length tc,.slice fa fs.length fc]] w fun e w'=>∃ v,e=.returned v/\IntsV w' w.heap.size v (numP ls fs)/\Chg () w w':=by
 have kb:Chg () w (w.alloc (Obj.cells #[.slice ta ls.length tc,.slice fa fs.length fc] 35)):=(Chg.refl _ w).alloc _
 have bx:Blk (w.alloc (Obj.cells #[.slice ta ls.length tc,.slice fa fs.length fc] 35)) w.heap.size #[.slice ta ls.length tc,.slice fa fs.length fc] 35:=Blk.new w _ 35
 have ht0:=ht.new kb
 have hf0:=hf.chg kb (fun _ _ _ e=>e) (fun _ _ _ e=>e) (fun _ _ _ e=>e)
 have HLS:=hid hls
 have HFS:=hid hfs
 clear ht hf hls hfs
 have j0:Chg () (w.alloc (Obj.cells #[.slice ta ls.length tc,.slice fa fs.length fc] 35)) ((w.alloc (Obj.cells #[.slice ta ls.length tc,.slice fa fs.length fc] 35)).alloc (Obj.cells #[ls.length] 3)):=(Chg.refl _ _).alloc _
 have hz0:(w.alloc (Obj.cells #[.slice ta ls.length tc,.slice fa fs.length fc] 35)).heap.size=w.heap.size+1:=by simp
 go_enter Try.func46,Try.ntmps46
 go_wp2_with (at_builtin;refine wp_app rfl _ _ rfl (w.alloc (Obj.cells #[.slice ta ls.length tc,.slice fa fs.length fc] 35)).heap.size (.slice none 0 0) (.slice (some ⟨w.heap.size+1,0,none⟩) 1 1) [] [(ls.length:Int)] rfl rfl ?h1 ?h2 ?h3 ?h4 ?_)
 case h1=>exact World.ownsRow_nil _ _ _ _
 case h2=>have:=lit_rd (W:=(w.alloc (Obj.cells #[.slice ta ls.length tc,.slice fa fs.length fc] 35))) [(ls.length:Int)] 1 rfl (by unfold maxLen;omega);rw [hz0] at this;exact this
 case h3=>simp
 case h4=>exact j0.size
 generalize (w.alloc (Obj.cells #[.slice ta ls.length tc,.slice fa fs.length fc] 35))=W0 at *
 intro a1 n1 c1 w1 hn1 hI1 hch1
 have k1:Chg () W0 w1:=j0.trans' hch1 (fun i hi e=>by cases e)
 have hI1:IntsV w1 W0.heap.size (.slice a1 n1 c1) ([]++[(ls.length:Int)]):=by rw [hz0];exact hI1
 clear hn1 hch1 j0 hz0
 have x0:w1.cell? ⟨w.heap.size,0,none⟩=some (.slice ta ls.length tc):=(bx.chg k1 (fun e=>e)).cell 0
 go_wp2_with fail
 clear x0
 go_loopw [3,19] (fun v iv wr=>∃ (k n:Nat) (a:Option Addr) (c:Nat),k<=ls.length/\iv=.int .i64 (k:Int)/\v=.slice a n c/\IntsV wr W0.heap.size (.slice a n c) ([(ls.length:Int)]++(ls.take k).flatMap numT)/\([(ls.length:Int)]++(ls.take k).flatMap numT).length<=1+6 * k/\Chg () W0 wr) (fun _ iv _=>ls.length - (intOf iv).toNat)
 case atStart=>exact ⟨0,n1,a1,c1,Nat.zero_le _,rfl,rfl,by simpa using hI1,by simp,k1⟩
 case round =>
  clear hI1 k1
  obtain ⟨k,n,a,c,hk,rfl,rfl,hI,hB,kk⟩:=hrel
  have HB:=hid hB
  clear hB
  by_cases hlt:k < ls.length
  ·have hlt':(k:Int) < (ls.length:Int):=by omega
   have HS:Hid ((ls.take (k+1)).flatMap numT=(ls.take k).flatMap numT++numT ls[k]):=flat_step numT ls k hlt
   obtain ⟨g,cap,x,hte,_,y0,hx⟩:=ht0.cell k hlt
   have hgd:ls.getD k []=ls[k]:=by rw [List.getD_eq_getElem?_getD,List.getElem?_eq_getElem hlt];rfl
   rw [hgd] at hx
   have hl5:=HLS.out _ (List.getElem_mem hlt)
   simp only [Value.slice.injEq] at hte
   obtain ⟨rfl,_,rfl⟩:=hte
   clear hgd
   generalize ls[k]=l at *
   obtain ⟨xa,xc,rfl⟩:=hx.slice
   have y:=kk.cellF y0
   obtain ⟨L,hL⟩:∃ L,[(ls.length:Int)]++(ls.take k).flatMap numT=L:=⟨_,rfl⟩
   rw [hL] at hI HB
   have HL:=hid hL
   clear hL
   have j2:Chg () wr (wr.alloc (Obj.cells #[l.length] 3)):=(Chg.refl _ _).alloc _
   go_wp2_with (at_builtin;refine wp_app rfl _ _ rfl W0.heap.size (.slice a n c) (.slice wr.heap.size 1 1) L [(l.length:Int)] rfl rfl ?h1 ?h2 ?h3 ?h4 ?_)
   case h1=>exact hI.chg j2 (fun _ _ _ e=>e)
   case h2=>exact lit_rd [(l.length:Int)] 1 rfl (by unfold maxLen;omega)
   case h3=>have:=HB.out;simp;omega
   case h4=>exact Nat.le_trans kk.size j2.size
   intro a2 n2 c2 w2 hn2 hI2 hch2
   have k2:=app_new hI kk j2 hch2
   clear hn2 hch2 y hI j2
   go_wp2_with (at_builtin;refine wp_app rfl _ _ rfl W0.heap.size (.slice a2 n2 c2) (.slice xa l.length xc) (L++[(l.length:Int)]) l rfl rfl ?h1 ?h2 ?h3 ?h4 ?_)
   case h1=>exact hI2
   case h2=>exact (hx.chg k2 (fun _ _ _ e=>e)).rdI
   case h3=>have:=HB.out;simp;omega
   case h4=>exact k2.size
   intro a3 n3 c3 w3 hn3 hI3 hch3
   have k3:=app_new hI2 k2 (Chg.refl _ _) hch3
   clear hn3 hch3
   go_wp2
   have hE:[(ls.length:Int)]++(ls.take (k+1)).flatMap numT=L++[(l.length:Int)]++l:=by
    rw [HS.out,<-List.append_assoc,HL.out];simp [numT]
   refine ⟨⟨k+1,n3,a3,c3,by omega,rfl,rfl,?_,?_,k3⟩,by simp [intOf];omega⟩
   ·rw [hE];first | exact hI3 | (simpa [List.append_assoc] using hI3)
   ·rw [hE];have:=HB.out;simp;omega
  ·have hkk:k=ls.length:=by omega
   have hlt':(ls.length:Int)<=(k:Int):=by omega
   subst hkk
   rw [List.take_length] at hI HB
   obtain ⟨L,hL⟩:∃ L,[(ls.length:Int)]++ls.flatMap numT=L:=⟨_,rfl⟩
   rw [hL] at hI HB
   have HL:=hid hL
   clear hL hlt hk
   have x1:wr.cell? ⟨w.heap.size,1,none⟩=some (.slice fa fs.length fc):=(bx.chg kk (fun e=>e)).cell 1
   have hxl:=(bx.chg kk (fun e=>e)).lt
   have j2:Chg () wr (wr.alloc (Obj.cells #[fs.length] 3)):=(Chg.refl _ _).alloc _
   go_wp2_with (at_builtin;refine wp_app rfl _ _ rfl W0.heap.size (.slice a n c) (.slice wr.heap.size 1 1) L [(fs.length:Int)] rfl rfl ?h1 ?h2 ?h3 ?h4 ?_)
   case h1=>exact hI.chg j2 (fun _ _ _ e=>e)
   case h2=>exact lit_rd [(fs.length:Int)] 1 rfl (by unfold maxLen;omega)
   case h3=>have:=HB.out;simp;omega
   case h4=>exact Nat.le_trans kk.size j2.size
   intro a2 n2 c2 w2 hn2 hI2 hch2
   have k2:=app_new hI kk j2 hch2
   clear hn2 hch2 x1 hxl hI j2 kk
   have x1:w2.cell? ⟨w.heap.size,1,none⟩=some (.slice fa fs.length fc):=(bx.chg k2 (fun e=>e)).cell 1
   go_wp2_with fail
   clear x1
   go_loopw [3,41] (fun v iv wr=>∃ (k n:Nat) (a:Option Addr) (c:Nat),k<=fs.length/\iv=.int .i64 (k:Int)/\v=.slice a n c/\IntsV wr W0.heap.size (.slice a n c) (L++[(fs.length:Int)]++(fs.take k).flatMap numF)/\(L++[(fs.length:Int)]++(fs.take k).flatMap numF).length<=40+300 * k/\Chg () W0 wr) (fun _ iv _=>fs.length - (intOf iv).toNat)
   case atStart=>exact ⟨0,n2,a2,c2,Nat.zero_le _,rfl,rfl,by simpa using hI2,by have:=HB.out;simp;omega,k2⟩
   case round =>
    clear hI2 k2
    obtain ⟨k,n,a,c,hk,rfl,rfl,hI,hB2,kk⟩:=hrel
    by_cases hlt:k < fs.length
    ·have hlt':(k:Int) < (fs.length:Int):=by omega
     have HS:Hid ((fs.take (k+1)).flatMap numF=(fs.take k).flatMap numF++numF fs[k]):=flat_step numF fs k hlt
     obtain ⟨g,cap,hfe,_,hcells⟩:=hf0.formS (by omega)
     simp only [Value.slice.injEq] at hfe
     obtain ⟨rfl,_,rfl⟩:=hfe
     obtain ⟨lv,cv,e0,e1,e2,e3,hl,hc⟩:=hcells k hlt
     have hfb:=HFS.out _ (List.getElem_mem hlt)
     clear hcells
     generalize fs[k]=f at *
     obtain ⟨la,lc,rfl⟩:=hl.slice
     obtain ⟨ca,cc,rfl⟩:=hc.slice
     obtain ⟨hf8,hf64⟩:=hfb
     obtain ⟨M,hM⟩:∃ M,L++[(fs.length:Int)]++(fs.take k).flatMap numF=M:=⟨_,rfl⟩
     rw [hM] at hI hB2
     have HM:=hid hM
     have HB2:=hid hB2
     clear hM hB2
     have d0:=kk.cellF e0
     have d1:=kk.cellF e1
     have d2:=kk.cellF e2
     have d3:=kk.cellF e3
     have hgl:g < wr.heap.size:=World.block_lt_of_cell? wr _ d0
     have j3:Chg () wr ((wr.alloc (Obj.cells #[f.args,.slice la f.locals.length lc,f.result,.slice ca f.code.length cc] 96)).alloc (Obj.cells #[f.args,f.locals.length] 3)):=((Chg.refl _ _).alloc _).alloc _
     have b3:Blk ((wr.alloc (Obj.cells #[f.args,.slice la f.locals.length lc,f.result,.slice ca f.code.length cc] 96)).alloc (Obj.cells #[f.args,f.locals.length] 3)) wr.heap.size #[f.args,.slice la f.locals.length lc,f.result,.slice ca f.code.length cc] 96:=(Blk.new wr _ 96).alloc _
     have hz3:(wr.alloc (Obj.cells #[f.args,.slice la f.locals.length lc,f.result,.slice ca f.code.length cc] 96)).heap.size=wr.heap.size+1:=by simp
     go_wp2_with (at_builtin;refine wp_app rfl _ _ rfl W0.heap.size (.slice a n c) (.slice (some ⟨wr.heap.size+1,0,none⟩) 2 2) M [f.args,(f.locals.length:Int)] rfl rfl ?h1 ?h2 ?h3 ?h4 ?_)
     case h1=>exact hI.chg j3 (fun _ _ _ e=>e)
     case h2=>have:=lit_rd (W:=(wr.alloc (Obj.cells #[f.args,.slice la f.locals.length lc,f.result,.slice ca f.code.length cc] 96))) [f.args,(f.locals.length:Int)] 2 rfl (by unfold maxLen;omega);rw [hz3] at this;exact this
     case h3=>have:=HB2.out;simp;omega
     case h4=>exact Nat.le_trans kk.size j3.size
     generalize ((wr.alloc (Obj.cells #[f.args,.slice la f.locals.length lc,f.result,.slice ca f.code.length cc] 96)).alloc (Obj.cells #[f.args,f.locals.length] 3))=W3 at *
     intro a3 n3 c3 w3 hn3 hI3 hch3
     have k3:=app_new hI kk j3 hch3
     have hfbk:wr.heap.size < W3.heap.size:=b3.lt
     have b3':Blk w3 wr.heap.size #[f.args,.slice la f.locals.length lc,f.result,.slice ca f.code.length cc] 96:=b3.chg hch3 (fun e=>by obtain ⟨cs,hb⟩:=own_blk (hI.chg j3 (fun _ _ _ e=>e)) e.symm;exact b3.ne hb (by decide) rfl)
     clear hn3 hz3 d0 d1 d2 d3 hgl
     generalize wr.heap.size=fb at *
     have c1:w3.cell? ⟨fb,1,none⟩=some (.slice la f.locals.length lc):=b3'.cell 1
     clear b3 hI hch3 j3 kk
     go_wp2_with (at_builtin;refine wp_app rfl _ _ rfl W0.heap.size (.slice a3 n3 c3) (.slice la f.locals.length lc) (M++[f.args,(f.locals.length:Int)]) f.locals rfl rfl ?h1 ?h2 ?h3 ?h4 ?_)
     case h1=>exact hI3
     case h2=>exact (hl.chg k3 (fun _ _ _ e=>e)).rdI
     case h3=>have:=HB2.out;simp;omega
     case h4=>exact k3.size
     intro a4 n4 c4 w4 hn4 hI4 hch4
     have k4:=app_new hI3 k3 (Chg.refl _ _) hch4
     have b4:=app_box hI3 b3' hch4
     clear hn4 hch4 c1 hI3 b3' k3
     have c2:w4.cell? ⟨fb,2,none⟩=some (.int .i64 f.result):=b4.cell 2
     have c3':w4.cell? ⟨fb,3,none⟩=some (.slice ca f.code.length cc):=b4.cell 3
     have hb4:=b4.lt
     have j5:Chg () w4 (w4.alloc (Obj.cells #[f.result,f.code.length] 3)):=(Chg.refl _ _).alloc _
     go_wp2_with (at_builtin;refine wp_app rfl _ _ rfl W0.heap.size (.slice a4 n4 c4) (.slice w4.heap.size 2 2) (M++[f.args,(f.locals.length:Int)]++f.locals) [f.result,(f.code.length:Int)] rfl rfl ?h1 ?h2 ?h3 ?h4 ?_)
     case h1=>first | exact hI4.chg j5 (fun _ _ _ e=>e) | (rw [List.append_assoc];exact hI4.chg j5 (fun _ _ _ e=>e))
     case h2=>exact lit_rd [f.result,(f.code.length:Int)] 2 rfl (by unfold maxLen;omega)
     case h3=>have:=HB2.out;simp;omega
     case h4=>exact Nat.le_trans k4.size j5.size
     intro a5 n5 c5 w5 hn5 hI5 hch5
     have k5:=app_new hI4 k4 j5 hch5
     have b5:=app_box (hI4.chg j5 (fun _ _ _ e=>e)) (b4.chg j5 (fun e=>e)) hch5
     clear hn5 hch5 c2 c3' hI4 b4 k4 hb4 j5
     have c3':w5.cell? ⟨fb,3,none⟩=some (.slice ca f.code.length cc):=b5.cell 3
     obtain ⟨N,hN⟩:∃ N,M++[f.args,(f.locals.length:Int)]++f.locals++[f.result,(f.code.length:Int)]=N:=⟨_,rfl⟩
     have hI5':IntsV w5 W0.heap.size (.slice a5 n5 c5) N:=by rw [<-hN];first | exact hI5 | simpa [List.append_assoc] using hI5
     have hNl:N.length<=52+300 * k:=by rw [<-hN];have:=HB2.out;simp;omega
     have HN:=hid hN
     have HNL:=hid hNl
     clear hN hNl hI5
     go_wp2_with fail
     clear c3'
     go_loopw [3,68] (fun v iv wr=>∃ (j n:Nat) (a:Option Addr) (c:Nat),j<=f.code.length/\iv=.int .i64 (j:Int)/\v=.slice a n c/\IntsV wr W0.heap.size (.slice a n c) (N++(f.code.take j).flatMap numI)/\Chg () W0 wr) (fun _ iv _=>f.code.length - (intOf iv).toNat)
     case atStart=>exact ⟨0,n5,a5,c5,Nat.zero_le _,rfl,rfl,by simpa using hI5',k5⟩
     case round =>
      clear hI5' k5 b5
      obtain ⟨j,n',a',c',hj,rfl,rfl,hJ,kj⟩:=hrel
      have HJL:Hid ((N++(f.code.take j).flatMap numI).length<=52+300 * k+3 * j):=by
       show (N++(f.code.take j).flatMap numI).length<=52+300 * k+3 * j
       rw [List.length_append,numI_len,List.length_take];have:=HNL.out;omega
      by_cases hjl:j < f.code.length
      ·have hjl':(j:Int) < (f.code.length:Int):=by omega
       have HSJ:Hid ((f.code.take (j+1)).flatMap numI=(f.code.take j).flatMap numI++numI f.code[j]):=flat_step numI f.code j hjl
       obtain ⟨gk,kcap,hce,_,_,_,hcode⟩:=hc.form (by omega)
       simp only [Value.slice.injEq] at hce
       obtain ⟨rfl,_,rfl⟩:=hce
       obtain ⟨i0,i1,i2⟩:=hcode j hjl
       have i0:=kj.cellF i0
       have i1:=kj.cellF i1
       have i2:=kj.cellF i2
       have hgk:gk < wr.heap.size:=World.block_lt_of_cell? wr _ i0
       clear hcode
       generalize f.code[j]=x at *
       have jx:Chg () wr ((wr.alloc (Obj.cells #[x.1,x.2.1,x.2.2] 98)).alloc (Obj.cells #[x.1,x.2.1,x.2.2] 3)):=((Chg.refl _ _).alloc _).alloc _
       have hzx:(wr.alloc (Obj.cells #[x.1,x.2.1,x.2.2] 98)).heap.size=wr.heap.size+1:=by simp
       go_wp2_with (at_builtin;refine wp_app rfl _ _ rfl W0.heap.size (.slice a' n' c') (.slice (some ⟨wr.heap.size+1,0,none⟩) 3 3) (N++(f.code.take j).flatMap numI) [x.1,x.2.1,x.2.2] rfl rfl ?h1 ?h2 ?h3 ?h4 ?_)
       case h1=>exact hJ.chg jx (fun _ _ _ e=>e)
       case h2=>have:=lit_rd (W:=(wr.alloc (Obj.cells #[x.1,x.2.1,x.2.2] 98))) [x.1,x.2.1,x.2.2] 3 rfl (by unfold maxLen;omega);rw [hzx] at this;exact this
       case h3=>have:=HJL.out;simp at this ⊢;omega
       case h4=>exact Nat.le_trans kj.size jx.size
       generalize ((wr.alloc (Obj.cells #[x.1,x.2.1,x.2.2] 98)).alloc (Obj.cells #[x.1,x.2.1,x.2.2] 3))=Wx at *
       intro a6 n6 c6 w6 hn6 hI6 hch6
       have k6:=app_new hJ kj jx hch6
       clear hn6 hch6 hzx i0 i1 i2
       go_wp2
       refine ⟨⟨j+1,n6,a6,c6,by omega,rfl,rfl,?_,k6⟩,by simp [intOf];omega⟩
       rw [HSJ.out,<-List.append_assoc];first | exact hI6 | simpa [List.append_assoc,numI] using hI6
      ·have hjj:j=f.code.length:=by omega
       have hjl':(f.code.length:Int)<=(j:Int):=by omega
       subst hjj
       rw [List.take_length] at hJ HJL
       go_wp2
       have hE:L++[(fs.length:Int)]++(fs.take (k+1)).flatMap numF=N++f.code.flatMap numI:=by
        rw [HS.out,<-List.append_assoc,HM.out,<-HN.out];simp [numF,List.append_assoc]
       refine ⟨⟨k+1,n',a',c',by omega,rfl,rfl,?_,?_,kj⟩,by simp [intOf];omega⟩
       ·rw [hE];exact hJ
       ·rw [hE];have:=HJL.out;omega
    ·have hkk:k=fs.length:=by omega
     have hlt':(fs.length:Int)<=(k:Int):=by omega
     subst hkk
     rw [List.take_length] at hI
     clear hB2
     go_wp2
     go_ret
     refine ⟨_,rfl,?_,kb.trans kk⟩
     unfold numP
     rw [HL.out]
     exact own_mono hI kb.size
end Go.Proofs.Ytnfnbcbadakofaa
