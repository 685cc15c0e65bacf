import Derived.Test.YtnfnbcbadakofaaRdb
import Derived.Test.YtnfnbcbadakofaaGfn2
import Derived.Deep.RegionHeld3
namespace Go.Proofs.Ytnfnbcbadakofaa
open Go.RowKit
theorem RdA.ofDrew {w:World} {v:Value} {l:List Int} (h:RdA w v l):RdA w.drew v l:=h.new (Chg.refl _ w).drew
theorem RdA.ofAlloc {w:World} {v:Value} {l:List Int} {o:Obj} (h:RdA w v l):RdA (w.alloc o) v l:=h.new ((Chg.refl _ w).alloc o)
theorem rdA_lit {W:World} {b:Nat} (l:List Int) (n:Nat) (hn:l.length=n) (hm:n<=maxLen) (hb:W.heap.size=b):RdA (W.alloc (.cells (ints l).toArray 3)) (.slice b n n) l:=by
 have:=IntsV.lit (W:=W) (base:=0) l n hn rfl (Nat.zero_le _) hm
 rw [<-hb];exact this.rdA
theorem rdA_lit1 {W:World} {b:Nat} (x:Int) (hb:W.heap.size=b):RdA (W.alloc (.cells #[x] 3)) (.slice b 1 1) [x]:=rdA_lit [x] 1 rfl (by unfold maxLen;omega) hb
theorem rdA_lit2 {W:World} {b:Nat} (x y:Int) (hb:W.heap.size=b):RdA (W.alloc (.cells #[x,y] 3)) (.slice b 2 2) [x,y]:=rdA_lit [x,y] 2 rfl (by unfold maxLen;omega) hb
theorem rdA_lit3 {W:World} {b:Nat} (x y z:Int) (hb:W.heap.size=b):RdA (W.alloc (.cells #[x,y,z] 3)) (.slice b 3 3) [x,y,z]:=rdA_lit [x,y,z] 3 rfl (by unfold maxLen;omega) hb
theorem RdFs.formA {w:World} {v:Value} {l:List Fn} (h:RdFs w v l) (h0:0 < l.length):∃ (a:Addr) (c:Nat),v=.slice (some a) l.length c/\∀ j (hj:j < l.length),∃ lv cv,w.cell? (a.add (j * 4))=some (.int .i64 l[j].args)/\w.cell? ⟨(a.add (j * 4)).block,(a.add (j * 4)).off+1,none⟩=some lv /\
 w.cell? ⟨(a.add (j * 4)).block,(a.add (j * 4)).off+2,none⟩=some (.int .i64 l[j].result)/\w.cell? ⟨(a.add (j * 4)).block,(a.add (j * 4)).off+3,none⟩=some cv/\RdA w lv l[j].locals/\RdIs w cv l[j].code:=by
 rcases h with ⟨rfl,rfl⟩ | ⟨a,c,h1,_,_,h4⟩
 ·simp at h0
 ·exact ⟨a,c,h1,h4⟩
theorem RdIs.formA {w:World} {v:Value} {k:List (Int × Int × Int)} (h:RdIs w v k) (h0:0 < k.length):∃ (a:Addr) (c:Nat),v=.slice (some a) k.length c/\∀ j (hj:j < k.length),w.cell? (a.add (j * 3))=some (.int .i64 k[j].1)/\w.cell? ⟨(a.add (j * 3)).block,(a.add (j * 3)).off+1,none⟩=some (.int .i64 k[j].2.1)/\w.cell? ⟨(a.add (j * 3)).block,(a.add (j * 3)).off+2,none⟩=some (.int .i64 k[j].2.2):=by
 rcases h with ⟨rfl,rfl⟩ | ⟨a,c,h1,_,_,h4⟩
 ·simp at h0
 ·exact ⟨a,c,h1,h4⟩
def txt (L:List Int):ByteArray:=strOfNums (lows L)
theorem txt_app (L M:List Int):txt (L++M)=txt L++txt M:=by unfold txt lows;rw [List.map_append,strOfNums_append]
theorem txt_size (L:List Int):(txt L).size=L.length:=by unfold txt;rw [strOfNums_size];simp [lows]
theorem bytes_txt (v:Value) (l:List Int) (X:World) (h:RdA X v l) (hl:l.length<=100):Calls Try.prog 72 #[v] X fun e w'=>e=.returned (.string (txt l))/\Chg () X w':=bytes_rd v l X h (by omega)
set_option maxHeartbeats 4000000 in
set_option maxRecDepth 100000 in
theorem image_rd (ta fa:Option Addr) (tc fc:Nat) (ls:List (List Int)) (fs:List Fn) (w:World) (ht:RdTs w (.slice ta ls.length tc) ls) (hf:RdFs w (.slice fa fs.length fc) fs) (hl6:ls.length<=6) (hl5:∀ l ∈ ls,l.length<=5) (hf6:fs.length<=6) (hf8:∀ f ∈ fs,f.locals.length<=8/\f.code.length<=64) :
 Calls Try.prog 50 #[.agg #[.slice ta ls.length tc,.slice fa fs.length fc]] w fun e w'=>e=.returned (.string (txt (numP ls fs)))/\Chg () w w':=by
 have kb:Chg () w (w.alloc (Obj.cells #[.slice ta ls.length tc,.slice fa fs.length fc] 28)):=(Chg.refl _ w).alloc _
 have bx:Blk (w.alloc (Obj.cells #[.slice ta ls.length tc,.slice fa fs.length fc] 28)) w.heap.size #[.slice ta ls.length tc,.slice fa fs.length fc] 28:=Blk.new w _ 28
 have HT:=hid (ht.new kb)
 have HF:=hid (hf.new kb)
 have HL5:=hid hl5
 have HF8:=hid hf8
 clear ht hf hl5 hf8
 obtain ⟨T,hT⟩:∃ T,txt (numP ls fs)=T:=⟨_,rfl⟩
 rw [hT]
 have HTX:=hid hT
 clear hT
 have HB0':∀ X b,RdA X (.slice (some ⟨b,0,none⟩) 1 1) [(ls.length:Int)]->Calls Try.prog 72 #[.slice (some ⟨b,0,none⟩) 1 1] X fun e w'=>e=.returned (.string (txt [(ls.length:Int)]))/\Chg () X w':=fun X b hX=>bytes_txt _ _ X hX (by simp)
 obtain ⟨Q0,hQ0⟩:∃ Q,txt [(ls.length:Int)]=Q:=⟨_,rfl⟩
 rw [hQ0] at HB0'
 have HB0:Hid _:=HB0'
 have HQ0:Hid (Q0=txt [(ls.length:Int)]):=hQ0.symm
 clear HB0' hQ0
 have hWs:(w.alloc (Obj.cells #[.slice ta ls.length tc,.slice fa fs.length fc] 28)).heap.size=w.heap.size+1:=by simp
 go_enter Try.func50,Try.ntmps50
 go_wp2_with fail
 generalize (w.alloc (Obj.cells #[.slice ta ls.length tc,.slice fa fs.length fc] 28))=W0 at *
 refine (HB0.out _ _ (rdA_lit1 _ hWs)).mono ?_
 rintro e w1 ⟨rfl,j1⟩
 have k1:Chg () W0 w1:=((Chg.refl _ W0).alloc _).trans j1
 clear j1
 go_wp2_with fail
 go_loopw [3,4] (fun u iv wr=>∃ (k:Nat) (L:List Int),k<=ls.length/\iv=.int .i64 (k:Int)/\L=[(ls.length:Int)]++(ls.take k).flatMap numT/\u=.string (txt L)/\L.length<=1+6 * k/\Chg () W0 wr) (fun _ iv _=>ls.length - (intOf iv).toNat)
 case atStart=>exact ⟨0,[(ls.length:Int)],Nat.zero_le _,rfl,by simp,by rw [HQ0.out],by simp,k1⟩
 case round =>
  clear k1
  obtain ⟨k,L,hk,rfl,hL,rfl,hLl,kk⟩:=hrel
  have HL:=hid hL
  clear hL
  have x0:wr.cell? ⟨w.heap.size,0,none⟩=some (.slice ta ls.length tc):=(bx.chg kk (fun q=>q)).cell 0
  by_cases hlt:k < ls.length
  ·have hlt':(k:Int) < (ls.length:Int):=by omega
   obtain ⟨a,c,hte,hcell⟩:=HT.out.form (by omega)
   simp only [Value.slice.injEq] at hte
   obtain ⟨rfl,_,rfl⟩:=hte
   obtain ⟨x,y,hx⟩:=hcell k hlt
   have hx5:(ls.getD k []).length<=5:=by
    rw [List.getD_eq_getElem?_getD,List.getElem?_eq_getElem hlt];exact HL5.out _ (List.getElem_mem hlt)
   have HS:Hid ((ls.take (k+1)).flatMap numT=(ls.take k).flatMap numT++numT (ls.getD k [])):=by
    show _=_
    rw [List.take_succ_eq_append_getElem hlt,List.flatMap_append,List.getD_eq_getElem?_getD,List.getElem?_eq_getElem hlt];simp
   clear hcell
   generalize ls.getD k []=l at *
   obtain ⟨xa,xc,rfl⟩:=hx.slice
   have y':=kk.cellF y
   have KK:=hid kk
   have HX:=hid hx
   have HBY:Hid (∀ X,Chg () W0 X->Calls Try.prog 72 #[.slice xa l.length xc] X fun e w'=>e=.returned (.string (txt l))/\Chg () X w'):=fun X kX=>bytes_txt _ l X (HX.out.new kX) (by omega)
   have HLT:Hid (∀ X b,RdA X (.slice (some ⟨b,0,none⟩) 1 1) [(l.length:Int)]->Calls Try.prog 72 #[.slice (some ⟨b,0,none⟩) 1 1] X fun e w'=>e=.returned (.string (txt [(l.length:Int)]))/\Chg () X w'):=fun X b hX=>bytes_txt _ _ X hX (by simp)
   have fS:Hid (∀ X,Chg () W0 X->X.cell? ⟨w.heap.size,0,none⟩=some (.slice (some a) ls.length tc)/\X.cell? (a.add k)=some (.slice xa l.length xc)):=fun X kX=>⟨(bx.chg kX (fun q=>q)).cell 0,kX.cellF y⟩
   have e1:(txt L).size<=1000:=by rw [txt_size];omega
   have e2:(txt l).size<=1000:=by rw [txt_size];omega
   have e3:(txt [(l.length:Int)]).size<=1000:=by rw [txt_size];simp
   have e4:(txt L++txt [(l.length:Int)]).size<=2000:=by rw [<-txt_app,txt_size];simp;omega
   clear y hx kk
   generalize hP1:txt [(l.length:Int)]=P1 at *
   generalize hP2:txt l=P2 at *
   generalize hP0:txt L=P0 at *
   have G1:=hid hP1
   have G2:=hid hP2
   have G0:=hid hP0
   clear hP0 hP1 hP2
   have hA1:∀ X:World,(Op.stringOp .add P0 P1).run Try.prog X=.ok (.string (P0++P1)) X:=fun X=>run_string_add_sum X _ _ (by omega)
   have hA2:∀ X:World,(Op.stringOp .add (P0++P1) P2).run Try.prog X=.ok (.string (P0++P1++P2)) X:=fun X=>run_string_add_sum X _ _ (by omega)
   clear e1 e2 e3 e4
   go_wp2
   go_region_held3 (fun w'=>w'.cell? ⟨w.heap.size,0,none⟩=some (.slice (some a) ls.length tc)/\w'.cell? (a.add k)=some (.slice xa l.length xc)) (go_keep) (first | (go_at_call 72;with_reducible show Calls Try.prog 72 #[Value.slice xa l.length xc] _ _;refine (HBY.out _ (by repeat' (first | exact KK.out | apply Chg.drew | apply Chg.alloc | refine Chg.trans ?_ (by assumption)))).mono ?_;rintro e w1 ⟨rfl,j1⟩;obtain ⟨q0,q1⟩:=fS.out w1 (by repeat' (first | exact KK.out | apply Chg.drew | apply Chg.alloc | refine Chg.trans ?_ (by assumption)))) | (go_at_call 72;with_reducible show Calls Try.prog 72 #[Value.slice _ 1 1] _ _;refine (HLT.out _ _ (by repeat' (first | exact rdA_lit1 _ (by simp) | apply RdA.ofDrew | apply RdA.ofAlloc | refine RdA.new ?_ (by assumption)))).mono ?_;rintro e w1 ⟨rfl,j1⟩;obtain ⟨q0,q1⟩:=fS.out w1 (by repeat' (first | exact KK.out | apply Chg.drew | apply Chg.alloc | refine Chg.trans ?_ (by assumption)))))
   all_goals
    have kF:Chg () W0 w1:=by repeat' (first | exact KK.out | apply Chg.drew | apply Chg.alloc | refine Chg.trans ?_ (by assumption))
    go_wp2
    refine ⟨⟨k+1,L++numT l,by omega,rfl,by rw [HS.out,HL.out,List.append_assoc],?_,by unfold numT;simp;omega,kF⟩,by simp [intOf];omega⟩
    have:numT l=[(l.length:Int)]++l:=rfl
    rw [txt_app,this,txt_app,G0.out,G1.out,G2.out,ByteArray.append_assoc]
  ·have hlt':(ls.length:Int)<=(k:Int):=by omega
   have hkk:k=ls.length:=by omega
   subst hkk
   rw [List.take_length] at HL
   have hLl2:L.length<=37:=by omega
   have x1:wr.cell? ⟨w.heap.size,1,none⟩=some (.slice fa fs.length fc):=(bx.chg kk (fun q=>q)).cell 1
   have HBf':∀ X b,RdA X (.slice (some ⟨b,0,none⟩) 1 1) [(fs.length:Int)]->Calls Try.prog 72 #[.slice (some ⟨b,0,none⟩) 1 1] X fun e w'=>e=.returned (.string (txt [(fs.length:Int)]))/\Chg () X w':=fun X b hX=>bytes_txt _ _ X hX (by simp)
   have e1:(txt L).size<=1000:=by rw [txt_size];omega
   have e3:(txt [(fs.length:Int)]).size<=1000:=by rw [txt_size];simp
   obtain ⟨M,hM⟩:∃ M,L++[(fs.length:Int)]=M:=⟨_,rfl⟩
   have hMl:M.length<=38:=by rw [<-hM];simp;omega
   have hMt:txt L++txt [(fs.length:Int)]=txt M:=by rw [<-hM,txt_app]
   have HMM:Hid (M=[(ls.length:Int)]++ls.flatMap numT++[(fs.length:Int)]):=by show M=_;rw [<-hM,HL.out]
   generalize txt [(fs.length:Int)]=P1 at *
   generalize txt L=P0 at *
   have hA1:∀ X:World,(Op.stringOp .add P0 P1).run Try.prog X=.ok (.string (txt M)) X:=fun X=>by rw [<-hMt];exact run_string_add_sum X _ _ (by omega)
   have HBf:Hid _:=HBf'
   clear HBf' hM hMt HL
   have j0:Chg () wr (wr.alloc (Obj.cells #[fs.length] 3)):=(Chg.refl _ wr).alloc _
   go_wp2_with fail
   refine (HBf.out _ _ (rdA_lit1 _ rfl)).mono ?_
   rintro e w2 ⟨rfl,j1⟩
   have k2:Chg () W0 w2:=(kk.trans j0).trans j1
   clear j1 j0 kk x0 x1 e1 e3
   go_wp2_with fail
   go_loopw [3,5] (fun u iv wr=>∃ (k:Nat) (L:List Int),k<=fs.length/\iv=.int .i64 (k:Int)/\L=M++(fs.take k).flatMap numF/\u=.string (txt L)/\L.length<=38+204 * k/\Chg () W0 wr) (fun _ iv _=>fs.length - (intOf iv).toNat)
   case atStart=>exact ⟨0,M,Nat.zero_le _,rfl,by simp,rfl,by omega,k2⟩
   case round =>
    clear k2 HBf hA1
    obtain ⟨k,L,hk,rfl,hL,rfl,hLl,kk⟩:=hrel
    have HL:=hid hL
    clear hL
    have x1:wr.cell? ⟨w.heap.size,1,none⟩=some (.slice fa fs.length fc):=(bx.chg kk (fun q=>q)).cell 1
    by_cases hlt:k < fs.length
    ·have hlt':(k:Int) < (fs.length:Int):=by omega
     obtain ⟨a,c,hte,hcell⟩:=(HF.out.new kk).formA (by omega)
     simp only [Value.slice.injEq] at hte
     obtain ⟨rfl,_,rfl⟩:=hte
     obtain ⟨lv,cv,y0,y1,y2,y3,hlo,hco⟩:=hcell k hlt
     have h8:=HF8.out _ (List.getElem_mem hlt)
     have HS:Hid ((fs.take (k+1)).flatMap numF=(fs.take k).flatMap numF++numF fs[k]):=by
      show _=_
      rw [List.take_succ_eq_append_getElem hlt,List.flatMap_append];simp
     clear hcell
     generalize fs[k]=f at *
     obtain ⟨la,lc,rfl⟩:=hlo.slice
     obtain ⟨ca,cc,rfl⟩:=hco.slice
     go_wp2_with fail
     have kG:Chg () wr (wr.alloc (Obj.cells #[f.args,.slice la f.locals.length lc,f.result,.slice ca f.code.length cc] 92)):=(Chg.refl _ wr).alloc _
     have gB:Blk (wr.alloc (Obj.cells #[f.args,.slice la f.locals.length lc,f.result,.slice ca f.code.length cc] 92)) wr.heap.size #[f.args,.slice la f.locals.length lc,f.result,.slice ca f.code.length cc] 92:=Blk.new wr _ 92
     have HLO:=hlo.new kG
     have HCO:=hco.new kG
     have kW:=kk.trans kG
     have hlb:wr.heap.size < (wr.alloc (Obj.cells #[f.args,.slice la f.locals.length lc,f.result,.slice ca f.code.length cc] 92)).heap.size:=gB.lt
     clear kG hlo hco x1 y0 y1 y2 y3 kk
     generalize (wr.alloc (Obj.cells #[f.args,.slice la f.locals.length lc,f.result,.slice ca f.code.length cc] 92))=Wg at *
     generalize wr.heap.size=gb at *
     have KK:Hid (Chg () Wg Wg):=Chg.refl _ Wg
     have HBY':∀ X,Chg () Wg X->Calls Try.prog 72 #[.slice la f.locals.length lc] X fun e w'=>e=.returned (.string (txt f.locals))/\Chg () X w':=fun X kX=>bytes_txt _ _ X (HLO.new kX) (by omega)
     have HL1':∀ X b,RdA X (.slice (some ⟨b,0,none⟩) 2 2) [f.args,(f.locals.length:Int)]->Calls Try.prog 72 #[.slice (some ⟨b,0,none⟩) 2 2] X fun e w'=>e=.returned (.string (txt [f.args,(f.locals.length:Int)]))/\Chg () X w':=fun X b hX=>bytes_txt _ _ X hX (by simp)
     have HL2':∀ X b,RdA X (.slice (some ⟨b,0,none⟩) 2 2) [f.result,(f.code.length:Int)]->Calls Try.prog 72 #[.slice (some ⟨b,0,none⟩) 2 2] X fun e w'=>e=.returned (.string (txt [f.result,(f.code.length:Int)]))/\Chg () X w':=fun X b hX=>bytes_txt _ _ X hX (by simp)
     have fS:Hid (∀ X,Chg () Wg X->X.cell? ⟨gb,0,none⟩=some (.int .i64 f.args)/\X.cell? ⟨gb,1,none⟩=some (.slice la f.locals.length lc)/\X.cell? ⟨gb,2,none⟩=some (.int .i64 f.result)/\X.cell? ⟨gb,3,none⟩=some (.slice ca f.code.length cc)):=fun X kX=>⟨(gB.chg kX (fun q=>q)).cell 0,(gB.chg kX (fun q=>q)).cell 1,(gB.chg kX (fun q=>q)).cell 2,(gB.chg kX (fun q=>q)).cell 3⟩
     obtain ⟨g0,g1,g2,g3⟩:=fS.out Wg (Chg.refl _ Wg)
     have e0:(txt L).size<=2000:=by rw [txt_size];omega
     have e1:(txt [f.args,(f.locals.length:Int)]).size<=1000:=by rw [txt_size];simp
     have e2:(txt f.locals).size<=1000:=by rw [txt_size];omega
     have e3:(txt [f.result,(f.code.length:Int)]).size<=1000:=by rw [txt_size];simp
     obtain ⟨L2,hL2⟩:∃ M,L++[f.args,(f.locals.length:Int)]++f.locals++[f.result,(f.code.length:Int)]=M:=⟨_,rfl⟩
     have hL2l:L2.length<=50+204 * k:=by rw [<-hL2];simp;omega
     have HT2:txt L++txt [f.args,(f.locals.length:Int)]++txt f.locals++txt [f.result,(f.code.length:Int)]=txt L2:=by rw [<-hL2,txt_app,txt_app,txt_app]
     have HLL2:=hid hL2
     clear hL2
     generalize txt [f.args,(f.locals.length:Int)]=Pa at *
     generalize txt f.locals=Pb at *
     generalize txt [f.result,(f.code.length:Int)]=Pc at *
     generalize txt L=P0 at *
     have s1:(P0++Pa).size=P0.size+Pa.size:=by simp
     have s2:(P0++Pa++Pb).size=P0.size+Pa.size+Pb.size:=by simp
     have hA1:∀ X:World,(Op.stringOp .add P0 Pa).run Try.prog X=.ok (.string (P0++Pa)) X:=fun X=>run_string_add_sum X _ _ (by omega)
     have hA2:∀ X:World,(Op.stringOp .add (P0++Pa) Pb).run Try.prog X=.ok (.string (P0++Pa++Pb)) X:=fun X=>run_string_add_sum X _ _ (by omega)
     have hA3:∀ X:World,(Op.stringOp .add (P0++Pa++Pb) Pc).run Try.prog X=.ok (.string (txt L2)) X:=fun X=>by rw [<-HT2];exact run_string_add_sum X _ _ (by omega)
     have HBY:Hid _:=HBY'
     have HL1:Hid _:=HL1'
     have HL2:Hid _:=HL2'
     clear HBY' HL1' HL2' HT2 s1 s2 e0 e1 e2 e3
     go_wp2
     go_region_held3 (fun w'=>w'.cell? ⟨gb,0,none⟩=some (.int .i64 f.args)/\w'.cell? ⟨gb,1,none⟩=some (.slice la f.locals.length lc)/\w'.cell? ⟨gb,2,none⟩=some (.int .i64 f.result)/\w'.cell? ⟨gb,3,none⟩=some (.slice ca f.code.length cc)) (go_keep) (first | (go_at_call 72;with_reducible show Calls Try.prog 72 #[Value.slice la f.locals.length lc] _ _;refine (HBY.out _ (by repeat' (first | exact KK.out | apply Chg.drew | apply Chg.alloc | refine Chg.trans ?_ (by assumption)))).mono ?_;rintro e w1 ⟨rfl,j1⟩;obtain ⟨q0,q1,q2,q3⟩:=fS.out w1 (by repeat' (first | exact KK.out | apply Chg.drew | apply Chg.alloc | refine Chg.trans ?_ (by assumption)))) | (go_at_call 72;with_reducible show Calls Try.prog 72 #[Value.slice _ 2 2] _ _;refine (HL1.out _ _ (by repeat' (first | exact rdA_lit2 _ _ (by simp) | apply RdA.ofDrew | apply RdA.ofAlloc | refine RdA.new ?_ (by assumption)))).mono ?_;clear HL1;rintro e w1 ⟨rfl,j1⟩;obtain ⟨q0,q1,q2,q3⟩:=fS.out w1 (by repeat' (first | exact KK.out | apply Chg.drew | apply Chg.alloc | refine Chg.trans ?_ (by assumption)))) | (go_at_call 72;with_reducible show Calls Try.prog 72 #[Value.slice _ 2 2] _ _;refine (HL2.out _ _ (by repeat' (first | exact rdA_lit2 _ _ (by simp) | apply RdA.ofDrew | apply RdA.ofAlloc | refine RdA.new ?_ (by assumption)))).mono ?_;rintro e w1 ⟨rfl,j1⟩;obtain ⟨q0,q1,q2,q3⟩:=fS.out w1 (by repeat' (first | exact KK.out | apply Chg.drew | apply Chg.alloc | refine Chg.trans ?_ (by assumption)))))
     all_goals
      have kF:Chg () Wg w1:=(by repeat' (first | exact KK.out | apply Chg.drew | apply Chg.alloc | refine Chg.trans ?_ (by assumption)))
      clear q0 q1 q2 q3 g0 g1 g2 g3 hA1 hA2 hA3 HBY HL2
      go_wp2_with fail
      go_loopw [3,7] (fun u iv wr=>∃ (i:Nat) (L3:List Int),i<=f.code.length/\iv=.int .i64 (i:Int)/\L3=L2++(f.code.take i).flatMap numI/\u=.string (txt L3)/\L3.length<=50+204 * k+3 * i/\Chg () Wg wr) (fun _ iv _=>f.code.length - (intOf iv).toNat)
      case atStart=>exact ⟨0,L2,Nat.zero_le _,rfl,by simp,rfl,by omega,kF⟩
      case round =>
       clear kF
       obtain ⟨i,L3,hi,rfl,hL3,rfl,hL3l,kk⟩:=hrel
       have HL3:=hid hL3
       clear hL3
       obtain ⟨_,_,_,g3⟩:=fS.out wr kk
       by_cases hit:i < f.code.length
       ·have hit':(i:Int) < (f.code.length:Int):=by omega
        obtain ⟨a2,c2,hte2,hcell2⟩:=HCO.formA (by omega)
        simp only [Value.slice.injEq] at hte2
        obtain ⟨rfl,_,rfl⟩:=hte2
        obtain ⟨z0,z1,z2⟩:=hcell2 i hit
        have HS2:Hid ((f.code.take (i+1)).flatMap numI=(f.code.take i).flatMap numI++numI f.code[i]):=by
         show _=_
         rw [List.take_succ_eq_append_getElem hit,List.flatMap_append];simp
        generalize f.code[i]=ins at *
        obtain ⟨o,A,B⟩:=ins
        simp only at z0 z1 z2
        have FS2:Hid (∀ X,Chg () Wg X->X.cell? ⟨gb,3,none⟩=some (.slice (some a2) f.code.length cc)/\X.cell? (a2.add (i * 3))=some (.int .i64 o)/\X.cell? ⟨(a2.add (i * 3)).block,(a2.add (i * 3)).off+1,none⟩=some (.int .i64 A)/\X.cell? ⟨(a2.add (i * 3)).block,(a2.add (i * 3)).off+2,none⟩=some (.int .i64 B)):=fun X kX=>⟨(gB.chg kX (fun q=>q)).cell 3,kX.cellF z0,kX.cellF z1,kX.cellF z2⟩
        have KK:=hid kk
        have fS:=FS2
        obtain ⟨g3,z0,z1,z2⟩:=fS.out wr kk
        have HL3':∀ X b,RdA X (.slice (some ⟨b,0,none⟩) 3 3) [o,A,B]->Calls Try.prog 72 #[.slice (some ⟨b,0,none⟩) 3 3] X fun e w'=>e=.returned (.string (txt [o,A,B]))/\Chg () X w':=fun X b hX=>bytes_txt _ _ X hX (by simp)
        have e0:(txt L3).size<=2000:=by rw [txt_size];omega
        have e1:(txt [o,A,B]).size<=1000:=by rw [txt_size];simp
        obtain ⟨L4,hL4⟩:∃ M,L3++[o,A,B]=M:=⟨_,rfl⟩
        have HT4:txt L3++txt [o,A,B]=txt L4:=by rw [<-hL4,txt_app]
        have HL4:=hid hL4
        have hL4l:L4.length<=50+204 * k+3 * (i+1):=by rw [<-hL4];simp;omega
        clear hL4
        generalize txt [o,A,B]=Pa at *
        generalize txt L3=P0 at *
        have hA1:∀ X:World,(Op.stringOp .add P0 Pa).run Try.prog X=.ok (.string (txt L4)) X:=fun X=>by rw [<-HT4];exact run_string_add_sum X _ _ (by omega)
        have HC3:Hid _:=HL3'
        clear HL3' HT4 e0 e1 kk hcell2
        go_wp2
        go_region_held3 (fun w'=>w'.cell? ⟨gb,3,none⟩=some (.slice (some a2) f.code.length cc)/\w'.cell? (a2.add (i * 3))=some (.int .i64 o)/\w'.cell? ⟨(a2.add (i * 3)).block,(a2.add (i * 3)).off+1,none⟩=some (.int .i64 A)/\w'.cell? ⟨(a2.add (i * 3)).block,(a2.add (i * 3)).off+2,none⟩=some (.int .i64 B)) (go_keep) (first | (go_at_call 72;with_reducible show Calls Try.prog 72 #[Value.slice _ 3 3] _ _;refine (HC3.out _ _ (by repeat' (first | exact rdA_lit3 _ _ _ (by simp) | apply RdA.ofDrew | apply RdA.ofAlloc | refine RdA.new ?_ (by assumption)))).mono ?_;rintro e w1 ⟨rfl,j1⟩;obtain ⟨q0,q1,q2,q3⟩:=fS.out w1 (by repeat' (first | exact KK.out | apply Chg.drew | apply Chg.alloc | refine Chg.trans ?_ (by assumption)))))
        all_goals
         have kF:Chg () Wg w1:=(by repeat' (first | exact KK.out | apply Chg.drew | apply Chg.alloc | refine Chg.trans ?_ (by assumption)))
         go_wp2
         exact ⟨⟨i+1,L4,by omega,rfl,by rw [HS2.out,<-HL4.out,HL3.out,List.append_assoc];rfl,rfl,by omega,kF⟩,by simp [intOf];omega⟩
       ·have hit':(f.code.length:Int)<=(i:Int):=by omega
        have hii:i=f.code.length:=by omega
        subst hii
        rw [List.take_length] at HL3
        have HN:Hid (L3=L++numF f):=by
         show L3=_
         rw [HL3.out,<-HLL2.out];unfold numF;simp
        have kR:=kW.trans kk
        clear kk HL3 HLL2
        go_wp2
        exact ⟨⟨k+1,L3,by omega,rfl,by rw [HS.out,HN.out,HL.out,List.append_assoc],rfl,by omega,kR⟩,by simp [intOf];omega⟩
    ·have hlt':(fs.length:Int)<=(k:Int):=by omega
     have hkk:k=fs.length:=by omega
     subst hkk
     rw [List.take_length] at HL
     have HN:Hid (T=txt L):=by
      show T=_
      rw [<-HTX.out,HL.out,HMM.out];rfl
     have kR:=kb.trans kk
     clear HL HTX
     go_wp2
     go_ret
     exact ⟨by rw [HN.out];rfl,kR⟩
end Go.Proofs.Ytnfnbcbadakofaa
