import Derived.Test.YtnfnbcbadakofaaGfn2
import Derived.Test.YtnfnbcbadakofaaRt2
import Derived.Test.YtnfnbcbadakofaaEnc
namespace Go.Proofs.Ytnfnbcbadakofaa
open Go.RowKit
def gAll (ls:List (List Int)) (fu:Int):Nat->List Fn->Bool
 | _,[]=>true
 | k,f::fs=>gFP ls fu k f && gAll ls fu (k+1) fs
def goodP (ls:List (List Int)) (fs:List Fn):Bool:=decide (ls.length<=6) && wB fs.length 1 6 && ls.all (fun l=>gtP l 5 ls.length) && gAll ls fs.length 0 fs
set_option maxHeartbeats 4000000 in
set_option maxRecDepth 100000 in
theorem good_rd (ta fa:Option Addr) (tc fc:Nat) (ls:List (List Int)) (fs:List Fn) (w:World) (ht:RdTs w (.slice ta ls.length tc) ls) (hf:RdFs w (.slice fa fs.length fc) fs) (hbl:∀ j,(ls.getD j []).length<=17592186044416) (hbf:∀ f ∈ fs,f.locals.length<=17592186044416/\f.code.length<=17592186044416) :
 Calls Try.prog 49 #[.agg #[.slice ta ls.length tc,.slice fa fs.length fc]] w fun e w'=>e=.returned (.bool (goodP ls fs))/\Chg () w w':=by
 have kb:Chg () w (w.alloc (Obj.cells #[.slice ta ls.length tc,.slice fa fs.length fc] 28)):=(Chg.refl _ w).alloc _
 have bx:Blk (w.alloc (Obj.cells #[.slice ta ls.length tc,.slice fa fs.length fc] 28)) w.heap.size #[.slice ta ls.length tc,.slice fa fs.length fc] 28:=Blk.new w _ 28
 have ht0:=ht.new kb
 have hf0:=hf.new kb
 have HBL:=hid hbl
 have HBF:=hid hbf
 clear ht hf hbl hbf
 by_cases h6:6 < ls.length
 ·have e1:goodP ls fs=false:=by simp [goodP];omega
  rw [e1]
  have h6':(6:Int) < (ls.length:Int):=by omega
  clear e1
  go_enter Try.func49,Try.ntmps49
  go_wp2
  go_ret
  exact ⟨rfl,kb⟩
 have h6':(ls.length:Int)<=6:=by omega
 generalize hG:goodP ls fs=G
 have HG:=hid hG
 clear hG
 go_enter Try.func49,Try.ntmps49
 go_wp2_with fail
 generalize (w.alloc (Obj.cells #[.slice ta ls.length tc,.slice fa fs.length fc] 28))=W0 at *
 refine (within_any _ _ _ _).mono ?_
 rintro e w' ⟨rfl,hw'⟩
 have hw':=hw'.symm
 subst hw'
 rcases hb1:wB (fs.length:Int) 1 6
 ·have HF:Hid (G=false):=by
   show G=false
   rw [<-HG.out];simp [goodP,hb1]
  clear hb1
  go_wp2
  go_ret
  exact ⟨by rw [HF.out];rfl,kb⟩
 have hfs:1<=fs.length/\fs.length<=6:=by
  have h:=hb1
  simp [wB] at h
  omega
 have HG1:Hid (G=(ls.all (fun l=>gtP l 5 ls.length) && gAll ls fs.length 0 fs)):=by
  show G=(ls.all (fun l=>gtP l 5 ls.length) && gAll ls fs.length 0 fs)
  have hd:decide (ls.length<=6)=true:=by simp;omega
  rw [<-HG.out];unfold goodP;rw [hb1,hd];rfl
 clear hb1 HG
 have x0:W0.cell? ⟨w.heap.size,0,none⟩=some (.slice ta ls.length tc):=bx.cell 0
 have x1:W0.cell? ⟨w.heap.size,1,none⟩=some (.slice fa fs.length fc):=bx.cell 1
 go_wp2_with fail
 go_loopw [3] (fun iv wr=>∃ k:Nat,k<=ls.length/\iv=.int .i64 (k:Int)/\(∃ n,wr=W0.drewN n)/\ls.all (fun l=>gtP l 5 ls.length)=(ls.drop k).all (fun l=>gtP l 5 ls.length)) (fun iv _=>ls.length - (intOf iv).toNat)
 case atStart=>exact ⟨0,Nat.zero_le _,rfl,⟨0,rfl⟩,by simp⟩
 case round =>
  obtain ⟨k,hk,rfl,⟨m,rfl⟩,hE⟩:=hrel
  have HE:=hid hE
  clear hE
  by_cases hlt:k < ls.length
  ·have hlt':(k:Int) < (ls.length:Int):=by omega
   have HS:Hid ((ls.drop k).all (fun l=>gtP l 5 ls.length)=(gtP (ls.getD k []) 5 ls.length && (ls.drop (k+1)).all (fun l=>gtP l 5 ls.length))):=by
    show (ls.drop k).all (fun l=>gtP l 5 ls.length)=(gtP (ls.getD k []) 5 ls.length && (ls.drop (k+1)).all (fun l=>gtP l 5 ls.length))
    rw [List.drop_eq_getElem_cons hlt,List.getD_eq_getElem?_getD,List.getElem?_eq_getElem hlt];rfl
   obtain ⟨a,c,hte,hcell⟩:=ht0.form (by omega)
   simp only [Value.slice.injEq] at hte
   obtain ⟨rfl,_,rfl⟩:=hte
   obtain ⟨x,y,hx⟩:=hcell k hlt
   have hbk:=HBL.out k
   clear hcell
   generalize ls.getD k []=l at *
   obtain ⟨xa,xc,rfl⟩:=hx.slice
   have hx':RdA (W0.drewN m) (.slice xa l.length xc) l:=hx
   have y':(W0.drewN m).cell? (a.add k)=some (.slice xa l.length xc):=y
   have x0':(W0.drewN m).cell? ⟨w.heap.size,0,none⟩=some (.slice (some a) ls.length tc):=x0
   have kV:Chg () W0 (W0.drewN m):=(Chg.refl _ W0).drewN m
   generalize hV:W0.drewN m=V at *
   have HV:=hid hV
   clear hV
   rcases hb:gtP l 5 (ls.length:Int)
   ·have HF:Hid (G=false):=by
     show G=false
     rw [HG1.out,HE.out,HS.out,hb];rfl
    have HC:Hid (∀ e,e=Ending.returned (.bool (gtP l 5 (ls.length:Int)))->e=Ending.returned (.bool false)):=fun e h=>by rw [h,hb]
    have hq:∀ n,Calls Try.prog 70 #[.slice xa l.length xc,(5:Int),ls.length] (V.drewN n) fun e w'=>e=.returned (.bool false)/\w'=V.drewN n:=fun n=>(goodTypes_any _ l 5 (ls.length:Int) (V.drewN n) hx' hbk).mono (fun e w' h=>⟨HC.out e h.1,h.2⟩)
    clear hb
    go_wp2
    go_quiet ((go_at_call 70;exact Calls.quiet_of_same (hq _)))
    go_wp2
    go_ret
    exact ⟨by rw [HF.out];rfl,(kb.trans kV).drewN _⟩
   ·have HN:Hid (ls.all (fun l=>gtP l 5 ls.length)=(ls.drop (k+1)).all (fun l=>gtP l 5 ls.length)):=by
     show ls.all (fun l=>gtP l 5 ls.length)=(ls.drop (k+1)).all (fun l=>gtP l 5 ls.length)
     rw [HE.out,HS.out,hb];rfl
    have HC:Hid (∀ e,e=Ending.returned (.bool (gtP l 5 (ls.length:Int)))->e=Ending.returned (.bool true)):=fun e h=>by rw [h,hb]
    have hq:∀ n,Calls Try.prog 70 #[.slice xa l.length xc,(5:Int),ls.length] (V.drewN n) fun e w'=>e=.returned (.bool true)/\w'=V.drewN n:=fun n=>(goodTypes_any _ l 5 (ls.length:Int) (V.drewN n) hx' hbk).mono (fun e w' h=>⟨HC.out e h.1,h.2⟩)
    clear hb
    go_wp2
    go_quiet ((go_at_call 70;exact Calls.quiet_of_same (hq _)))
    go_wp2
    exact ⟨⟨k+1,by omega,rfl,⟨m+nq,by rw [<-HV.out,World.drewN_drewN]⟩,HN.out⟩,by simp [intOf];omega⟩
  ·have hlt':(ls.length:Int)<=(k:Int):=by omega
   have HT:Hid (ls.all (fun l=>gtP l 5 ls.length)=true):=by
    show ls.all (fun l=>gtP l 5 ls.length)=true
    rw [HE.out,List.drop_eq_nil_of_le (by omega)];rfl
   have hl5:∀ j,(ls.getD j []).length<=10000:=by
    intro j
    rcases Nat.lt_or_ge j ls.length with hj | hj
    ·have h:=HT.out
     rw [List.all_eq_true] at h
     have:=h ls[j] (List.getElem_mem hj)
     simp [gtP] at this
     rw [List.getD_eq_getElem?_getD,List.getElem?_eq_getElem hj]
     simp only [Option.getD_some];omega
    ·rw [List.getD_eq_getElem?_getD,List.getElem?_eq_none hj];simp
   have HG2:Hid (G=gAll ls fs.length 0 fs):=by
    show G=gAll ls fs.length 0 fs
    rw [HG1.out,HT.out];rfl
   have kV:Chg () W0 (W0.drewN m):=(Chg.refl _ W0).drewN m
   have bV:=bx.chg kV (fun e=>e)
   have x0':(W0.drewN m).cell? ⟨w.heap.size,0,none⟩=some (.slice ta ls.length tc):=x0
   have x1':(W0.drewN m).cell? ⟨w.heap.size,1,none⟩=some (.slice fa fs.length fc):=x1
   have htV:=ht0.new kV
   have hfV:=hf0.new kV
   have kbV:=kb.trans kV
   clear HE HG1 HT x0 x1 ht0 hf0 bx kb
   generalize W0.drewN m=V at *
   go_wp2_with fail
   go_loopw [4] (fun iv wr=>∃ k:Nat,k<=fs.length/\iv=.int .i64 (k:Int)/\Chg () V wr/\gAll ls fs.length 0 fs=gAll ls fs.length k (fs.drop k)) (fun iv _=>fs.length - (intOf iv).toNat)
   case atStart=>exact ⟨0,Nat.zero_le _,rfl,Chg.refl _ _,by simp⟩
   case round =>
    obtain ⟨k,hk,rfl,kk,hE⟩:=hrel
    have HE:=hid hE
    clear hE
    have z0:wr.cell? ⟨w.heap.size,0,none⟩=some (.slice ta ls.length tc):=(bV.chg kk (fun e=>e)).cell 0
    have z1:wr.cell? ⟨w.heap.size,1,none⟩=some (.slice fa fs.length fc):=(bV.chg kk (fun e=>e)).cell 1
    by_cases hlt:k < fs.length
    ·have hlt':(k:Int) < (fs.length:Int):=by omega
     have HS:Hid (gAll ls fs.length k (fs.drop k)=(gFP ls fs.length k fs[k] && gAll ls fs.length (k+1) (fs.drop (k+1)))):=by
      show gAll ls fs.length k (fs.drop k)=(gFP ls fs.length k fs[k] && gAll ls fs.length (k+1) (fs.drop (k+1)))
      rw [List.drop_eq_getElem_cons hlt];rfl
     go_wp2_with fail
     refine (goodFunc_rd ta tc _ ls fs k _ (htV.new kk) (hfV.new kk) hlt (by omega) hl5 hfs.2 (HBF.out _ (List.getElem_mem hlt))).mono ?_
     rintro e w5 ⟨rfl,k5⟩
     clear z0 z1
     rcases hb:gFP ls fs.length k fs[k]
     ·have HF:Hid (G=false):=by
       show G=false
       rw [HG2.out,HE.out,HS.out,hb];rfl
      clear hb
      go_wp2
      go_ret
      exact ⟨by rw [HF.out];rfl,(kbV.trans kk).trans k5⟩
     ·have HN:Hid (gAll ls fs.length 0 fs=gAll ls fs.length (k+1) (fs.drop (k+1))):=by
       show gAll ls fs.length 0 fs=gAll ls fs.length (k+1) (fs.drop (k+1))
       rw [HE.out,HS.out,hb];rfl
      clear hb
      go_wp2
      exact ⟨⟨k+1,by omega,rfl,kk.trans k5,HN.out⟩,by simp [intOf];omega⟩
    ·have hlt':(fs.length:Int)<=(k:Int):=by omega
     have HF:Hid (G=true):=by
      show G=true
      rw [HG2.out,HE.out,List.drop_eq_nil_of_le (by omega)];rfl
     go_wp2
     go_ret
     exact ⟨by rw [HF.out];rfl,kbV.trans kk⟩
end Go.Proofs.Ytnfnbcbadakofaa
namespace Go.Proofs.Ytnfnbcbadakofaa
open Go.RowKit
theorem wB_iff {n lo hi:Int}:wB n lo hi=true ↔ lo<=n/\n<=hi:=by simp [wB]
theorem gtP_iff {l:List Int} {most n:Int}:gtP l most n=true ↔ (l.length:Int)<=most/\∀ t ∈ l,0<=t/\t<=n:=by
 simp only [gtP,Bool.and_eq_true,decide_eq_true_eq,List.all_eq_true,wB_iff]
theorem gIP_iff {ls:List (List Int)} {fu lo co:Int} {x:Int × Int × Int}:gIP ls fu lo co x=true ↔ InsOk ls fu lo co x:=by
 simp only [gIP,Bool.and_eq_true,wB_iff,InsOk]
 constructor
 ·rintro ⟨⟨a,b⟩,c⟩;exact ⟨a,b,c⟩
 ·rintro ⟨a,b,c⟩;exact ⟨⟨a,b⟩,c⟩
theorem gFirst_iff {k:Nat} {f:Fn}:gFirst k f=true ↔ (k=0->f.args=0/\f.result=0):=by
 by_cases hk:k=0
 ·simp [gFirst,hk]
 ·simp [gFirst,hk]
theorem gFP_iff {ls:List (List Int)} {fu:Int} {k:Nat} {f:Fn}:gFP ls fu k f=true ↔ GF ls fu (k == 0) f:=by
 simp only [gFP,gHead,Bool.and_eq_true,wB_iff,gtP_iff,decide_eq_true_eq,List.all_eq_true,gIP_iff,gFirst_iff,GF]
 by_cases hk:k=0
 ·have hb:(k == 0)=true:=by simp [hk]
  simp only [hb,if_true]
  constructor
  ·rintro ⟨⟨⟨⟨⟨⟨a,b⟩,c⟩,d⟩,e⟩,g⟩,i⟩
   obtain ⟨e1,e2⟩:=e hk
   exact ⟨by omega,by omega,c.2,by omega,g,i⟩
  ·rintro ⟨a,b,c,d,e,g⟩
   exact ⟨⟨⟨⟨⟨⟨by omega,by omega⟩,by omega,c⟩,by omega⟩,fun _=>by omega⟩,e⟩,g⟩
 ·have hb:(k == 0)=false:=by simp [hk]
  simp only [hb]
  constructor
  ·rintro ⟨⟨⟨⟨⟨⟨a,b⟩,c⟩,d⟩,e⟩,g⟩,i⟩
   exact ⟨by simpa using a,by omega,c.2,by simpa using d,g,i⟩
  ·rintro ⟨a,b,c,d,e,g⟩
   exact ⟨⟨⟨⟨⟨⟨by simpa using a,b.1⟩,b.2,c⟩,by simpa using d⟩,fun h=>absurd h hk⟩,e⟩,g⟩
theorem gAll_iff {ls:List (List Int)} {fu:Int} (fs:List Fn):∀ (k:Nat),gAll ls fu k fs=true ↔ ∀ j (hj:j < fs.length),gFP ls fu (k+j) fs[j]=true:=by
 induction fs with
 | nil=>intro k;simp [gAll]
 | cons f fs ih =>
  intro k
  simp only [gAll,Bool.and_eq_true,ih]
  constructor
  ·rintro ⟨a,b⟩ j hj
   rcases j with _ | j
   ·simpa using a
   ·have:=b j (by simpa using hj)
    simpa [Nat.add_assoc,Nat.add_comm 1 j] using this
  ·intro h
   refine ⟨h 0 (by simp),fun j hj=>?_⟩
   have:=h (j+1) (by simpa using hj)
   simpa [Nat.add_assoc,Nat.add_comm 1 j] using this
theorem goodP_iff {ls:List (List Int)} {fs:List Fn}:goodP ls fs=true ↔ GP ⟨ls,fs⟩:=by
 simp only [goodP,Bool.and_eq_true,decide_eq_true_eq,wB_iff,List.all_eq_true,gtP_iff,gAll_iff,gFP_iff,GP,Nat.zero_add]
 constructor
 ·rintro ⟨⟨⟨a,b⟩,c⟩,d⟩
  exact ⟨a,fun l hl=>⟨by have:=(c l hl).1;omega,(c l hl).2⟩,by omega,d⟩
 ·rintro ⟨a,b,c,d⟩
  exact ⟨⟨⟨a,by omega⟩,fun l hl=>⟨by have:=(b l hl).1;omega,(b l hl).2⟩⟩,d⟩
def docP (ls:List (List Int)) (fs:List Fn):ByteArray × Int:=
 if goodP ls fs=false then (⟨#[]⟩,7) else if 800 < (numP ls fs).length then (⟨#[]⟩,1) else (strOfNums (lows (numP ls fs)),0)
theorem GP.lng {ls:List (List Int)} {fs:List Fn} (h:GP ⟨ls,fs⟩):lngP ls fs=false:=by
 obtain ⟨a,b,c,d⟩:=h
 simp only [lngP,Bool.or_eq_false_iff,decide_eq_false_iff_not,List.any_eq_false,lngT,lngF]
 refine ⟨⟨⟨by simp only at a;omega,by simp only at c;omega⟩,fun l hl=>?_⟩,fun f hf=>?_⟩
 ·have:=(b l hl).1;simp;omega
 ·obtain ⟨j,hj,rfl⟩:=List.mem_iff_getElem.1 hf
  have h1:(fs[j].locals.length:Int)<=8:=(d j hj).2.1.2
  have h2:(fs[j].code.length:Int)<=64:=(d j hj).2.2.2.2.1.2
  simp;omega
theorem enc_doc (ls:List (List Int)) (fs:List Fn):encP ls fs=docP ls fs:=by
 unfold encP docP
 obtain ⟨r1,r2⟩:=rd_num ⟨ls,fs⟩
 by_cases hg:GP ⟨ls,fs⟩
 ·have h1:=hg.lng
  have h2:goodP ls fs=true:=goodP_iff.2 hg
  have h3:=r1 hg
  simp only at h3
  rw [h1,h2,h3];simp
 ·have h2:goodP ls fs=false:=by
   cases h:goodP ls fs
   ·rfl
   ·exact absurd (goodP_iff.1 h) hg
  have h3:=r2 hg
  simp only at h3
  rw [h2]
  cases h1:lngP ls fs
  ·simp [h3]
  ·simp
end Go.Proofs.Ytnfnbcbadakofaa
