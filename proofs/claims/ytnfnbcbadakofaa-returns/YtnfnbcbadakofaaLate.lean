import Derived.Test.YtnfnbcbadakofaaGdp
import Derived.Test.YtnfnbcbadakofaaRdb
import Derived.Test.YtnfnbcbadakofaaMad
import Derived.Test.YtnfnbcbadakofaaLaw
import Derived.Lib.SmallJoins
import Derived.Deep.Matrix
import Derived.Deep.Strs
import Derived.Carry
namespace Go.Proofs.Ytnfnbcbadakofaa
open Go.RowKit
set_option maxHeartbeats 2000000
set_option maxRecDepth 100000
theorem docP_no {ls:List (List Int)} {fs:List Fn} (h:goodP ls fs=false):docP ls fs=(⟨#[]⟩,7):=by unfold docP;rw [if_pos h]
theorem docP_yes {ls:List (List Int)} {fs:List Fn} (h:goodP ls fs=true):docP ls fs=if 800 < (numP ls fs).length then (⟨#[]⟩,1) else (strOfNums (lows (numP ls fs)),0):=by unfold docP;rw [if_neg (by rw [h];decide)]
theorem rencode_core (ta fa:Option Addr) (tc fc:Nat) (ls:List (List Int)) (fs:List Fn) (w:World) (ht:RdTs w (.slice ta ls.length tc) ls) (hf:RdFs w (.slice fa fs.length fc) fs) (hbl:∀ j,(ls.getD j []).length<=17592186044416) (hbf:∀ f ∈ fs,f.locals.length<=17592186044416/\f.code.length<=17592186044416)
 (him:goodP ls fs=true->∀ w',Chg () w w'->Calls Try.prog 50 #[.agg #[.slice ta ls.length tc,.slice fa fs.length fc]] w' fun e w''=>e=.returned (.string (strOfNums (lows (numP ls fs))))/\Chg () w' w'') :
 Calls Try.prog 23 #[.agg #[.slice ta ls.length tc,.slice fa fs.length fc]] w fun e w'=>e=.returned (.tuple #[.string (docP ls fs).1,.int .i64 (docP ls fs).2])/\Chg () w w':=by
 have kb:Chg () w (w.alloc (Obj.cells #[.slice ta ls.length tc,.slice fa fs.length fc] 28)):=(Chg.refl _ w).alloc _
 have bx:Blk (w.alloc (Obj.cells #[.slice ta ls.length tc,.slice fa fs.length fc] 28)) w.heap.size #[.slice ta ls.length tc,.slice fa fs.length fc] 28:=Blk.new w _ 28
 have ht0:=ht.new kb
 have hf0:=hf.new kb
 have HIM:=hid him
 clear ht hf him
 generalize hD:docP ls fs=D
 have HD:=hid hD
 clear hD
 go_enter Try.func23,Try.ntmps23
 go_wp2_with fail
 generalize (w.alloc (Obj.cells #[.slice ta ls.length tc,.slice fa fs.length fc] 28))=W0 at *
 refine (good_rd ta fa tc fc ls fs _ ht0 hf0 hbl hbf).mono ?_
 rintro e w1 ⟨rfl,k1⟩
 rcases hg:goodP ls fs
 ·have HF:Hid (D=(⟨#[]⟩,7)):=by
   show D=(⟨#[]⟩,7)
   rw [<-HD.out,docP_no hg]
  clear hg HD
  go_wp2
  go_ret2
  exact ⟨by rw [HF.out];rfl,kb.trans k1⟩
 ·have hd:=docP_yes hg
  rw [HD.out] at hd
  have himg:=HIM.out hg _ (kb.trans k1)
  have HI:Hid (∀ (_:Unit),Calls Try.prog 50 #[.agg #[.slice ta ls.length tc,.slice fa fs.length fc]] w1 fun e w''=>e=.returned (.string (strOfNums (lows (numP ls fs))))/\Chg () w1 w''):=fun _=>himg
  have hlg:=(goodP_iff.1 hg).lng
  have hnl:=numP_len hlg
  have x0:w1.cell? ⟨w.heap.size,0,none⟩=some (.slice ta ls.length tc):=(bx.chg k1 (fun e=>e)).cell 0
  have x1:w1.cell? ⟨w.heap.size,1,none⟩=some (.slice fa fs.length fc):=(bx.chg k1 (fun e=>e)).cell 1
  have hsz:(strOfNums (lows (numP ls fs))).size=(numP ls fs).length:=by rw [strOfNums_size];simp [lows]
  have HDD:=hid hd
  clear hd himg hlg hg HIM HD
  go_wp2_with fail
  refine (HI.out ()).mono ?_
  rintro e w2 ⟨rfl,k2⟩
  generalize hN:numP ls fs=N at *
  clear hN x0 x1
  generalize hT:strOfNums (lows N)=T at *
  clear hT
  by_cases h8:800 < N.length
  ·have h8':(800:Int) < (T.size:Int):=by omega
   have HF:Hid (D=(⟨#[]⟩,1)):=by
    show D=(⟨#[]⟩,1)
    rw [HDD.out,if_pos h8]
   clear HDD
   go_wp2
   go_ret2
   exact ⟨by rw [HF.out];rfl,(kb.trans k1).trans k2⟩
  ·have h8':(T.size:Int)<=800:=by omega
   have HF:Hid (D=(T,0)):=by
    show D=(T,0)
    rw [HDD.out,if_neg h8]
   clear HDD
   go_wp2
   go_ret2
   exact ⟨by rw [HF.out];rfl,(kb.trans k1).trans k2⟩
end Go.Proofs.Ytnfnbcbadakofaa
namespace Go.Proofs.Ytnfnbcbadakofaa
open Go.RowKit
theorem image_good (ta fa:Option Addr) (tc fc:Nat) (ls:List (List Int)) (fs:List Fn) (w:World) (ht:RdTs w (.slice ta ls.length tc) ls) (hf:RdFs w (.slice fa fs.length fc) fs) (hg:goodP ls fs=true) :
 Calls Try.prog 50 #[.agg #[.slice ta ls.length tc,.slice fa fs.length fc]] w fun e w'=>e=.returned (.string (strOfNums (lows (numP ls fs))))/\Chg () w w':=by
 obtain ⟨a,b,c,d⟩:=goodP_iff.1 hg
 refine image_rd ta fa tc fc ls fs w ht hf a (fun l hl=>(b l hl).1) c.2 (fun f hm=>?_)
 obtain ⟨j,hj,rfl⟩:=List.mem_iff_getElem.1 hm
 have d':GF ls fs.length (j == 0) fs[j]:=d j hj
 unfold GF at d'
 exact ⟨by omega,by omega⟩
theorem rencode_any (ta fa:Option Addr) (tc fc:Nat) (ls:List (List Int)) (fs:List Fn) (w:World) (ht:RdTs w (.slice ta ls.length tc) ls) (hf:RdFs w (.slice fa fs.length fc) fs) (hbl:∀ j,(ls.getD j []).length<=17592186044416) (hbf:∀ j (hj:j < fs.length),fs[j].locals.length<=17592186044416/\fs[j].code.length<=5864062014805) :
 Calls Try.prog 23 #[.agg #[.slice ta ls.length tc,.slice fa fs.length fc]] w fun e w'=>e=.returned (.tuple #[.string (docP ls fs).1,.int .i64 (docP ls fs).2])/\Chg () w w':=
 rencode_core ta fa tc fc ls fs w ht hf (fun j=>by have:=hbl j;omega) (fun f hm=>by
  obtain ⟨j,hj,rfl⟩:=List.mem_iff_getElem.1 hm
  have:=hbf j hj
  omega) (fun hg w' k=>image_good ta fa tc fc ls fs w' (ht.new k) (hf.new k) hg)
theorem encodes_walk (ta fa:Option Addr) (tc fc:Nat) (ls:List (List Int)) (fs:List Fn) (w:World) (ht:RdTs w (.slice ta ls.length tc) ls) (hf:RdFs w (.slice fa fs.length fc) fs) (hlt:ls.length<=5864062014805) (hbl:∀ j,(ls.getD j []).length<=17592186044416) (hft:fs.length<=2199023255552) (hbf:∀ j (hj:j < fs.length),fs[j].locals.length<=17592186044416/\fs[j].code.length<=5864062014805) :
 Calls Try.prog 5 #[.agg #[.slice ta ls.length tc,.slice fa fs.length fc]] w fun e w'=>e=.returned (.bool true)/\Chg () w w':=by
 have kb:Chg () w (w.alloc (Obj.cells #[.slice ta ls.length tc,.slice fa fs.length fc] 28)):=(Chg.refl _ w).alloc _
 have bx:Blk (w.alloc (Obj.cells #[.slice ta ls.length tc,.slice fa fs.length fc] 28)) w.heap.size #[.slice ta ls.length tc,.slice fa fs.length fc] 28:=Blk.new w _ 28
 have HT:=hid (ht.new kb)
 have HF:=hid (hf.new kb)
 have HBL:=hid hbl
 have HBF:=hid hbf
 clear ht hf hbl hbf
 go_enter Try.func5,Try.ntmps5
 go_wp2_with fail
 generalize (w.alloc (Obj.cells #[.slice ta ls.length tc,.slice fa fs.length fc] 28))=W0 at *
 refine (made_core ta fa tc fc ls fs _ HT.out HF.out hlt HBL.out hft HBF.out).mono ?_
 rintro e w1 ⟨tv',fv',rfl,h1,h2,k1⟩
 obtain ⟨ta',tc',rfl⟩:=h1.slice
 obtain ⟨fa',fc',rfl⟩:=h2.slice
 have H1:=hid h1
 have H2:=hid h2
 clear h1 h2
 have kA:Chg () w1 (w1.alloc (Obj.cells #[.slice ta' ls.length tc',.slice fa' fs.length fc'] 35)):=(Chg.refl _ w1).alloc _
 go_wp2_with fail
 refine (encode_any ta' fa' tc' fc' ls fs _ W0.heap.size (H1.out.new kA) (H2.out.chg kA (fun _ _ _ e=>e) (fun _ _ _ e=>e) (fun _ _ _ e=>e)) (by omega) (by omega)).mono ?_
 rintro e w2 ⟨rfl,k2⟩
 have k02:Chg () W0 w2:=(k1.trans kA).trans k2
 rw [enc_doc]
 have x0:w2.cell? ⟨w.heap.size,0,none⟩=some (.slice ta ls.length tc):=(bx.chg k02 (fun e=>e)).cell 0
 have x1:w2.cell? ⟨w.heap.size,1,none⟩=some (.slice fa fs.length fc):=(bx.chg k02 (fun e=>e)).cell 1
 have RE:=rencode_any ta fa tc fc ls fs w2 (HT.out.new k02) (HF.out.new k02) HBL.out HBF.out
 obtain ⟨D,hD⟩:∃ D,docP ls fs=D:=⟨_,rfl⟩
 rw [hD] at RE ⊢
 obtain ⟨P,n⟩:=D
 have HRE:Hid (∀ (_:Unit),Calls Try.prog 23 #[.agg #[.slice ta ls.length tc,.slice fa fs.length fc]] w2 fun e w'=>e=.returned (.tuple #[.string P,n])/\Chg () w2 w'):=fun _=>RE
 clear RE hD H1 H2 HT HF k1 k2 kA
 go_wp2_with fail
 refine (HRE.out ()).mono ?_
 rintro e w3 ⟨rfl,k3⟩
 clear x0 x1
 go_wp2
 go_ret
 exact ⟨by first | rfl | simp,(kb.trans k02).trans k3⟩
end Go.Proofs.Ytnfnbcbadakofaa
namespace Go.Proofs.Ytnfnbcbadakofaa
open Go.RowKit Go.ChangeShapes
theorem pick {α:Type} {P:Nat->α->Prop}:∀ (n:Nat),(∀ i,i < n->∃ x,P i x)->∃ l:List α,l.length=n/\∀ i (hi:i < l.length),P i l[i]:=by
 intro n
 induction n with
 | zero=>intro _;exact ⟨[],rfl,fun i hi=>by simp at hi⟩
 | succ n ih =>
  intro h
  obtain ⟨l,hl,hp⟩:=ih (fun i hi=>h i (by omega))
  obtain ⟨x,hx⟩:=h n (by omega)
  refine ⟨l++[x],by simp [hl],fun i hi=>?_⟩
  simp only [List.length_append,List.length_cons,List.length_nil] at hi
  by_cases hin:i < l.length
  ·rw [List.getElem_append_left hin];exact hp i hin
  ·have:i=n:=by omega
   subst this
   rw [List.getElem_append_right (by omega)]
   simp [hl];exact hx
theorem bulk_one {H:Type} (d:DataW H):1<=Rows.uptoBulk d:=by
 cases d with
 | lit l=>cases l <;> simp [Rows.uptoBulk]
 | nil=>simp [Rows.uptoBulk]
 | ptr d=>simp [Rows.uptoBulk]
 | slice elems spare=>simp [Rows.uptoBulk]
 | agg parts=>simp [Rows.uptoBulk]
 | iface t d=>simp [Rows.uptoBulk]
 | map entries=>simp [Rows.uptoBulk]
 | held h=>simp [Rows.uptoBulk]
theorem bulk_len {H:Type} (l:List (DataW H)):l.length<=Rows.uptoBulkAll l:=by
 induction l with
 | nil=>simp [Rows.uptoBulkAll]
 | cons x r ih=>have:=bulk_one x;simp only [Rows.uptoBulkAll,List.length_cons];omega
theorem bulk_elems {H:Type} (elems spare:List (DataW H)):Rows.uptoBulkAll elems+1<=Rows.uptoBulk (.slice elems spare):=by
 simp only [Rows.uptoBulk]
 omega
section
variable {H:Type} {enc:TypeId × Value->H} {W:World}
theorem cells_n {a:Addr} {k:Nat} {cs:List Value} (h:W.cells? 0 a k=some cs):cs.length=k/\∀ i,i < k->W.cell? (a.add i)=cs[i]?:=by
 unfold World.cells? at h
 rw [if_pos (Nat.zero_le _)] at h
 have hgen:∀ (l:List Nat) (cs:List Value),l.mapM (fun i=>W.cell? (a.add i))=some cs->cs.length=l.length/\∀ i,i < l.length->W.cell? (a.add (l.getD i 0))=cs[i]?:=by
  intro l
  induction l with
  | nil=>intro cs h;simp at h;subst h;exact ⟨rfl,fun i hi=>by simp at hi⟩
  | cons x l ih =>
   intro cs h
   rw [List.mapM_cons] at h
   cases hx:W.cell? (a.add x) with
   | none=>rw [hx] at h;cases h
   | some v =>
    rw [hx] at h
    cases hr:l.mapM (fun i=>W.cell? (a.add i)) with
    | none=>rw [hr] at h;cases h
    | some r =>
     rw [hr] at h
     have:cs=v::r:=by simpa using h.symm
     subst this
     obtain ⟨h1,h2⟩:=ih r hr
     refine ⟨by simp [h1],fun i hi=>?_⟩
     cases i with
     | zero=>simpa using hx
     | succ i=>simpa using h2 i (by simpa using hi)
 obtain ⟨h1,h2⟩:=hgen _ _ h
 rw [List.length_range] at h1 h2
 refine ⟨h1,fun i hi=>?_⟩
 have:=h2 i hi
 rw [List.getD_eq_getElem?_getD,List.getElem?_range hi] at this
 exact this
end
end Go.Proofs.Ytnfnbcbadakofaa
namespace Go.Proofs.Ytnfnbcbadakofaa
open Go.RowKit Go.ChangeShapes Go.Deep Go.Joins
section
variable {H:Type} {enc:TypeId × Value->H} {W:World}
theorem opn_int {n:Nat} {cs:List Value} {x:DataW H × List MemPlace} (h:DataW.trod enc Try.prog W 0 (fun _=>true) true n 3 cs=some x):∃ z,cs=[.int .i64 z]:=by
 obtain ⟨z,h1,_⟩:=DataW.trod_int Try.underlying3 h
 exact ⟨z,h1⟩
theorem add_more {a:Addr} {k i:Nat} (hi:i ≠ 0):(a.add k).add i=⟨(a.add k).block,(a.add k).off+i,none⟩:=by
 generalize a.add k=b
 unfold Addr.add
 rw [if_neg hi]
theorem opn_code {n:Nat} {cs:List Value} {x:DataW H × List MemPlace} (h:DataW.trod enc Try.prog W 0 (fun _=>true) true n 90 cs=some x) :
 ∃ v k,cs=[v]/\RdIs W v k/\k.length<=Rows.uptoBulk x.1:=by
 rcases open_slice Try.underlying90 h with ⟨rfl,rfl⟩ | ⟨a,len,cap,m,n',D,Pl,rfl,_,hle,hcap,hm,rfl,hx⟩
 ·exact ⟨_,[],rfl,.inl ⟨rfl,rfl⟩,by simp⟩
 ·simp only [if_true] at hm
  subst hm
  have hc3:Try.prog.cellsOf 99=3:=by kernel_rfl
  have hc1:Try.prog.cellsOf 3=1:=by kernel_rfl
  rw [hc3] at hx
  obtain ⟨ks,hl,hp⟩:=pick (P:=fun i (t:Int × Int × Int)=>W.cell? (a.add (i * 3))=some (.int .i64 t.1)/\W.cell? ⟨(a.add (i * 3)).block,(a.add (i * 3)).off+1,none⟩=some (.int .i64 t.2.1)/\W.cell? ⟨(a.add (i * 3)).block,(a.add (i * 3)).off+2,none⟩=some (.int .i64 t.2.2)) len (fun i hi=>by
   obtain ⟨cs',h1,h2⟩:=hx i (by omega)
   obtain ⟨hl3,hcell⟩:=cells_n h1
   obtain ⟨y0,y1,y2,n2,_,_,t0,t1,t2⟩:=trod_struct3 Try.underlying99 h2
   simp only [hc1] at t0 t1 t2
   obtain ⟨z0,e0⟩:=opn_int t0
   obtain ⟨z1,e1⟩:=opn_int t1
   obtain ⟨z2,e2⟩:=opn_int t2
   match cs',hl3 with
   | [c0,c1,c2],_ =>
    simp at e0 e1 e2
    subst e0;subst e1;subst e2
    have g0:=hcell 0 (by omega)
    have g1:=hcell 1 (by omega)
    have g2:=hcell 2 (by omega)
    rw [add_more (by omega)] at g1 g2
    exact ⟨(z0,z1,z2),by simpa [Addr.add] using g0,by simpa using g1,by simpa using g2⟩)
  have h1:=bulk_elems ((List.range len).map D) ((List.range (m - len)).map fun j=>D (len+j))
  have h2:=bulk_len ((List.range len).map D)
  rw [List.length_map,List.length_range] at h2
  exact ⟨_,ks,rfl,.inr ⟨a,m,by rw [hl],by rw [hl];exact hle,hcap,fun j hj=>hp j hj⟩,by simp only;omega⟩
end
end Go.Proofs.Ytnfnbcbadakofaa
