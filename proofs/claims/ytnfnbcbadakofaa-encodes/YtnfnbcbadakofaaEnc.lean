import Derived.Test.YtnfnbcbadakofaaNum
import Derived.Test.YtnfnbcbadakofaaLng
import Derived.Test.YtnfnbcbadakofaaTxt
namespace Go.Proofs.Ytnfnbcbadakofaa
open Go.RowKit
def encP (ls:List (List Int)) (fs:List Fn):ByteArray × Int:=
 if lngP ls fs=true then (⟨#[]⟩,7) else
 if (rdP (numP ls fs)).1 ≠ 0 then (⟨#[]⟩,7) else
 if 800 < (numP ls fs).length then (⟨#[]⟩,1) else (strOfNums (lows (numP ls fs)),0)
theorem lng_no {ls:List (List Int)} {fs:List Fn} (h:lngP ls fs=false):ls.length<=6/\fs.length<=6/\(∀ l ∈ ls,l.length<=5)/\∀ f ∈ fs,f.locals.length<=8/\f.code.length<=64:=by
 simp only [lngP,Bool.or_eq_false_iff,decide_eq_false_iff_not,List.any_eq_false,lngT,lngF] at h
 obtain ⟨⟨⟨h1,h2⟩,h3⟩,h4⟩:=h
 refine ⟨by omega,by omega,fun l hl=>?_,fun f hf=>?_⟩
 ·have:=h3 l hl;simp at this;omega
 ·have:=h4 f hf;simp at this;omega
theorem flatT_len {ls:List (List Int)} (h:∀ l ∈ ls,l.length<=5):(ls.flatMap numT).length<=6 * ls.length:=by
 induction ls with
 | nil=>simp
 | cons l ls ih =>
  have h1:=h l (by simp)
  have h2:=ih (fun m hm=>h m (by simp [hm]))
  rw [List.flatMap_cons,List.length_append,List.length_cons];simp only [numT,List.length_cons];omega
theorem flatF_len {fs:List Fn} (h:∀ f ∈ fs,f.locals.length<=8/\f.code.length<=64):(fs.flatMap numF).length<=204 * fs.length:=by
 induction fs with
 | nil=>simp
 | cons f fs ih =>
  have h1:=h f (by simp)
  have h2:=ih (fun m hm=>h m (by simp [hm]))
  have h3:=numI_len f.code
  rw [List.flatMap_cons,List.length_append,List.length_cons]
  simp only [numF,List.length_append,List.length_cons,List.length_nil,h3];omega
theorem numP_len {ls:List (List Int)} {fs:List Fn} (h:lngP ls fs=false):(numP ls fs).length<=10000:=by
 obtain ⟨h1,h2,h3,h4⟩:=lng_no h
 have a:=flatT_len h3
 have b:=flatF_len h4
 simp only [numP,List.length_append,List.length_cons,List.length_nil];omega
set_option maxHeartbeats 2000000 in
set_option maxRecDepth 100000 in
theorem encode_any (ta fa:Option Addr) (tc fc:Nat) (ls:List (List Int)) (fs:List Fn) (w:World) (b1:Nat) (ht:TypesV w b1 (.slice ta ls.length tc) ls) (hf:FuncsV 96 98 w b1 (.slice fa fs.length fc) fs) (hl1:ls.length<=17592186044416) (hl2:fs.length<=17592186044416) :
 Calls Try.prog 22 #[.agg #[.slice ta ls.length tc,.slice fa fs.length fc]] w fun e w'=>e=.returned (.tuple #[.string (encP ls fs).1,.int .i64 (encP ls fs).2])/\Chg () w w':=by
 have kb:Chg () w (w.alloc (Obj.cells #[.slice ta ls.length tc,.slice fa fs.length fc] 35)):=(Chg.refl _ w).alloc _
 have bx:Blk (w.alloc (Obj.cells #[.slice ta ls.length tc,.slice fa fs.length fc] 35)) w.heap.size #[.slice ta ls.length tc,.slice fa fs.length fc] 35:=Blk.new w _ 35
 have ht0:=ht.new kb
 have hf0:=hf.chg kb (fun _ _ _ e=>e) (fun _ _ _ e=>e) (fun _ _ _ e=>e)
 clear ht hf
 generalize hE:encP ls fs=E
 have HE:=hid hE
 clear hE
 go_enter Try.func22,Try.ntmps22
 go_wp2_with fail
 generalize (w.alloc (Obj.cells #[.slice ta ls.length tc,.slice fa fs.length fc] 35))=W0 at *
 refine (long_any ta fa tc fc ls fs _ b1 ht0 hf0 hl1 hl2).mono ?_
 rintro e w1 ⟨rfl,k1⟩
 rcases hlg:lngP ls fs
 ·have x0:w1.cell? ⟨w.heap.size,0,none⟩=some (.slice ta ls.length tc):=(bx.chg k1 (fun e=>e)).cell 0
  have x1:w1.cell? ⟨w.heap.size,1,none⟩=some (.slice fa fs.length fc):=(bx.chg k1 (fun e=>e)).cell 1
  obtain ⟨b1',b2',b3',b4'⟩:=lng_no hlg
  have hnl:=numP_len hlg
  have hE1:E=if (rdP (numP ls fs)).1 ≠ 0 then (⟨#[]⟩,7) else if 800 < (numP ls fs).length then (⟨#[]⟩,1) else (strOfNums (lows (numP ls fs)),0):=by
   rw [<-HE.out];unfold encP;rw [hlg];simp
  have HE1:Hid _:=hE1
  clear hE1 HE hlg
  go_wp2_with fail
  refine (numbers_any ta fa tc fc ls fs _ b1 (ht0.new k1) (hf0.chg k1 (fun _ _ _ e=>e) (fun _ _ _ e=>e) (fun _ _ _ e=>e)) b1' b2' b3' b4').mono ?_
  rintro e w2 ⟨v,rfl,hv,k2⟩
  clear x0 x1 b3' b4'
  obtain ⟨N,hN⟩:∃ N,numP ls fs=N:=⟨_,rfl⟩
  rw [hN] at hv hnl
  have HE2:Hid (E=if (rdP N).1 ≠ 0 then (⟨#[]⟩,7) else if 800 < N.length then (⟨#[]⟩,1) else (strOfNums (lows N),0)):=by rw [<-hN];exact HE1.out
  clear HE1 hN
  obtain ⟨va,vc,rfl⟩:=hv.slice
  go_wp2_with fail
  refine (readProg_any _ N _ _ hv hnl).mono ?_
  rintro e w3 ⟨tv,fv,rfl,hty,hfv,_,k3⟩
  obtain ⟨ta3,tc3,rfl⟩:=hty.slice
  obtain ⟨fa3,fc3,rfl⟩:=hfv.slice
  have k4:Chg () w3 (w3.alloc (Obj.cells #[.slice ta3 (rdP N).2.2.types.length tc3,.slice fa3 (rdP N).2.2.funcs.length fc3,(),.int .i64 (rdP N).1,.int .i64 (rdP N).2.1] 80)):=(Chg.refl _ w3).alloc _
  have kT:=(((kb.trans k1).trans k2).trans k3).trans k4
  have hv4:=hv.chg (k3.trans k4) (fun _ _ _ e=>e)
  clear hty hfv
  by_cases hr:(rdP N).1=0
  ·have hr':((rdP N).1 != 0)=false:=by simp [hr]
   by_cases h8:800 < N.length
   ·have h8':(800:Int) < (N.length:Int):=by omega
    have HF:Hid (E=(⟨#[]⟩,1)):=by
     show E=(⟨#[]⟩,1)
     rw [HE2.out,if_neg (by simpa using hr),if_pos h8]
    clear hr HE2
    go_wp2
    go_ret2
    exact ⟨by rw [HF.out];rfl,kT⟩
   ·have h8':(N.length:Int)<=800:=by omega
    have HF:Hid (E=(strOfNums (lows N),0)):=by
     show E=(strOfNums (lows N),0)
     rw [HE2.out,if_neg (by simpa using hr),if_neg h8]
    clear hr HE2
    go_wp2_with fail
    refine (textOf_any _ N _ _ hv4 hnl).mono ?_
    rintro e w5 ⟨rfl,k5⟩
    go_wp2
    go_ret2
    exact ⟨by rw [HF.out];rfl,kT.trans k5⟩
  ·have hr':((rdP N).1 != 0)=true:=by simp [hr]
   have HF:Hid (E=(⟨#[]⟩,7)):=by
    show E=(⟨#[]⟩,7)
    rw [HE2.out,if_pos hr]
   clear hr HE2
   go_wp2
   go_ret2
   exact ⟨by rw [HF.out];rfl,kT⟩
 ·have HF:Hid (E=(⟨#[]⟩,7)):=by
   show E=(⟨#[]⟩,7)
   rw [<-HE.out];unfold encP;rw [hlg];rfl
  clear HE hlg
  go_wp2
  go_ret2
  exact ⟨by rw [HF.out];rfl,kb.trans k1⟩
end Go.Proofs.Ytnfnbcbadakofaa
