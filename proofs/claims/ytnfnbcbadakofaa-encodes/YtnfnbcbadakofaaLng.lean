import Derived.Test.YtnfnbcbadakofaaChk3
namespace Go.Proofs.Ytnfnbcbadakofaa
open Go.RowKit
def lngF (f:Fn):Bool:=decide (8 < f.locals.length) || decide (64 < f.code.length)
def lngT (l:List Int):Bool:=decide (5 < l.length)
def lngP (ls:List (List Int)) (fs:List Fn):Bool:=decide (6 < ls.length) || decide (6 < fs.length) || ls.any lngT || fs.any lngF
theorem any_step {α:Type} (p:α->Bool) (l:List α) (k:Nat) (hk:k < l.length):(l.drop k).any p=(p l[k] || (l.drop (k+1)).any p):=by
 rw [List.drop_eq_getElem_cons hk];rfl
set_option maxHeartbeats 2000000 in
set_option maxRecDepth 100000 in
theorem long_any (ta fa:Option Addr) (tc fc:Nat) (ls:List (List Int)) (fs:List Fn) (w:World) (b1:Nat) (ht:TypesV w b1 (.slice ta ls.length tc) ls) (hf:FuncsV 96 98 w b1 (.slice fa fs.length fc) fs) (hl1:ls.length<=17592186044416) (hl2:fs.length<=17592186044416) :
 Calls Try.prog 45 #[.agg #[.slice ta ls.length tc,.slice fa fs.length fc]] w fun e w'=>e=.returned (.bool (lngP ls fs))/\Chg () w w':=by
 have kb:Chg () w (w.alloc (Obj.cells #[.slice ta ls.length tc,.slice fa fs.length fc] 35)):=(Chg.refl _ w).alloc _
 have bx:Blk (w.alloc (Obj.cells #[.slice ta ls.length tc,.slice fa fs.length fc] 35)) w.heap.size #[.slice ta ls.length tc,.slice fa fs.length fc] 35:=Blk.new w _ 35
 have ht0:=ht.new kb
 have hf0:=hf.chg kb (fun _ _ _ e=>e) (fun _ _ _ e=>e) (fun _ _ _ e=>e)
 clear ht hf
 by_cases h1:6 < ls.length
 ·have e1:lngP ls fs=true:=by simp [lngP,h1]
  rw [e1]
  have h1':(6:Int) < (ls.length:Int):=by omega
  clear e1
  go_enter Try.func45,Try.ntmps45
  go_wp2
  go_ret
  exact ⟨rfl,kb⟩
 by_cases h2:6 < fs.length
 ·have e1:lngP ls fs=true:=by simp [lngP,h2]
  rw [e1]
  have h1':(ls.length:Int)<=6:=by omega
  have h2':(6:Int) < (fs.length:Int):=by omega
  clear e1
  go_enter Try.func45,Try.ntmps45
  go_wp2
  go_ret
  exact ⟨rfl,kb⟩
 have eP:lngP ls fs=(ls.any lngT || fs.any lngF):=by simp [lngP,h1,h2]
 rw [eP]
 clear eP
 have h1':(ls.length:Int)<=6:=by omega
 have h2':(fs.length:Int)<=6:=by omega
 go_enter Try.func45,Try.ntmps45
 go_wp2_with fail
 generalize (w.alloc (Obj.cells #[.slice ta ls.length tc,.slice fa fs.length fc] 35))=W0 at *
 go_loopw [20] (fun iv wr=>∃ k:Nat,k<=ls.length/\iv=.int .i64 (k:Int)/\wr=W0/\ls.any lngT=(ls.drop k).any lngT) (fun iv _=>ls.length - (intOf iv).toNat)
 case atStart=>exact ⟨0,Nat.zero_le _,rfl,rfl,by simp⟩
 case round =>
  obtain ⟨k,hk,rfl,rfl,hE⟩:=hrel
  have HE:=hid hE
  clear hE
  by_cases hlt:k < ls.length
  ·have hlt':(k:Int) < (ls.length:Int):=by omega
   have HS:Hid ((ls.drop k).any lngT=(lngT ls[k] || (ls.drop (k+1)).any lngT)):=any_step lngT ls k hlt
   obtain ⟨g,cap,x,hte,_,y,hx⟩:=ht0.cell k hlt
   have hgd:ls.getD k []=ls[k]:=by rw [List.getD_eq_getElem?_getD,List.getElem?_eq_getElem hlt];rfl
   rw [hgd] at hx
   simp only [Value.slice.injEq] at hte
   obtain ⟨rfl,_,rfl⟩:=hte
   obtain ⟨xa,xc,rfl⟩:=hx.slice
   clear hgd hx
   generalize ls[k]=l at *
   by_cases h5:5 < l.length
   ·have h5':(5:Int) < (l.length:Int):=by omega
    have HR:Hid ((ls.any lngT || fs.any lngF)=true):=by
     show _=_
     rw [HE.out,HS.out];simp [lngT,h5]
    go_wp2
    go_ret
    exact ⟨by rw [HR.out];rfl,kb⟩
   ·have h5':(l.length:Int)<=5:=by omega
    have HN:Hid (ls.any lngT=(ls.drop (k+1)).any lngT):=by
     show _=_
     rw [HE.out,HS.out];simp [lngT,h5]
    go_wp2
    exact ⟨⟨k+1,by omega,rfl,trivial,HN.out⟩,by simp [intOf];omega⟩
  ·have hlt':(ls.length:Int)<=(k:Int):=by omega
   have HR:Hid (ls.any lngT=false):=by
    show _=_
    rw [HE.out,List.drop_eq_nil_of_le (by omega)];rfl
   have x1:wr.cell? ⟨w.heap.size,1,none⟩=some (.slice fa fs.length fc):=bx.cell 1
   go_wp2_with fail
   clear x1
   go_loopw [31] (fun iv wq=>∃ k:Nat,k<=fs.length/\iv=.int .i64 (k:Int)/\Chg () wr wq/\fs.any lngF=(fs.drop k).any lngF) (fun iv _=>fs.length - (intOf iv).toNat)
   case atStart=>exact ⟨0,Nat.zero_le _,rfl,Chg.refl _ _,by simp⟩
   case round =>
    obtain ⟨k2,hk2,rfl,kk,hE2⟩:=hrel
    have HE2:=hid hE2
    clear hE2 hk hlt hlt'
    by_cases hlt:k2 < fs.length
    ·have hlt':(k2:Int) < (fs.length:Int):=by omega
     have HS:Hid ((fs.drop k2).any lngF=(lngF fs[k2] || (fs.drop (k2+1)).any lngF)):=any_step lngF fs k2 hlt
     obtain ⟨g,cap,hfe,_,hcells⟩:=(hf0.chg kk (fun _ _ _ e=>e) (fun _ _ _ e=>e) (fun _ _ _ e=>e)).formS (by omega)
     simp only [Value.slice.injEq] at hfe
     obtain ⟨rfl,_,rfl⟩:=hfe
     obtain ⟨lv,cv,c0,c1,c2,c3,hl,hc⟩:=hcells k2 hlt
     obtain ⟨la,lc,rfl⟩:=hl.slice
     obtain ⟨ca,cc,rfl⟩:=hc.slice
     clear hcells hl hc
     have hgl:g < wr.heap.size:=World.block_lt_of_cell? wr _ c0
     generalize fs[k2]=f at *
     by_cases h8:8 < f.locals.length
     ·have h8':(8:Int) < (f.locals.length:Int):=by omega
      have HF:Hid ((ls.any lngT || fs.any lngF)=true):=by
       show _=_
       rw [HR.out,HE2.out,HS.out];simp [lngF,h8]
      go_wp2
      go_ret
      exact ⟨by rw [HF.out];rfl,(kb.trans kk).alloc _⟩
     by_cases h64:64 < f.code.length
     ·have h8':(f.locals.length:Int)<=8:=by omega
      have h64':(64:Int) < (f.code.length:Int):=by omega
      have HF:Hid ((ls.any lngT || fs.any lngF)=true):=by
       show _=_
       rw [HR.out,HE2.out,HS.out];simp [lngF,h64]
      go_wp2
      go_ret
      exact ⟨by rw [HF.out];rfl,(kb.trans kk).alloc _⟩
     ·have h8':(f.locals.length:Int)<=8:=by omega
      have h64':(f.code.length:Int)<=64:=by omega
      have HN:Hid (fs.any lngF=(fs.drop (k2+1)).any lngF):=by
       show _=_
       rw [HE2.out,HS.out];simp [lngF,h8,h64]
      go_wp2
      exact ⟨⟨k2+1,by omega,rfl,kk.alloc _,HN.out⟩,by simp [intOf];omega⟩
    ·have hlt':(fs.length:Int)<=(k2:Int):=by omega
     have HF:Hid ((ls.any lngT || fs.any lngF)=false):=by
      show _=_
      rw [HR.out,HE2.out,List.drop_eq_nil_of_le (by omega)];rfl
     go_wp2
     go_ret
     exact ⟨by rw [HF.out];rfl,kb.trans kk⟩
end Go.Proofs.Ytnfnbcbadakofaa
