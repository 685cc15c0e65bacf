import Derived.Test.YtnfnbcbadakofaaGreatBeg
import Derived.Test.YtnfnbcbadakofaaGreatStk
namespace Go.Proofs.YtnfnbcbadakofaaGreat
open Go.RowKit
def eO (h d:Int):Prop:=h < 0 \/ 4000 < h \/ d < 1 \/ 64 < d
def dW (s:ByteArray) (fs:List Fn) (h d:Int):List Int:=ge (aB s) h d 0 [] [] ⟨0,0,List.replicate (aq fs 0).locals.length 0,[]⟩
def fH (w:World) (s:ByteArray) (O:Int × Int × Pg × List aC) (h d:Int) (e:Ending) (w':World):Prop:=
 ∃ a n c,∃ er pl:Int,e=.returned (.tuple #[.slice a n c,er,pl])/\Chg () w w'/\(O.1 ≠ 0->er=O.1/\pl=O.2.1/\Value.slice a n c=.slice none 0 0)/\(O.1=0->eO h d->er=4/\pl=0/\Value.slice a n c=.slice none 0 0) /\
  (O.1=0->¬ eO h d->er=0/\pl=0/\ad w' w.heap.size (.slice a n c) (dW s O.2.2.1.funcs h d))
theorem fH.bad {w w':World} {s:ByteArray} {O:Int × Int × Pg × List aC} {h d:Int} {e:Ending} (hb:eO h d) (hz:O.1=0) (he:e=.returned (.tuple #[(),(4:Int),oO])) (k:Chg () w w'):fH w s O h d e w':=by
 subst he
 exact ⟨_,_,_,_,_,rfl,k,fun e=>absurd hz e,fun _ _=>⟨rfl,rfl,rfl⟩,fun _ e=>absurd hb e⟩
set_option maxHeartbeats 2000000 in
set_option maxRecDepth 100000 in
theorem kt (s:ByteArray) (h d:Int) (w:World) (O:Int × Int × Pg × List aC) (hop:∀ w,Calls Tryz.prog 22 #[.string s] w (hZ w O)) (hs:O.1=0->s.size<=800) (hll:(aq O.2.2.1.funcs 0).locals.length<=10000) :
 Calls Tryz.prog 10 #[.string s,h,d] w (fH w s O h d):=by
 have HOP:=hid hop
 clear hop
 go_enter Tryz.func10,Tryz.ntmps10
 go_wp2_with fail
 refine (HOP.out _).mono ?_
 rintro e w1 ⟨tv,fv,sv,rfl,⟨hty,hfv,hsl,hch⟩,_⟩
 obtain ⟨ta,tc,rfl⟩:=hty.slice
 obtain ⟨fa,fc,rfl⟩:=hfv.slice
 obtain ⟨sa,sc,rfl⟩:=hsl.slice
 have k2:Chg () w1 (w1.alloc (Obj.cells #[.slice ta O.2.2.1.types.length tc,.slice fa O.2.2.1.funcs.length fc,.slice sa O.2.2.2.length sc,O.1,O.2.1] 83)):=(Chg.refl _ w1).alloc _
 clear hty hsl HOP
 by_cases hz:O.1=0
 ·have hz':(O.1 != 0)=false:=by simp [hz]
  have HZ:=hid hz
  have hs8:=hs hz
  clear hz hs
  by_cases h1:h < 0
  ·have HB:Hid (eO h d):=.inl h1
   go_wp2
   exact bodyPost_ret (v:=.tuple #[(),(4:Int),oO]) (by simp [results,Tryz.results10,go_sem]) rfl (fH.bad HB.out HZ.out rfl (hch.trans k2))
  by_cases h2:4000 < h
  ·have HB:Hid (eO h d):=.inr (.inl h2)
   go_wp2
   exact bodyPost_ret (v:=.tuple #[(),(4:Int),oO]) (by simp [results,Tryz.results10,go_sem]) rfl (fH.bad HB.out HZ.out rfl (hch.trans k2))
  by_cases h3:d < 1
  ·have HB:Hid (eO h d):=.inr (.inr (.inl h3))
   go_wp2
   exact bodyPost_ret (v:=.tuple #[(),(4:Int),oO]) (by simp [results,Tryz.results10,go_sem]) rfl (fH.bad HB.out HZ.out rfl (hch.trans k2))
  by_cases h4:64 < d
  ·have HB:Hid (eO h d):=.inr (.inr (.inr h4))
   go_wp2
   exact bodyPost_ret (v:=.tuple #[(),(4:Int),oO]) (by simp [results,Tryz.results10,go_sem]) rfl (fH.bad HB.out HZ.out rfl (hch.trans k2))
  have HNB:Hid (¬ eO h d):=fun e=>by rcases e with e | e | e | e <;> contradiction
  go_wp2_with fail
  refine (mT s ta fa sa _ tc fc _ sc O.1 O.2.1 O.2.2.1.funcs _ w.heap.size (hfv.chg k2 (fun _ _ _ e=>e) (fun _ _ _ e=>e) (fun _ _ _ e=>e)) hll).mono ?_
  rintro e w3 ⟨va,n,vc,rfl,hv,hch3⟩
  have k3:=(hch.trans k2).trans hch3
  have k4:Chg () w3 (w3.alloc (Obj.cells #[.string s,.slice ta O.2.2.1.types.length tc,.slice fa O.2.2.1.funcs.length fc,.slice sa O.2.2.2.length sc,h,d,oO,(),(),oO,oO,.slice va n vc,(),(),oO,()] 62)):=(Chg.refl _ w3).alloc _
  have hv3:ad w3 w.heap.size (.slice va n vc) (List.replicate (aq O.2.2.1.funcs 0).locals.length 0):=am hv (hch.trans k2).size
  have hn:n=(List.replicate (aq O.2.2.1.funcs 0).locals.length (0:Int)).length:=by
   obtain ⟨a',c',he⟩:=hv3.slice
   simp only [Value.slice.injEq] at he;exact he.2.1
  clear hch k2 hch3 hfv hv
  have hlen:(List.replicate (aq O.2.2.1.funcs 0).locals.length (0:Int)).length<=10000:=by simpa using hll
  have HSL:Hid (dW s O.2.2.1.funcs h d=ge (aB s) h d 0 [] [] ⟨0,0,List.replicate (aq O.2.2.1.funcs 0).locals.length 0,[]⟩):=rfl
  subst hn
  generalize List.replicate (aq O.2.2.1.funcs 0).locals.length (0:Int)=zs at *
  go_wp2_with fail
  refine (gF s hs8 ta fa sa none none none none va none _ tc _ fc _ sc 0 0 0 0 0 0 vc 0 h d 0 0 [] [] ⟨0,0,zs,[]⟩ _ w.heap.size (World.ownsRow_nil _ _ _ _) (bY.nil _ _) (hv3.chg k4 (fun _ _ _ e=>e)) (World.ownsRow_nil _ _ _ _) (by simp) (by simp) (fun f hf=>by cases hf) hlen (by simp)).mono ?_
  rintro e w5 ⟨u,rfl,hu,hch5⟩
  obtain ⟨ua,uc,rfl⟩:=hu.slice
  have k5:=(k3.trans k4).trans hch5
  have hu':=am hu (k3.trans k4).size
  have HU:=hid hu'
  clear hu hu' hch5 k4 hv3
  generalize hLE:(ge (aB s) h d 0 [] [] ⟨0,0,zs,[]⟩)=L at *
  have HLE:=hid hLE
  clear hLE
  go_wp2
  refine bodyPost_ret (v:=.tuple #[.slice ua L.length uc,oO,oO]) (by simp [results,Tryz.results10,go_sem]) rfl ?_
  exact ⟨_,_,_,_,_,rfl,k5,fun e=>absurd HZ.out e,fun _ e=>absurd e HNB.out,fun _ _=>⟨rfl,rfl,by rw [HSL.out];exact HU.out⟩⟩
 ·have hz':(O.1 != 0)=true:=by simp [hz]
  have HZ:=hid hz
  clear hz
  go_wp2
  go_quiet (fail)
  go_wp2
  refine bodyPost_ret (v:=.tuple #[(),O.1,O.2.1]) (by simp [results,Tryz.results10,go_sem]) rfl ?_
  exact ⟨_,_,_,_,_,rfl,(hch.trans k2).drewN _,fun _=>⟨rfl,rfl,rfl⟩,fun e=>absurd e HZ.out,fun e=>absurd e HZ.out⟩
end Go.Proofs.YtnfnbcbadakofaaGreat
