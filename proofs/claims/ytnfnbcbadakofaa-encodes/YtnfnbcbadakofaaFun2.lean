import Derived.Test.YtnfnbcbadakofaaFun
namespace Go.Proofs.Ytnfnbcbadakofaa
open Go.RowKit
structure Fn where
 args:Int
 locals:List Int
 result:Int
 code:List (Int × Int × Int)
def tkF (ns:List Int) (ls:List (List Int)) (fu:Int) (first:Bool) (s:Nat × Bool):Fn × (Nat × Bool):=
 let r1:=tk ns 0 (if first then 0 else 4) s
 let r2:=tk ns r1.1 8 r1.2
 let r3:=tkL ns ls.length r2.1.toNat r2.2
 let r4:=tk ns 0 (if first then 0 else ls.length) r3.2
 let r5:=tk ns 1 64 r4.2
 let r6:=tkC ns ls fu r2.1 r5.1 r5.1.toNat r5.2
 (⟨r1.1,r3.1,r4.1,r6.1⟩,r6.2)
theorem tk_rng (ns:List Int) (lo hi:Int) (s:Nat × Bool) (h0:0<=lo) (h:0<=hi):0<=(tk ns lo hi s).1/\(tk ns lo hi s).1<=hi:=by
 unfold tk;repeat' split
 ·exact ⟨Int.le_refl _,h⟩
 ·exact ⟨Int.le_refl _,h⟩
 ·constructor <;> simp_all <;> omega
theorem takeFunc_any (rb:Nat) (nv:Value) (ns:List Int) (s:Nat × Bool) (tv:Value) (ls:List (List Int)) (fu place:Int) (w:World) (base:Nat) (h:RS w rb nv ns s) (hl:ns.length<=10000) (ht:TypesV w base tv ls)
 (hn:ls.length<=10000) (hls:∀ j,(ls.getD j []).length<=10000) (hfu:0<=fu) (hfu2:fu<=10000) :
 Calls Try.prog 94 #[.pointer rb,place,.agg #[tv,fu,oO,oO]] w fun e w' =>
  ∃ lv cv,e=.returned (.agg #[.int .i64 (tkF ns ls fu (place == 0) s).1.args,lv,.int .i64 (tkF ns ls fu (place == 0) s).1.result,cv])/\IntsV w' w.heap.size lv (tkF ns ls fu (place == 0) s).1.locals /\
   InsV 98 w' w.heap.size cv (tkF ns ls fu (place == 0) s).1.code/\RS w' rb nv ns (tkF ns ls fu (place == 0) s).2/\Chg (fun k=>k=rb) w w':=by
 obtain ⟨a,cap,rfl⟩:=ht.slice
 refine takeFunc_core rb nv ns s a cap ls fu place w base h hl ht hn hls hfu hfu2 (if (place == 0)=true then 0 else 4) (if (place == 0)=true then 0 else ls.length) ?_ _ _ _ _ _ rfl rfl rfl rfl rfl ?_ ?_
 ·cases hp:(place == 0) <;> simp
 ·refine tk_rng _ _ _ _ ?_ (by decide)
  refine (tk0 _ _ _ ?_).1
  split <;> omega
 ·exact tk_rng _ _ _ _ (by decide) (by decide)
def fnC (xs:List (Fn × Value × Value)):List Value:=xs.flatMap fun x=>[.int .i64 x.1.args,x.2.1,.int .i64 x.1.result,x.2.2]
theorem fnC_snoc (xs:List (Fn × Value × Value)) (x:Fn × Value × Value):fnC (xs++[x])=fnC xs++[.int .i64 x.1.args,x.2.1,.int .i64 x.1.result,x.2.2]:=by simp [fnC]
def FuncsV (eF eI:TypeId) (w:World) (base:Nat) (v:Value) (fs:List Fn):Prop:=
 ∃ xs:List (Fn × Value × Value),xs.map (·.1)=fs/\w.ownsRow base eF 4 v xs.length (fnC xs)/\∀ x,x ∈ xs->IntsV w base x.2.1 x.1.locals/\InsV eI w base x.2.2 x.1.code
theorem InsV.chg {eI:TypeId} {S:Nat->Prop} {w w':World} {base:Nat} {v:Value} {c:List (Int × Int × Int)} (h:InsV eI w base v c) (k:Chg S w w') (h3:∀ g cs,Blk w g cs eI->¬ S g):InsV eI w' base v c:=
 own_chg h k (fun g hg=>by obtain ⟨cs,hb⟩:=own_blk h hg;exact h3 g cs hb)
theorem IntsV.chg {S:Nat->Prop} {w w':World} {base:Nat} {v:Value} {c:List Int} (h:IntsV w base v c) (k:Chg S w w') (h3:∀ g cs,Blk w g cs 3->¬ S g):IntsV w' base v c:=
 own_chg h k (fun g hg=>by obtain ⟨cs,hb⟩:=own_blk h hg;exact h3 g cs hb)
theorem InsV.slice {eI:TypeId} {w:World} {base:Nat} {v:Value} {l:List (Int × Int × Int)} (h:InsV eI w base v l):∃ a cap,v=.slice a l.length cap:=by
 rcases h.2 with ⟨h1,h2⟩ | ⟨g,cap,cur,rfl,_⟩
 ·exact ⟨none,0,by rw [h1,h2]⟩
 ·exact ⟨_,_,rfl⟩
theorem FuncsV.slice {eF eI:TypeId} {w:World} {base:Nat} {v:Value} {fs:List Fn} (h:FuncsV eF eI w base v fs):∃ a cap,v=.slice a fs.length cap:=by
 obtain ⟨xs,h0,h,_⟩:=h
 have hl:xs.length=fs.length:=by rw [<-h0];simp
 rw [hl] at h
 rcases h.2 with ⟨h1,h2⟩ | ⟨g,cap,cur,rfl,_⟩
 ·exact ⟨none,0,by rw [h1,h2]⟩
 ·exact ⟨_,_,rfl⟩
theorem FuncsV.chg {eF eI:TypeId} {S:Nat->Prop} {w w':World} {base:Nat} {v:Value} {fs:List Fn} (h:FuncsV eF eI w base v fs) (k:Chg S w w') (h3:∀ g cs,Blk w g cs 3->¬ S g) (hI:∀ g cs,Blk w g cs eI->¬ S g) (hF:∀ g cs,Blk w g cs eF->¬ S g) :
 FuncsV eF eI w' base v fs:=by
 obtain ⟨xs,h0,h,hx⟩:=h
 exact ⟨xs,h0,own_chg h k (fun g hg=>by obtain ⟨cs,hb⟩:=own_blk h hg;exact hF g cs hb),fun x m=>⟨(hx x m).1.chg k h3,(hx x m).2.chg k hI⟩⟩
theorem FuncsV.mono {eF eI:TypeId} {w:World} {base base':Nat} {v:Value} {fs:List Fn} (h:FuncsV eF eI w base v fs) (hb:base'<=base):FuncsV eF eI w base' v fs:=by
 obtain ⟨xs,h0,h,hx⟩:=h
 exact ⟨xs,h0,own_mono h hb,fun x m=>⟨own_mono (hx x m).1 hb,own_mono (hx x m).2 hb⟩⟩
theorem FuncsV.nil (eF eI:TypeId) (w:World) (base:Nat):FuncsV eF eI w base (.slice none 0 0) []:=⟨[],rfl,World.ownsRow_nil _ _ _ _,fun x m=>by cases m⟩
theorem TypesV.nil (w:World) (base:Nat):TypesV w base (.slice none 0 0) []:=⟨[],World.ownsRow_nil _ _ _ _,fun j u hj=>by simp at hj⟩
theorem TypesV.snoc {w w':World} {base n:Nat} {v v':Value} {vs:List Value} {ls:List (List Int)} {u:Value} {l:List Int} (hv:w.ownsRow base 47 1 v ls.length vs) (hk:∀ j x,vs[j]?=some x->IntsV w base x (ls.getD j []))
 (hn:n=ls.length+1) (hown:w'.ownsRow base 47 1 v' n (vs++[u])) (k:Chg (fun j=>some j=v.ownBlock) w w') (hu:IntsV w base u l):TypesV w' base v' (ls++[l]):=by
 have ne:∀ g cs,Blk w g cs 3->¬ some g=v.ownBlock:=fun g cs hb hg=>by
  obtain ⟨cs',hb'⟩:=own_blk hv hg.symm
  exact hb.ne hb' (by decide) rfl
 have hlen:vs.length=ls.length:=by have:=hv.1;omega
 subst hn
 refine ⟨vs++[u],by simpa using hown,fun j x hj=>?_⟩
 rw [List.getElem?_append] at hj
 split at hj
 ·rename_i hlt
  have:=(hk j x hj).chg k ne
  rw [List.getD_eq_getElem?_getD,List.getElem?_append_left (by omega),<-List.getD_eq_getElem?_getD]
  exact this
 ·rename_i hlt
  have hj0:j=ls.length:=by
   rcases Nat.lt_or_ge (j - vs.length) 1 with h | h
   ·omega
   ·rw [List.getElem?_eq_none (by simpa using h)] at hj;cases hj
  subst hj0
  rw [hlen,Nat.sub_self] at hj
  simp at hj
  subst hj
  rw [List.getD_eq_getElem?_getD,List.getElem?_append_right (Nat.le_refl _)]
  simpa using hu.chg k ne
theorem FuncsV.snoc {eF eI:TypeId} {w w':World} {base n:Nat} {v v':Value} {xs:List (Fn × Value × Value)} {f:Fn} {lv cv:Value} (h3:3 ≠ eF) (hI:eI ≠ eF) (hv:w.ownsRow base eF 4 v xs.length (fnC xs))
 (hk:∀ x,x ∈ xs->IntsV w base x.2.1 x.1.locals/\InsV eI w base x.2.2 x.1.code)
 (hn:n=xs.length+1) (hown:w'.ownsRow base eF 4 v' n (fnC xs++[.int .i64 f.args,lv,.int .i64 f.result,cv])) (k:Chg (fun j=>some j=v.ownBlock) w w') (hl:IntsV w base lv f.locals) (hc:InsV eI w base cv f.code) :
 FuncsV eF eI w' base v' (xs.map (·.1)++[f]):=by
 have ne:∀ e,e ≠ eF->∀ g cs,Blk w g cs e->¬ some g=v.ownBlock:=fun e he g cs hb hg=>by
  obtain ⟨cs',hb'⟩:=own_blk hv hg.symm
  exact hb.ne hb' he rfl
 subst hn
 refine ⟨xs++[(f,lv,cv)],by simp,by rw [fnC_snoc];simpa using hown,fun x m=>?_⟩
 rw [List.mem_append] at m
 rcases m with m | m
 ·exact ⟨(hk x m).1.chg k (ne 3 h3),(hk x m).2.chg k (ne eI hI)⟩
 ·simp at m;subst m
  exact ⟨hl.chg k (ne 3 h3),hc.chg k (ne eI hI)⟩
end Go.Proofs.Ytnfnbcbadakofaa
