import Derived.Test.YtnfnbcbadakofaaSzd
import Derived.ProofKit
import Derived.OpenShut
import Derived.JoinedCond
import Derived.SizedLaws
import Derived.Carry
namespace Go.Proofs.Ytnfnbcbadakofaa.encodes
open Go.ChangeShapes Go.WideShapes Go.ChangeAt Go.RowKit Go.Joins
theorem own:ownKnob Try.prog.godebug=none:=by kernel_rfl
theorem laidOut:laidOutB Try.prog=true:=by kernel_rfl
set_option maxRecDepth 100000 in
theorem contract (H:Type) (enc:TypeId × Value->H) (W:World) (base:Nat) (args:Array Value) (ds gs:List (DataW H)) (before:List MemPlace)
 (hval:∀ (j:Nat) t v,Try.f5.params[j]?=some t->args[j]?=some v->Value.okWide Try.prog W .any base t v)
 (hW:DataW.Whole enc Try.prog Try.f5.params.toList Rows.encodesSpec.vars false W args.toList ds gs before) (hsz:(DataW.weightsEach Try.prog (Try.f5.params.toList++Rows.encodesSpec.plain.varTypes Try.prog) (ds++gs)).all (· <= reachBytes)=true) :
 Calls Try.prog 5 args W fun e W'=>∃ v,e=.returned v/\Rows.encodesSpec.post enc Try.prog Try.f5 false true false false W args v W':=by
 have hW':=hW
 obtain ⟨p,q,hA0,hV,rfl,hfz,hnd⟩:=hW
 have hA:DataW.TrodAll enc Try.prog W 0 (fun _=>true) true Try.f5.params.toList args.toList ds p:=hA0
 rw [Try.params5] at hA hval
 obtain ⟨v0,vs0,d0,ds0,p0,q0,hargs,rfl,rfl,h0,r0⟩:=trodAll_cons hA
 obtain ⟨rfl,rfl,rfl⟩:=trodAll_nil r0
 obtain rfl:args=#[v0]:=by cases args;simp_all
 obtain ⟨rfl,rfl⟩:=trodVars_none hV
 clear hA0
 simp only [List.append_nil] at hW'
 have hS0:Sz 28 d0:=Sz.top hsz (j:=0) rfl rfl
 have h0k:=h0
 have hlt:∀ x ∈ p0,x.block < W.heap.size:=fun x hx=>by simpa using hW'.lt x hx
 have hargs:∀ (W':World),Below W.heap.size W W'->DataW.Trod enc Try.prog W' 0 (fun b=>decide (b < W.heap.size)) true 28 v0 d0 p0:=
  fun W' hn=>Below.trod laidOut (by kernel_rfl) (of_decide_eq_true (by kernel_rfl)) h0k hn hlt
 obtain ⟨u0,u1,y0,y1,n,rfl,rfl,rfl,t0,t1⟩:=open_agg2 Try.underlying28 (by kernel_rfl) (by kernel_rfl) (hval 0 28 v0 rfl rfl) h0
 obtain ⟨a0,ls,e0,hT,hT1,hT2⟩:=opz_types t0 (hS0.part Try.underlying28 (j:=0) rfl rfl)
 obtain ⟨a1,fs,e1,hF,hF1,hF2⟩:=opz_funcs t1 (hS0.part Try.underlying28 (j:=1) rfl rfl)
 simp only [List.cons.injEq,and_true] at e0 e1
 subst e0;subst e1
 obtain ⟨ta,tc,rfl⟩:=hT.slice
 obtain ⟨fa,fc,rfl⟩:=hF.slice
 refine (encodes_walk ta fa tc fc ls fs W hT hF hT1 hT2 hF1 hF2).mono fun e W' ⟨he,hg⟩=>?_
 subst he
 exact ⟨_,rfl,_,_,_,[],_,[],hW',(trodAll_cons_mk (shut_bool Try.underlying4 _) trodAll_mk0),trodAll_mk1 (hargs _ hg.below),rfl,hg.below.frame _,fun h=>by cases h⟩
set_option maxRecDepth 100000 in
theorem lifted (os:Os) (started:os.Started) (H:Type) (enc:TypeId × Value->H) :
 ReturnsInHanded {} Try.checked os 5 .any (Rows.encodesSpec.pre6 enc Try.prog Try.f5 Rows.encodesRow.domain false) (Rows.encodesSpec.post enc Try.prog Try.f5 false true false false):=by
 refine returnsInHanded_of_change_sized (C:=Try.checked) own started (by kernel_rfl) Try.func5
  (ChangeSpec.witness6 (enc:=enc) (C:=Try.checked) false ⟨#[],#[.agg #[(),()]],[]⟩ 8 (by kernel_rfl) (by kernel_rfl) (by kernel_rfl) (by kernel_rfl)) ?_
 intro W base args ds gs before hval hW _ hsz _
 exact contract H enc W base args ds gs before hval hW hsz
theorem over:Rows.encodesRow.holds Try.pinned (OpenSpec.ofChange Rows.encodesSpec):=
 OpenClaim.holds_of_wide 5 Try.f5 rfl rfl rfl rfl rfl rfl rfl ⟨rfl,rfl,rfl,rfl,rfl⟩ rfl rfl rfl rfl rfl (by kernel_rfl) Try.func5 (by kernel_rfl)
  (of_decide_eq_true (by kernel_rfl)) (by unfold Func.isWrapper;first | (rw [if_pos (by decide +kernel)];kernel_rfl) | (rw [if_neg (by decide +kernel)];exact ⟨rfl,rfl⟩))
  (fun os started H enc _=>lifted os started H enc)
theorem proved:Rows.EncodesSaid:=
 over
#print axioms proved
end Go.Proofs.Ytnfnbcbadakofaa.encodes
