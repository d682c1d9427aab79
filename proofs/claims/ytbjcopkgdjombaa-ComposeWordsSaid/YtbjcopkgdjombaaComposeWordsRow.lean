/- Called with any arguments, the law ComposeWords returns true and leaves them as they were; no other condition. -/
import Derived.Test.YtbjcopkgdjombaaRows
import Derived.Test.YtbjcopkgdjombaaWM6
import Derived.Test.YtbjcopkgdjombaaWP1
import Derived.Test.YtbjcopkgdjombaaH8
import Derived.WalkKit
import Derived.ProofKit
import Derived.OpenShut
import Derived.ShutString
import Derived.ChangeOld
import Derived.Below
import Derived.SizedLaws
namespace Go.Proofs.Ytbjcopkgdjombaa.composeWords
open Go.ChangeShapes Go.WideShapes Go.ChangeAt Go.RowKit
open Go.ChangeMaps (open_string shut_string)
set_option linter.unusedVariables false
set_option linter.unusedSimpArgs false
theorem op3:Zn8 Try.prog 3 (eI .i64) (fun x=>(Lit.int .i64 x).wf=true):=Ut Try.underlying3
theorem op5:Zn8 Try.prog 5 (eI .u8) (fun x=>(Lit.int .u8 x).wf=true):=Ut Try.underlying5
theorem Z9t:Zn8 Try.prog 40 (eI .u64) (fun x=>(Lit.int .u64 x).wf=true):=Ut Try.underlying40
def Uc (x:Zj):Prop:=(fun x:Int=>(Lit.int .i64 x).wf=true) x.At∧(fun x:Int=>(Lit.int .u8 x).wf=true) x.Mask∧(fun x:Int=>(Lit.int .u64 x).wf=true) x.Old∧(fun x:Int=>(Lit.int .u64 x).wf=true) x.New
theorem Z9u:Zn8 Try.prog 41 Zf Uc:=by
 have h:=Zmg (P:=Try.prog) (t:=41) (g:=Zf) (fun p=>(⟨p.1,p.2.1,p.2.2.1,p.2.2.2.1⟩:Zj)) Try.underlying41 (by kernel_rfl) (fun n=>(Ub (k:=1) rfl (by kernel_rfl) ((Ut Try.underlying3) _) (Ub (k:=1) rfl (by kernel_rfl) ((Ut Try.underlying5) _) (Ub (k:=1) rfl (by kernel_rfl) ((Ut Try.underlying40) _) (Ub (k:=1) rfl (by kernel_rfl) ((Ut Try.underlying40) _) Zof))))) (fun x=>rfl)
 intro n H enc W base spare held cs d ps h1 h2
 obtain ⟨x,⟨y,rfl,hy⟩,hr⟩:=h n H enc W base spare held cs d ps h1 h2
 exact ⟨_,by unfold Uc;simp only;exact ⟨hy.1,hy.2.1,hy.2.2.1,hy.2.2.2.1⟩,hr⟩
theorem Z53:Zn8 Try.prog 42 Zf Uc:=by
 have h:=Zmg (P:=Try.prog) (t:=42) (g:=Zf) (fun p=>(⟨p.1,p.2.1,p.2.2.1,p.2.2.2.1⟩:Zj)) Try.underlying42 (by kernel_rfl) (fun n=>(Ub (k:=1) rfl (by kernel_rfl) ((Ut Try.underlying3) _) (Ub (k:=1) rfl (by kernel_rfl) ((Ut Try.underlying5) _) (Ub (k:=1) rfl (by kernel_rfl) ((Ut Try.underlying40) _) (Ub (k:=1) rfl (by kernel_rfl) ((Ut Try.underlying40) _) Zof))))) (fun x=>rfl)
 intro n H enc W base spare held cs d ps h1 h2
 obtain ⟨x,⟨y,rfl,hy⟩,hr⟩:=h n H enc W base spare held cs d ps h1 h2
 exact ⟨_,by unfold Uc;simp only;exact ⟨hy.1,hy.2.1,hy.2.2.1,hy.2.2.2.1⟩,hr⟩
theorem Z00 {w:Zj} (h:Uc w):(0≤w.Mask∧w.Mask < 256)∧(0≤w.Old∧w.Old < 18446744073709551616)∧(0≤w.New∧w.New < 18446744073709551616):=by
 obtain ⟨_,h1,h2,h3⟩:=h
 simp [Lit.wf,IntKind.min,IntKind.max,IntKind.signed,IntKind.bits] at h1 h2 h3
 omega
theorem own:ownKnob Try.prog.godebug=none:=by kernel_rfl
theorem Z0k:laidOutB Try.prog=true:=by kernel_rfl
set_option maxRecDepth 100000 in
theorem lifted (os:Os) (started:os.Started) (H:Type) (enc:TypeId×Value→H) :
  ReturnsInHanded {} Try.checked os 5 .any (Rows.composeWordsSpec.pre6 enc Try.prog Try.f5 Rows.composeWordsRow.domain false) (Rows.composeWordsSpec.post enc Try.prog Try.f5 false true false false):=by
 refine returnsInHanded_of_change_sized (C:=Try.checked) own started (by kernel_rfl) Try.func5
  (ChangeSpec.witness6 (enc:=enc) (C:=Try.checked) false ⟨#[],#[.agg #[.int .i64 0,.int .u8 0,.int .u64 0,.int .u64 0],.agg #[.int .i64 0,.int .u8 0,.int .u64 0,.int .u64 0]],[]⟩ 12 (by kernel_rfl) (by kernel_rfl) (by kernel_rfl) (by kernel_rfl)) ?_
 intro W base args ds gs before hval0 hW hcnd hsz0 _
 have hval:∀ (j:Nat) t v,Try.f5.params[j]? = some t→args[j]? = some v→Value.okWide Try.prog W .any base t v:=hval0
 have hW':=hW
 obtain ⟨p,q,hA0,hV,rfl,hfz,hnd⟩:=hW
 have hA:DataW.TrodAll enc Try.prog W 0 (fun _=>true) true Try.f5.params.toList args.toList ds p:=hA0
 rw [Try.params5] at hA hval
 obtain ⟨v0,vs0,d0,ds0,p0,q0,hargs,rfl,rfl,h0,r0⟩:=trodAll_cons hA
 obtain ⟨v1,vs1,d1,ds1,p1,q1,rfl,rfl,rfl,h1,r1⟩:=trodAll_cons r0
 obtain ⟨rfl,rfl,rfl⟩:=trodAll_nil r1
 obtain rfl:args=#[v0,v1]:=by cases args;simp_all
 obtain ⟨rfl,rfl⟩:=trodVars_none hV
 clear hA0 hval0
 have hsz:(DataW.weightsEach Try.prog (Try.f5.params.toList++Rows.composeWordsSpec.plain.varTypes Try.prog) _).all (·≤reachBytes)=true:=hsz0
 clear hsz0
 rw [Try.params5] at hsz
 have lt0:∀ x∈p0,x.block < W.heap.size:=by obtain ⟨m,hm⟩:=h0;exact DataW.trod_lt m _ _ _ hm
 obtain ⟨x0,w0,e0⟩:=Zw5 Z53 h0 (Zsl hsz (j:=0) rfl rfl)
 have g0:=Zz3 (Zpg Try.underlying42 (hval 0 42 v0 rfl rfl)) e0
 have lt1:∀ x∈p1,x.block < W.heap.size:=by obtain ⟨m,hm⟩:=h1;exact DataW.trod_lt m _ _ _ hm
 obtain ⟨x1,w1,e1⟩:=Zw5 Z53 h1 (Zsl hsz (j:=1) rfl rfl)
 have g1:=Zz3 (Zpg Try.underlying42 (hval 1 42 v1 rfl rfl)) e1
 refine (Z6i (Zf6 ((fun x wx y wy=>Zpm (Z00 wx) (Z00 wy)) x0 w0 x1 w1)).pure (vs:=[v0,v1]) ⟨_,_,rfl,g0,⟨_,_,rfl,g1,rfl⟩⟩).mono fun e W' ⟨he,bel⟩ => ?_
 subst he
 exact ⟨_,rfl,_,_,_,[],_,[],hW',trodAll_mk1 (shut_bool Try.underlying4 _),(trodAll_cons_mk (Below.trod Z0k (by kernel_rfl) (of_decide_eq_true (by kernel_rfl)) h0 bel lt0) (trodAll_cons_mk (Below.trod Z0k (by kernel_rfl) (of_decide_eq_true (by kernel_rfl)) h1 bel lt1) trodAll_mk0)),rfl,bel.frame _,fun h=>by cases h⟩
theorem proved:Rows.ComposeWordsSaid :=
 OpenClaim.holds_of_wide 5 Try.f5 rfl rfl rfl rfl rfl rfl rfl ⟨rfl,rfl,rfl,rfl,rfl⟩ rfl rfl rfl rfl rfl (by kernel_rfl) Try.func5 (by kernel_rfl)
  (of_decide_eq_true (by kernel_rfl)) (by unfold Func.isWrapper;first | (rw [if_pos (by decide +kernel)];kernel_rfl) | (rw [if_neg (by decide +kernel)];exact ⟨rfl,rfl⟩))
  (fun os started H enc _=>lifted os started H enc)
end Go.Proofs.Ytbjcopkgdjombaa.composeWords
