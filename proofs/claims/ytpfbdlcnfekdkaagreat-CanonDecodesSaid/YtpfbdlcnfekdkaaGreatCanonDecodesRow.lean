/- Called with any arguments, the law CanonDecodes returns true and leaves them as they were; no other condition. -/
import Derived.Test.YtpfbdlcnfekdkaaGreatRows
import Derived.Test.YtpfbdlcnfekdkaaGreatDM7
import Derived.Test.YtpfbdlcnfekdkaaGreatDP2
import Derived.Test.YtpfbdlcnfekdkaaGreatH8
import Derived.WalkKit
import Derived.ProofKit
import Derived.OpenShut
import Derived.ShutString
import Derived.ChangeOld
import Derived.Below
import Derived.SizedLaws
namespace Go.Proofs.YtpfbdlcnfekdkaaGreat.canonDecodes
open Go.ChangeShapes Go.WideShapes Go.ChangeAt Go.RowKit
open Go.ChangeMaps (open_string shut_string)
set_option linter.unusedVariables false
set_option linter.unusedSimpArgs false
theorem Yfh:Zn9 Tryz.prog 45 (eI .u64) (fun x=>(Lit.int .u64 x).wf=true):=Zbv Tryz.underlying45
theorem Yc5:Zn9 Tryz.prog 45 (eI .u64) (fun x:Int=>(Lit.int .u64 x).wf=true):=(Zbv Tryz.underlying45)
theorem Yd7:Zn9 Tryz.prog 22 (eL (eI .u64)) (fun xs:(List Int)=>xs.length * 8≤140737488351232∧∀ x∈xs,(fun x:Int=>(Lit.int .u64 x).wf=true) x):=by
 have h:=Z3b (P:=Tryz.prog) (t:=22) (sz:=1) Tryz.underlying22 (by kernel_rfl) (by decide) (fun _=>rfl) Yc5
 have hb:Tryz.prog.bytesOf 45=8:=by kernel_rfl
 rw [hb] at h
 exact h
theorem op3:Zn9 Tryz.prog 3 (eI .i64) (fun x=>(Lit.int .i64 x).wf=true):=Zbv Tryz.underlying3
def Zel (x:Z0):Prop:=(fun x:Int=>(Lit.int .i64 x).wf=true) x.Depth∧(fun x:Int=>(Lit.int .i64 x).wf=true) x.Weight∧(fun x:Int=>(Lit.int .i64 x).wf=true) x.MaxD∧(fun x:Int=>(Lit.int .i64 x).wf=true) x.MaxOut
theorem Yfg:Zn9 Tryz.prog 23 J7 Zel:=by
 have h:=Ztj (P:=Tryz.prog) (t:=23) (g:=J7) (fun p=>(⟨p.1,p.2.1,p.2.2.1,p.2.2.2.1⟩:Z0)) Tryz.underlying23 (by kernel_rfl) (fun n=>(Zaz (k:=1) rfl (by kernel_rfl) ((Zbv Tryz.underlying3) _) (Zaz (k:=1) rfl (by kernel_rfl) ((Zbv Tryz.underlying3) _) (Zaz (k:=1) rfl (by kernel_rfl) ((Zbv Tryz.underlying3) _) (Zaz (k:=1) rfl (by kernel_rfl) ((Zbv Tryz.underlying3) _) Zvu))))) (fun x=>rfl)
 intro n H enc W base spare held cs d ps h1 h2
 obtain ⟨x,⟨y,rfl,hy⟩,hr⟩:=h n H enc W base spare held cs d ps h1 h2
 exact ⟨_,by unfold Zel;simp only;exact ⟨hy.1,hy.2.1,hy.2.2.1,hy.2.2.2.1⟩,hr⟩
theorem Yc6:Zn9 Tryz.prog 24 J7 Zel:=by
 have h:=Ztj (P:=Tryz.prog) (t:=24) (g:=J7) (fun p=>(⟨p.1,p.2.1,p.2.2.1,p.2.2.2.1⟩:Z0)) Tryz.underlying24 (by kernel_rfl) (fun n=>(Zaz (k:=1) rfl (by kernel_rfl) ((Zbv Tryz.underlying3) _) (Zaz (k:=1) rfl (by kernel_rfl) ((Zbv Tryz.underlying3) _) (Zaz (k:=1) rfl (by kernel_rfl) ((Zbv Tryz.underlying3) _) (Zaz (k:=1) rfl (by kernel_rfl) ((Zbv Tryz.underlying3) _) Zvu))))) (fun x=>rfl)
 intro n H enc W base spare held cs d ps h1 h2
 obtain ⟨x,⟨y,rfl,hy⟩,hr⟩:=h n H enc W base spare held cs d ps h1 h2
 exact ⟨_,by unfold Zel;simp only;exact ⟨hy.1,hy.2.1,hy.2.2.1,hy.2.2.2.1⟩,hr⟩
theorem Ycl (l:List Int) (h:l.length * 8≤140737488351232∧∀ w∈l,(Lit.int .u64 w).wf=true):WS [l]:=by
 refine ⟨by simp,fun x hx => ?_,fun x hx w hw => ?_⟩
 ·rw [List.mem_singleton.1 hx]
  have:=h.1
  omega
 rw [List.mem_singleton.1 hx] at hw
 have:=h.2 w hw
 simp [Lit.wf,IntKind.min,IntKind.max,IntKind.signed,IntKind.bits] at this
 omega
theorem own:ownKnob Tryz.prog.godebug=none:=by kernel_rfl
theorem Z5v:laidOutB Tryz.prog=true:=by kernel_rfl
set_option maxRecDepth 100000 in
theorem lifted (os:Os) (started:os.Started) (H:Type) (enc:TypeId×Value→H) :
  ReturnsInHanded {} Tryz.checked os 3 .any (Rows.canonDecodesSpec.pre6 enc Tryz.prog Tryz.f3 Rows.canonDecodesRow.domain false) (Rows.canonDecodesSpec.post enc Tryz.prog Tryz.f3 false true false false):=by
 refine returnsInHanded_of_change_sized (C:=Tryz.checked) own started (by kernel_rfl) Tryz.func3
  (ChangeSpec.witness6 (enc:=enc) (C:=Tryz.checked) false ⟨#[],#[.slice none 0 0,.agg #[.int .i64 0,.int .i64 0,.int .i64 0,.int .i64 0]],[]⟩ 12 (by kernel_rfl) (by kernel_rfl) (by kernel_rfl) (by kernel_rfl)) ?_
 intro W base args ds gs before hval0 hW hcnd hsz0 _
 have hval:∀ (j:Nat) t v,Tryz.f3.params[j]? = some t→args[j]? = some v→Value.okWide Tryz.prog W .any base t v:=hval0
 have hW':=hW
 obtain ⟨p,q,hA0,hV,rfl,hfz,hnd⟩:=hW
 have hA:DataW.TrodAll enc Tryz.prog W 0 (fun _=>true) true Tryz.f3.params.toList args.toList ds p:=hA0
 rw [Tryz.params3] at hA hval
 obtain ⟨v0,vs0,d0,ds0,p0,q0,hargs,rfl,rfl,h0,r0⟩:=trodAll_cons hA
 obtain ⟨v1,vs1,d1,ds1,p1,q1,rfl,rfl,rfl,h1,r1⟩:=trodAll_cons r0
 obtain ⟨rfl,rfl,rfl⟩:=trodAll_nil r1
 obtain rfl:args=#[v0,v1]:=by cases args;simp_all
 obtain ⟨rfl,rfl⟩:=trodVars_none hV
 clear hA0 hval0
 have hsz:(DataW.weightsEach Tryz.prog (Tryz.f3.params.toList++Rows.canonDecodesSpec.plain.varTypes Tryz.prog) _).all (·≤reachBytes)=true:=hsz0
 clear hsz0
 rw [Tryz.params3] at hsz
 have lt0:∀ x∈p0,x.block < W.heap.size:=by obtain ⟨m,hm⟩:=h0;exact DataW.trod_lt m _ _ _ hm
 obtain ⟨x0,w0,e0⟩:=Z3a Yd7 h0 (Zyt hsz (j:=0) rfl rfl)
 have g0:=Yao (Z7h Tryz.underlying22 (hval 0 22 v0 rfl rfl)) e0
 have lt1:∀ x∈p1,x.block < W.heap.size:=by obtain ⟨m,hm⟩:=h1;exact DataW.trod_lt m _ _ _ hm
 obtain ⟨x1,w1,e1⟩:=Z3a Yc6 h1 (Zyt hsz (j:=1) rfl rfl)
 have g1:=Yan (Z37 Tryz.underlying24 (hval 1 24 v1 rfl rfl)) e1
 refine (Ycd (Zjx ((fun l wl x _=>Zwo (Ycl l wl) x) x0 w0 x1 w1)).pure (vs:=[v0,v1]) ⟨_,_,rfl,g0,⟨_,_,rfl,g1,rfl⟩⟩).mono fun e W' ⟨he,bel⟩ => ?_
 subst he
 exact ⟨_,rfl,_,_,_,[],_,[],hW',trodAll_mk1 (shut_bool Tryz.underlying4 _),(trodAll_cons_mk (Below.trod Z5v (by kernel_rfl) (of_decide_eq_true (by kernel_rfl)) h0 bel lt0) (trodAll_cons_mk (Below.trod Z5v (by kernel_rfl) (of_decide_eq_true (by kernel_rfl)) h1 bel lt1) trodAll_mk0)),rfl,bel.frame _,fun h=>by cases h⟩
theorem proved:Rows.CanonDecodesSaid :=
 OpenClaim.holds_of_wide 3 Tryz.f3 rfl rfl rfl rfl rfl rfl rfl ⟨rfl,rfl,rfl,rfl,rfl⟩ rfl rfl rfl rfl rfl (by kernel_rfl) Tryz.func3 (by kernel_rfl)
  (of_decide_eq_true (by kernel_rfl)) (by unfold Func.isWrapper;first | (rw [if_pos (by decide +kernel)];kernel_rfl) | (rw [if_neg (by decide +kernel)];exact ⟨rfl,rfl⟩))
  (fun os started H enc _=>lifted os started H enc)
end Go.Proofs.YtpfbdlcnfekdkaaGreat.canonDecodes
