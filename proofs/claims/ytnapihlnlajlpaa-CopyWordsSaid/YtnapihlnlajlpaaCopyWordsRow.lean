/- Called with any arguments, the law CopyWords returns true and leaves them as they were; no other condition. -/
import Derived.Test.YtnapihlnlajlpaaRows
import Derived.Test.YtnapihlnlajlpaaWM7
import Derived.Test.YtnapihlnlajlpaaWP2
import Derived.Test.YtnapihlnlajlpaaH8
import Derived.WalkKit
import Derived.ProofKit
import Derived.OpenShut
import Derived.ShutString
import Derived.ChangeOld
import Derived.Below
import Derived.SizedLaws
namespace Go.Proofs.Ytnapihlnlajlpaa.copyWords
open Go.ChangeShapes Go.WideShapes Go.ChangeAt Go.RowKit
open Go.ChangeMaps (open_string shut_string)
set_option linter.unusedVariables false
set_option linter.unusedSimpArgs false
theorem Yev:Zka Try.prog 49 (eI .u64) (fun x=>(Lit.int .u64 x).wf=true):=Gx Try.underlying49
theorem Ycg:Zka Try.prog 49 (eI .u64) (fun x:Int=>(Lit.int .u64 x).wf=true):=(Gx Try.underlying49)
theorem Ydi:Zka Try.prog 22 (eL (eI .u64)) (fun xs:(List Int)=>xs.length * 8≤140737488351232∧∀ x∈xs,(fun x:Int=>(Lit.int .u64 x).wf=true) x):=by
 have h:=Zu7 (P:=Try.prog) (t:=22) (sz:=1) Try.underlying22 (by kernel_rfl) (by decide) (fun _=>rfl) Ycg
 have hb:Try.prog.bytesOf 49=8:=by kernel_rfl
 rw [hb] at h
 exact h
theorem Ycf:Zka Try.prog 22 (eL (eI .u64)) (fun xs:(List Int)=>xs.length * 8≤140737488351232∧∀ x∈xs,(fun x:Int=>(Lit.int .u64 x).wf=true) x):=Ydi
theorem Ydj:Zka Try.prog 32 (eL (eL (eI .u64))) (fun xs:(List (List Int))=>xs.length * 24≤140737488351232∧∀ x∈xs,(fun xs:(List Int)=>xs.length * 8≤140737488351232∧∀ x∈xs,(fun x:Int=>(Lit.int .u64 x).wf=true) x) x):=by
 have h:=Zu7 (P:=Try.prog) (t:=32) (sz:=1) Try.underlying32 (by kernel_rfl) (by decide) (fun _=>rfl) Ycf
 have hb:Try.prog.bytesOf 22=24:=by kernel_rfl
 rw [hb] at h
 exact h
theorem op3:Zka Try.prog 3 (eI .i64) (fun x=>(Lit.int .i64 x).wf=true):=Gx Try.underlying3
def Zdy (x:Ya):Prop:=(fun x:Int=>(Lit.int .i64 x).wf=true) x.Depth∧(fun x:Int=>(Lit.int .i64 x).wf=true) x.Weight∧(fun x:Int=>(Lit.int .i64 x).wf=true) x.MaxD∧(fun x:Int=>(Lit.int .i64 x).wf=true) x.MaxOut
theorem Yeu:Zka Try.prog 33 Jf Zdy:=by
 have h:=Zsu (P:=Try.prog) (t:=33) (g:=Jf) (fun p=>(⟨p.1,p.2.1,p.2.2.1,p.2.2.2.1⟩:Ya)) Try.underlying33 (by kernel_rfl) (fun n=>(Zam (k:=1) rfl (by kernel_rfl) ((Gx Try.underlying3) _) (Zam (k:=1) rfl (by kernel_rfl) ((Gx Try.underlying3) _) (Zam (k:=1) rfl (by kernel_rfl) ((Gx Try.underlying3) _) (Zam (k:=1) rfl (by kernel_rfl) ((Gx Try.underlying3) _) Zu6))))) (fun x=>rfl)
 intro n H enc W base spare held cs d ps h1 h2
 obtain ⟨x,⟨y,rfl,hy⟩,hr⟩:=h n H enc W base spare held cs d ps h1 h2
 exact ⟨_,by unfold Zdy;simp only;exact ⟨hy.1,hy.2.1,hy.2.2.1,hy.2.2.2.1⟩,hr⟩
theorem Ych:Zka Try.prog 34 Jf Zdy:=by
 have h:=Zsu (P:=Try.prog) (t:=34) (g:=Jf) (fun p=>(⟨p.1,p.2.1,p.2.2.1,p.2.2.2.1⟩:Ya)) Try.underlying34 (by kernel_rfl) (fun n=>(Zam (k:=1) rfl (by kernel_rfl) ((Gx Try.underlying3) _) (Zam (k:=1) rfl (by kernel_rfl) ((Gx Try.underlying3) _) (Zam (k:=1) rfl (by kernel_rfl) ((Gx Try.underlying3) _) (Zam (k:=1) rfl (by kernel_rfl) ((Gx Try.underlying3) _) Zu6))))) (fun x=>rfl)
 intro n H enc W base spare held cs d ps h1 h2
 obtain ⟨x,⟨y,rfl,hy⟩,hr⟩:=h n H enc W base spare held cs d ps h1 h2
 exact ⟨_,by unfold Zdy;simp only;exact ⟨hy.1,hy.2.1,hy.2.2.1,hy.2.2.2.1⟩,hr⟩
theorem Yc0 (l:List (List Int)) (h:l.length * 24≤140737488351232∧∀ x∈l,x.length * 8≤140737488351232∧∀ w∈x,(Lit.int .u64 w).wf=true):WS l:=by
 refine ⟨by have:=h.1;omega,fun x hx=>by have:=(h.2 x hx).1;omega,fun x hx w hw => ?_⟩
 have:=(h.2 x hx).2 w hw
 simp [Lit.wf,IntKind.min,IntKind.max,IntKind.signed,IntKind.bits] at this
 omega
theorem Yes {a:Int} (h:(Lit.int .u8 a).wf=true):0≤a∧a < 256:=by
 simp [Lit.wf,IntKind.min,IntKind.max,IntKind.signed,IntKind.bits] at h
 omega
theorem Yen {a:Int} (h:(Lit.int .u32 a).wf=true):0≤a∧a < 4294967296:=by
 simp [Lit.wf,IntKind.min,IntKind.max,IntKind.signed,IntKind.bits] at h
 omega
theorem own:ownKnob Try.prog.godebug=none:=by kernel_rfl
theorem Z0i:laidOutB Try.prog=true:=by kernel_rfl
set_option maxRecDepth 100000 in
theorem lifted (os:Os) (started:os.Started) (H:Type) (enc:TypeId×Value→H) :
  ReturnsInHanded {} Try.checked os 4 .any (Rows.copyWordsSpec.pre6 enc Try.prog Try.f4 Rows.copyWordsRow.domain false) (Rows.copyWordsSpec.post enc Try.prog Try.f4 false true false false):=by
 refine returnsInHanded_of_change_sized (C:=Try.checked) own started (by kernel_rfl) Try.func4
  (ChangeSpec.witness6 (enc:=enc) (C:=Try.checked) false ⟨#[],#[.slice none 0 0,.agg #[.int .i64 0,.int .i64 0,.int .i64 0,.int .i64 0],.int .i64 0],[]⟩ 12 (by kernel_rfl) (by kernel_rfl) (by kernel_rfl) (by kernel_rfl)) ?_
 intro W base args ds gs before hval0 hW hcnd hsz0 _
 have hval:∀ (j:Nat) t v,Try.f4.params[j]? = some t→args[j]? = some v→Value.okWide Try.prog W .any base t v:=hval0
 have hW':=hW
 obtain ⟨p,q,hA0,hV,rfl,hfz,hnd⟩:=hW
 have hA:DataW.TrodAll enc Try.prog W 0 (fun _=>true) true Try.f4.params.toList args.toList ds p:=hA0
 rw [Try.params4] at hA hval
 obtain ⟨v0,vs0,d0,ds0,p0,q0,hargs,rfl,rfl,h0,r0⟩:=trodAll_cons hA
 obtain ⟨v1,vs1,d1,ds1,p1,q1,rfl,rfl,rfl,h1,r1⟩:=trodAll_cons r0
 obtain ⟨v2,vs2,d2,ds2,p2,q2,rfl,rfl,rfl,h2,r2⟩:=trodAll_cons r1
 obtain ⟨rfl,rfl,rfl⟩:=trodAll_nil r2
 obtain rfl:args=#[v0,v1,v2]:=by cases args;simp_all
 obtain ⟨rfl,rfl⟩:=trodVars_none hV
 clear hA0 hval0
 have hsz:(DataW.weightsEach Try.prog (Try.f4.params.toList++Rows.copyWordsSpec.plain.varTypes Try.prog) _).all (·≤reachBytes)=true:=hsz0
 clear hsz0
 rw [Try.params4] at hsz
 have lt0:∀ x∈p0,x.block < W.heap.size:=by obtain ⟨m,hm⟩:=h0;exact DataW.trod_lt m _ _ _ hm
 obtain ⟨x0,w0,e0⟩:=Zwp Ydj h0 (Zs6 hsz (j:=0) rfl rfl)
 have g0:=Z4e (Z6h Try.underlying32 (hval 0 32 v0 rfl rfl)) e0
 have lt1:∀ x∈p1,x.block < W.heap.size:=by obtain ⟨m,hm⟩:=h1;exact DataW.trod_lt m _ _ _ hm
 obtain ⟨x1,w1,e1⟩:=Zwp Ych h1 (Zs6 hsz (j:=1) rfl rfl)
 have g1:=Z9l (Z27 Try.underlying34 (hval 1 34 v1 rfl rfl)) e1
 have lt2:∀ x∈p2,x.block < W.heap.size:=by obtain ⟨m,hm⟩:=h2;exact DataW.trod_lt m _ _ _ hm
 obtain ⟨x2,w2,e2⟩:=Zwp (Gx Try.underlying3) h2 (Zs6 hsz (j:=2) rfl rfl)
 have g2:=Z4e (Yag Try.underlying3 (hval 2 3 v2 rfl rfl)) e2
 refine (Ybq (Zkw ((fun l wl x _ m _=>Z1k (Yc0 l wl) x m) x0 w0 x1 w1 x2 w2)).pure (vs:=[v0,v1,v2]) ⟨_,_,rfl,g0,⟨_,_,rfl,g1,⟨_,_,rfl,g2,rfl⟩⟩⟩).mono fun e W' ⟨he,bel⟩ => ?_
 subst he
 exact ⟨_,rfl,_,_,_,[],_,[],hW',trodAll_mk1 (shut_bool Try.underlying4 _),(trodAll_cons_mk (Below.trod Z0i (by kernel_rfl) (of_decide_eq_true (by kernel_rfl)) h0 bel lt0) (trodAll_cons_mk (Below.trod Z0i (by kernel_rfl) (of_decide_eq_true (by kernel_rfl)) h1 bel lt1) (trodAll_cons_mk (Below.trod Z0i (by kernel_rfl) (of_decide_eq_true (by kernel_rfl)) h2 bel lt2) trodAll_mk0))),rfl,bel.frame _,fun h=>by cases h⟩
theorem proved:Rows.CopyWordsSaid :=
 OpenClaim.holds_of_wide 4 Try.f4 rfl rfl rfl rfl rfl rfl rfl ⟨rfl,rfl,rfl,rfl,rfl⟩ rfl rfl rfl rfl rfl (by kernel_rfl) Try.func4 (by kernel_rfl)
  (of_decide_eq_true (by kernel_rfl)) (by unfold Func.isWrapper;first | (rw [if_pos (by decide +kernel)];kernel_rfl) | (rw [if_neg (by decide +kernel)];exact ⟨rfl,rfl⟩))
  (fun os started H enc _=>lifted os started H enc)
end Go.Proofs.Ytnapihlnlajlpaa.copyWords
