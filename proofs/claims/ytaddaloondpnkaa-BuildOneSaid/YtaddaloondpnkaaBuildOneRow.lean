/- Called with any arguments, the law BuildOne returns true and leaves them as they were; no other condition. -/
import Derived.Test.YtaddaloondpnkaaVW
import Derived.ShutString
import Derived.ChangeOld
import Derived.Below
namespace Go.Proofs.Ytaddaloondpnkaa.buildOne
open Go.ChangeShapes Go.WideShapes Go.ChangeAt Go.RowKit
open Go.ChangeMaps (open_string shut_string)
set_option linter.unusedVariables false
set_option linter.unusedSimpArgs false
theorem op3:Zmd Try.prog 3 (eI .i64) (fun x=>(Lit.int .i64 x).wf=true):=Zl1 Try.underlying3
theorem Z9w:Zmd Try.prog 58 (eI .u64) (fun x=>(Lit.int .u64 x).wf=true):=Zl1 Try.underlying58
theorem Z6z:Zmd Try.prog 58 (eI .u64) (fun x:Int=>(Lit.int .u64 x).wf=true):=(Zl1 Try.underlying58)
theorem Z8i:Zmd Try.prog 22 (eL (eI .u64)) (fun xs:(List Int)=>xs.length * 8≤140737488351232∧∀ x∈xs,(fun x:Int=>(Lit.int .u64 x).wf=true) x):=by
 have h:=Zxb (P:=Try.prog) (t:=22) (sz:=1) Try.underlying22 (by kernel_rfl) (by decide) (fun _=>rfl) Z6z
 have hb:Try.prog.bytesOf 58=8:=by kernel_rfl
 rw [hb] at h
 exact h
inductive X5:Zc→Prop
 | mk (x:Zc) (h0:(fun x:Int=>(Lit.int .i64 x).wf=true) x.Kind) (h1:(fun xs:(List Int)=>xs.length * 8≤140737488351232∧∀ x∈xs,(fun x:Int=>(Lit.int .u64 x).wf=true) x) x.Words) (h2a:x.Kids.length * 56≤140737488351232) (h2b:∀ y∈x.Kids,X5 y):X5 x
theorem Z18 (n:Nat) (he:∀ m,m < n→Zce Try.prog 25 Zg X5 m):Zce Try.prog 23 (eL Zg) (fun xs:(List Zc)=>xs.length * 56≤140737488351232∧∀ x∈xs,X5 x) n:=by
 have h:=Zt4 (P:=Try.prog) (t:=23) (sz:=3) n Try.underlying23 (by kernel_rfl) (by decide) (fun _=>rfl) he
 have hb:Try.prog.bytesOf 25=56:=by kernel_rfl
 rw [hb] at h
 exact h
theorem Z60 (n:Nat):(Zce Try.prog 25 Zg X5 n):=by
 induction n using Nat.strongRecOn with
 | ind n ih =>
  cases n with
  | zero=>exact Zlf
  | succ n =>
   have i24:∀ q,q < n→Zce Try.prog 25 Zg X5 q:=fun q hq=>(ih q (by omega))
   have j24:Zce Try.prog 25 Zg X5 n:=(ih n (by omega))
   have h:=Zt5 (P:=Try.prog) (t:=25) (g:=Zg) (fun p=>(⟨p.1,p.2.1,p.2.2.1⟩:Zc)) Try.underlying25 (by kernel_rfl) (Ziu (k:=1) rfl (by kernel_rfl) ((Zl1 Try.underlying3) _) (Ziu (k:=1) rfl (by kernel_rfl) (Z8i _) (Ziu (k:=1) rfl (by kernel_rfl) (Z18 n i24) Zxa))) (fun x=>by simp only [Zg,Ys,eI,eB,eS,eL,List.cons_append,List.nil_append,List.append_nil,List.append_assoc])
   intro H enc W base spare held cs d ps h1 h2
   obtain ⟨x,⟨y,rfl,hy⟩,hr⟩:=h H enc W base spare held cs d ps h1 h2
   obtain ⟨y0,y1,y2,u⟩:=y
   obtain ⟨a0,a1,⟨a2a,a2b⟩,_⟩:=hy
   exact ⟨_,X5.mk ⟨y0,y1,y2⟩ a0 a1 a2a a2b,hr⟩
theorem Z4t:Zmd Try.prog 25 Zg X5:=fun n=>(Z60 n)
theorem Z9v:Zmd Try.prog 23 (eL Zg) (fun xs:(List Zc)=>xs.length * 56≤140737488351232∧∀ x∈xs,X5 x):=fun n=>Z18 n (fun m _=>Z4t m)
theorem Z76 (t:Zc) (h:X5 t):Bd t:=by
 induction h with
 | mk x h0 h1 h2a h2b ih =>
  refine .mk _ (by have:=h1.1;omega) (by omega) (fun w hw => ?_) ih
  have:=h1.2 w hw
  simp [Lit.wf,IntKind.min,IntKind.max,IntKind.signed,IntKind.bits] at this
  omega
theorem own:ownKnob Try.prog.godebug=none:=by kernel_rfl
theorem Z3k:laidOutB Try.prog=true:=by kernel_rfl
set_option maxRecDepth 100000 in
theorem lifted (os:Os) (started:os.Started) (H:Type) (enc:TypeId×Value→H) :
  ReturnsInHanded {} Try.checked os 4 .any (Rows.buildOneSpec.pre6 enc Try.prog Try.f4 Rows.buildOneRow.domain false) (Rows.buildOneSpec.post enc Try.prog Try.f4 false true false false):=by
 refine returnsInHanded_of_change_sized (C:=Try.checked) own started (by kernel_rfl) Try.func4
  (ChangeSpec.witness6 (enc:=enc) (C:=Try.checked) false ⟨#[],#[.agg #[.int .i64 0,.slice none 0 0,.slice none 0 0]],[]⟩ 12 (by kernel_rfl) (by kernel_rfl) (by kernel_rfl) (by kernel_rfl)) ?_
 intro W base args ds gs before hval0 hW hcnd hsz0 _
 have hval:∀ (j:Nat) t v,Try.f4.params[j]? = some t→args[j]? = some v→Value.okWide Try.prog W .any base t v:=hval0
 have hW':=hW
 obtain ⟨p,q,hA0,hV,rfl,hfz,hnd⟩:=hW
 have hA:DataW.TrodAll enc Try.prog W 0 (fun _=>true) true Try.f4.params.toList args.toList ds p:=hA0
 rw [Try.params4] at hA hval
 obtain ⟨v0,vs0,d0,ds0,p0,q0,hargs,rfl,rfl,h0,r0⟩:=trodAll_cons hA
 obtain ⟨rfl,rfl,rfl⟩:=trodAll_nil r0
 obtain rfl:args=#[v0]:=by cases args;simp_all
 obtain ⟨rfl,rfl⟩:=trodVars_none hV
 clear hA0 hval0
 have hsz:(DataW.weightsEach Try.prog (Try.f4.params.toList++Rows.buildOneSpec.plain.varTypes Try.prog) _).all (·≤reachBytes)=true:=hsz0
 clear hsz0
 rw [Try.params4] at hsz
 have lt0:∀ x∈p0,x.block < W.heap.size:=by obtain ⟨m,hm⟩:=h0;exact DataW.trod_lt m _ _ _ hm
 obtain ⟨x0,w0,e0⟩:=Z17 Z4t h0 (Z0k hsz (j:=0) rfl rfl)
 have g0:=Z26 (Zx1 Try.underlying25 (hval 0 25 v0 rfl rfl)) e0
 simp only [Zg,Ys] at g0
 refine (Z5n (Zil ((fun x wx=>Zq6 (Z76 x wx)) x0 w0)).pure (vs:=[v0]) ⟨_,_,rfl,g0,rfl⟩).mono fun e W' ⟨he,bel⟩ => ?_
 subst he
 exact ⟨_,rfl,_,_,_,[],_,[],hW',trodAll_mk1 (shut_bool Try.underlying4 _),(trodAll_cons_mk (Below.trod Z3k (by kernel_rfl) (of_decide_eq_true (by kernel_rfl)) h0 bel lt0) trodAll_mk0),rfl,bel.frame _,fun h=>by cases h⟩
theorem proved:Rows.BuildOneSaid :=
 OpenClaim.holds_of_wide 4 Try.f4 rfl rfl rfl rfl rfl rfl rfl ⟨rfl,rfl,rfl,rfl,rfl⟩ rfl rfl rfl rfl rfl (by kernel_rfl) Try.func4 (by kernel_rfl)
  (of_decide_eq_true (by kernel_rfl)) (by unfold Func.isWrapper;first | (rw [if_pos (by decide +kernel)];kernel_rfl) | (rw [if_neg (by decide +kernel)];exact ⟨rfl,rfl⟩))
  (fun os started H enc _=>lifted os started H enc)
end Go.Proofs.Ytaddaloondpnkaa.buildOne
