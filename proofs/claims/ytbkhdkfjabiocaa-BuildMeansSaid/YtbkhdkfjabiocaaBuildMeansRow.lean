/- Called with any arguments, the law BuildMeans returns true and leaves them as they were; no other condition. -/
import Derived.Test.YtbkhdkfjabiocaaVX
import Derived.ShutString
import Derived.ChangeOld
import Derived.Below
namespace Go.Proofs.Ytbkhdkfjabiocaa.buildMeans
open Go.ChangeShapes Go.WideShapes Go.ChangeAt Go.RowKit
open Go.ChangeMaps (open_string shut_string)
set_option linter.unusedVariables false
set_option linter.unusedSimpArgs false
theorem op3:Zo4 Try.prog 3 (eI .i64) (fun x=>(Lit.int .i64 x).wf=true):=Zjc Try.underlying3
theorem Yfm:Zo4 Try.prog 44 (eI .u64) (fun x=>(Lit.int .u64 x).wf=true):=Zjc Try.underlying44
theorem Yc7:Zo4 Try.prog 44 (eI .u64) (fun x:Int=>(Lit.int .u64 x).wf=true):=(Zjc Try.underlying44)
theorem Yeg:Zo4 Try.prog 22 (eL (eI .u64)) (fun xs:(List Int)=>xs.length * 8≤140737488351232∧∀ x∈xs,(fun x:Int=>(Lit.int .u64 x).wf=true) x):=by
 have h:=Z1s (P:=Try.prog) (t:=22) (sz:=1) Try.underlying22 (by kernel_rfl) (by decide) (fun _=>rfl) Yc7
 have hb:Try.prog.bytesOf 44=8:=by kernel_rfl
 rw [hb] at h
 exact h
inductive Jd:Zd→Prop
 | mk (x:Zd) (h0:(fun x:Int=>(Lit.int .i64 x).wf=true) x.Kind) (h1:(fun xs:(List Int)=>xs.length * 8≤140737488351232∧∀ x∈xs,(fun x:Int=>(Lit.int .u64 x).wf=true) x) x.Words) (h2a:x.Kids.length * 56≤140737488351232) (h2b:∀ y∈x.Kids,Jd y):Jd x
theorem Z77 (n:Nat) (he:∀ m,m < n→Zdr Try.prog 25 Zi Jd m):Zdr Try.prog 23 (eL Zi) (fun xs:(List Zd)=>xs.length * 56≤140737488351232∧∀ x∈xs,Jd x) n:=by
 have h:=Zwi (P:=Try.prog) (t:=23) (sz:=3) n Try.underlying23 (by kernel_rfl) (by decide) (fun _=>rfl) he
 have hb:Try.prog.bytesOf 25=56:=by kernel_rfl
 rw [hb] at h
 exact h
theorem Yc8 (n:Nat):(Zdr Try.prog 25 Zi Jd n):=by
 induction n using Nat.strongRecOn with
 | ind n ih =>
  cases n with
  | zero=>exact Zlt
  | succ n =>
   have i24:∀ q,q < n→Zdr Try.prog 25 Zi Jd q:=fun q hq=>(ih q (by omega))
   have j24:Zdr Try.prog 25 Zi Jd n:=(ih n (by omega))
   have h:=Zwj (P:=Try.prog) (t:=25) (g:=Zi) (fun p=>(⟨p.1,p.2.1,p.2.2.1⟩:Zd)) Try.underlying25 (by kernel_rfl) (Zkq (k:=1) rfl (by kernel_rfl) ((Zjc Try.underlying3) _) (Zkq (k:=1) rfl (by kernel_rfl) (Yeg _) (Zkq (k:=1) rfl (by kernel_rfl) (Z77 n i24) Z1r))) (fun x=>by simp only [Zi,Y1,eI,eB,eS,eL,List.cons_append,List.nil_append,List.append_nil,List.append_assoc])
   intro H enc W base spare held cs d ps h1 h2
   obtain ⟨x,⟨y,rfl,hy⟩,hr⟩:=h H enc W base spare held cs d ps h1 h2
   obtain ⟨y0,y1,y2,u⟩:=y
   obtain ⟨a0,a1,⟨a2a,a2b⟩,_⟩:=hy
   exact ⟨_,Jd.mk ⟨y0,y1,y2⟩ a0 a1 a2a a2b,hr⟩
theorem Ybe:Zo4 Try.prog 25 Zi Jd:=fun n=>(Yc8 n)
theorem Yfl:Zo4 Try.prog 23 (eL Zi) (fun xs:(List Zd)=>xs.length * 56≤140737488351232∧∀ x∈xs,Jd x):=fun n=>Z77 n (fun m _=>Ybe m)
theorem Yd2 (t:Zd) (h:Jd t):Bd t:=by
 induction h with
 | mk x h0 h1 h2a h2b ih =>
  refine .mk _ (by have:=h1.1;omega) (by omega) (fun w hw => ?_) ih
  have:=h1.2 w hw
  simp [Lit.wf,IntKind.min,IntKind.max,IntKind.signed,IntKind.bits] at this
  omega
theorem own:ownKnob Try.prog.godebug=none:=by kernel_rfl
theorem Z38:laidOutB Try.prog=true:=by kernel_rfl
set_option maxRecDepth 100000 in
theorem lifted (os:Os) (started:os.Started) (H:Type) (enc:TypeId×Value→H) :
  ReturnsInHanded {} Try.checked os 3 .any (Rows.buildMeansSpec.pre6 enc Try.prog Try.f3 Rows.buildMeansRow.domain false) (Rows.buildMeansSpec.post enc Try.prog Try.f3 false true false false):=by
 refine returnsInHanded_of_change_sized (C:=Try.checked) own started (by kernel_rfl) Try.func3
  (ChangeSpec.witness6 (enc:=enc) (C:=Try.checked) false ⟨#[],#[.agg #[.int .i64 0,.slice none 0 0,.slice none 0 0],.int .i64 0],[]⟩ 12 (by kernel_rfl) (by kernel_rfl) (by kernel_rfl) (by kernel_rfl)) ?_
 intro W base args ds gs before hval0 hW hcnd hsz0 _
 have hval:∀ (j:Nat) t v,Try.f3.params[j]? = some t→args[j]? = some v→Value.okWide Try.prog W .any base t v:=hval0
 have hW':=hW
 obtain ⟨p,q,hA0,hV,rfl,hfz,hnd⟩:=hW
 have hA:DataW.TrodAll enc Try.prog W 0 (fun _=>true) true Try.f3.params.toList args.toList ds p:=hA0
 rw [Try.params3] at hA hval
 obtain ⟨v0,vs0,d0,ds0,p0,q0,hargs,rfl,rfl,h0,r0⟩:=trodAll_cons hA
 obtain ⟨v1,vs1,d1,ds1,p1,q1,rfl,rfl,rfl,h1,r1⟩:=trodAll_cons r0
 obtain ⟨rfl,rfl,rfl⟩:=trodAll_nil r1
 obtain rfl:args=#[v0,v1]:=by cases args;simp_all
 obtain ⟨rfl,rfl⟩:=trodVars_none hV
 clear hA0 hval0
 have hsz:(DataW.weightsEach Try.prog (Try.f3.params.toList++Rows.buildMeansSpec.plain.varTypes Try.prog) _).all (·≤reachBytes)=true:=hsz0
 clear hsz0
 rw [Try.params3] at hsz
 have lt0:∀ x∈p0,x.block < W.heap.size:=by obtain ⟨m,hm⟩:=h0;exact DataW.trod_lt m _ _ _ hm
 obtain ⟨x0,w0,e0⟩:=Z1q Ybe h0 (Zws hsz (j:=0) rfl rfl)
 have g0:=Z9f (Z2q Try.underlying25 (hval 0 25 v0 rfl rfl)) e0
 simp only [Zi,Y1] at g0
 have lt1:∀ x∈p1,x.block < W.heap.size:=by obtain ⟨m,hm⟩:=h1;exact DataW.trod_lt m _ _ _ hm
 obtain ⟨x1,w1,e1⟩:=Z1q (Zjc Try.underlying3) h1 (Zws hsz (j:=1) rfl rfl)
 have g1:=Z9g (Yac Try.underlying3 (hval 1 3 v1 rfl rfl)) e1
 refine (Yb0 (Zh6 ((fun x wx a _=>Zyv (Yd2 x wx) a) x0 w0 x1 w1)).pure (vs:=[v0,v1]) ⟨_,_,rfl,g0,⟨_,_,rfl,g1,rfl⟩⟩).mono fun e W' ⟨he,bel⟩ => ?_
 subst he
 exact ⟨_,rfl,_,_,_,[],_,[],hW',trodAll_mk1 (shut_bool Try.underlying4 _),(trodAll_cons_mk (Below.trod Z38 (by kernel_rfl) (of_decide_eq_true (by kernel_rfl)) h0 bel lt0) (trodAll_cons_mk (Below.trod Z38 (by kernel_rfl) (of_decide_eq_true (by kernel_rfl)) h1 bel lt1) trodAll_mk0)),rfl,bel.frame _,fun h=>by cases h⟩
theorem proved:Rows.BuildMeansSaid :=
 OpenClaim.holds_of_wide 3 Try.f3 rfl rfl rfl rfl rfl rfl rfl ⟨rfl,rfl,rfl,rfl,rfl⟩ rfl rfl rfl rfl rfl (by kernel_rfl) Try.func3 (by kernel_rfl)
  (of_decide_eq_true (by kernel_rfl)) (by unfold Func.isWrapper;first | (rw [if_pos (by decide +kernel)];kernel_rfl) | (rw [if_neg (by decide +kernel)];exact ⟨rfl,rfl⟩))
  (fun os started H enc _=>lifted os started H enc)
end Go.Proofs.Ytbkhdkfjabiocaa.buildMeans
