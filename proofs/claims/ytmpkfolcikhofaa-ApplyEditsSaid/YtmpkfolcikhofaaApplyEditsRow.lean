/- Called with any arguments, the law ApplyEdits returns true and leaves them as they were; no other condition. -/
import Derived.Test.YtmpkfolcikhofaaRows
import Derived.Test.YtmpkfolcikhofaaSM5
import Derived.Test.YtmpkfolcikhofaaSP5
import Derived.Test.YtmpkfolcikhofaaH8
import Derived.WalkKit
import Derived.ProofKit
import Derived.OpenShut
import Derived.ShutString
import Derived.ChangeOld
import Derived.Below
import Derived.SizedLaws
namespace Go.Proofs.Ytmpkfolcikhofaa.applyEdits
open Go.ChangeShapes Go.WideShapes Go.ChangeAt Go.RowKit
open Go.ChangeMaps (open_string shut_string)
set_option linter.unusedVariables false
set_option linter.unusedSimpArgs false
theorem op3:Za0 Try.prog 3 (eI .i64) (fun x=>(Lit.int .i64 x).wf=true):=Qp Try.underlying3
theorem Z7c:Za0 Try.prog 71 (eI .u64) (fun x=>(Lit.int .u64 x).wf=true):=Qp Try.underlying71
theorem Z40:Za0 Try.prog 71 (eI .u64) (fun x:Int=>(Lit.int .u64 x).wf=true):=(Qp Try.underlying71)
theorem Z54:Za0 Try.prog 22 (eL (eI .u64)) (fun xs:(List Int)=>xs.length * 8≤140737488351232∧∀ x∈xs,(fun x:Int=>(Lit.int .u64 x).wf=true) x):=by
 have h:=Zot (P:=Try.prog) (t:=22) (sz:=1) Try.underlying22 (by kernel_rfl) (by decide) (fun _=>rfl) Z40
 have hb:Try.prog.bytesOf 71=8:=by kernel_rfl
 rw [hb] at h
 exact h
inductive wf_S_api_Tree:S_api_Tree→Prop
 | mk (x:S_api_Tree) (h0:(fun x:Int=>(Lit.int .i64 x).wf=true) x.Kind) (h1:(fun xs:(List Int)=>xs.length * 8≤140737488351232∧∀ x∈xs,(fun x:Int=>(Lit.int .u64 x).wf=true) x) x.Words) (h2a:x.Kids.length * 56≤140737488351232) (h2b:∀ y∈x.Kids,wf_S_api_Tree y):wf_S_api_Tree x
theorem Z1l (n:Nat) (he:∀ m,m < n→J4 Try.prog 25 Zb wf_S_api_Tree m):J4 Try.prog 23 (eL Zb) (fun xs:(List S_api_Tree)=>xs.length * 56≤140737488351232∧∀ x∈xs,wf_S_api_Tree x) n:=by
 have h:=Zf2 (P:=Try.prog) (t:=23) (sz:=3) n Try.underlying23 (by kernel_rfl) (by decide) (fun _=>rfl) he
 have hb:Try.prog.bytesOf 25=56:=by kernel_rfl
 rw [hb] at h
 exact h
theorem Z42 (n:Nat):(J4 Try.prog 25 Zb wf_S_api_Tree n):=by
 induction n using Nat.strongRecOn with
 | ind n ih =>
  cases n with
  | zero=>exact Zan
  | succ n =>
   have i24:∀ q,q < n→J4 Try.prog 25 Zb wf_S_api_Tree q:=fun q hq=>(ih q (by omega))
   have j24:J4 Try.prog 25 Zb wf_S_api_Tree n:=(ih n (by omega))
   have h:=Za5 (P:=Try.prog) (t:=25) (g:=Zb) (fun p=>(⟨p.1,p.2.1,p.2.2.1⟩:S_api_Tree)) Try.underlying25 (by kernel_rfl) (Yq (k:=1) rfl (by kernel_rfl) ((Qp Try.underlying3) _) (Yq (k:=1) rfl (by kernel_rfl) (Z54 _) (Yq (k:=1) rfl (by kernel_rfl) (Z1l n i24) Zbn))) (fun x=>by simp only [Zb,Yi,eI,eB,eS,eL,List.cons_append,List.nil_append,List.append_nil,List.append_assoc])
   intro H enc W base spare held cs d ps h1 h2
   obtain ⟨x,⟨y,rfl,hy⟩,hr⟩:=h H enc W base spare held cs d ps h1 h2
   obtain ⟨y0,y1,y2,u⟩:=y
   obtain ⟨a0,a1,⟨a2a,a2b⟩,_⟩:=hy
   exact ⟨_,wf_S_api_Tree.mk ⟨y0,y1,y2⟩ a0 a1 a2a a2b,hr⟩
theorem Zy7:Za0 Try.prog 25 Zb wf_S_api_Tree:=fun n=>(Z42 n)
theorem Z55:Za0 Try.prog 23 (eL Zb) (fun xs:(List S_api_Tree)=>xs.length * 56≤140737488351232∧∀ x∈xs,wf_S_api_Tree x):=fun n=>Z1l n (fun m _=>Zy7 m)
theorem op5:Za0 Try.prog 5 (eI .u8) (fun x=>(Lit.int .u8 x).wf=true):=Qp Try.underlying5
def Qk (x:Zn):Prop:=(fun x:Int=>(Lit.int .i64 x).wf=true) x.At∧(fun x:Int=>(Lit.int .u8 x).wf=true) x.Mask∧(fun x:Int=>(Lit.int .u64 x).wf=true) x.Old∧(fun x:Int=>(Lit.int .u64 x).wf=true) x.New
theorem Z7d:Za0 Try.prog 90 Zm Qk:=by
 have h:=Zl9 (P:=Try.prog) (t:=90) (g:=Zm) (fun p=>(⟨p.1,p.2.1,p.2.2.1,p.2.2.2.1⟩:Zn)) Try.underlying90 (by kernel_rfl) (fun n=>(Yq (k:=1) rfl (by kernel_rfl) ((Qp Try.underlying3) _) (Yq (k:=1) rfl (by kernel_rfl) ((Qp Try.underlying5) _) (Yq (k:=1) rfl (by kernel_rfl) ((Qp Try.underlying71) _) (Yq (k:=1) rfl (by kernel_rfl) ((Qp Try.underlying71) _) Zbn))))) (fun x=>rfl)
 intro n H enc W base spare held cs d ps h1 h2
 obtain ⟨x,⟨y,rfl,hy⟩,hr⟩:=h n H enc W base spare held cs d ps h1 h2
 exact ⟨_,by unfold Qk;simp only;exact ⟨hy.1,hy.2.1,hy.2.2.1,hy.2.2.2.1⟩,hr⟩
theorem Z47:Za0 Try.prog 91 Zm Qk:=by
 have h:=Zl9 (P:=Try.prog) (t:=91) (g:=Zm) (fun p=>(⟨p.1,p.2.1,p.2.2.1,p.2.2.2.1⟩:Zn)) Try.underlying91 (by kernel_rfl) (fun n=>(Yq (k:=1) rfl (by kernel_rfl) ((Qp Try.underlying3) _) (Yq (k:=1) rfl (by kernel_rfl) ((Qp Try.underlying5) _) (Yq (k:=1) rfl (by kernel_rfl) ((Qp Try.underlying71) _) (Yq (k:=1) rfl (by kernel_rfl) ((Qp Try.underlying71) _) Zbn))))) (fun x=>rfl)
 intro n H enc W base spare held cs d ps h1 h2
 obtain ⟨x,⟨y,rfl,hy⟩,hr⟩:=h n H enc W base spare held cs d ps h1 h2
 exact ⟨_,by unfold Qk;simp only;exact ⟨hy.1,hy.2.1,hy.2.2.1,hy.2.2.2.1⟩,hr⟩
theorem Z41:Za0 Try.prog 91 Zm Qk:=Z47
theorem Z56:Za0 Try.prog 50 (eL Zm) (fun xs:(List Zn)=>xs.length * 32≤140737488351232∧∀ x∈xs,Qk x):=by
 have h:=Zot (P:=Try.prog) (t:=50) (sz:=4) Try.underlying50 (by kernel_rfl) (by decide) (fun _=>rfl) Z41
 have hb:Try.prog.bytesOf 91=32:=by kernel_rfl
 rw [hb] at h
 exact h
mutual
inductive wf_S_api_Edit:S_api_Edit→Prop
 | mk (x:S_api_Edit) (h0:(fun x:Int=>(Lit.int .i64 x).wf=true) x.Kind) (h1:wf_S_api_Tree x.Old) (h2:wf_S_api_Tree x.New) (h3:(fun xs:(List Zn)=>xs.length * 32≤140737488351232∧∀ x∈xs,Qk x) x.Words) (h4a:x.Kids.length * 208≤140737488351232) (h4b:∀ y∈x.Kids,wf_S_api_KidEdit y) (h5:(fun x:Int=>(Lit.int .i64 x).wf=true) x.List_) (h6a:x.Ops.length * 240≤140737488351232) (h6b:∀ y∈x.Ops,wf_S_api_Op y):wf_S_api_Edit x
inductive wf_S_api_KidEdit:S_api_KidEdit→Prop
 | mk (x:S_api_KidEdit) (h0:(fun x:Int=>(Lit.int .i64 x).wf=true) x.At) (h1:wf_S_api_Edit x.E):wf_S_api_KidEdit x
inductive wf_S_api_Op:S_api_Op→Prop
 | mk (x:S_api_Op) (h0:(fun x:Int=>(Lit.int .i64 x).wf=true) x.Kind) (h1:(fun x:Int=>(Lit.int .i64 x).wf=true) x.N) (h2:(fun xs:(List S_api_Tree)=>xs.length * 56≤140737488351232∧∀ x∈xs,wf_S_api_Tree x) x.L) (h3:wf_S_api_Edit x.E):wf_S_api_Op x
end
theorem Z1m (n:Nat) (he:∀ m,m < n→J4 Try.prog 62 Zo wf_S_api_KidEdit m):J4 Try.prog 51 (eL Zo) (fun xs:(List S_api_KidEdit)=>xs.length * 208≤140737488351232∧∀ x∈xs,wf_S_api_KidEdit x) n:=by
 have h:=Zf2 (P:=Try.prog) (t:=51) (sz:=12) n Try.underlying51 (by kernel_rfl) (by decide) (fun _=>rfl) he
 have hb:Try.prog.bytesOf 62=208:=by kernel_rfl
 rw [hb] at h
 exact h
theorem Z1n (n:Nat) (he:∀ m,m < n→J4 Try.prog 64 Zy wf_S_api_Op m):J4 Try.prog 52 (eL Zy) (fun xs:(List S_api_Op)=>xs.length * 240≤140737488351232∧∀ x∈xs,wf_S_api_Op x) n:=by
 have h:=Zf2 (P:=Try.prog) (t:=52) (sz:=14) n Try.underlying52 (by kernel_rfl) (by decide) (fun _=>rfl) he
 have hb:Try.prog.bytesOf 64=240:=by kernel_rfl
 rw [hb] at h
 exact h
theorem Z1k (n:Nat):(J4 Try.prog 54 Xg wf_S_api_Edit n∧J4 Try.prog 62 Zo wf_S_api_KidEdit n∧J4 Try.prog 64 Zy wf_S_api_Op n):=by
 induction n using Nat.strongRecOn with
 | ind n ih =>
  cases n with
  | zero=>exact ⟨Zan,Zan,Zan⟩
  | succ n =>
   have i53:∀ q,q < n→J4 Try.prog 54 Xg wf_S_api_Edit q:=fun q hq=>(ih q (by omega)).1
   have j53:J4 Try.prog 54 Xg wf_S_api_Edit n:=(ih n (by omega)).1
   have i61:∀ q,q < n→J4 Try.prog 62 Zo wf_S_api_KidEdit q:=fun q hq=>(ih q (by omega)).2.1
   have j61:J4 Try.prog 62 Zo wf_S_api_KidEdit n:=(ih n (by omega)).2.1
   have i63:∀ q,q < n→J4 Try.prog 64 Zy wf_S_api_Op q:=fun q hq=>(ih q (by omega)).2.2
   have j63:J4 Try.prog 64 Zy wf_S_api_Op n:=(ih n (by omega)).2.2
   refine ⟨?_,?_,?_⟩
   ·have h:=Za5 (P:=Try.prog) (t:=54) (g:=Xg) (fun p=>(⟨p.1,p.2.1,p.2.2.1,p.2.2.2.1,p.2.2.2.2.1,p.2.2.2.2.2.1,p.2.2.2.2.2.2.1⟩:S_api_Edit)) Try.underlying54 (by kernel_rfl) (Yq (k:=1) rfl (by kernel_rfl) ((Qp Try.underlying3) _) (Yq (k:=3) rfl (by kernel_rfl) (Zy7 _) (Yq (k:=3) rfl (by kernel_rfl) (Zy7 _) (Yq (k:=1) rfl (by kernel_rfl) (Z56 _) (Yq (k:=1) rfl (by kernel_rfl) (Z1m n i61) (Yq (k:=1) rfl (by kernel_rfl) ((Qp Try.underlying3) _) (Yq (k:=1) rfl (by kernel_rfl) (Z1n n i63) Zbn))))))) (fun x=>by simp only [Xg,Y8,Zb,Yi,Zm,Zo,Yt,Zy,Xk,eI,eB,eS,eL,List.cons_append,List.nil_append,List.append_nil,List.append_assoc])
    intro H enc W base spare held cs d ps h1 h2
    obtain ⟨x,⟨y,rfl,hy⟩,hr⟩:=h H enc W base spare held cs d ps h1 h2
    obtain ⟨y0,y1,y2,y3,y4,y5,y6,u⟩:=y
    obtain ⟨a0,a1,a2,a3,⟨a4a,a4b⟩,a5,⟨a6a,a6b⟩,_⟩:=hy
    exact ⟨_,wf_S_api_Edit.mk ⟨y0,y1,y2,y3,y4,y5,y6⟩ a0 a1 a2 a3 a4a a4b a5 a6a a6b,hr⟩
   ·have h:=Za5 (P:=Try.prog) (t:=62) (g:=Zo) (fun p=>(⟨p.1,p.2.1⟩:S_api_KidEdit)) Try.underlying62 (by kernel_rfl) (Yq (k:=1) rfl (by kernel_rfl) ((Qp Try.underlying3) _) (Yq (k:=11) rfl (by kernel_rfl) j53 Zbn)) (fun x=>by simp only [Zo,Yt,Xg,Y8,Zb,Yi,Zm,Zy,Xk,eI,eB,eS,eL,List.cons_append,List.nil_append,List.append_nil,List.append_assoc])
    intro H enc W base spare held cs d ps h1 h2
    obtain ⟨x,⟨y,rfl,hy⟩,hr⟩:=h H enc W base spare held cs d ps h1 h2
    obtain ⟨y0,y1,u⟩:=y
    obtain ⟨a0,a1,_⟩:=hy
    exact ⟨_,wf_S_api_KidEdit.mk ⟨y0,y1⟩ a0 a1,hr⟩
   have h:=Za5 (P:=Try.prog) (t:=64) (g:=Zy) (fun p=>(⟨p.1,p.2.1,p.2.2.1,p.2.2.2.1⟩:S_api_Op)) Try.underlying64 (by kernel_rfl) (Yq (k:=1) rfl (by kernel_rfl) ((Qp Try.underlying3) _) (Yq (k:=1) rfl (by kernel_rfl) ((Qp Try.underlying3) _) (Yq (k:=1) rfl (by kernel_rfl) (Z55 _) (Yq (k:=11) rfl (by kernel_rfl) j53 Zbn)))) (fun x=>by simp only [Zy,Xk,Zb,Yi,Xg,Y8,Zm,Zo,Yt,eI,eB,eS,eL,List.cons_append,List.nil_append,List.append_nil,List.append_assoc])
   intro H enc W base spare held cs d ps h1 h2
   obtain ⟨x,⟨y,rfl,hy⟩,hr⟩:=h H enc W base spare held cs d ps h1 h2
   obtain ⟨y0,y1,y2,y3,u⟩:=y
   obtain ⟨a0,a1,a2,a3,_⟩:=hy
   exact ⟨_,wf_S_api_Op.mk ⟨y0,y1,y2,y3⟩ a0 a1 a2 a3,hr⟩
theorem Z44:Za0 Try.prog 54 Xg wf_S_api_Edit:=fun n=>(Z1k n).1
theorem Z45:Za0 Try.prog 62 Zo wf_S_api_KidEdit:=fun n=>(Z1k n).2.1
theorem Z46:Za0 Try.prog 64 Zy wf_S_api_Op:=fun n=>(Z1k n).2.2
theorem Z7a:Za0 Try.prog 51 (eL Zo) (fun xs:(List S_api_KidEdit)=>xs.length * 208≤140737488351232∧∀ x∈xs,wf_S_api_KidEdit x):=fun n=>Z1m n (fun m _=>Z45 m)
theorem Z7b:Za0 Try.prog 52 (eL Zy) (fun xs:(List S_api_Op)=>xs.length * 240≤140737488351232∧∀ x∈xs,wf_S_api_Op x):=fun n=>Z1n n (fun m _=>Z46 m)
theorem Zzk (t:S_api_Tree) (h:wf_S_api_Tree t):Bd t:=by
 induction h with
 | mk x h0 h1 h2a h2b ih =>
  refine .mk _ (by have:=h1.1;omega) (by omega) (fun w hw => ?_) ih
  have:=h1.2 w hw
  simp [Lit.wf,IntKind.min,IntKind.max,IntKind.signed,IntKind.bits] at this
  omega
theorem Z3o {w:Zn} (h:Qk w):(0≤w.Mask∧w.Mask < 256)∧(0≤w.Old∧w.Old < 18446744073709551616)∧(0≤w.New∧w.New < 18446744073709551616):=by
 obtain ⟨_,h1,h2,h3⟩:=h
 simp [Lit.wf,IntKind.min,IntKind.max,IntKind.signed,IntKind.bits] at h1 h2 h3
 omega
theorem Z51 (e:S_api_Edit) (h:wf_S_api_Edit e):BE e :=
 wf_S_api_Edit.rec (motive_1:=fun e _=>BE e) (motive_2:=fun k _=>BE k.E) (motive_3:=fun o _=>BO o)
  (fun x h0 h1 h2 h3 h4a h4b h5 h6a h6b i4 i6 => .mk _ (Zzk _ h1) (Zzk _ h2) (by have:=h3.1;omega) (fun w hw=>Z3o (h3.2 w hw)) (by omega) i4 (by omega) (fun o ho=>(i6 o ho).1) (fun o ho=>(i6 o ho).2))
  (fun x h0 h1 i1=>i1)
  (fun x h0 h1 h2 h3 i3=>⟨⟨by have:=h2.1;omega,fun t ht=>Zzk t (h2.2 t ht)⟩,i3⟩) h
theorem own:ownKnob Try.prog.godebug=none:=by kernel_rfl
theorem Zyv:laidOutB Try.prog=true:=by kernel_rfl
set_option maxRecDepth 100000 in
theorem lifted (os:Os) (started:os.Started) (H:Type) (enc:TypeId×Value→H) :
  ReturnsInHanded {} Try.checked os 11 .any (Rows.applyEditsSpec.pre6 enc Try.prog Try.f11 Rows.applyEditsRow.domain false) (Rows.applyEditsSpec.post enc Try.prog Try.f11 false true false false):=by
 refine returnsInHanded_of_change_sized (C:=Try.checked) own started (by kernel_rfl) Try.func11
  (ChangeSpec.witness6 (enc:=enc) (C:=Try.checked) false ⟨#[],#[.agg #[.int .i64 0,.int .i64 0,.slice none 0 0,.slice none 0 0,.int .i64 0,.slice none 0 0,.slice none 0 0,.slice none 0 0,.slice none 0 0,.int .i64 0,.slice none 0 0],.agg #[.int .i64 0,.slice none 0 0,.slice none 0 0]],[]⟩ 12 (by kernel_rfl) (by kernel_rfl) (by kernel_rfl) (by kernel_rfl)) ?_
 intro W base args ds gs before hval0 hW hcnd hsz0 _
 have hval:∀ (j:Nat) t v,Try.f11.params[j]? = some t→args[j]? = some v→Value.okWide Try.prog W .any base t v:=hval0
 have hW':=hW
 obtain ⟨p,q,hA0,hV,rfl,hfz,hnd⟩:=hW
 have hA:DataW.TrodAll enc Try.prog W 0 (fun _=>true) true Try.f11.params.toList args.toList ds p:=hA0
 rw [Try.params11] at hA hval
 obtain ⟨v0,vs0,d0,ds0,p0,q0,hargs,rfl,rfl,h0,r0⟩:=trodAll_cons hA
 obtain ⟨v1,vs1,d1,ds1,p1,q1,rfl,rfl,rfl,h1,r1⟩:=trodAll_cons r0
 obtain ⟨rfl,rfl,rfl⟩:=trodAll_nil r1
 obtain rfl:args=#[v0,v1]:=by cases args;simp_all
 obtain ⟨rfl,rfl⟩:=trodVars_none hV
 clear hA0 hval0
 have hsz:(DataW.weightsEach Try.prog (Try.f11.params.toList++Rows.applyEditsSpec.plain.varTypes Try.prog) _).all (·≤reachBytes)=true:=hsz0
 clear hsz0
 rw [Try.params11] at hsz
 have lt0:∀ x∈p0,x.block < W.heap.size:=by obtain ⟨m,hm⟩:=h0;exact DataW.trod_lt m _ _ _ hm
 obtain ⟨x0,w0,e0⟩:=Zvq Z44 h0 (Zsq hsz (j:=0) rfl rfl)
 have g0:=Zyi (Zpn Try.underlying54 (hval 0 54 v0 rfl rfl)) e0
 simp only [Xg,Y8,Zb,Yi,Zm,Zo,Yt,Zy,Xk] at g0
 have lt1:∀ x∈p1,x.block < W.heap.size:=by obtain ⟨m,hm⟩:=h1;exact DataW.trod_lt m _ _ _ hm
 obtain ⟨x1,w1,e1⟩:=Zvq Zy7 h1 (Zsq hsz (j:=1) rfl rfl)
 have g1:=Zyi (Zpn Try.underlying25 (hval 1 25 v1 rfl rfl)) e1
 simp only [Zb,Yi] at g1
 refine (Z4b (Zfz ((fun x wx y wy=>Ztk (Z51 x wx) (Zzk y wy)) x0 w0 x1 w1)).pure (vs:=[v0,v1]) ⟨_,_,rfl,g0,⟨_,_,rfl,g1,rfl⟩⟩).mono fun e W' ⟨he,bel⟩ => ?_
 subst he
 exact ⟨_,rfl,_,_,_,[],_,[],hW',trodAll_mk1 (shut_bool Try.underlying4 _),(trodAll_cons_mk (Below.trod Zyv (by kernel_rfl) (of_decide_eq_true (by kernel_rfl)) h0 bel lt0) (trodAll_cons_mk (Below.trod Zyv (by kernel_rfl) (of_decide_eq_true (by kernel_rfl)) h1 bel lt1) trodAll_mk0)),rfl,bel.frame _,fun h=>by cases h⟩
theorem proved:Rows.ApplyEditsSaid :=
 OpenClaim.holds_of_wide 11 Try.f11 rfl rfl rfl rfl rfl rfl rfl ⟨rfl,rfl,rfl,rfl,rfl⟩ rfl rfl rfl rfl rfl (by kernel_rfl) Try.func11 (by kernel_rfl)
  (of_decide_eq_true (by kernel_rfl)) (by unfold Func.isWrapper;first | (rw [if_pos (by decide +kernel)];kernel_rfl) | (rw [if_neg (by decide +kernel)];exact ⟨rfl,rfl⟩))
  (fun os started H enc _=>lifted os started H enc)
end Go.Proofs.Ytmpkfolcikhofaa.applyEdits
