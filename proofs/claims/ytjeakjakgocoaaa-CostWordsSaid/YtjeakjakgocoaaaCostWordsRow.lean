/- Called with any arguments, the law CostWords returns true and leaves them as they were; no other condition. -/
import Derived.Test.YtjeakjakgocoaaaRows
import Derived.Test.YtjeakjakgocoaaaKM4
import Derived.Test.YtjeakjakgocoaaaKP2
import Derived.Test.YtjeakjakgocoaaaH8
import Derived.WalkKit
import Derived.ProofKit
import Derived.OpenShut
import Derived.ShutString
import Derived.ChangeOld
import Derived.Below
import Derived.SizedLaws
namespace Go.Proofs.Ytjeakjakgocoaaa.costWords
open Go.ChangeShapes Go.WideShapes Go.ChangeAt Go.RowKit
open Go.ChangeMaps (open_string shut_string)
set_option linter.unusedVariables false
set_option linter.unusedSimpArgs false
theorem op3:Vx Try.prog 3 (eI .i64) (fun x=>(Lit.int .i64 x).wf=true):=X0 Try.underlying3
theorem Z7r:Vx Try.prog 68 (eI .u64) (fun x=>(Lit.int .u64 x).wf=true):=X0 Try.underlying68
theorem Z35:Vx Try.prog 68 (eI .u64) (fun x:Int=>(Lit.int .u64 x).wf=true):=(X0 Try.underlying68)
theorem Z6k:Vx Try.prog 26 (eL (eI .u64)) (fun xs:(List Int)=>xs.length * 8≤140737488351232∧∀ x∈xs,(fun x:Int=>(Lit.int .u64 x).wf=true) x):=by
 have h:=Zih (P:=Try.prog) (t:=26) (sz:=1) Try.underlying26 (by kernel_rfl) (by decide) (fun _=>rfl) Z35
 have hb:Try.prog.bytesOf 68=8:=by kernel_rfl
 rw [hb] at h
 exact h
inductive Y3:Za→Prop
 | mk (x:Za) (h0:(fun x:Int=>(Lit.int .i64 x).wf=true) x.Kind) (h1:(fun xs:(List Int)=>xs.length * 8≤140737488351232∧∀ x∈xs,(fun x:Int=>(Lit.int .u64 x).wf=true) x) x.Words) (h2a:x.Kids.length * 56≤140737488351232) (h2b:∀ y∈x.Kids,Y3 y):Y3 x
theorem Zx5 (n:Nat) (he:∀ m,m < n→Qz Try.prog 29 Zb Y3 m):Qz Try.prog 27 (eL Zb) (fun xs:(List Za)=>xs.length * 56≤140737488351232∧∀ x∈xs,Y3 x) n:=by
 have h:=Zcx (P:=Try.prog) (t:=27) (sz:=3) n Try.underlying27 (by kernel_rfl) (by decide) (fun _=>rfl) he
 have hb:Try.prog.bytesOf 29=56:=by kernel_rfl
 rw [hb] at h
 exact h
theorem Z36 (n:Nat):(Qz Try.prog 29 Zb Y3 n):=by
 induction n using Nat.strongRecOn with
 | ind n ih =>
  cases n with
  | zero=>exact Vk
  | succ n =>
   have i28:∀ q,q < n→Qz Try.prog 29 Zb Y3 q:=fun q hq=>(ih q (by omega))
   have j28:Qz Try.prog 29 Zb Y3 n:=(ih n (by omega))
   have h:=V2 (P:=Try.prog) (t:=29) (g:=Zb) (fun p=>(⟨p.1,p.2.1,p.2.2.1⟩:Za)) Try.underlying29 (by kernel_rfl) (Z3 (k:=1) rfl (by kernel_rfl) ((X0 Try.underlying3) _) (Z3 (k:=1) rfl (by kernel_rfl) (Z6k _) (Z3 (k:=1) rfl (by kernel_rfl) (Zx5 n i28) Um))) (fun x=>by simp only [Zb,Z7,eI,eB,eS,eL,List.cons_append,List.nil_append,List.append_nil,List.append_assoc])
   intro H enc W base spare held cs d ps h1 h2
   obtain ⟨x,⟨y,rfl,hy⟩,hr⟩:=h H enc W base spare held cs d ps h1 h2
   obtain ⟨y0,y1,y2,u⟩:=y
   obtain ⟨a0,a1,⟨a2a,a2b⟩,_⟩:=hy
   exact ⟨_,Y3.mk ⟨y0,y1,y2⟩ a0 a1 a2a a2b,hr⟩
theorem Zx4:Vx Try.prog 29 Zb Y3:=fun n=>(Z36 n)
theorem Z6l:Vx Try.prog 27 (eL Zb) (fun xs:(List Za)=>xs.length * 56≤140737488351232∧∀ x∈xs,Y3 x):=fun n=>Zx5 n (fun m _=>Zx4 m)
theorem op5:Vx Try.prog 5 (eI .u8) (fun x=>(Lit.int .u8 x).wf=true):=X0 Try.underlying5
def Xv (x:Zv):Prop:=(fun x:Int=>(Lit.int .i64 x).wf=true) x.At∧(fun x:Int=>(Lit.int .u8 x).wf=true) x.Mask∧(fun x:Int=>(Lit.int .u64 x).wf=true) x.Old∧(fun x:Int=>(Lit.int .u64 x).wf=true) x.New
theorem Z7q:Vx Try.prog 142 Zf Xv:=by
 have h:=Zg3 (P:=Try.prog) (t:=142) (g:=Zf) (fun p=>(⟨p.1,p.2.1,p.2.2.1,p.2.2.2.1⟩:Zv)) Try.underlying142 (by kernel_rfl) (fun n=>(Z3 (k:=1) rfl (by kernel_rfl) ((X0 Try.underlying3) _) (Z3 (k:=1) rfl (by kernel_rfl) ((X0 Try.underlying5) _) (Z3 (k:=1) rfl (by kernel_rfl) ((X0 Try.underlying68) _) (Z3 (k:=1) rfl (by kernel_rfl) ((X0 Try.underlying68) _) Um))))) (fun x=>rfl)
 intro n H enc W base spare held cs d ps h1 h2
 obtain ⟨x,⟨y,rfl,hy⟩,hr⟩:=h n H enc W base spare held cs d ps h1 h2
 exact ⟨_,by unfold Xv;simp only;exact ⟨hy.1,hy.2.1,hy.2.2.1,hy.2.2.2.1⟩,hr⟩
theorem Z3i:Vx Try.prog 143 Zf Xv:=by
 have h:=Zg3 (P:=Try.prog) (t:=143) (g:=Zf) (fun p=>(⟨p.1,p.2.1,p.2.2.1,p.2.2.2.1⟩:Zv)) Try.underlying143 (by kernel_rfl) (fun n=>(Z3 (k:=1) rfl (by kernel_rfl) ((X0 Try.underlying3) _) (Z3 (k:=1) rfl (by kernel_rfl) ((X0 Try.underlying5) _) (Z3 (k:=1) rfl (by kernel_rfl) ((X0 Try.underlying68) _) (Z3 (k:=1) rfl (by kernel_rfl) ((X0 Try.underlying68) _) Um))))) (fun x=>rfl)
 intro n H enc W base spare held cs d ps h1 h2
 obtain ⟨x,⟨y,rfl,hy⟩,hr⟩:=h n H enc W base spare held cs d ps h1 h2
 exact ⟨_,by unfold Xv;simp only;exact ⟨hy.1,hy.2.1,hy.2.2.1,hy.2.2.2.1⟩,hr⟩
theorem Z3h:Vx Try.prog 143 Zf Xv:=Z3i
theorem Z6m:Vx Try.prog 82 (eL Zf) (fun xs:(List Zv)=>xs.length * 32≤140737488351232∧∀ x∈xs,Xv x):=by
 have h:=Zih (P:=Try.prog) (t:=82) (sz:=4) Try.underlying82 (by kernel_rfl) (by decide) (fun _=>rfl) Z3h
 have hb:Try.prog.bytesOf 143=32:=by kernel_rfl
 rw [hb] at h
 exact h
mutual
inductive Qc:Zd→Prop
 | mk (x:Zd) (h0:(fun x:Int=>(Lit.int .i64 x).wf=true) x.Kind) (h1:Y3 x.Old) (h2:Y3 x.New) (h3:(fun xs:(List Zv)=>xs.length * 32≤140737488351232∧∀ x∈xs,Xv x) x.Words) (h4a:x.Kids.length * 208≤140737488351232) (h4b:∀ y∈x.Kids,Xb y) (h5:(fun x:Int=>(Lit.int .i64 x).wf=true) x.List_) (h6a:x.Ops.length * 240≤140737488351232) (h6b:∀ y∈x.Ops,Jj y):Qc x
inductive Xb:Zj→Prop
 | mk (x:Zj) (h0:(fun x:Int=>(Lit.int .i64 x).wf=true) x.At) (h1:Qc x.E):Xb x
inductive Jj:Zp→Prop
 | mk (x:Zp) (h0:(fun x:Int=>(Lit.int .i64 x).wf=true) x.Kind) (h1:(fun x:Int=>(Lit.int .i64 x).wf=true) x.N) (h2:(fun xs:(List Za)=>xs.length * 56≤140737488351232∧∀ x∈xs,Y3 x) x.L) (h3:Qc x.E):Jj x
end
theorem Zx6 (n:Nat) (he:∀ m,m < n→Qz Try.prog 145 Zh Xb m):Qz Try.prog 83 (eL Zh) (fun xs:(List Zj)=>xs.length * 208≤140737488351232∧∀ x∈xs,Xb x) n:=by
 have h:=Zcx (P:=Try.prog) (t:=83) (sz:=12) n Try.underlying83 (by kernel_rfl) (by decide) (fun _=>rfl) he
 have hb:Try.prog.bytesOf 145=208:=by kernel_rfl
 rw [hb] at h
 exact h
theorem Zx7 (n:Nat) (he:∀ m,m < n→Qz Try.prog 148 Zk Jj m):Qz Try.prog 84 (eL Zk) (fun xs:(List Zp)=>xs.length * 240≤140737488351232∧∀ x∈xs,Jj x) n:=by
 have h:=Zcx (P:=Try.prog) (t:=84) (sz:=14) n Try.underlying84 (by kernel_rfl) (by decide) (fun _=>rfl) he
 have hb:Try.prog.bytesOf 148=240:=by kernel_rfl
 rw [hb] at h
 exact h
theorem Zx1 (n:Nat):(Qz Try.prog 86 Xp Qc n∧Qz Try.prog 145 Zh Xb n∧Qz Try.prog 148 Zk Jj n):=by
 induction n using Nat.strongRecOn with
 | ind n ih =>
  cases n with
  | zero=>exact ⟨Vk,Vk,Vk⟩
  | succ n =>
   have i85:∀ q,q < n→Qz Try.prog 86 Xp Qc q:=fun q hq=>(ih q (by omega)).1
   have j85:Qz Try.prog 86 Xp Qc n:=(ih n (by omega)).1
   have i144:∀ q,q < n→Qz Try.prog 145 Zh Xb q:=fun q hq=>(ih q (by omega)).2.1
   have j144:Qz Try.prog 145 Zh Xb n:=(ih n (by omega)).2.1
   have i147:∀ q,q < n→Qz Try.prog 148 Zk Jj q:=fun q hq=>(ih q (by omega)).2.2
   have j147:Qz Try.prog 148 Zk Jj n:=(ih n (by omega)).2.2
   refine ⟨?_,?_,?_⟩
   ·have h:=V2 (P:=Try.prog) (t:=86) (g:=Xp) (fun p=>(⟨p.1,p.2.1,p.2.2.1,p.2.2.2.1,p.2.2.2.2.1,p.2.2.2.2.2.1,p.2.2.2.2.2.2.1⟩:Zd)) Try.underlying86 (by kernel_rfl) (Z3 (k:=1) rfl (by kernel_rfl) ((X0 Try.underlying3) _) (Z3 (k:=3) rfl (by kernel_rfl) (Zx4 _) (Z3 (k:=3) rfl (by kernel_rfl) (Zx4 _) (Z3 (k:=1) rfl (by kernel_rfl) (Z6m _) (Z3 (k:=1) rfl (by kernel_rfl) (Zx6 n i144) (Z3 (k:=1) rfl (by kernel_rfl) ((X0 Try.underlying3) _) (Z3 (k:=1) rfl (by kernel_rfl) (Zx7 n i147) Um))))))) (fun x=>by simp only [Xp,Xa,Zb,Z7,Zf,Zh,Ye,Zk,Xj,eI,eB,eS,eL,List.cons_append,List.nil_append,List.append_nil,List.append_assoc])
    intro H enc W base spare held cs d ps h1 h2
    obtain ⟨x,⟨y,rfl,hy⟩,hr⟩:=h H enc W base spare held cs d ps h1 h2
    obtain ⟨y0,y1,y2,y3,y4,y5,y6,u⟩:=y
    obtain ⟨a0,a1,a2,a3,⟨a4a,a4b⟩,a5,⟨a6a,a6b⟩,_⟩:=hy
    exact ⟨_,Qc.mk ⟨y0,y1,y2,y3,y4,y5,y6⟩ a0 a1 a2 a3 a4a a4b a5 a6a a6b,hr⟩
   ·have h:=V2 (P:=Try.prog) (t:=145) (g:=Zh) (fun p=>(⟨p.1,p.2.1⟩:Zj)) Try.underlying145 (by kernel_rfl) (Z3 (k:=1) rfl (by kernel_rfl) ((X0 Try.underlying3) _) (Z3 (k:=11) rfl (by kernel_rfl) j85 Um)) (fun x=>by simp only [Zh,Ye,Xp,Xa,Zb,Z7,Zf,Zk,Xj,eI,eB,eS,eL,List.cons_append,List.nil_append,List.append_nil,List.append_assoc])
    intro H enc W base spare held cs d ps h1 h2
    obtain ⟨x,⟨y,rfl,hy⟩,hr⟩:=h H enc W base spare held cs d ps h1 h2
    obtain ⟨y0,y1,u⟩:=y
    obtain ⟨a0,a1,_⟩:=hy
    exact ⟨_,Xb.mk ⟨y0,y1⟩ a0 a1,hr⟩
   have h:=V2 (P:=Try.prog) (t:=148) (g:=Zk) (fun p=>(⟨p.1,p.2.1,p.2.2.1,p.2.2.2.1⟩:Zp)) Try.underlying148 (by kernel_rfl) (Z3 (k:=1) rfl (by kernel_rfl) ((X0 Try.underlying3) _) (Z3 (k:=1) rfl (by kernel_rfl) ((X0 Try.underlying3) _) (Z3 (k:=1) rfl (by kernel_rfl) (Z6l _) (Z3 (k:=11) rfl (by kernel_rfl) j85 Um)))) (fun x=>by simp only [Zk,Xj,Zb,Z7,Xp,Xa,Zf,Zh,Ye,eI,eB,eS,eL,List.cons_append,List.nil_append,List.append_nil,List.append_assoc])
   intro H enc W base spare held cs d ps h1 h2
   obtain ⟨x,⟨y,rfl,hy⟩,hr⟩:=h H enc W base spare held cs d ps h1 h2
   obtain ⟨y0,y1,y2,y3,u⟩:=y
   obtain ⟨a0,a1,a2,a3,_⟩:=hy
   exact ⟨_,Jj.mk ⟨y0,y1,y2,y3⟩ a0 a1 a2 a3,hr⟩
theorem Z37:Vx Try.prog 86 Xp Qc:=fun n=>(Zx1 n).1
theorem Z3j:Vx Try.prog 145 Zh Xb:=fun n=>(Zx1 n).2.1
theorem Z3k:Vx Try.prog 148 Zk Jj:=fun n=>(Zx1 n).2.2
theorem Z7s:Vx Try.prog 83 (eL Zh) (fun xs:(List Zj)=>xs.length * 208≤140737488351232∧∀ x∈xs,Xb x):=fun n=>Zx6 n (fun m _=>Z3j m)
theorem Z7t:Vx Try.prog 84 (eL Zk) (fun xs:(List Zp)=>xs.length * 240≤140737488351232∧∀ x∈xs,Jj x):=fun n=>Zx7 n (fun m _=>Z3k m)
theorem Z0b (t:Za) (h:Y3 t):Bd t:=by
 induction h with
 | mk x h0 h1 h2a h2b ih =>
  refine .mk _ (by have:=h1.1;omega) (by omega) (fun w hw => ?_) ih
  have:=h1.2 w hw
  simp [Lit.wf,IntKind.min,IntKind.max,IntKind.signed,IntKind.bits] at this
  omega
theorem Z1r {w:Zv} (h:Xv w):(0≤w.Mask∧w.Mask < 256)∧(0≤w.Old∧w.Old < 18446744073709551616)∧(0≤w.New∧w.New < 18446744073709551616):=by
 obtain ⟨_,h1,h2,h3⟩:=h
 simp [Lit.wf,IntKind.min,IntKind.max,IntKind.signed,IntKind.bits] at h1 h2 h3
 omega
theorem Z6a (e:Zd) (h:Qc e):BE e :=
 Qc.rec (motive_1:=fun e _=>BE e) (motive_2:=fun k _=>BE k.E) (motive_3:=fun o _=>BO o)
  (fun x h0 h1 h2 h3 h4a h4b h5 h6a h6b i4 i6 => .mk _ (Z0b _ h1) (Z0b _ h2) (by have:=h3.1;omega) (fun w hw=>Z1r (h3.2 w hw)) (by omega) i4 (by omega) (fun o ho=>(i6 o ho).1) (fun o ho=>(i6 o ho).2))
  (fun x h0 h1 i1=>i1)
  (fun x h0 h1 h2 h3 i3=>⟨⟨by have:=h2.1;omega,fun t ht=>Z0b t (h2.2 t ht)⟩,i3⟩) h
theorem own:ownKnob Try.prog.godebug=none:=by kernel_rfl
theorem Z01:laidOutB Try.prog=true:=by kernel_rfl
set_option maxRecDepth 100000 in
theorem lifted (os:Os) (started:os.Started) (H:Type) (enc:TypeId×Value→H) :
  ReturnsInHanded {} Try.checked os 13 .any (Rows.costWordsSpec.pre6 enc Try.prog Try.f13 Rows.costWordsRow.domain false) (Rows.costWordsSpec.post enc Try.prog Try.f13 false true false false):=by
 refine returnsInHanded_of_change_sized (C:=Try.checked) own started (by kernel_rfl) Try.func13
  (ChangeSpec.witness6 (enc:=enc) (C:=Try.checked) false ⟨#[],#[.agg #[.int .i64 0,.int .i64 0,.slice none 0 0,.slice none 0 0,.int .i64 0,.slice none 0 0,.slice none 0 0,.slice none 0 0,.slice none 0 0,.int .i64 0,.slice none 0 0]],[]⟩ 12 (by kernel_rfl) (by kernel_rfl) (by kernel_rfl) (by kernel_rfl)) ?_
 intro W base args ds gs before hval0 hW hcnd hsz0 _
 have hval:∀ (j:Nat) t v,Try.f13.params[j]? = some t→args[j]? = some v→Value.okWide Try.prog W .any base t v:=hval0
 have hW':=hW
 obtain ⟨p,q,hA0,hV,rfl,hfz,hnd⟩:=hW
 have hA:DataW.TrodAll enc Try.prog W 0 (fun _=>true) true Try.f13.params.toList args.toList ds p:=hA0
 rw [Try.params13] at hA hval
 obtain ⟨v0,vs0,d0,ds0,p0,q0,hargs,rfl,rfl,h0,r0⟩:=trodAll_cons hA
 obtain ⟨rfl,rfl,rfl⟩:=trodAll_nil r0
 obtain rfl:args=#[v0]:=by cases args;simp_all
 obtain ⟨rfl,rfl⟩:=trodVars_none hV
 clear hA0 hval0
 have hsz:(DataW.weightsEach Try.prog (Try.f13.params.toList++Rows.costWordsSpec.plain.varTypes Try.prog) _).all (·≤reachBytes)=true:=hsz0
 clear hsz0
 rw [Try.params13] at hsz
 have lt0:∀ x∈p0,x.block < W.heap.size:=by obtain ⟨m,hm⟩:=h0;exact DataW.trod_lt m _ _ _ hm
 obtain ⟨x0,w0,e0⟩:=Zx2 Z37 h0 (Zvy hsz (j:=0) rfl rfl)
 have g0:=Z0q (Zrz Try.underlying86 (hval 0 86 v0 rfl rfl)) e0
 simp only [Xp,Xa,Zb,Z7,Zf,Zh,Ye,Zk,Xj] at g0
 refine (Z3b (Zda ((fun x wx=>Zou (Z6a x wx)) x0 w0)).pure (vs:=[v0]) ⟨_,_,rfl,g0,rfl⟩).mono fun e W' ⟨he,bel⟩ => ?_
 subst he
 exact ⟨_,rfl,_,_,_,[],_,[],hW',trodAll_mk1 (shut_bool Try.underlying4 _),(trodAll_cons_mk (Below.trod Z01 (by kernel_rfl) (of_decide_eq_true (by kernel_rfl)) h0 bel lt0) trodAll_mk0),rfl,bel.frame _,fun h=>by cases h⟩
theorem proved:Rows.CostWordsSaid :=
 OpenClaim.holds_of_wide 13 Try.f13 rfl rfl rfl rfl rfl rfl rfl ⟨rfl,rfl,rfl,rfl,rfl⟩ rfl rfl rfl rfl rfl (by kernel_rfl) Try.func13 (by kernel_rfl)
  (of_decide_eq_true (by kernel_rfl)) (by unfold Func.isWrapper;first | (rw [if_pos (by decide +kernel)];kernel_rfl) | (rw [if_neg (by decide +kernel)];exact ⟨rfl,rfl⟩))
  (fun os started H enc _=>lifted os started H enc)
end Go.Proofs.Ytjeakjakgocoaaa.costWords
