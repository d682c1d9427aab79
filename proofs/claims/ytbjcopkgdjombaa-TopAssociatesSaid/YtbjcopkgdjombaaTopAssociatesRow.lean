/- Called with any arguments, the law TopAssociates returns true and leaves them as they were; no other condition. -/
import Derived.Test.YtbjcopkgdjombaaRows
import Derived.Test.YtbjcopkgdjombaaNM6
import Derived.Test.YtbjcopkgdjombaaNP5
import Derived.Test.YtbjcopkgdjombaaH8
import Derived.WalkKit
import Derived.ProofKit
import Derived.OpenShut
import Derived.ShutString
import Derived.ChangeOld
import Derived.Below
import Derived.SizedLaws
namespace Go.Proofs.Ytbjcopkgdjombaa.topAssociates
open Go.ChangeShapes Go.WideShapes Go.ChangeAt Go.RowKit
open Go.ChangeMaps (open_string shut_string)
set_option linter.unusedVariables false
set_option linter.unusedSimpArgs false
theorem op3:Zgf Try.prog 3 (eI .i64) (fun x=>(Lit.int .i64 x).wf=true):=V4 Try.underlying3
theorem Yho:Zgf Try.prog 40 (eI .u64) (fun x=>(Lit.int .u64 x).wf=true):=V4 Try.underlying40
theorem Ye3:Zgf Try.prog 40 (eI .u64) (fun x:Int=>(Lit.int .u64 x).wf=true):=(V4 Try.underlying40)
theorem Ygj:Zgf Try.prog 22 (eL (eI .u64)) (fun xs:(List Int)=>xs.length * 8≤140737488351232∧∀ x∈xs,(fun x:Int=>(Lit.int .u64 x).wf=true) x):=by
 have h:=Zxi (P:=Try.prog) (t:=22) (sz:=1) Try.underlying22 (by kernel_rfl) (by decide) (fun _=>rfl) Ye3
 have hb:Try.prog.bytesOf 40=8:=by kernel_rfl
 rw [hb] at h
 exact h
inductive wf_S_api_Tree:S_api_Tree→Prop
 | mk (x:S_api_Tree) (h0:(fun x:Int=>(Lit.int .i64 x).wf=true) x.Kind) (h1:(fun xs:(List Int)=>xs.length * 8≤140737488351232∧∀ x∈xs,(fun x:Int=>(Lit.int .u64 x).wf=true) x) x.Words) (h2a:x.Kids.length * 56≤140737488351232) (h2b:∀ y∈x.Kids,wf_S_api_Tree y):wf_S_api_Tree x
theorem Yap (n:Nat) (he:∀ m,m < n→G9 Try.prog 25 Za wf_S_api_Tree m):G9 Try.prog 23 (eL Za) (fun xs:(List S_api_Tree)=>xs.length * 56≤140737488351232∧∀ x∈xs,wf_S_api_Tree x) n:=by
 have h:=Zpi (P:=Try.prog) (t:=23) (sz:=3) n Try.underlying23 (by kernel_rfl) (by decide) (fun _=>rfl) he
 have hb:Try.prog.bytesOf 25=56:=by kernel_rfl
 rw [hb] at h
 exact h
theorem Ye5 (n:Nat):(G9 Try.prog 25 Za wf_S_api_Tree n):=by
 induction n using Nat.strongRecOn with
 | ind n ih =>
  cases n with
  | zero=>exact Zfg
  | succ n =>
   have i24:∀ q,q < n→G9 Try.prog 25 Za wf_S_api_Tree q:=fun q hq=>(ih q (by omega))
   have j24:G9 Try.prog 25 Za wf_S_api_Tree n:=(ih n (by omega))
   have h:=Zgm (P:=Try.prog) (t:=25) (g:=Za) (fun p=>(⟨p.1,p.2.1,p.2.2.1⟩:S_api_Tree)) Try.underlying25 (by kernel_rfl) (Xc (k:=1) rfl (by kernel_rfl) ((V4 Try.underlying3) _) (Xc (k:=1) rfl (by kernel_rfl) (Ygj _) (Xc (k:=1) rfl (by kernel_rfl) (Yap n i24) Zhp))) (fun x=>by simp only [Za,Z5,eI,eB,eS,eL,List.cons_append,List.nil_append,List.append_nil,List.append_assoc])
   intro H enc W base spare held cs d ps h1 h2
   obtain ⟨x,⟨y,rfl,hy⟩,hr⟩:=h H enc W base spare held cs d ps h1 h2
   obtain ⟨y0,y1,y2,u⟩:=y
   obtain ⟨a0,a1,⟨a2a,a2b⟩,_⟩:=hy
   exact ⟨_,wf_S_api_Tree.mk ⟨y0,y1,y2⟩ a0 a1 a2a a2b,hr⟩
theorem Z7s:Zgf Try.prog 25 Za wf_S_api_Tree:=fun n=>(Ye5 n)
theorem Ygk:Zgf Try.prog 23 (eL Za) (fun xs:(List S_api_Tree)=>xs.length * 56≤140737488351232∧∀ x∈xs,wf_S_api_Tree x):=fun n=>Yap n (fun m _=>Z7s m)
theorem op5:Zgf Try.prog 5 (eI .u8) (fun x=>(Lit.int .u8 x).wf=true):=V4 Try.underlying5
def Vy (x:Zf):Prop:=(fun x:Int=>(Lit.int .i64 x).wf=true) x.At∧(fun x:Int=>(Lit.int .u8 x).wf=true) x.Mask∧(fun x:Int=>(Lit.int .u64 x).wf=true) x.Old∧(fun x:Int=>(Lit.int .u64 x).wf=true) x.New
theorem Yhp:Zgf Try.prog 41 Zb Vy:=by
 have h:=Zvw (P:=Try.prog) (t:=41) (g:=Zb) (fun p=>(⟨p.1,p.2.1,p.2.2.1,p.2.2.2.1⟩:Zf)) Try.underlying41 (by kernel_rfl) (fun n=>(Xc (k:=1) rfl (by kernel_rfl) ((V4 Try.underlying3) _) (Xc (k:=1) rfl (by kernel_rfl) ((V4 Try.underlying5) _) (Xc (k:=1) rfl (by kernel_rfl) ((V4 Try.underlying40) _) (Xc (k:=1) rfl (by kernel_rfl) ((V4 Try.underlying40) _) Zhp))))) (fun x=>rfl)
 intro n H enc W base spare held cs d ps h1 h2
 obtain ⟨x,⟨y,rfl,hy⟩,hr⟩:=h n H enc W base spare held cs d ps h1 h2
 exact ⟨_,by unfold Vy;simp only;exact ⟨hy.1,hy.2.1,hy.2.2.1,hy.2.2.2.1⟩,hr⟩
theorem Ye6:Zgf Try.prog 42 Zb Vy:=by
 have h:=Zvw (P:=Try.prog) (t:=42) (g:=Zb) (fun p=>(⟨p.1,p.2.1,p.2.2.1,p.2.2.2.1⟩:Zf)) Try.underlying42 (by kernel_rfl) (fun n=>(Xc (k:=1) rfl (by kernel_rfl) ((V4 Try.underlying3) _) (Xc (k:=1) rfl (by kernel_rfl) ((V4 Try.underlying5) _) (Xc (k:=1) rfl (by kernel_rfl) ((V4 Try.underlying40) _) (Xc (k:=1) rfl (by kernel_rfl) ((V4 Try.underlying40) _) Zhp))))) (fun x=>rfl)
 intro n H enc W base spare held cs d ps h1 h2
 obtain ⟨x,⟨y,rfl,hy⟩,hr⟩:=h n H enc W base spare held cs d ps h1 h2
 exact ⟨_,by unfold Vy;simp only;exact ⟨hy.1,hy.2.1,hy.2.2.1,hy.2.2.2.1⟩,hr⟩
theorem Ye4:Zgf Try.prog 42 Zb Vy:=Ye6
theorem Ygl:Zgf Try.prog 26 (eL Zb) (fun xs:(List Zf)=>xs.length * 32≤140737488351232∧∀ x∈xs,Vy x):=by
 have h:=Zxi (P:=Try.prog) (t:=26) (sz:=4) Try.underlying26 (by kernel_rfl) (by decide) (fun _=>rfl) Ye4
 have hb:Try.prog.bytesOf 42=32:=by kernel_rfl
 rw [hb] at h
 exact h
mutual
inductive wf_S_api_Edit:S_api_Edit→Prop
 | mk (x:S_api_Edit) (h0:(fun x:Int=>(Lit.int .i64 x).wf=true) x.Kind) (h1:wf_S_api_Tree x.Old) (h2:wf_S_api_Tree x.New) (h3:(fun xs:(List Zf)=>xs.length * 32≤140737488351232∧∀ x∈xs,Vy x) x.Words) (h4a:x.Kids.length * 208≤140737488351232) (h4b:∀ y∈x.Kids,wf_S_api_KidEdit y) (h5:(fun x:Int=>(Lit.int .i64 x).wf=true) x.List_) (h6a:x.Ops.length * 240≤140737488351232) (h6b:∀ y∈x.Ops,wf_S_api_Op y):wf_S_api_Edit x
inductive wf_S_api_Op:S_api_Op→Prop
 | mk (x:S_api_Op) (h0:(fun x:Int=>(Lit.int .i64 x).wf=true) x.Kind) (h1:(fun x:Int=>(Lit.int .i64 x).wf=true) x.N) (h2:(fun xs:(List S_api_Tree)=>xs.length * 56≤140737488351232∧∀ x∈xs,wf_S_api_Tree x) x.L) (h3:wf_S_api_Edit x.E):wf_S_api_Op x
inductive wf_S_api_KidEdit:S_api_KidEdit→Prop
 | mk (x:S_api_KidEdit) (h0:(fun x:Int=>(Lit.int .i64 x).wf=true) x.At) (h1:wf_S_api_Edit x.E):wf_S_api_KidEdit x
end
theorem Yaq (n:Nat) (he:∀ m,m < n→G9 Try.prog 55 Zd wf_S_api_KidEdit m):G9 Try.prog 27 (eL Zd) (fun xs:(List S_api_KidEdit)=>xs.length * 208≤140737488351232∧∀ x∈xs,wf_S_api_KidEdit x) n:=by
 have h:=Zpi (P:=Try.prog) (t:=27) (sz:=12) n Try.underlying27 (by kernel_rfl) (by decide) (fun _=>rfl) he
 have hb:Try.prog.bytesOf 55=208:=by kernel_rfl
 rw [hb] at h
 exact h
theorem Yar (n:Nat) (he:∀ m,m < n→G9 Try.prog 53 Zc wf_S_api_Op m):G9 Try.prog 28 (eL Zc) (fun xs:(List S_api_Op)=>xs.length * 240≤140737488351232∧∀ x∈xs,wf_S_api_Op x) n:=by
 have h:=Zpi (P:=Try.prog) (t:=28) (sz:=14) n Try.underlying28 (by kernel_rfl) (by decide) (fun _=>rfl) he
 have hb:Try.prog.bytesOf 53=240:=by kernel_rfl
 rw [hb] at h
 exact h
theorem Yam (n:Nat):(G9 Try.prog 30 Xp wf_S_api_Edit n∧G9 Try.prog 53 Zc wf_S_api_Op n∧G9 Try.prog 55 Zd wf_S_api_KidEdit n):=by
 induction n using Nat.strongRecOn with
 | ind n ih =>
  cases n with
  | zero=>exact ⟨Zfg,Zfg,Zfg⟩
  | succ n =>
   have i29:∀ q,q < n→G9 Try.prog 30 Xp wf_S_api_Edit q:=fun q hq=>(ih q (by omega)).1
   have j29:G9 Try.prog 30 Xp wf_S_api_Edit n:=(ih n (by omega)).1
   have i52:∀ q,q < n→G9 Try.prog 53 Zc wf_S_api_Op q:=fun q hq=>(ih q (by omega)).2.1
   have j52:G9 Try.prog 53 Zc wf_S_api_Op n:=(ih n (by omega)).2.1
   have i54:∀ q,q < n→G9 Try.prog 55 Zd wf_S_api_KidEdit q:=fun q hq=>(ih q (by omega)).2.2
   have j54:G9 Try.prog 55 Zd wf_S_api_KidEdit n:=(ih n (by omega)).2.2
   refine ⟨?_,?_,?_⟩
   ·have h:=Zgm (P:=Try.prog) (t:=30) (g:=Xp) (fun p=>(⟨p.1,p.2.1,p.2.2.1,p.2.2.2.1,p.2.2.2.2.1,p.2.2.2.2.2.1,p.2.2.2.2.2.2.1⟩:S_api_Edit)) Try.underlying30 (by kernel_rfl) (Xc (k:=1) rfl (by kernel_rfl) ((V4 Try.underlying3) _) (Xc (k:=3) rfl (by kernel_rfl) (Z7s _) (Xc (k:=3) rfl (by kernel_rfl) (Z7s _) (Xc (k:=1) rfl (by kernel_rfl) (Ygl _) (Xc (k:=1) rfl (by kernel_rfl) (Yaq n i54) (Xc (k:=1) rfl (by kernel_rfl) ((V4 Try.underlying3) _) (Xc (k:=1) rfl (by kernel_rfl) (Yar n i52) Zhp))))))) (fun x=>by simp only [Xp,Yz,Za,Z5,Zb,Zd,Z9,Zc,Y4,eI,eB,eS,eL,List.cons_append,List.nil_append,List.append_nil,List.append_assoc])
    intro H enc W base spare held cs d ps h1 h2
    obtain ⟨x,⟨y,rfl,hy⟩,hr⟩:=h H enc W base spare held cs d ps h1 h2
    obtain ⟨y0,y1,y2,y3,y4,y5,y6,u⟩:=y
    obtain ⟨a0,a1,a2,a3,⟨a4a,a4b⟩,a5,⟨a6a,a6b⟩,_⟩:=hy
    exact ⟨_,wf_S_api_Edit.mk ⟨y0,y1,y2,y3,y4,y5,y6⟩ a0 a1 a2 a3 a4a a4b a5 a6a a6b,hr⟩
   ·have h:=Zgm (P:=Try.prog) (t:=53) (g:=Zc) (fun p=>(⟨p.1,p.2.1,p.2.2.1,p.2.2.2.1⟩:S_api_Op)) Try.underlying53 (by kernel_rfl) (Xc (k:=1) rfl (by kernel_rfl) ((V4 Try.underlying3) _) (Xc (k:=1) rfl (by kernel_rfl) ((V4 Try.underlying3) _) (Xc (k:=1) rfl (by kernel_rfl) (Ygk _) (Xc (k:=11) rfl (by kernel_rfl) j29 Zhp)))) (fun x=>by simp only [Zc,Y4,Za,Z5,Xp,Yz,Zb,Zd,Z9,eI,eB,eS,eL,List.cons_append,List.nil_append,List.append_nil,List.append_assoc])
    intro H enc W base spare held cs d ps h1 h2
    obtain ⟨x,⟨y,rfl,hy⟩,hr⟩:=h H enc W base spare held cs d ps h1 h2
    obtain ⟨y0,y1,y2,y3,u⟩:=y
    obtain ⟨a0,a1,a2,a3,_⟩:=hy
    exact ⟨_,wf_S_api_Op.mk ⟨y0,y1,y2,y3⟩ a0 a1 a2 a3,hr⟩
   have h:=Zgm (P:=Try.prog) (t:=55) (g:=Zd) (fun p=>(⟨p.1,p.2.1⟩:S_api_KidEdit)) Try.underlying55 (by kernel_rfl) (Xc (k:=1) rfl (by kernel_rfl) ((V4 Try.underlying3) _) (Xc (k:=11) rfl (by kernel_rfl) j29 Zhp)) (fun x=>by simp only [Zd,Z9,Xp,Yz,Za,Z5,Zb,Zc,Y4,eI,eB,eS,eL,List.cons_append,List.nil_append,List.append_nil,List.append_assoc])
   intro H enc W base spare held cs d ps h1 h2
   obtain ⟨x,⟨y,rfl,hy⟩,hr⟩:=h H enc W base spare held cs d ps h1 h2
   obtain ⟨y0,y1,u⟩:=y
   obtain ⟨a0,a1,_⟩:=hy
   exact ⟨_,wf_S_api_KidEdit.mk ⟨y0,y1⟩ a0 a1,hr⟩
theorem Yan:Zgf Try.prog 30 Xp wf_S_api_Edit:=fun n=>(Yam n).1
theorem Ye7:Zgf Try.prog 53 Zc wf_S_api_Op:=fun n=>(Yam n).2.1
theorem Ye8:Zgf Try.prog 55 Zd wf_S_api_KidEdit:=fun n=>(Yam n).2.2
theorem Yhm:Zgf Try.prog 27 (eL Zd) (fun xs:(List S_api_KidEdit)=>xs.length * 208≤140737488351232∧∀ x∈xs,wf_S_api_KidEdit x):=fun n=>Yaq n (fun m _=>Ye8 m)
theorem Yhn:Zgf Try.prog 28 (eL Zc) (fun xs:(List S_api_Op)=>xs.length * 240≤140737488351232∧∀ x∈xs,wf_S_api_Op x):=fun n=>Yar n (fun m _=>Ye7 m)
theorem Z76 (t:S_api_Tree) (h:wf_S_api_Tree t):Bd t:=by
 induction h with
 | mk x h0 h1 h2a h2b ih =>
  refine .mk _ (by have:=h1.1;omega) (by omega) (fun w hw => ?_) ih
  have:=h1.2 w hw
  simp [Lit.wf,IntKind.min,IntKind.max,IntKind.signed,IntKind.bits] at this
  omega
theorem Yc9 {w:Zf} (h:Vy w):(0≤w.Mask∧w.Mask < 256)∧(0≤w.Old∧w.Old < 18446744073709551616)∧(0≤w.New∧w.New < 18446744073709551616):=by
 obtain ⟨_,h1,h2,h3⟩:=h
 simp [Lit.wf,IntKind.min,IntKind.max,IntKind.signed,IntKind.bits] at h1 h2 h3
 omega
theorem Ybm (e:S_api_Edit) (h:wf_S_api_Edit e):BE e :=
 wf_S_api_Edit.rec (motive_1:=fun e _=>BE e) (motive_2:=fun o _=>BO o) (motive_3:=fun k _=>BE k.E)
  (fun x h0 h1 h2 h3 h4a h4b h5 h6a h6b i4 i6 => .mk _ (Z76 _ h1) (Z76 _ h2) (by have:=h3.1;omega) (fun w hw=>Yc9 (h3.2 w hw)) (by omega) i4 (by omega) (fun o ho=>(i6 o ho).1) (fun o ho=>(i6 o ho).2))
  (fun x h0 h1 h2 h3 i3=>⟨⟨by have:=h2.1;omega,fun t ht=>Z76 t (h2.2 t ht)⟩,i3⟩)
  (fun x h0 h1 i1=>i1) h
theorem own:ownKnob Try.prog.godebug=none:=by kernel_rfl
theorem Zyy:laidOutB Try.prog=true:=by kernel_rfl
set_option maxRecDepth 100000 in
theorem lifted (os:Os) (started:os.Started) (H:Type) (enc:TypeId×Value→H) :
  ReturnsInHanded {} Try.checked os 6 .any (Rows.topAssociatesSpec.pre6 enc Try.prog Try.f6 Rows.topAssociatesRow.domain false) (Rows.topAssociatesSpec.post enc Try.prog Try.f6 false true false false):=by
 refine returnsInHanded_of_change_sized (C:=Try.checked) own started (by kernel_rfl) Try.func6
  (ChangeSpec.witness6 (enc:=enc) (C:=Try.checked) false ⟨#[],#[.agg #[.int .i64 0,.int .i64 0,.slice none 0 0,.slice none 0 0,.int .i64 0,.slice none 0 0,.slice none 0 0,.slice none 0 0,.slice none 0 0,.int .i64 0,.slice none 0 0],.agg #[.int .i64 0,.int .i64 0,.slice none 0 0,.slice none 0 0,.int .i64 0,.slice none 0 0,.slice none 0 0,.slice none 0 0,.slice none 0 0,.int .i64 0,.slice none 0 0],.agg #[.int .i64 0,.int .i64 0,.slice none 0 0,.slice none 0 0,.int .i64 0,.slice none 0 0,.slice none 0 0,.slice none 0 0,.slice none 0 0,.int .i64 0,.slice none 0 0],.agg #[.int .i64 0,.slice none 0 0,.slice none 0 0]],[]⟩ 12 (by kernel_rfl) (by kernel_rfl) (by kernel_rfl) (by kernel_rfl)) ?_
 intro W base args ds gs before hval0 hW hcnd hsz0 _
 have hval:∀ (j:Nat) t v,Try.f6.params[j]? = some t→args[j]? = some v→Value.okWide Try.prog W .any base t v:=hval0
 have hW':=hW
 obtain ⟨p,q,hA0,hV,rfl,hfz,hnd⟩:=hW
 have hA:DataW.TrodAll enc Try.prog W 0 (fun _=>true) true Try.f6.params.toList args.toList ds p:=hA0
 rw [Try.params6] at hA hval
 obtain ⟨v0,vs0,d0,ds0,p0,q0,hargs,rfl,rfl,h0,r0⟩:=trodAll_cons hA
 obtain ⟨v1,vs1,d1,ds1,p1,q1,rfl,rfl,rfl,h1,r1⟩:=trodAll_cons r0
 obtain ⟨v2,vs2,d2,ds2,p2,q2,rfl,rfl,rfl,h2,r2⟩:=trodAll_cons r1
 obtain ⟨v3,vs3,d3,ds3,p3,q3,rfl,rfl,rfl,h3,r3⟩:=trodAll_cons r2
 obtain ⟨rfl,rfl,rfl⟩:=trodAll_nil r3
 obtain rfl:args=#[v0,v1,v2,v3]:=by cases args;simp_all
 obtain ⟨rfl,rfl⟩:=trodVars_none hV
 clear hA0 hval0
 have hsz:(DataW.weightsEach Try.prog (Try.f6.params.toList++Rows.topAssociatesSpec.plain.varTypes Try.prog) _).all (·≤reachBytes)=true:=hsz0
 clear hsz0
 rw [Try.params6] at hsz
 have lt0:∀ x∈p0,x.block < W.heap.size:=by obtain ⟨m,hm⟩:=h0;exact DataW.trod_lt m _ _ _ hm
 obtain ⟨x0,w0,e0⟩:=Zvu Yan h0 (Zth hsz (j:=0) rfl rfl)
 have g0:=Zyv (Zp3 Try.underlying30 (hval 0 30 v0 rfl rfl)) e0
 simp only [Xp,Yz,Za,Z5,Zb,Zd,Z9,Zc,Y4] at g0
 have lt1:∀ x∈p1,x.block < W.heap.size:=by obtain ⟨m,hm⟩:=h1;exact DataW.trod_lt m _ _ _ hm
 obtain ⟨x1,w1,e1⟩:=Zvu Yan h1 (Zth hsz (j:=1) rfl rfl)
 have g1:=Zyv (Zp3 Try.underlying30 (hval 1 30 v1 rfl rfl)) e1
 simp only [Xp,Yz,Za,Z5,Zb,Zd,Z9,Zc,Y4] at g1
 have lt2:∀ x∈p2,x.block < W.heap.size:=by obtain ⟨m,hm⟩:=h2;exact DataW.trod_lt m _ _ _ hm
 obtain ⟨x2,w2,e2⟩:=Zvu Yan h2 (Zth hsz (j:=2) rfl rfl)
 have g2:=Zyv (Zp3 Try.underlying30 (hval 2 30 v2 rfl rfl)) e2
 simp only [Xp,Yz,Za,Z5,Zb,Zd,Z9,Zc,Y4] at g2
 have lt3:∀ x∈p3,x.block < W.heap.size:=by obtain ⟨m,hm⟩:=h3;exact DataW.trod_lt m _ _ _ hm
 obtain ⟨x3,w3,e3⟩:=Zvu Z7s h3 (Zth hsz (j:=3) rfl rfl)
 have g3:=Zyv (Zp3 Try.underlying25 (hval 3 25 v3 rfl rfl)) e3
 simp only [Za,Z5] at g3
 refine (Yd7 (Zm6 ((fun x wx y wy z wz t wt=>Zys (Ybm x wx) (Ybm y wy) (Ybm z wz) (Z76 t wt)) x0 w0 x1 w1 x2 w2 x3 w3)).pure (vs:=[v0,v1,v2,v3]) ⟨_,_,rfl,g0,⟨_,_,rfl,g1,⟨_,_,rfl,g2,⟨_,_,rfl,g3,rfl⟩⟩⟩⟩).mono fun e W' ⟨he,bel⟩ => ?_
 subst he
 exact ⟨_,rfl,_,_,_,[],_,[],hW',trodAll_mk1 (shut_bool Try.underlying4 _),(trodAll_cons_mk (Below.trod Zyy (by kernel_rfl) (of_decide_eq_true (by kernel_rfl)) h0 bel lt0) (trodAll_cons_mk (Below.trod Zyy (by kernel_rfl) (of_decide_eq_true (by kernel_rfl)) h1 bel lt1) (trodAll_cons_mk (Below.trod Zyy (by kernel_rfl) (of_decide_eq_true (by kernel_rfl)) h2 bel lt2) (trodAll_cons_mk (Below.trod Zyy (by kernel_rfl) (of_decide_eq_true (by kernel_rfl)) h3 bel lt3) trodAll_mk0)))),rfl,bel.frame _,fun h=>by cases h⟩
theorem proved:Rows.TopAssociatesSaid :=
 OpenClaim.holds_of_wide 6 Try.f6 rfl rfl rfl rfl rfl rfl rfl ⟨rfl,rfl,rfl,rfl,rfl⟩ rfl rfl rfl rfl rfl (by kernel_rfl) Try.func6 (by kernel_rfl)
  (of_decide_eq_true (by kernel_rfl)) (by unfold Func.isWrapper;first | (rw [if_pos (by decide +kernel)];kernel_rfl) | (rw [if_neg (by decide +kernel)];exact ⟨rfl,rfl⟩))
  (fun os started H enc _=>lifted os started H enc)
end Go.Proofs.Ytbjcopkgdjombaa.topAssociates
