/- Called with any arguments, the law InvertTurns returns true and leaves them as they were; no other condition. -/
import Derived.Test.YtbcgiaijjaocdaaRows
import Derived.Test.YtbcgiaijjaocdaaZM5
import Derived.Test.YtbcgiaijjaocdaaZP1
import Derived.Test.YtbcgiaijjaocdaaH8
import Derived.WalkKit
import Derived.ProofKit
import Derived.OpenShut
import Derived.ShutString
import Derived.ChangeOld
import Derived.Below
import Derived.SizedLaws
namespace Go.Proofs.Ytbcgiaijjaocdaa.invertTurns
open Go.ChangeShapes Go.WideShapes Go.ChangeAt Go.RowKit
open Go.ChangeMaps (open_string shut_string)
set_option linter.unusedVariables false
set_option linter.unusedSimpArgs false
theorem op3:Zb3 Try.prog 3 (eI .i64) (fun x=>(Lit.int .i64 x).wf=true):=Qr Try.underlying3
theorem Z8z:Zb3 Try.prog 56 (eI .u64) (fun x=>(Lit.int .u64 x).wf=true):=Qr Try.underlying56
theorem Z6q:Zb3 Try.prog 56 (eI .u64) (fun x:Int=>(Lit.int .u64 x).wf=true):=(Qr Try.underlying56)
theorem Z7p:Zb3 Try.prog 22 (eL (eI .u64)) (fun xs:(List Int)=>xs.length * 8≤140737488351232∧∀ x∈xs,(fun x:Int=>(Lit.int .u64 x).wf=true) x):=by
 have h:=Zn6 (P:=Try.prog) (t:=22) (sz:=1) Try.underlying22 (by kernel_rfl) (by decide) (fun _=>rfl) Z6q
 have hb:Try.prog.bytesOf 56=8:=by kernel_rfl
 rw [hb] at h
 exact h
inductive wf_S_api_Tree:S_api_Tree→Prop
 | mk (x:S_api_Tree) (h0:(fun x:Int=>(Lit.int .i64 x).wf=true) x.Kind) (h1:(fun xs:(List Int)=>xs.length * 8≤140737488351232∧∀ x∈xs,(fun x:Int=>(Lit.int .u64 x).wf=true) x) x.Words) (h2a:x.Kids.length * 56≤140737488351232) (h2b:∀ y∈x.Kids,wf_S_api_Tree y):wf_S_api_Tree x
theorem Z18 (n:Nat) (he:∀ m,m < n→Kf Try.prog 25 Zb wf_S_api_Tree m):Kf Try.prog 23 (eL Zb) (fun xs:(List S_api_Tree)=>xs.length * 56≤140737488351232∧∀ x∈xs,wf_S_api_Tree x) n:=by
 have h:=Zgo (P:=Try.prog) (t:=23) (sz:=3) n Try.underlying23 (by kernel_rfl) (by decide) (fun _=>rfl) he
 have hb:Try.prog.bytesOf 25=56:=by kernel_rfl
 rw [hb] at h
 exact h
theorem Z6s (n:Nat):(Kf Try.prog 25 Zb wf_S_api_Tree n):=by
 induction n using Nat.strongRecOn with
 | ind n ih =>
  cases n with
  | zero=>exact Zbg
  | succ n =>
   have i24:∀ q,q < n→Kf Try.prog 25 Zb wf_S_api_Tree q:=fun q hq=>(ih q (by omega))
   have j24:Kf Try.prog 25 Zb wf_S_api_Tree n:=(ih n (by omega))
   have h:=Zb9 (P:=Try.prog) (t:=25) (g:=Zb) (fun p=>(⟨p.1,p.2.1,p.2.2.1⟩:S_api_Tree)) Try.underlying25 (by kernel_rfl) (Yp (k:=1) rfl (by kernel_rfl) ((Qr Try.underlying3) _) (Yp (k:=1) rfl (by kernel_rfl) (Z7p _) (Yp (k:=1) rfl (by kernel_rfl) (Z18 n i24) Zcu))) (fun x=>by simp only [Zb,Yo,eI,eB,eS,eL,List.cons_append,List.nil_append,List.append_nil,List.append_assoc])
   intro H enc W base spare held cs d ps h1 h2
   obtain ⟨x,⟨y,rfl,hy⟩,hr⟩:=h H enc W base spare held cs d ps h1 h2
   obtain ⟨y0,y1,y2,u⟩:=y
   obtain ⟨a0,a1,⟨a2a,a2b⟩,_⟩:=hy
   exact ⟨_,wf_S_api_Tree.mk ⟨y0,y1,y2⟩ a0 a1 a2a a2b,hr⟩
theorem Z15:Zb3 Try.prog 25 Zb wf_S_api_Tree:=fun n=>(Z6s n)
theorem Z7q:Zb3 Try.prog 23 (eL Zb) (fun xs:(List S_api_Tree)=>xs.length * 56≤140737488351232∧∀ x∈xs,wf_S_api_Tree x):=fun n=>Z18 n (fun m _=>Z15 m)
theorem op5:Zb3 Try.prog 5 (eI .u8) (fun x=>(Lit.int .u8 x).wf=true):=Qr Try.underlying5
def Qn (x:Zp):Prop:=(fun x:Int=>(Lit.int .i64 x).wf=true) x.At∧(fun x:Int=>(Lit.int .u8 x).wf=true) x.Mask∧(fun x:Int=>(Lit.int .u64 x).wf=true) x.Old∧(fun x:Int=>(Lit.int .u64 x).wf=true) x.New
theorem Z80:Zb3 Try.prog 57 Zg Qn:=by
 have h:=Zl6 (P:=Try.prog) (t:=57) (g:=Zg) (fun p=>(⟨p.1,p.2.1,p.2.2.1,p.2.2.2.1⟩:Zp)) Try.underlying57 (by kernel_rfl) (fun n=>(Yp (k:=1) rfl (by kernel_rfl) ((Qr Try.underlying3) _) (Yp (k:=1) rfl (by kernel_rfl) ((Qr Try.underlying5) _) (Yp (k:=1) rfl (by kernel_rfl) ((Qr Try.underlying56) _) (Yp (k:=1) rfl (by kernel_rfl) ((Qr Try.underlying56) _) Zcu))))) (fun x=>rfl)
 intro n H enc W base spare held cs d ps h1 h2
 obtain ⟨x,⟨y,rfl,hy⟩,hr⟩:=h n H enc W base spare held cs d ps h1 h2
 exact ⟨_,by unfold Qn;simp only;exact ⟨hy.1,hy.2.1,hy.2.2.1,hy.2.2.2.1⟩,hr⟩
theorem Z6u:Zb3 Try.prog 58 Zg Qn:=by
 have h:=Zl6 (P:=Try.prog) (t:=58) (g:=Zg) (fun p=>(⟨p.1,p.2.1,p.2.2.1,p.2.2.2.1⟩:Zp)) Try.underlying58 (by kernel_rfl) (fun n=>(Yp (k:=1) rfl (by kernel_rfl) ((Qr Try.underlying3) _) (Yp (k:=1) rfl (by kernel_rfl) ((Qr Try.underlying5) _) (Yp (k:=1) rfl (by kernel_rfl) ((Qr Try.underlying56) _) (Yp (k:=1) rfl (by kernel_rfl) ((Qr Try.underlying56) _) Zcu))))) (fun x=>rfl)
 intro n H enc W base spare held cs d ps h1 h2
 obtain ⟨x,⟨y,rfl,hy⟩,hr⟩:=h n H enc W base spare held cs d ps h1 h2
 exact ⟨_,by unfold Qn;simp only;exact ⟨hy.1,hy.2.1,hy.2.2.1,hy.2.2.2.1⟩,hr⟩
theorem Z6r:Zb3 Try.prog 58 Zg Qn:=Z6u
theorem Z7r:Zb3 Try.prog 26 (eL Zg) (fun xs:(List Zp)=>xs.length * 32≤140737488351232∧∀ x∈xs,Qn x):=by
 have h:=Zn6 (P:=Try.prog) (t:=26) (sz:=4) Try.underlying26 (by kernel_rfl) (by decide) (fun _=>rfl) Z6r
 have hb:Try.prog.bytesOf 58=32:=by kernel_rfl
 rw [hb] at h
 exact h
mutual
inductive wf_S_api_Edit:S_api_Edit→Prop
 | mk (x:S_api_Edit) (h0:(fun x:Int=>(Lit.int .i64 x).wf=true) x.Kind) (h1:wf_S_api_Tree x.Old) (h2:wf_S_api_Tree x.New) (h3:(fun xs:(List Zp)=>xs.length * 32≤140737488351232∧∀ x∈xs,Qn x) x.Words) (h4a:x.Kids.length * 208≤140737488351232) (h4b:∀ y∈x.Kids,wf_S_api_KidEdit y) (h5:(fun x:Int=>(Lit.int .i64 x).wf=true) x.List_) (h6a:x.Ops.length * 240≤140737488351232) (h6b:∀ y∈x.Ops,wf_S_api_Op y):wf_S_api_Edit x
inductive wf_S_api_Op:S_api_Op→Prop
 | mk (x:S_api_Op) (h0:(fun x:Int=>(Lit.int .i64 x).wf=true) x.Kind) (h1:(fun x:Int=>(Lit.int .i64 x).wf=true) x.N) (h2:(fun xs:(List S_api_Tree)=>xs.length * 56≤140737488351232∧∀ x∈xs,wf_S_api_Tree x) x.L) (h3:wf_S_api_Edit x.E):wf_S_api_Op x
inductive wf_S_api_KidEdit:S_api_KidEdit→Prop
 | mk (x:S_api_KidEdit) (h0:(fun x:Int=>(Lit.int .i64 x).wf=true) x.At) (h1:wf_S_api_Edit x.E):wf_S_api_KidEdit x
end
theorem Z19 (n:Nat) (he:∀ m,m < n→Kf Try.prog 71 Zh wf_S_api_KidEdit m):Kf Try.prog 27 (eL Zh) (fun xs:(List S_api_KidEdit)=>xs.length * 208≤140737488351232∧∀ x∈xs,wf_S_api_KidEdit x) n:=by
 have h:=Zgo (P:=Try.prog) (t:=27) (sz:=12) n Try.underlying27 (by kernel_rfl) (by decide) (fun _=>rfl) he
 have hb:Try.prog.bytesOf 71=208:=by kernel_rfl
 rw [hb] at h
 exact h
theorem Z2a (n:Nat) (he:∀ m,m < n→Kf Try.prog 69 Zf wf_S_api_Op m):Kf Try.prog 28 (eL Zf) (fun xs:(List S_api_Op)=>xs.length * 240≤140737488351232∧∀ x∈xs,wf_S_api_Op x) n:=by
 have h:=Zgo (P:=Try.prog) (t:=28) (sz:=14) n Try.underlying28 (by kernel_rfl) (by decide) (fun _=>rfl) he
 have hb:Try.prog.bytesOf 69=240:=by kernel_rfl
 rw [hb] at h
 exact h
theorem Z13 (n:Nat):(Kf Try.prog 30 Xt wf_S_api_Edit n∧Kf Try.prog 69 Zf wf_S_api_Op n∧Kf Try.prog 71 Zh wf_S_api_KidEdit n):=by
 induction n using Nat.strongRecOn with
 | ind n ih =>
  cases n with
  | zero=>exact ⟨Zbg,Zbg,Zbg⟩
  | succ n =>
   have i29:∀ q,q < n→Kf Try.prog 30 Xt wf_S_api_Edit q:=fun q hq=>(ih q (by omega)).1
   have j29:Kf Try.prog 30 Xt wf_S_api_Edit n:=(ih n (by omega)).1
   have i68:∀ q,q < n→Kf Try.prog 69 Zf wf_S_api_Op q:=fun q hq=>(ih q (by omega)).2.1
   have j68:Kf Try.prog 69 Zf wf_S_api_Op n:=(ih n (by omega)).2.1
   have i70:∀ q,q < n→Kf Try.prog 71 Zh wf_S_api_KidEdit q:=fun q hq=>(ih q (by omega)).2.2
   have j70:Kf Try.prog 71 Zh wf_S_api_KidEdit n:=(ih n (by omega)).2.2
   refine ⟨?_,?_,?_⟩
   ·have h:=Zb9 (P:=Try.prog) (t:=30) (g:=Xt) (fun p=>(⟨p.1,p.2.1,p.2.2.1,p.2.2.2.1,p.2.2.2.2.1,p.2.2.2.2.2.1,p.2.2.2.2.2.2.1⟩:S_api_Edit)) Try.underlying30 (by kernel_rfl) (Yp (k:=1) rfl (by kernel_rfl) ((Qr Try.underlying3) _) (Yp (k:=3) rfl (by kernel_rfl) (Z15 _) (Yp (k:=3) rfl (by kernel_rfl) (Z15 _) (Yp (k:=1) rfl (by kernel_rfl) (Z7r _) (Yp (k:=1) rfl (by kernel_rfl) (Z19 n i70) (Yp (k:=1) rfl (by kernel_rfl) ((Qr Try.underlying3) _) (Yp (k:=1) rfl (by kernel_rfl) (Z2a n i68) Zcu))))))) (fun x=>by simp only [Xt,Xd,Zb,Yo,Zg,Zh,Yt,Zf,Xn,eI,eB,eS,eL,List.cons_append,List.nil_append,List.append_nil,List.append_assoc])
    intro H enc W base spare held cs d ps h1 h2
    obtain ⟨x,⟨y,rfl,hy⟩,hr⟩:=h H enc W base spare held cs d ps h1 h2
    obtain ⟨y0,y1,y2,y3,y4,y5,y6,u⟩:=y
    obtain ⟨a0,a1,a2,a3,⟨a4a,a4b⟩,a5,⟨a6a,a6b⟩,_⟩:=hy
    exact ⟨_,wf_S_api_Edit.mk ⟨y0,y1,y2,y3,y4,y5,y6⟩ a0 a1 a2 a3 a4a a4b a5 a6a a6b,hr⟩
   ·have h:=Zb9 (P:=Try.prog) (t:=69) (g:=Zf) (fun p=>(⟨p.1,p.2.1,p.2.2.1,p.2.2.2.1⟩:S_api_Op)) Try.underlying69 (by kernel_rfl) (Yp (k:=1) rfl (by kernel_rfl) ((Qr Try.underlying3) _) (Yp (k:=1) rfl (by kernel_rfl) ((Qr Try.underlying3) _) (Yp (k:=1) rfl (by kernel_rfl) (Z7q _) (Yp (k:=11) rfl (by kernel_rfl) j29 Zcu)))) (fun x=>by simp only [Zf,Xn,Zb,Yo,Xt,Xd,Zg,Zh,Yt,eI,eB,eS,eL,List.cons_append,List.nil_append,List.append_nil,List.append_assoc])
    intro H enc W base spare held cs d ps h1 h2
    obtain ⟨x,⟨y,rfl,hy⟩,hr⟩:=h H enc W base spare held cs d ps h1 h2
    obtain ⟨y0,y1,y2,y3,u⟩:=y
    obtain ⟨a0,a1,a2,a3,_⟩:=hy
    exact ⟨_,wf_S_api_Op.mk ⟨y0,y1,y2,y3⟩ a0 a1 a2 a3,hr⟩
   have h:=Zb9 (P:=Try.prog) (t:=71) (g:=Zh) (fun p=>(⟨p.1,p.2.1⟩:S_api_KidEdit)) Try.underlying71 (by kernel_rfl) (Yp (k:=1) rfl (by kernel_rfl) ((Qr Try.underlying3) _) (Yp (k:=11) rfl (by kernel_rfl) j29 Zcu)) (fun x=>by simp only [Zh,Yt,Xt,Xd,Zb,Yo,Zg,Zf,Xn,eI,eB,eS,eL,List.cons_append,List.nil_append,List.append_nil,List.append_assoc])
   intro H enc W base spare held cs d ps h1 h2
   obtain ⟨x,⟨y,rfl,hy⟩,hr⟩:=h H enc W base spare held cs d ps h1 h2
   obtain ⟨y0,y1,u⟩:=y
   obtain ⟨a0,a1,_⟩:=hy
   exact ⟨_,wf_S_api_KidEdit.mk ⟨y0,y1⟩ a0 a1,hr⟩
theorem Z6t:Zb3 Try.prog 30 Xt wf_S_api_Edit:=fun n=>(Z13 n).1
theorem Z6v:Zb3 Try.prog 69 Zf wf_S_api_Op:=fun n=>(Z13 n).2.1
theorem Z6w:Zb3 Try.prog 71 Zh wf_S_api_KidEdit:=fun n=>(Z13 n).2.2
theorem Z8x:Zb3 Try.prog 27 (eL Zh) (fun xs:(List S_api_KidEdit)=>xs.length * 208≤140737488351232∧∀ x∈xs,wf_S_api_KidEdit x):=fun n=>Z19 n (fun m _=>Z6w m)
theorem Z8y:Zb3 Try.prog 28 (eL Zf) (fun xs:(List S_api_Op)=>xs.length * 240≤140737488351232∧∀ x∈xs,wf_S_api_Op x):=fun n=>Z2a n (fun m _=>Z6v m)
theorem Z3x (t:S_api_Tree) (h:wf_S_api_Tree t):Bd t:=by
 induction h with
 | mk x h0 h1 h2a h2b ih =>
  refine .mk _ (by have:=h1.1;omega) (by omega) (fun w hw => ?_) ih
  have:=h1.2 w hw
  simp [Lit.wf,IntKind.min,IntKind.max,IntKind.signed,IntKind.bits] at this
  omega
theorem Z48 {w:Zp} (h:Qn w):(0≤w.Mask∧w.Mask < 256)∧(0≤w.Old∧w.Old < 18446744073709551616)∧(0≤w.New∧w.New < 18446744073709551616):=by
 obtain ⟨_,h1,h2,h3⟩:=h
 simp [Lit.wf,IntKind.min,IntKind.max,IntKind.signed,IntKind.bits] at h1 h2 h3
 omega
theorem Z7o (e:S_api_Edit) (h:wf_S_api_Edit e):BE e :=
 wf_S_api_Edit.rec (motive_1:=fun e _=>BE e) (motive_2:=fun o _=>BO o) (motive_3:=fun k _=>BE k.E)
  (fun x h0 h1 h2 h3 h4a h4b h5 h6a h6b i4 i6 => .mk _ (Z3x _ h1) (Z3x _ h2) (by have:=h3.1;omega) (fun w hw=>Z48 (h3.2 w hw)) (by omega) i4 (by omega) (fun o ho=>(i6 o ho).1) (fun o ho=>(i6 o ho).2))
  (fun x h0 h1 h2 h3 i3=>⟨⟨by have:=h2.1;omega,fun t ht=>Z3x t (h2.2 t ht)⟩,i3⟩)
  (fun x h0 h1 i1=>i1) h
theorem own:ownKnob Try.prog.godebug=none:=by kernel_rfl
theorem Z4n:laidOutB Try.prog=true:=by kernel_rfl
set_option maxRecDepth 100000 in
theorem lifted (os:Os) (started:os.Started) (H:Type) (enc:TypeId×Value→H) :
  ReturnsInHanded {} Try.checked os 6 .any (Rows.invertTurnsSpec.pre6 enc Try.prog Try.f6 Rows.invertTurnsRow.domain false) (Rows.invertTurnsSpec.post enc Try.prog Try.f6 false true false false):=by
 refine returnsInHanded_of_change_sized (C:=Try.checked) own started (by kernel_rfl) Try.func6
  (ChangeSpec.witness6 (enc:=enc) (C:=Try.checked) false ⟨#[],#[.agg #[.int .i64 0,.int .i64 0,.slice none 0 0,.slice none 0 0,.int .i64 0,.slice none 0 0,.slice none 0 0,.slice none 0 0,.slice none 0 0,.int .i64 0,.slice none 0 0]],[]⟩ 12 (by kernel_rfl) (by kernel_rfl) (by kernel_rfl) (by kernel_rfl)) ?_
 intro W base args ds gs before hval0 hW hcnd hsz0 _
 have hval:∀ (j:Nat) t v,Try.f6.params[j]? = some t→args[j]? = some v→Value.okWide Try.prog W .any base t v:=hval0
 have hW':=hW
 obtain ⟨p,q,hA0,hV,rfl,hfz,hnd⟩:=hW
 have hA:DataW.TrodAll enc Try.prog W 0 (fun _=>true) true Try.f6.params.toList args.toList ds p:=hA0
 rw [Try.params6] at hA hval
 obtain ⟨v0,vs0,d0,ds0,p0,q0,hargs,rfl,rfl,h0,r0⟩:=trodAll_cons hA
 obtain ⟨rfl,rfl,rfl⟩:=trodAll_nil r0
 obtain rfl:args=#[v0]:=by cases args;simp_all
 obtain ⟨rfl,rfl⟩:=trodVars_none hV
 clear hA0 hval0
 have hsz:(DataW.weightsEach Try.prog (Try.f6.params.toList++Rows.invertTurnsSpec.plain.varTypes Try.prog) _).all (·≤reachBytes)=true:=hsz0
 clear hsz0
 rw [Try.params6] at hsz
 have lt0:∀ x∈p0,x.block < W.heap.size:=by obtain ⟨m,hm⟩:=h0;exact DataW.trod_lt m _ _ _ hm
 obtain ⟨x0,w0,e0⟩:=Z14 Z6t h0 (Zz7 hsz (j:=0) rfl rfl)
 have g0:=Z4a (Zwy Try.underlying30 (hval 0 30 v0 rfl rfl)) e0
 simp only [Xt,Xd,Zb,Yo,Zg,Zh,Yt,Zf,Xn] at g0
 refine (Z5v (Zf5 ((fun x wx=>Zrp (Z7o x wx)) x0 w0)).pure (vs:=[v0]) ⟨_,_,rfl,g0,rfl⟩).mono fun e W' ⟨he,bel⟩ => ?_
 subst he
 exact ⟨_,rfl,_,_,_,[],_,[],hW',trodAll_mk1 (shut_bool Try.underlying4 _),(trodAll_cons_mk (Below.trod Z4n (by kernel_rfl) (of_decide_eq_true (by kernel_rfl)) h0 bel lt0) trodAll_mk0),rfl,bel.frame _,fun h=>by cases h⟩
theorem proved:Rows.InvertTurnsSaid :=
 OpenClaim.holds_of_wide 6 Try.f6 rfl rfl rfl rfl rfl rfl rfl ⟨rfl,rfl,rfl,rfl,rfl⟩ rfl rfl rfl rfl rfl (by kernel_rfl) Try.func6 (by kernel_rfl)
  (of_decide_eq_true (by kernel_rfl)) (by unfold Func.isWrapper;first | (rw [if_pos (by decide +kernel)];kernel_rfl) | (rw [if_neg (by decide +kernel)];exact ⟨rfl,rfl⟩))
  (fun os started H enc _=>lifted os started H enc)
end Go.Proofs.Ytbcgiaijjaocdaa.invertTurns
