/- Called with any arguments, the law NormalDoes returns true and leaves them as they were; no other condition. -/
import Derived.Test.YtbcgiaijjaocdaaRows
import Derived.Test.YtbcgiaijjaocdaaYM5
import Derived.Test.YtbcgiaijjaocdaaYP3
import Derived.Test.YtbcgiaijjaocdaaH8
import Derived.WalkKit
import Derived.ProofKit
import Derived.OpenShut
import Derived.ShutString
import Derived.ChangeOld
import Derived.Below
import Derived.SizedLaws
namespace Go.Proofs.Ytbcgiaijjaocdaa.normalDoes
open Go.ChangeShapes Go.WideShapes Go.ChangeAt Go.RowKit
open Go.ChangeMaps (open_string shut_string)
set_option linter.unusedVariables false
set_option linter.unusedSimpArgs false
theorem op3:Zcg Try.prog 3 (eI .i64) (fun x=>(Lit.int .i64 x).wf=true):=Q2 Try.underlying3
theorem Ya2:Zcg Try.prog 56 (eI .u64) (fun x=>(Lit.int .u64 x).wf=true):=Q2 Try.underlying56
theorem Z8r:Zcg Try.prog 56 (eI .u64) (fun x:Int=>(Lit.int .u64 x).wf=true):=(Q2 Try.underlying56)
theorem Z9u:Zcg Try.prog 22 (eL (eI .u64)) (fun xs:(List Int)=>xs.length * 8≤140737488351232∧∀ x∈xs,(fun x:Int=>(Lit.int .u64 x).wf=true) x):=by
 have h:=Zoi (P:=Try.prog) (t:=22) (sz:=1) Try.underlying22 (by kernel_rfl) (by decide) (fun _=>rfl) Z8r
 have hb:Try.prog.bytesOf 56=8:=by kernel_rfl
 rw [hb] at h
 exact h
inductive wf_S_api_Tree:S_api_Tree→Prop
 | mk (x:S_api_Tree) (h0:(fun x:Int=>(Lit.int .i64 x).wf=true) x.Kind) (h1:(fun xs:(List Int)=>xs.length * 8≤140737488351232∧∀ x∈xs,(fun x:Int=>(Lit.int .u64 x).wf=true) x) x.Words) (h2a:x.Kids.length * 56≤140737488351232) (h2b:∀ y∈x.Kids,wf_S_api_Tree y):wf_S_api_Tree x
theorem Z32 (n:Nat) (he:∀ m,m < n→Kt Try.prog 25 Zb wf_S_api_Tree m):Kt Try.prog 23 (eL Zb) (fun xs:(List S_api_Tree)=>xs.length * 56≤140737488351232∧∀ x∈xs,wf_S_api_Tree x) n:=by
 have h:=Zhc (P:=Try.prog) (t:=23) (sz:=3) n Try.underlying23 (by kernel_rfl) (by decide) (fun _=>rfl) he
 have hb:Try.prog.bytesOf 25=56:=by kernel_rfl
 rw [hb] at h
 exact h
theorem Z8t (n:Nat):(Kt Try.prog 25 Zb wf_S_api_Tree n):=by
 induction n using Nat.strongRecOn with
 | ind n ih =>
  cases n with
  | zero=>exact Zbm
  | succ n =>
   have i24:∀ q,q < n→Kt Try.prog 25 Zb wf_S_api_Tree q:=fun q hq=>(ih q (by omega))
   have j24:Kt Try.prog 25 Zb wf_S_api_Tree n:=(ih n (by omega))
   have h:=Zcn (P:=Try.prog) (t:=25) (g:=Zb) (fun p=>(⟨p.1,p.2.1,p.2.2.1⟩:S_api_Tree)) Try.underlying25 (by kernel_rfl) (Yz (k:=1) rfl (by kernel_rfl) ((Q2 Try.underlying3) _) (Yz (k:=1) rfl (by kernel_rfl) (Z9u _) (Yz (k:=1) rfl (by kernel_rfl) (Z32 n i24) Zc8))) (fun x=>by simp only [Zb,Ys,eI,eB,eS,eL,List.cons_append,List.nil_append,List.append_nil,List.append_assoc])
   intro H enc W base spare held cs d ps h1 h2
   obtain ⟨x,⟨y,rfl,hy⟩,hr⟩:=h H enc W base spare held cs d ps h1 h2
   obtain ⟨y0,y1,y2,u⟩:=y
   obtain ⟨a0,a1,⟨a2a,a2b⟩,_⟩:=hy
   exact ⟨_,wf_S_api_Tree.mk ⟨y0,y1,y2⟩ a0 a1 a2a a2b,hr⟩
theorem Z09:Zcg Try.prog 25 Zb wf_S_api_Tree:=fun n=>(Z8t n)
theorem Z9v:Zcg Try.prog 23 (eL Zb) (fun xs:(List S_api_Tree)=>xs.length * 56≤140737488351232∧∀ x∈xs,wf_S_api_Tree x):=fun n=>Z32 n (fun m _=>Z09 m)
theorem op5:Zcg Try.prog 5 (eI .u8) (fun x=>(Lit.int .u8 x).wf=true):=Q2 Try.underlying5
def Qy (x:Z3):Prop:=(fun x:Int=>(Lit.int .i64 x).wf=true) x.At∧(fun x:Int=>(Lit.int .u8 x).wf=true) x.Mask∧(fun x:Int=>(Lit.int .u64 x).wf=true) x.Old∧(fun x:Int=>(Lit.int .u64 x).wf=true) x.New
theorem Ya3:Zcg Try.prog 57 Zo Qy:=by
 have h:=Zml (P:=Try.prog) (t:=57) (g:=Zo) (fun p=>(⟨p.1,p.2.1,p.2.2.1,p.2.2.2.1⟩:Z3)) Try.underlying57 (by kernel_rfl) (fun n=>(Yz (k:=1) rfl (by kernel_rfl) ((Q2 Try.underlying3) _) (Yz (k:=1) rfl (by kernel_rfl) ((Q2 Try.underlying5) _) (Yz (k:=1) rfl (by kernel_rfl) ((Q2 Try.underlying56) _) (Yz (k:=1) rfl (by kernel_rfl) ((Q2 Try.underlying56) _) Zc8))))) (fun x=>rfl)
 intro n H enc W base spare held cs d ps h1 h2
 obtain ⟨x,⟨y,rfl,hy⟩,hr⟩:=h n H enc W base spare held cs d ps h1 h2
 exact ⟨_,by unfold Qy;simp only;exact ⟨hy.1,hy.2.1,hy.2.2.1,hy.2.2.2.1⟩,hr⟩
theorem Z8v:Zcg Try.prog 58 Zo Qy:=by
 have h:=Zml (P:=Try.prog) (t:=58) (g:=Zo) (fun p=>(⟨p.1,p.2.1,p.2.2.1,p.2.2.2.1⟩:Z3)) Try.underlying58 (by kernel_rfl) (fun n=>(Yz (k:=1) rfl (by kernel_rfl) ((Q2 Try.underlying3) _) (Yz (k:=1) rfl (by kernel_rfl) ((Q2 Try.underlying5) _) (Yz (k:=1) rfl (by kernel_rfl) ((Q2 Try.underlying56) _) (Yz (k:=1) rfl (by kernel_rfl) ((Q2 Try.underlying56) _) Zc8))))) (fun x=>rfl)
 intro n H enc W base spare held cs d ps h1 h2
 obtain ⟨x,⟨y,rfl,hy⟩,hr⟩:=h n H enc W base spare held cs d ps h1 h2
 exact ⟨_,by unfold Qy;simp only;exact ⟨hy.1,hy.2.1,hy.2.2.1,hy.2.2.2.1⟩,hr⟩
theorem Z8s:Zcg Try.prog 58 Zo Qy:=Z8v
theorem Z9w:Zcg Try.prog 26 (eL Zo) (fun xs:(List Z3)=>xs.length * 32≤140737488351232∧∀ x∈xs,Qy x):=by
 have h:=Zoi (P:=Try.prog) (t:=26) (sz:=4) Try.underlying26 (by kernel_rfl) (by decide) (fun _=>rfl) Z8s
 have hb:Try.prog.bytesOf 58=32:=by kernel_rfl
 rw [hb] at h
 exact h
mutual
inductive wf_S_api_Edit:S_api_Edit→Prop
 | mk (x:S_api_Edit) (h0:(fun x:Int=>(Lit.int .i64 x).wf=true) x.Kind) (h1:wf_S_api_Tree x.Old) (h2:wf_S_api_Tree x.New) (h3:(fun xs:(List Z3)=>xs.length * 32≤140737488351232∧∀ x∈xs,Qy x) x.Words) (h4a:x.Kids.length * 208≤140737488351232) (h4b:∀ y∈x.Kids,wf_S_api_KidEdit y) (h5:(fun x:Int=>(Lit.int .i64 x).wf=true) x.List_) (h6a:x.Ops.length * 240≤140737488351232) (h6b:∀ y∈x.Ops,wf_S_api_Op y):wf_S_api_Edit x
inductive wf_S_api_Op:S_api_Op→Prop
 | mk (x:S_api_Op) (h0:(fun x:Int=>(Lit.int .i64 x).wf=true) x.Kind) (h1:(fun x:Int=>(Lit.int .i64 x).wf=true) x.N) (h2:(fun xs:(List S_api_Tree)=>xs.length * 56≤140737488351232∧∀ x∈xs,wf_S_api_Tree x) x.L) (h3:wf_S_api_Edit x.E):wf_S_api_Op x
inductive wf_S_api_KidEdit:S_api_KidEdit→Prop
 | mk (x:S_api_KidEdit) (h0:(fun x:Int=>(Lit.int .i64 x).wf=true) x.At) (h1:wf_S_api_Edit x.E):wf_S_api_KidEdit x
end
theorem Z33 (n:Nat) (he:∀ m,m < n→Kt Try.prog 71 Zn wf_S_api_KidEdit m):Kt Try.prog 27 (eL Zn) (fun xs:(List S_api_KidEdit)=>xs.length * 208≤140737488351232∧∀ x∈xs,wf_S_api_KidEdit x) n:=by
 have h:=Zhc (P:=Try.prog) (t:=27) (sz:=12) n Try.underlying27 (by kernel_rfl) (by decide) (fun _=>rfl) he
 have hb:Try.prog.bytesOf 71=208:=by kernel_rfl
 rw [hb] at h
 exact h
theorem Z34 (n:Nat) (he:∀ m,m < n→Kt Try.prog 69 Zg wf_S_api_Op m):Kt Try.prog 28 (eL Zg) (fun xs:(List S_api_Op)=>xs.length * 240≤140737488351232∧∀ x∈xs,wf_S_api_Op x) n:=by
 have h:=Zhc (P:=Try.prog) (t:=28) (sz:=14) n Try.underlying28 (by kernel_rfl) (by decide) (fun _=>rfl) he
 have hb:Try.prog.bytesOf 69=240:=by kernel_rfl
 rw [hb] at h
 exact h
theorem Z3y (n:Nat):(Kt Try.prog 30 Qf wf_S_api_Edit n∧Kt Try.prog 69 Zg wf_S_api_Op n∧Kt Try.prog 71 Zn wf_S_api_KidEdit n):=by
 induction n using Nat.strongRecOn with
 | ind n ih =>
  cases n with
  | zero=>exact ⟨Zbm,Zbm,Zbm⟩
  | succ n =>
   have i29:∀ q,q < n→Kt Try.prog 30 Qf wf_S_api_Edit q:=fun q hq=>(ih q (by omega)).1
   have j29:Kt Try.prog 30 Qf wf_S_api_Edit n:=(ih n (by omega)).1
   have i68:∀ q,q < n→Kt Try.prog 69 Zg wf_S_api_Op q:=fun q hq=>(ih q (by omega)).2.1
   have j68:Kt Try.prog 69 Zg wf_S_api_Op n:=(ih n (by omega)).2.1
   have i70:∀ q,q < n→Kt Try.prog 71 Zn wf_S_api_KidEdit q:=fun q hq=>(ih q (by omega)).2.2
   have j70:Kt Try.prog 71 Zn wf_S_api_KidEdit n:=(ih n (by omega)).2.2
   refine ⟨?_,?_,?_⟩
   ·have h:=Zcn (P:=Try.prog) (t:=30) (g:=Qf) (fun p=>(⟨p.1,p.2.1,p.2.2.1,p.2.2.2.1,p.2.2.2.2.1,p.2.2.2.2.2.1,p.2.2.2.2.2.2.1⟩:S_api_Edit)) Try.underlying30 (by kernel_rfl) (Yz (k:=1) rfl (by kernel_rfl) ((Q2 Try.underlying3) _) (Yz (k:=3) rfl (by kernel_rfl) (Z09 _) (Yz (k:=3) rfl (by kernel_rfl) (Z09 _) (Yz (k:=1) rfl (by kernel_rfl) (Z9w _) (Yz (k:=1) rfl (by kernel_rfl) (Z33 n i70) (Yz (k:=1) rfl (by kernel_rfl) ((Q2 Try.underlying3) _) (Yz (k:=1) rfl (by kernel_rfl) (Z34 n i68) Zc8))))))) (fun x=>by simp only [Qf,Xs,Zb,Ys,Zo,Zn,Y5,Zg,X1,eI,eB,eS,eL,List.cons_append,List.nil_append,List.append_nil,List.append_assoc])
    intro H enc W base spare held cs d ps h1 h2
    obtain ⟨x,⟨y,rfl,hy⟩,hr⟩:=h H enc W base spare held cs d ps h1 h2
    obtain ⟨y0,y1,y2,y3,y4,y5,y6,u⟩:=y
    obtain ⟨a0,a1,a2,a3,⟨a4a,a4b⟩,a5,⟨a6a,a6b⟩,_⟩:=hy
    exact ⟨_,wf_S_api_Edit.mk ⟨y0,y1,y2,y3,y4,y5,y6⟩ a0 a1 a2 a3 a4a a4b a5 a6a a6b,hr⟩
   ·have h:=Zcn (P:=Try.prog) (t:=69) (g:=Zg) (fun p=>(⟨p.1,p.2.1,p.2.2.1,p.2.2.2.1⟩:S_api_Op)) Try.underlying69 (by kernel_rfl) (Yz (k:=1) rfl (by kernel_rfl) ((Q2 Try.underlying3) _) (Yz (k:=1) rfl (by kernel_rfl) ((Q2 Try.underlying3) _) (Yz (k:=1) rfl (by kernel_rfl) (Z9v _) (Yz (k:=11) rfl (by kernel_rfl) j29 Zc8)))) (fun x=>by simp only [Zg,X1,Zb,Ys,Qf,Xs,Zo,Zn,Y5,eI,eB,eS,eL,List.cons_append,List.nil_append,List.append_nil,List.append_assoc])
    intro H enc W base spare held cs d ps h1 h2
    obtain ⟨x,⟨y,rfl,hy⟩,hr⟩:=h H enc W base spare held cs d ps h1 h2
    obtain ⟨y0,y1,y2,y3,u⟩:=y
    obtain ⟨a0,a1,a2,a3,_⟩:=hy
    exact ⟨_,wf_S_api_Op.mk ⟨y0,y1,y2,y3⟩ a0 a1 a2 a3,hr⟩
   have h:=Zcn (P:=Try.prog) (t:=71) (g:=Zn) (fun p=>(⟨p.1,p.2.1⟩:S_api_KidEdit)) Try.underlying71 (by kernel_rfl) (Yz (k:=1) rfl (by kernel_rfl) ((Q2 Try.underlying3) _) (Yz (k:=11) rfl (by kernel_rfl) j29 Zc8)) (fun x=>by simp only [Zn,Y5,Qf,Xs,Zb,Ys,Zo,Zg,X1,eI,eB,eS,eL,List.cons_append,List.nil_append,List.append_nil,List.append_assoc])
   intro H enc W base spare held cs d ps h1 h2
   obtain ⟨x,⟨y,rfl,hy⟩,hr⟩:=h H enc W base spare held cs d ps h1 h2
   obtain ⟨y0,y1,u⟩:=y
   obtain ⟨a0,a1,_⟩:=hy
   exact ⟨_,wf_S_api_KidEdit.mk ⟨y0,y1⟩ a0 a1,hr⟩
theorem Z8u:Zcg Try.prog 30 Qf wf_S_api_Edit:=fun n=>(Z3y n).1
theorem Z8w:Zcg Try.prog 69 Zg wf_S_api_Op:=fun n=>(Z3y n).2.1
theorem Z8x:Zcg Try.prog 71 Zn wf_S_api_KidEdit:=fun n=>(Z3y n).2.2
theorem Ya0:Zcg Try.prog 27 (eL Zn) (fun xs:(List S_api_KidEdit)=>xs.length * 208≤140737488351232∧∀ x∈xs,wf_S_api_KidEdit x):=fun n=>Z33 n (fun m _=>Z8x m)
theorem Ya1:Zcg Try.prog 28 (eL Zg) (fun xs:(List S_api_Op)=>xs.length * 240≤140737488351232∧∀ x∈xs,wf_S_api_Op x):=fun n=>Z34 n (fun m _=>Z8w m)
theorem Z1o (t:S_api_Tree) (h:wf_S_api_Tree t):Bd t:=by
 induction h with
 | mk x h0 h1 h2a h2b ih =>
  refine .mk _ (by have:=h1.1;omega) (by omega) (fun w hw => ?_) ih
  have:=h1.2 w hw
  simp [Lit.wf,IntKind.min,IntKind.max,IntKind.signed,IntKind.bits] at this
  omega
theorem Z60 {w:Z3} (h:Qy w):(0≤w.Mask∧w.Mask < 256)∧(0≤w.Old∧w.Old < 18446744073709551616)∧(0≤w.New∧w.New < 18446744073709551616):=by
 obtain ⟨_,h1,h2,h3⟩:=h
 simp [Lit.wf,IntKind.min,IntKind.max,IntKind.signed,IntKind.bits] at h1 h2 h3
 omega
theorem Z9s (e:S_api_Edit) (h:wf_S_api_Edit e):BE e :=
 wf_S_api_Edit.rec (motive_1:=fun e _=>BE e) (motive_2:=fun o _=>BO o) (motive_3:=fun k _=>BE k.E)
  (fun x h0 h1 h2 h3 h4a h4b h5 h6a h6b i4 i6 => .mk _ (Z1o _ h1) (Z1o _ h2) (by have:=h3.1;omega) (fun w hw=>Z60 (h3.2 w hw)) (by omega) i4 (by omega) (fun o ho=>(i6 o ho).1) (fun o ho=>(i6 o ho).2))
  (fun x h0 h1 h2 h3 i3=>⟨⟨by have:=h2.1;omega,fun t ht=>Z1o t (h2.2 t ht)⟩,i3⟩)
  (fun x h0 h1 i1=>i1) h
theorem own:ownKnob Try.prog.godebug=none:=by kernel_rfl
theorem Z0w:laidOutB Try.prog=true:=by kernel_rfl
set_option maxRecDepth 100000 in
theorem lifted (os:Os) (started:os.Started) (H:Type) (enc:TypeId×Value→H) :
  ReturnsInHanded {} Try.checked os 4 .any (Rows.normalDoesSpec.pre6 enc Try.prog Try.f4 Rows.normalDoesRow.domain false) (Rows.normalDoesSpec.post enc Try.prog Try.f4 false true false false):=by
 refine returnsInHanded_of_change_sized (C:=Try.checked) own started (by kernel_rfl) Try.func4
  (ChangeSpec.witness6 (enc:=enc) (C:=Try.checked) false ⟨#[],#[.agg #[.int .i64 0,.int .i64 0,.slice none 0 0,.slice none 0 0,.int .i64 0,.slice none 0 0,.slice none 0 0,.slice none 0 0,.slice none 0 0,.int .i64 0,.slice none 0 0],.agg #[.int .i64 0,.slice none 0 0,.slice none 0 0]],[]⟩ 12 (by kernel_rfl) (by kernel_rfl) (by kernel_rfl) (by kernel_rfl)) ?_
 intro W base args ds gs before hval0 hW hcnd hsz0 _
 have hval:∀ (j:Nat) t v,Try.f4.params[j]? = some t→args[j]? = some v→Value.okWide Try.prog W .any base t v:=hval0
 have hW':=hW
 obtain ⟨p,q,hA0,hV,rfl,hfz,hnd⟩:=hW
 have hA:DataW.TrodAll enc Try.prog W 0 (fun _=>true) true Try.f4.params.toList args.toList ds p:=hA0
 rw [Try.params4] at hA hval
 obtain ⟨v0,vs0,d0,ds0,p0,q0,hargs,rfl,rfl,h0,r0⟩:=trodAll_cons hA
 obtain ⟨v1,vs1,d1,ds1,p1,q1,rfl,rfl,rfl,h1,r1⟩:=trodAll_cons r0
 obtain ⟨rfl,rfl,rfl⟩:=trodAll_nil r1
 obtain rfl:args=#[v0,v1]:=by cases args;simp_all
 obtain ⟨rfl,rfl⟩:=trodVars_none hV
 clear hA0 hval0
 have hsz:(DataW.weightsEach Try.prog (Try.f4.params.toList++Rows.normalDoesSpec.plain.varTypes Try.prog) _).all (·≤reachBytes)=true:=hsz0
 clear hsz0
 rw [Try.params4] at hsz
 have lt0:∀ x∈p0,x.block < W.heap.size:=by obtain ⟨m,hm⟩:=h0;exact DataW.trod_lt m _ _ _ hm
 obtain ⟨x0,w0,e0⟩:=Zxo Z8u h0 (Zsw hsz (j:=0) rfl rfl)
 have g0:=Z0j (Zpm Try.underlying30 (hval 0 30 v0 rfl rfl)) e0
 simp only [Qf,Xs,Zb,Ys,Zo,Zn,Y5,Zg,X1] at g0
 have lt1:∀ x∈p1,x.block < W.heap.size:=by obtain ⟨m,hm⟩:=h1;exact DataW.trod_lt m _ _ _ hm
 obtain ⟨x1,w1,e1⟩:=Zxo Z09 h1 (Zsw hsz (j:=1) rfl rfl)
 have g1:=Z0j (Zpm Try.underlying25 (hval 1 25 v1 rfl rfl)) e1
 simp only [Zb,Ys] at g1
 refine (Z7u (Zg8 ((fun x wx y wy=>Zut (Z9s x wx) (Z1o y wy)) x0 w0 x1 w1)).pure (vs:=[v0,v1]) ⟨_,_,rfl,g0,⟨_,_,rfl,g1,rfl⟩⟩).mono fun e W' ⟨he,bel⟩ => ?_
 subst he
 exact ⟨_,rfl,_,_,_,[],_,[],hW',trodAll_mk1 (shut_bool Try.underlying4 _),(trodAll_cons_mk (Below.trod Z0w (by kernel_rfl) (of_decide_eq_true (by kernel_rfl)) h0 bel lt0) (trodAll_cons_mk (Below.trod Z0w (by kernel_rfl) (of_decide_eq_true (by kernel_rfl)) h1 bel lt1) trodAll_mk0)),rfl,bel.frame _,fun h=>by cases h⟩
theorem proved:Rows.NormalDoesSaid :=
 OpenClaim.holds_of_wide 4 Try.f4 rfl rfl rfl rfl rfl rfl rfl ⟨rfl,rfl,rfl,rfl,rfl⟩ rfl rfl rfl rfl rfl (by kernel_rfl) Try.func4 (by kernel_rfl)
  (of_decide_eq_true (by kernel_rfl)) (by unfold Func.isWrapper;first | (rw [if_pos (by decide +kernel)];kernel_rfl) | (rw [if_neg (by decide +kernel)];exact ⟨rfl,rfl⟩))
  (fun os started H enc _=>lifted os started H enc)
end Go.Proofs.Ytbcgiaijjaocdaa.normalDoes
