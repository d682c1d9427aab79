/- Called with any arguments, the law ComposeSome returns true and leaves them as they were; no other condition. -/
import Derived.Test.YtbjcopkgdjombaaRows
import Derived.Test.YtbjcopkgdjombaaRM6
import Derived.Test.YtbjcopkgdjombaaRP5
import Derived.Test.YtbjcopkgdjombaaH8
import Derived.WalkKit
import Derived.ProofKit
import Derived.OpenShut
import Derived.ShutString
import Derived.ChangeOld
import Derived.Below
import Derived.SizedLaws
namespace Go.Proofs.Ytbjcopkgdjombaa.composeSome
open Go.ChangeShapes Go.WideShapes Go.ChangeAt Go.RowKit
open Go.ChangeMaps (open_string shut_string)
set_option linter.unusedVariables false
set_option linter.unusedSimpArgs false
theorem op3:Zgn Try.prog 3 (eI .i64) (fun x=>(Lit.int .i64 x).wf=true):=K5 Try.underlying3
theorem Yl6:Zgn Try.prog 40 (eI .u64) (fun x=>(Lit.int .u64 x).wf=true):=K5 Try.underlying40
theorem Yjr:Zgn Try.prog 40 (eI .u64) (fun x:Int=>(Lit.int .u64 x).wf=true):=(K5 Try.underlying40)
theorem Yk1:Zgn Try.prog 22 (eL (eI .u64)) (fun xs:(List Int)=>xs.length * 8≤140737488351232∧∀ x∈xs,(fun x:Int=>(Lit.int .u64 x).wf=true) x):=by
 have h:=Zvg (P:=Try.prog) (t:=22) (sz:=1) Try.underlying22 (by kernel_rfl) (by decide) (fun _=>rfl) Yjr
 have hb:Try.prog.bytesOf 40=8:=by kernel_rfl
 rw [hb] at h
 exact h
inductive Jg:Zb→Prop
 | mk (x:Zb) (h0:(fun x:Int=>(Lit.int .i64 x).wf=true) x.Kind) (h1:(fun xs:(List Int)=>xs.length * 8≤140737488351232∧∀ x∈xs,(fun x:Int=>(Lit.int .u64 x).wf=true) x) x.Words) (h2a:x.Kids.length * 56≤140737488351232) (h2b:∀ y∈x.Kids,Jg y):Jg x
theorem Ydx (n:Nat) (he:∀ m,m < n→Gb Try.prog 25 Za Jg m):Gb Try.prog 23 (eL Za) (fun xs:(List Zb)=>xs.length * 56≤140737488351232∧∀ x∈xs,Jg x) n:=by
 have h:=Zl6 (P:=Try.prog) (t:=23) (sz:=3) n Try.underlying23 (by kernel_rfl) (by decide) (fun _=>rfl) he
 have hb:Try.prog.bytesOf 25=56:=by kernel_rfl
 rw [hb] at h
 exact h
theorem Yjt (n:Nat):(Gb Try.prog 25 Za Jg n):=by
 induction n using Nat.strongRecOn with
 | ind n ih =>
  cases n with
  | zero=>exact Zfd
  | succ n =>
   have i24:∀ q,q < n→Gb Try.prog 25 Za Jg q:=fun q hq=>(ih q (by omega))
   have j24:Gb Try.prog 25 Za Jg n:=(ih n (by omega))
   have h:=Zgt (P:=Try.prog) (t:=25) (g:=Za) (fun p=>(⟨p.1,p.2.1,p.2.2.1⟩:Zb)) Try.underlying25 (by kernel_rfl) (Xs (k:=1) rfl (by kernel_rfl) ((K5 Try.underlying3) _) (Xs (k:=1) rfl (by kernel_rfl) (Yk1 _) (Xs (k:=1) rfl (by kernel_rfl) (Ydx n i24) Zhi))) (fun x=>by simp only [Za,Y1,eI,eB,eS,eL,List.cons_append,List.nil_append,List.append_nil,List.append_assoc])
   intro H enc W base spare held cs d ps h1 h2
   obtain ⟨x,⟨y,rfl,hy⟩,hr⟩:=h H enc W base spare held cs d ps h1 h2
   obtain ⟨y0,y1,y2,u⟩:=y
   obtain ⟨a0,a1,⟨a2a,a2b⟩,_⟩:=hy
   exact ⟨_,Jg.mk ⟨y0,y1,y2⟩ a0 a1 a2a a2b,hr⟩
theorem Ydu:Zgn Try.prog 25 Za Jg:=fun n=>(Yjt n)
theorem Yk2:Zgn Try.prog 23 (eL Za) (fun xs:(List Zb)=>xs.length * 56≤140737488351232∧∀ x∈xs,Jg x):=fun n=>Ydx n (fun m _=>Ydu m)
theorem op5:Zgn Try.prog 5 (eI .u8) (fun x=>(Lit.int .u8 x).wf=true):=K5 Try.underlying5
def K0 (x:Zj):Prop:=(fun x:Int=>(Lit.int .i64 x).wf=true) x.At∧(fun x:Int=>(Lit.int .u8 x).wf=true) x.Mask∧(fun x:Int=>(Lit.int .u64 x).wf=true) x.Old∧(fun x:Int=>(Lit.int .u64 x).wf=true) x.New
theorem Yl7:Zgn Try.prog 41 Zg K0:=by
 have h:=Zsy (P:=Try.prog) (t:=41) (g:=Zg) (fun p=>(⟨p.1,p.2.1,p.2.2.1,p.2.2.2.1⟩:Zj)) Try.underlying41 (by kernel_rfl) (fun n=>(Xs (k:=1) rfl (by kernel_rfl) ((K5 Try.underlying3) _) (Xs (k:=1) rfl (by kernel_rfl) ((K5 Try.underlying5) _) (Xs (k:=1) rfl (by kernel_rfl) ((K5 Try.underlying40) _) (Xs (k:=1) rfl (by kernel_rfl) ((K5 Try.underlying40) _) Zhi))))) (fun x=>rfl)
 intro n H enc W base spare held cs d ps h1 h2
 obtain ⟨x,⟨y,rfl,hy⟩,hr⟩:=h n H enc W base spare held cs d ps h1 h2
 exact ⟨_,by unfold K0;simp only;exact ⟨hy.1,hy.2.1,hy.2.2.1,hy.2.2.2.1⟩,hr⟩
theorem Yju:Zgn Try.prog 42 Zg K0:=by
 have h:=Zsy (P:=Try.prog) (t:=42) (g:=Zg) (fun p=>(⟨p.1,p.2.1,p.2.2.1,p.2.2.2.1⟩:Zj)) Try.underlying42 (by kernel_rfl) (fun n=>(Xs (k:=1) rfl (by kernel_rfl) ((K5 Try.underlying3) _) (Xs (k:=1) rfl (by kernel_rfl) ((K5 Try.underlying5) _) (Xs (k:=1) rfl (by kernel_rfl) ((K5 Try.underlying40) _) (Xs (k:=1) rfl (by kernel_rfl) ((K5 Try.underlying40) _) Zhi))))) (fun x=>rfl)
 intro n H enc W base spare held cs d ps h1 h2
 obtain ⟨x,⟨y,rfl,hy⟩,hr⟩:=h n H enc W base spare held cs d ps h1 h2
 exact ⟨_,by unfold K0;simp only;exact ⟨hy.1,hy.2.1,hy.2.2.1,hy.2.2.2.1⟩,hr⟩
theorem Yjs:Zgn Try.prog 42 Zg K0:=Yju
theorem Yk3:Zgn Try.prog 26 (eL Zg) (fun xs:(List Zj)=>xs.length * 32≤140737488351232∧∀ x∈xs,K0 x):=by
 have h:=Zvg (P:=Try.prog) (t:=26) (sz:=4) Try.underlying26 (by kernel_rfl) (by decide) (fun _=>rfl) Yjs
 have hb:Try.prog.bytesOf 42=32:=by kernel_rfl
 rw [hb] at h
 exact h
mutual
inductive V3:Zc→Prop
 | mk (x:Zc) (h0:(fun x:Int=>(Lit.int .i64 x).wf=true) x.Kind) (h1:Jg x.Old) (h2:Jg x.New) (h3:(fun xs:(List Zj)=>xs.length * 32≤140737488351232∧∀ x∈xs,K0 x) x.Words) (h4a:x.Kids.length * 208≤140737488351232) (h4b:∀ y∈x.Kids,Jy y) (h5:(fun x:Int=>(Lit.int .i64 x).wf=true) x.List_) (h6a:x.Ops.length * 240≤140737488351232) (h6b:∀ y∈x.Ops,Zag y):V3 x
inductive Zag:Zh→Prop
 | mk (x:Zh) (h0:(fun x:Int=>(Lit.int .i64 x).wf=true) x.Kind) (h1:(fun x:Int=>(Lit.int .i64 x).wf=true) x.N) (h2:(fun xs:(List Zb)=>xs.length * 56≤140737488351232∧∀ x∈xs,Jg x) x.L) (h3:V3 x.E):Zag x
inductive Jy:Zd→Prop
 | mk (x:Zd) (h0:(fun x:Int=>(Lit.int .i64 x).wf=true) x.At) (h1:V3 x.E):Jy x
end
theorem Ydy (n:Nat) (he:∀ m,m < n→Gb Try.prog 55 Zi Jy m):Gb Try.prog 27 (eL Zi) (fun xs:(List Zd)=>xs.length * 208≤140737488351232∧∀ x∈xs,Jy x) n:=by
 have h:=Zl6 (P:=Try.prog) (t:=27) (sz:=12) n Try.underlying27 (by kernel_rfl) (by decide) (fun _=>rfl) he
 have hb:Try.prog.bytesOf 55=208:=by kernel_rfl
 rw [hb] at h
 exact h
theorem Ydz (n:Nat) (he:∀ m,m < n→Gb Try.prog 53 Zf Zag m):Gb Try.prog 28 (eL Zf) (fun xs:(List Zh)=>xs.length * 240≤140737488351232∧∀ x∈xs,Zag x) n:=by
 have h:=Zl6 (P:=Try.prog) (t:=28) (sz:=14) n Try.underlying28 (by kernel_rfl) (by decide) (fun _=>rfl) he
 have hb:Try.prog.bytesOf 53=240:=by kernel_rfl
 rw [hb] at h
 exact h
theorem Ydt (n:Nat):(Gb Try.prog 30 Jq V3 n∧Gb Try.prog 53 Zf Zag n∧Gb Try.prog 55 Zi Jy n):=by
 induction n using Nat.strongRecOn with
 | ind n ih =>
  cases n with
  | zero=>exact ⟨Zfd,Zfd,Zfd⟩
  | succ n =>
   have i29:∀ q,q < n→Gb Try.prog 30 Jq V3 q:=fun q hq=>(ih q (by omega)).1
   have j29:Gb Try.prog 30 Jq V3 n:=(ih n (by omega)).1
   have i52:∀ q,q < n→Gb Try.prog 53 Zf Zag q:=fun q hq=>(ih q (by omega)).2.1
   have j52:Gb Try.prog 53 Zf Zag n:=(ih n (by omega)).2.1
   have i54:∀ q,q < n→Gb Try.prog 55 Zi Jy q:=fun q hq=>(ih q (by omega)).2.2
   have j54:Gb Try.prog 55 Zi Jy n:=(ih n (by omega)).2.2
   refine ⟨?_,?_,?_⟩
   ·have h:=Zgt (P:=Try.prog) (t:=30) (g:=Jq) (fun p=>(⟨p.1,p.2.1,p.2.2.1,p.2.2.2.1,p.2.2.2.2.1,p.2.2.2.2.2.1,p.2.2.2.2.2.2.1⟩:Zc)) Try.underlying30 (by kernel_rfl) (Xs (k:=1) rfl (by kernel_rfl) ((K5 Try.underlying3) _) (Xs (k:=3) rfl (by kernel_rfl) (Ydu _) (Xs (k:=3) rfl (by kernel_rfl) (Ydu _) (Xs (k:=1) rfl (by kernel_rfl) (Yk3 _) (Xs (k:=1) rfl (by kernel_rfl) (Ydy n i54) (Xs (k:=1) rfl (by kernel_rfl) ((K5 Try.underlying3) _) (Xs (k:=1) rfl (by kernel_rfl) (Ydz n i52) Zhi))))))) (fun x=>by simp only [Jq,X5,Za,Y1,Zg,Zi,Xb,Zf,Qg,eI,eB,eS,eL,List.cons_append,List.nil_append,List.append_nil,List.append_assoc])
    intro H enc W base spare held cs d ps h1 h2
    obtain ⟨x,⟨y,rfl,hy⟩,hr⟩:=h H enc W base spare held cs d ps h1 h2
    obtain ⟨y0,y1,y2,y3,y4,y5,y6,u⟩:=y
    obtain ⟨a0,a1,a2,a3,⟨a4a,a4b⟩,a5,⟨a6a,a6b⟩,_⟩:=hy
    exact ⟨_,V3.mk ⟨y0,y1,y2,y3,y4,y5,y6⟩ a0 a1 a2 a3 a4a a4b a5 a6a a6b,hr⟩
   ·have h:=Zgt (P:=Try.prog) (t:=53) (g:=Zf) (fun p=>(⟨p.1,p.2.1,p.2.2.1,p.2.2.2.1⟩:Zh)) Try.underlying53 (by kernel_rfl) (Xs (k:=1) rfl (by kernel_rfl) ((K5 Try.underlying3) _) (Xs (k:=1) rfl (by kernel_rfl) ((K5 Try.underlying3) _) (Xs (k:=1) rfl (by kernel_rfl) (Yk2 _) (Xs (k:=11) rfl (by kernel_rfl) j29 Zhi)))) (fun x=>by simp only [Zf,Qg,Za,Y1,Jq,X5,Zg,Zi,Xb,eI,eB,eS,eL,List.cons_append,List.nil_append,List.append_nil,List.append_assoc])
    intro H enc W base spare held cs d ps h1 h2
    obtain ⟨x,⟨y,rfl,hy⟩,hr⟩:=h H enc W base spare held cs d ps h1 h2
    obtain ⟨y0,y1,y2,y3,u⟩:=y
    obtain ⟨a0,a1,a2,a3,_⟩:=hy
    exact ⟨_,Zag.mk ⟨y0,y1,y2,y3⟩ a0 a1 a2 a3,hr⟩
   have h:=Zgt (P:=Try.prog) (t:=55) (g:=Zi) (fun p=>(⟨p.1,p.2.1⟩:Zd)) Try.underlying55 (by kernel_rfl) (Xs (k:=1) rfl (by kernel_rfl) ((K5 Try.underlying3) _) (Xs (k:=11) rfl (by kernel_rfl) j29 Zhi)) (fun x=>by simp only [Zi,Xb,Jq,X5,Za,Y1,Zg,Zf,Qg,eI,eB,eS,eL,List.cons_append,List.nil_append,List.append_nil,List.append_assoc])
   intro H enc W base spare held cs d ps h1 h2
   obtain ⟨x,⟨y,rfl,hy⟩,hr⟩:=h H enc W base spare held cs d ps h1 h2
   obtain ⟨y0,y1,u⟩:=y
   obtain ⟨a0,a1,_⟩:=hy
   exact ⟨_,Jy.mk ⟨y0,y1⟩ a0 a1,hr⟩
theorem Yhr:Zgn Try.prog 30 Jq V3:=fun n=>(Ydt n).1
theorem Yjv:Zgn Try.prog 53 Zf Zag:=fun n=>(Ydt n).2.1
theorem Yjw:Zgn Try.prog 55 Zi Jy:=fun n=>(Ydt n).2.2
theorem Yl4:Zgn Try.prog 27 (eL Zi) (fun xs:(List Zd)=>xs.length * 208≤140737488351232∧∀ x∈xs,Jy x):=fun n=>Ydy n (fun m _=>Yjw m)
theorem Yl5:Zgn Try.prog 28 (eL Zf) (fun xs:(List Zh)=>xs.length * 240≤140737488351232∧∀ x∈xs,Zag x):=fun n=>Ydz n (fun m _=>Yjv m)
theorem Yfg (t:Zb) (h:Jg t):Bd t:=by
 induction h with
 | mk x h0 h1 h2a h2b ih =>
  refine .mk _ (by have:=h1.1;omega) (by omega) (fun w hw => ?_) ih
  have:=h1.2 w hw
  simp [Lit.wf,IntKind.min,IntKind.max,IntKind.signed,IntKind.bits] at this
  omega
theorem Yhd {w:Zj} (h:K0 w):(0≤w.Mask∧w.Mask < 256)∧(0≤w.Old∧w.Old < 18446744073709551616)∧(0≤w.New∧w.New < 18446744073709551616):=by
 obtain ⟨_,h1,h2,h3⟩:=h
 simp [Lit.wf,IntKind.min,IntKind.max,IntKind.signed,IntKind.bits] at h1 h2 h3
 omega
theorem Yhv (e:Zc) (h:V3 e):BE e :=
 V3.rec (motive_1:=fun e _=>BE e) (motive_2:=fun o _=>BO o) (motive_3:=fun k _=>BE k.E)
  (fun x h0 h1 h2 h3 h4a h4b h5 h6a h6b i4 i6 => .mk _ (Yfg _ h1) (Yfg _ h2) (by have:=h3.1;omega) (fun w hw=>Yhd (h3.2 w hw)) (by omega) i4 (by omega) (fun o ho=>(i6 o ho).1) (fun o ho=>(i6 o ho).2))
  (fun x h0 h1 h2 h3 i3=>⟨⟨by have:=h2.1;omega,fun t ht=>Yfg t (h2.2 t ht)⟩,i3⟩)
  (fun x h0 h1 i1=>i1) h
theorem own:ownKnob Try.prog.godebug=none:=by kernel_rfl
theorem Z97:laidOutB Try.prog=true:=by kernel_rfl
set_option maxRecDepth 100000 in
theorem lifted (os:Os) (started:os.Started) (H:Type) (enc:TypeId×Value→H) :
  ReturnsInHanded {} Try.checked os 4 .any (Rows.composeSomeSpec.pre6 enc Try.prog Try.f4 Rows.composeSomeRow.domain false) (Rows.composeSomeSpec.post enc Try.prog Try.f4 false true false false):=by
 refine returnsInHanded_of_change_sized (C:=Try.checked) own started (by kernel_rfl) Try.func4
  (ChangeSpec.witness6 (enc:=enc) (C:=Try.checked) false ⟨#[],#[.agg #[.int .i64 0,.int .i64 0,.slice none 0 0,.slice none 0 0,.int .i64 0,.slice none 0 0,.slice none 0 0,.slice none 0 0,.slice none 0 0,.int .i64 0,.slice none 0 0],.agg #[.int .i64 0,.int .i64 0,.slice none 0 0,.slice none 0 0,.int .i64 0,.slice none 0 0,.slice none 0 0,.slice none 0 0,.slice none 0 0,.int .i64 0,.slice none 0 0]],[]⟩ 12 (by kernel_rfl) (by kernel_rfl) (by kernel_rfl) (by kernel_rfl)) ?_
 intro W base args ds gs before hval0 hW hcnd hsz0 _
 have hval:∀ (j:Nat) t v,Try.f4.params[j]? = some t→args[j]? = some v→Value.okWide Try.prog W .any base t v:=hval0
 have hW':=hW
 obtain ⟨p,q,hA0,hV,rfl,hfz,hnd⟩:=hW
 have hA:DataW.TrodAll enc Try.prog W 0 (fun _=>true) true Try.f4.params.toList args.toList ds p:=hA0
 rw [Try.params4] at hA hval
 obtain ⟨v0,vs0,d0,ds0,p0,q0,hargs,rfl,rfl,h0,r0⟩:=trodAll_cons hA
 obtain ⟨v1,vs1,d1,ds1,p1,q1,rfl,rfl,rfl,h1,r1⟩:=trodAll_cons r0
 obtain ⟨rfl,rfl,rfl⟩:=trodAll_nil r1
 obtain rfl:args=#[v0,v1]:=by cases args;simp_all
 obtain ⟨rfl,rfl⟩:=trodVars_none hV
 clear hA0 hval0
 have hsz:(DataW.weightsEach Try.prog (Try.f4.params.toList++Rows.composeSomeSpec.plain.varTypes Try.prog) _).all (·≤reachBytes)=true:=hsz0
 clear hsz0
 rw [Try.params4] at hsz
 have lt0:∀ x∈p0,x.block < W.heap.size:=by obtain ⟨m,hm⟩:=h0;exact DataW.trod_lt m _ _ _ hm
 obtain ⟨x0,w0,e0⟩:=Z54 Yhr h0 (Z0r hsz (j:=0) rfl rfl)
 have g0:=Z9n (Zws Try.underlying30 (hval 0 30 v0 rfl rfl)) e0
 simp only [Jq,X5,Za,Y1,Zg,Zi,Xb,Zf,Qg] at g0
 have lt1:∀ x∈p1,x.block < W.heap.size:=by obtain ⟨m,hm⟩:=h1;exact DataW.trod_lt m _ _ _ hm
 obtain ⟨x1,w1,e1⟩:=Z54 Yhr h1 (Z0r hsz (j:=1) rfl rfl)
 have g1:=Z9n (Zws Try.underlying30 (hval 1 30 v1 rfl rfl)) e1
 simp only [Jq,X5,Za,Y1,Zg,Zi,Xb,Zf,Qg] at g1
 refine (Yin (Zln ((fun x wx y wy=>Zz6 (Yhv x wx) (Yhv y wy)) x0 w0 x1 w1)).pure (vs:=[v0,v1]) ⟨_,_,rfl,g0,⟨_,_,rfl,g1,rfl⟩⟩).mono fun e W' ⟨he,bel⟩ => ?_
 subst he
 exact ⟨_,rfl,_,_,_,[],_,[],hW',trodAll_mk1 (shut_bool Try.underlying4 _),(trodAll_cons_mk (Below.trod Z97 (by kernel_rfl) (of_decide_eq_true (by kernel_rfl)) h0 bel lt0) (trodAll_cons_mk (Below.trod Z97 (by kernel_rfl) (of_decide_eq_true (by kernel_rfl)) h1 bel lt1) trodAll_mk0)),rfl,bel.frame _,fun h=>by cases h⟩
theorem proved:Rows.ComposeSomeSaid :=
 OpenClaim.holds_of_wide 4 Try.f4 rfl rfl rfl rfl rfl rfl rfl ⟨rfl,rfl,rfl,rfl,rfl⟩ rfl rfl rfl rfl rfl (by kernel_rfl) Try.func4 (by kernel_rfl)
  (of_decide_eq_true (by kernel_rfl)) (by unfold Func.isWrapper;first | (rw [if_pos (by decide +kernel)];kernel_rfl) | (rw [if_neg (by decide +kernel)];exact ⟨rfl,rfl⟩))
  (fun os started H enc _=>lifted os started H enc)
end Go.Proofs.Ytbjcopkgdjombaa.composeSome
