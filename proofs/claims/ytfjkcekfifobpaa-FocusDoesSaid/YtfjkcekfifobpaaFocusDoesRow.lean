/- Called with any arguments, the law FocusDoes returns true and leaves them as they were; no other condition. -/
import Derived.Test.YtfjkcekfifobpaaRows
import Derived.Test.YtfjkcekfifobpaaFM7
import Derived.Test.YtfjkcekfifobpaaFP5
import Derived.Test.YtfjkcekfifobpaaH8
import Derived.WalkKit
import Derived.ProofKit
import Derived.OpenShut
import Derived.ShutString
import Derived.ChangeOld
import Derived.Below
import Derived.SizedLaws
namespace Go.Proofs.Ytfjkcekfifobpaa.focusDoes
open Go.ChangeShapes Go.WideShapes Go.ChangeAt Go.RowKit
open Go.ChangeMaps (open_string shut_string)
set_option linter.unusedVariables false
set_option linter.unusedSimpArgs false
theorem op3:Zbq Try.prog 3 (eI .i64) (fun x=>(Lit.int .i64 x).wf=true):=Qk Try.underlying3
theorem Yjd:Zbq Try.prog 73 (eI .u64) (fun x=>(Lit.int .u64 x).wf=true):=Qk Try.underlying73
theorem Ygf:Zbq Try.prog 73 (eI .u64) (fun x:Int=>(Lit.int .u64 x).wf=true):=(Qk Try.underlying73)
theorem Yhz:Zbq Try.prog 22 (eL (eI .u64)) (fun xs:(List Int)=>xs.length * 8≤140737488351232∧∀ x∈xs,(fun x:Int=>(Lit.int .u64 x).wf=true) x):=by
 have h:=Zml (P:=Try.prog) (t:=22) (sz:=1) Try.underlying22 (by kernel_rfl) (by decide) (fun _=>rfl) Ygf
 have hb:Try.prog.bytesOf 73=8:=by kernel_rfl
 rw [hb] at h
 exact h
inductive Qc:Zb→Prop
 | mk (x:Zb) (h0:(fun x:Int=>(Lit.int .i64 x).wf=true) x.Kind) (h1:(fun xs:(List Int)=>xs.length * 8≤140737488351232∧∀ x∈xs,(fun x:Int=>(Lit.int .u64 x).wf=true) x) x.Words) (h2a:x.Kids.length * 56≤140737488351232) (h2b:∀ y∈x.Kids,Qc y):Qc x
theorem Yau (n:Nat) (he:∀ m,m < n→Vu Try.prog 25 Za Qc m):Vu Try.prog 23 (eL Za) (fun xs:(List Zb)=>xs.length * 56≤140737488351232∧∀ x∈xs,Qc x) n:=by
 have h:=Zju (P:=Try.prog) (t:=23) (sz:=3) n Try.underlying23 (by kernel_rfl) (by decide) (fun _=>rfl) he
 have hb:Try.prog.bytesOf 25=56:=by kernel_rfl
 rw [hb] at h
 exact h
theorem Ygh (n:Nat):(Vu Try.prog 25 Za Qc n):=by
 induction n using Nat.strongRecOn with
 | ind n ih =>
  cases n with
  | zero=>exact Zdb
  | succ n =>
   have i24:∀ q,q < n→Vu Try.prog 25 Za Qc q:=fun q hq=>(ih q (by omega))
   have j24:Vu Try.prog 25 Za Qc n:=(ih n (by omega))
   have h:=Zee (P:=Try.prog) (t:=25) (g:=Za) (fun p=>(⟨p.1,p.2.1,p.2.2.1⟩:Zb)) Try.underlying25 (by kernel_rfl) (Yv (k:=1) rfl (by kernel_rfl) ((Qk Try.underlying3) _) (Yv (k:=1) rfl (by kernel_rfl) (Yhz _) (Yv (k:=1) rfl (by kernel_rfl) (Yau n i24) Za8))) (fun x=>by simp only [Za,Yu,eI,eB,eS,eL,List.cons_append,List.nil_append,List.append_nil,List.append_assoc])
   intro H enc W base spare held cs d ps h1 h2
   obtain ⟨x,⟨y,rfl,hy⟩,hr⟩:=h H enc W base spare held cs d ps h1 h2
   obtain ⟨y0,y1,y2,u⟩:=y
   obtain ⟨a0,a1,⟨a2a,a2b⟩,_⟩:=hy
   exact ⟨_,Qc.mk ⟨y0,y1,y2⟩ a0 a1 a2a a2b,hr⟩
theorem Z7y:Zbq Try.prog 25 Za Qc:=fun n=>(Ygh n)
theorem Yh0:Zbq Try.prog 23 (eL Za) (fun xs:(List Zb)=>xs.length * 56≤140737488351232∧∀ x∈xs,Qc x):=fun n=>Yau n (fun m _=>Z7y m)
theorem op5:Zbq Try.prog 5 (eI .u8) (fun x=>(Lit.int .u8 x).wf=true):=Qk Try.underlying5
def Jk (x:Zs):Prop:=(fun x:Int=>(Lit.int .i64 x).wf=true) x.At∧(fun x:Int=>(Lit.int .u8 x).wf=true) x.Mask∧(fun x:Int=>(Lit.int .u64 x).wf=true) x.Old∧(fun x:Int=>(Lit.int .u64 x).wf=true) x.New
theorem Yje:Zbq Try.prog 81 Zm Jk:=by
 have h:=Zh0 (P:=Try.prog) (t:=81) (g:=Zm) (fun p=>(⟨p.1,p.2.1,p.2.2.1,p.2.2.2.1⟩:Zs)) Try.underlying81 (by kernel_rfl) (fun n=>(Yv (k:=1) rfl (by kernel_rfl) ((Qk Try.underlying3) _) (Yv (k:=1) rfl (by kernel_rfl) ((Qk Try.underlying5) _) (Yv (k:=1) rfl (by kernel_rfl) ((Qk Try.underlying73) _) (Yv (k:=1) rfl (by kernel_rfl) ((Qk Try.underlying73) _) Za8))))) (fun x=>rfl)
 intro n H enc W base spare held cs d ps h1 h2
 obtain ⟨x,⟨y,rfl,hy⟩,hr⟩:=h n H enc W base spare held cs d ps h1 h2
 exact ⟨_,by unfold Jk;simp only;exact ⟨hy.1,hy.2.1,hy.2.2.1,hy.2.2.2.1⟩,hr⟩
theorem Ygl:Zbq Try.prog 82 Zm Jk:=by
 have h:=Zh0 (P:=Try.prog) (t:=82) (g:=Zm) (fun p=>(⟨p.1,p.2.1,p.2.2.1,p.2.2.2.1⟩:Zs)) Try.underlying82 (by kernel_rfl) (fun n=>(Yv (k:=1) rfl (by kernel_rfl) ((Qk Try.underlying3) _) (Yv (k:=1) rfl (by kernel_rfl) ((Qk Try.underlying5) _) (Yv (k:=1) rfl (by kernel_rfl) ((Qk Try.underlying73) _) (Yv (k:=1) rfl (by kernel_rfl) ((Qk Try.underlying73) _) Za8))))) (fun x=>rfl)
 intro n H enc W base spare held cs d ps h1 h2
 obtain ⟨x,⟨y,rfl,hy⟩,hr⟩:=h n H enc W base spare held cs d ps h1 h2
 exact ⟨_,by unfold Jk;simp only;exact ⟨hy.1,hy.2.1,hy.2.2.1,hy.2.2.2.1⟩,hr⟩
theorem Ygg:Zbq Try.prog 82 Zm Jk:=Ygl
theorem Yh1:Zbq Try.prog 26 (eL Zm) (fun xs:(List Zs)=>xs.length * 32≤140737488351232∧∀ x∈xs,Jk x):=by
 have h:=Zml (P:=Try.prog) (t:=26) (sz:=4) Try.underlying26 (by kernel_rfl) (by decide) (fun _=>rfl) Ygg
 have hb:Try.prog.bytesOf 82=32:=by kernel_rfl
 rw [hb] at h
 exact h
mutual
inductive Kp:Zc→Prop
 | mk (x:Zc) (h0:(fun x:Int=>(Lit.int .i64 x).wf=true) x.Kind) (h1:Qc x.Old) (h2:Qc x.New) (h3:(fun xs:(List Zs)=>xs.length * 32≤140737488351232∧∀ x∈xs,Jk x) x.Words) (h4a:x.Kids.length * 208≤140737488351232) (h4b:∀ y∈x.Kids,Qp y) (h5:(fun x:Int=>(Lit.int .i64 x).wf=true) x.List_) (h6a:x.Ops.length * 240≤140737488351232) (h6b:∀ y∈x.Ops,Uu y):Kp x
inductive Uu:Zj→Prop
 | mk (x:Zj) (h0:(fun x:Int=>(Lit.int .i64 x).wf=true) x.Kind) (h1:(fun x:Int=>(Lit.int .i64 x).wf=true) x.N) (h2:(fun xs:(List Zb)=>xs.length * 56≤140737488351232∧∀ x∈xs,Qc x) x.L) (h3:Kp x.E):Uu x
inductive Qp:Zl→Prop
 | mk (x:Zl) (h0:(fun x:Int=>(Lit.int .i64 x).wf=true) x.At) (h1:Kp x.E):Qp x
end
theorem Yav (n:Nat) (he:∀ m,m < n→Vu Try.prog 84 Zi Qp m):Vu Try.prog 27 (eL Zi) (fun xs:(List Zl)=>xs.length * 208≤140737488351232∧∀ x∈xs,Qp x) n:=by
 have h:=Zju (P:=Try.prog) (t:=27) (sz:=12) n Try.underlying27 (by kernel_rfl) (by decide) (fun _=>rfl) he
 have hb:Try.prog.bytesOf 84=208:=by kernel_rfl
 rw [hb] at h
 exact h
theorem Yaw (n:Nat) (he:∀ m,m < n→Vu Try.prog 75 Ze Uu m):Vu Try.prog 28 (eL Ze) (fun xs:(List Zj)=>xs.length * 240≤140737488351232∧∀ x∈xs,Uu x) n:=by
 have h:=Zju (P:=Try.prog) (t:=28) (sz:=14) n Try.underlying28 (by kernel_rfl) (by decide) (fun _=>rfl) he
 have hb:Try.prog.bytesOf 75=240:=by kernel_rfl
 rw [hb] at h
 exact h
theorem Yar (n:Nat):(Vu Try.prog 30 Qt Kp n∧Vu Try.prog 75 Ze Uu n∧Vu Try.prog 84 Zi Qp n):=by
 induction n using Nat.strongRecOn with
 | ind n ih =>
  cases n with
  | zero=>exact ⟨Zdb,Zdb,Zdb⟩
  | succ n =>
   have i29:∀ q,q < n→Vu Try.prog 30 Qt Kp q:=fun q hq=>(ih q (by omega)).1
   have j29:Vu Try.prog 30 Qt Kp n:=(ih n (by omega)).1
   have i74:∀ q,q < n→Vu Try.prog 75 Ze Uu q:=fun q hq=>(ih q (by omega)).2.1
   have j74:Vu Try.prog 75 Ze Uu n:=(ih n (by omega)).2.1
   have i83:∀ q,q < n→Vu Try.prog 84 Zi Qp q:=fun q hq=>(ih q (by omega)).2.2
   have j83:Vu Try.prog 84 Zi Qp n:=(ih n (by omega)).2.2
   refine ⟨?_,?_,?_⟩
   ·have h:=Zee (P:=Try.prog) (t:=30) (g:=Qt) (fun p=>(⟨p.1,p.2.1,p.2.2.1,p.2.2.2.1,p.2.2.2.2.1,p.2.2.2.2.2.1,p.2.2.2.2.2.2.1⟩:Zc)) Try.underlying30 (by kernel_rfl) (Yv (k:=1) rfl (by kernel_rfl) ((Qk Try.underlying3) _) (Yv (k:=3) rfl (by kernel_rfl) (Z7y _) (Yv (k:=3) rfl (by kernel_rfl) (Z7y _) (Yv (k:=1) rfl (by kernel_rfl) (Yh1 _) (Yv (k:=1) rfl (by kernel_rfl) (Yav n i83) (Yv (k:=1) rfl (by kernel_rfl) ((Qk Try.underlying3) _) (Yv (k:=1) rfl (by kernel_rfl) (Yaw n i74) Za8))))))) (fun x=>by simp only [Qt,Xs,Za,Yu,Zm,Zi,Y8,Ze,Xz,eI,eB,eS,eL,List.cons_append,List.nil_append,List.append_nil,List.append_assoc])
    intro H enc W base spare held cs d ps h1 h2
    obtain ⟨x,⟨y,rfl,hy⟩,hr⟩:=h H enc W base spare held cs d ps h1 h2
    obtain ⟨y0,y1,y2,y3,y4,y5,y6,u⟩:=y
    obtain ⟨a0,a1,a2,a3,⟨a4a,a4b⟩,a5,⟨a6a,a6b⟩,_⟩:=hy
    exact ⟨_,Kp.mk ⟨y0,y1,y2,y3,y4,y5,y6⟩ a0 a1 a2 a3 a4a a4b a5 a6a a6b,hr⟩
   ·have h:=Zee (P:=Try.prog) (t:=75) (g:=Ze) (fun p=>(⟨p.1,p.2.1,p.2.2.1,p.2.2.2.1⟩:Zj)) Try.underlying75 (by kernel_rfl) (Yv (k:=1) rfl (by kernel_rfl) ((Qk Try.underlying3) _) (Yv (k:=1) rfl (by kernel_rfl) ((Qk Try.underlying3) _) (Yv (k:=1) rfl (by kernel_rfl) (Yh0 _) (Yv (k:=11) rfl (by kernel_rfl) j29 Za8)))) (fun x=>by simp only [Ze,Xz,Za,Yu,Qt,Xs,Zm,Zi,Y8,eI,eB,eS,eL,List.cons_append,List.nil_append,List.append_nil,List.append_assoc])
    intro H enc W base spare held cs d ps h1 h2
    obtain ⟨x,⟨y,rfl,hy⟩,hr⟩:=h H enc W base spare held cs d ps h1 h2
    obtain ⟨y0,y1,y2,y3,u⟩:=y
    obtain ⟨a0,a1,a2,a3,_⟩:=hy
    exact ⟨_,Uu.mk ⟨y0,y1,y2,y3⟩ a0 a1 a2 a3,hr⟩
   have h:=Zee (P:=Try.prog) (t:=84) (g:=Zi) (fun p=>(⟨p.1,p.2.1⟩:Zl)) Try.underlying84 (by kernel_rfl) (Yv (k:=1) rfl (by kernel_rfl) ((Qk Try.underlying3) _) (Yv (k:=11) rfl (by kernel_rfl) j29 Za8)) (fun x=>by simp only [Zi,Y8,Qt,Xs,Za,Yu,Zm,Ze,Xz,eI,eB,eS,eL,List.cons_append,List.nil_append,List.append_nil,List.append_assoc])
   intro H enc W base spare held cs d ps h1 h2
   obtain ⟨x,⟨y,rfl,hy⟩,hr⟩:=h H enc W base spare held cs d ps h1 h2
   obtain ⟨y0,y1,u⟩:=y
   obtain ⟨a0,a1,_⟩:=hy
   exact ⟨_,Qp.mk ⟨y0,y1⟩ a0 a1,hr⟩
theorem Ygi:Zbq Try.prog 30 Qt Kp:=fun n=>(Yar n).1
theorem Ygk:Zbq Try.prog 75 Ze Uu:=fun n=>(Yar n).2.1
theorem Ygm:Zbq Try.prog 84 Zi Qp:=fun n=>(Yar n).2.2
theorem Yja:Zbq Try.prog 27 (eL Zi) (fun xs:(List Zl)=>xs.length * 208≤140737488351232∧∀ x∈xs,Qp x):=fun n=>Yav n (fun m _=>Ygm m)
theorem Yjb:Zbq Try.prog 28 (eL Ze) (fun xs:(List Zj)=>xs.length * 240≤140737488351232∧∀ x∈xs,Uu x):=fun n=>Yaw n (fun m _=>Ygk m)
def Zcc (x:Zy):Prop:=(fun x:Int=>(Lit.int .i64 x).wf=true) x.Kind∧(fun x:Int=>(Lit.int .i64 x).wf=true) x.At
theorem Yjc:Zbq Try.prog 53 Zu Zcc:=by
 have h:=Zh0 (P:=Try.prog) (t:=53) (g:=Zu) (fun p=>(⟨p.1,p.2.1⟩:Zy)) Try.underlying53 (by kernel_rfl) (fun n=>(Yv (k:=1) rfl (by kernel_rfl) ((Qk Try.underlying3) _) (Yv (k:=1) rfl (by kernel_rfl) ((Qk Try.underlying3) _) Za8))) (fun x=>rfl)
 intro n H enc W base spare held cs d ps h1 h2
 obtain ⟨x,⟨y,rfl,hy⟩,hr⟩:=h n H enc W base spare held cs d ps h1 h2
 exact ⟨_,by unfold Zcc;simp only;exact ⟨hy.1,hy.2.1⟩,hr⟩
theorem Ygj:Zbq Try.prog 54 Zu Zcc:=by
 have h:=Zh0 (P:=Try.prog) (t:=54) (g:=Zu) (fun p=>(⟨p.1,p.2.1⟩:Zy)) Try.underlying54 (by kernel_rfl) (fun n=>(Yv (k:=1) rfl (by kernel_rfl) ((Qk Try.underlying3) _) (Yv (k:=1) rfl (by kernel_rfl) ((Qk Try.underlying3) _) Za8))) (fun x=>rfl)
 intro n H enc W base spare held cs d ps h1 h2
 obtain ⟨x,⟨y,rfl,hy⟩,hr⟩:=h n H enc W base spare held cs d ps h1 h2
 exact ⟨_,by unfold Zcc;simp only;exact ⟨hy.1,hy.2.1⟩,hr⟩
theorem Yge:Zbq Try.prog 54 Zu Zcc:=Ygj
theorem Yh2:Zbq Try.prog 43 (eL Zu) (fun xs:(List Zy)=>xs.length * 16≤140737488351232∧∀ x∈xs,Zcc x):=by
 have h:=Zml (P:=Try.prog) (t:=43) (sz:=2) Try.underlying43 (by kernel_rfl) (by decide) (fun _=>rfl) Yge
 have hb:Try.prog.bytesOf 54=16:=by kernel_rfl
 rw [hb] at h
 exact h
theorem Z8b (t:Zb) (h:Qc t):Bd t:=by
 induction h with
 | mk x h0 h1 h2a h2b ih =>
  refine .mk _ (by have:=h1.1;omega) (by omega) (fun w hw => ?_) ih
  have:=h1.2 w hw
  simp [Lit.wf,IntKind.min,IntKind.max,IntKind.signed,IntKind.bits] at this
  omega
theorem Yec {w:Zs} (h:Jk w):(0≤w.Mask∧w.Mask < 256)∧(0≤w.Old∧w.Old < 18446744073709551616)∧(0≤w.New∧w.New < 18446744073709551616):=by
 obtain ⟨_,h1,h2,h3⟩:=h
 simp [Lit.wf,IntKind.min,IntKind.max,IntKind.signed,IntKind.bits] at h1 h2 h3
 omega
theorem Yhn (e:Zc) (h:Kp e):BE e :=
 Kp.rec (motive_1:=fun e _=>BE e) (motive_2:=fun o _=>BO o) (motive_3:=fun k _=>BE k.E)
  (fun x h0 h1 h2 h3 h4a h4b h5 h6a h6b i4 i6 => .mk _ (Z8b _ h1) (Z8b _ h2) (by have:=h3.1;omega) (fun w hw=>Yec (h3.2 w hw)) (by omega) i4 (by omega) (fun o ho=>(i6 o ho).1) (fun o ho=>(i6 o ho).2))
  (fun x h0 h1 h2 h3 i3=>⟨⟨by have:=h2.1;omega,fun t ht=>Z8b t (h2.2 t ht)⟩,i3⟩)
  (fun x h0 h1 i1=>i1) h
theorem own:ownKnob Try.prog.godebug=none:=by kernel_rfl
theorem Zz2:laidOutB Try.prog=true:=by kernel_rfl
set_option maxRecDepth 100000 in
theorem lifted (os:Os) (started:os.Started) (H:Type) (enc:TypeId×Value→H) :
  ReturnsInHanded {} Try.checked os 7 .any (Rows.focusDoesSpec.pre6 enc Try.prog Try.f7 Rows.focusDoesRow.domain false) (Rows.focusDoesSpec.post enc Try.prog Try.f7 false true false false):=by
 refine returnsInHanded_of_change_sized (C:=Try.checked) own started (by kernel_rfl) Try.func7
  (ChangeSpec.witness6 (enc:=enc) (C:=Try.checked) false ⟨#[],#[.agg #[.int .i64 0,.int .i64 0,.slice none 0 0,.slice none 0 0,.int .i64 0,.slice none 0 0,.slice none 0 0,.slice none 0 0,.slice none 0 0,.int .i64 0,.slice none 0 0],.agg #[.int .i64 0,.slice none 0 0,.slice none 0 0],.slice none 0 0],[]⟩ 12 (by kernel_rfl) (by kernel_rfl) (by kernel_rfl) (by kernel_rfl)) ?_
 intro W base args ds gs before hval0 hW hcnd hsz0 _
 have hval:∀ (j:Nat) t v,Try.f7.params[j]? = some t→args[j]? = some v→Value.okWide Try.prog W .any base t v:=hval0
 have hW':=hW
 obtain ⟨p,q,hA0,hV,rfl,hfz,hnd⟩:=hW
 have hA:DataW.TrodAll enc Try.prog W 0 (fun _=>true) true Try.f7.params.toList args.toList ds p:=hA0
 rw [Try.params7] at hA hval
 obtain ⟨v0,vs0,d0,ds0,p0,q0,hargs,rfl,rfl,h0,r0⟩:=trodAll_cons hA
 obtain ⟨v1,vs1,d1,ds1,p1,q1,rfl,rfl,rfl,h1,r1⟩:=trodAll_cons r0
 obtain ⟨v2,vs2,d2,ds2,p2,q2,rfl,rfl,rfl,h2,r2⟩:=trodAll_cons r1
 obtain ⟨rfl,rfl,rfl⟩:=trodAll_nil r2
 obtain rfl:args=#[v0,v1,v2]:=by cases args;simp_all
 obtain ⟨rfl,rfl⟩:=trodVars_none hV
 clear hA0 hval0
 have hsz:(DataW.weightsEach Try.prog (Try.f7.params.toList++Rows.focusDoesSpec.plain.varTypes Try.prog) _).all (·≤reachBytes)=true:=hsz0
 clear hsz0
 rw [Try.params7] at hsz
 have lt0:∀ x∈p0,x.block < W.heap.size:=by obtain ⟨m,hm⟩:=h0;exact DataW.trod_lt m _ _ _ hm
 obtain ⟨x0,w0,e0⟩:=Zvh Ygi h0 (Zq4 hsz (j:=0) rfl rfl)
 have g0:=Z64 (Ztt Try.underlying30 (hval 0 30 v0 rfl rfl)) e0
 simp only [Qt,Xs,Za,Yu,Zm,Zi,Y8,Ze,Xz] at g0
 have lt1:∀ x∈p1,x.block < W.heap.size:=by obtain ⟨m,hm⟩:=h1;exact DataW.trod_lt m _ _ _ hm
 obtain ⟨x1,w1,e1⟩:=Zvh Z7y h1 (Zq4 hsz (j:=1) rfl rfl)
 have g1:=Z64 (Ztt Try.underlying25 (hval 1 25 v1 rfl rfl)) e1
 simp only [Za,Yu] at g1
 have lt2:∀ x∈p2,x.block < W.heap.size:=by obtain ⟨m,hm⟩:=h2;exact DataW.trod_lt m _ _ _ hm
 obtain ⟨x2,w2,e2⟩:=Zvh Yh2 h2 (Zq4 hsz (j:=2) rfl rfl)
 have g2:=Yc1 (Z82 Try.underlying43 (hval 2 43 v2 rfl rfl)) e2
 refine (Yfc (Zkg ((fun x wx y wy l wl=>Z21 (Yhn x wx) (Z8b y wy)) x0 w0 x1 w1 x2 w2)).pure (vs:=[v0,v1,v2]) ⟨_,_,rfl,g0,⟨_,_,rfl,g1,⟨_,_,rfl,g2,rfl⟩⟩⟩).mono fun e W' ⟨he,bel⟩ => ?_
 subst he
 exact ⟨_,rfl,_,_,_,[],_,[],hW',trodAll_mk1 (shut_bool Try.underlying4 _),(trodAll_cons_mk (Below.trod Zz2 (by kernel_rfl) (of_decide_eq_true (by kernel_rfl)) h0 bel lt0) (trodAll_cons_mk (Below.trod Zz2 (by kernel_rfl) (of_decide_eq_true (by kernel_rfl)) h1 bel lt1) (trodAll_cons_mk (Below.trod Zz2 (by kernel_rfl) (of_decide_eq_true (by kernel_rfl)) h2 bel lt2) trodAll_mk0))),rfl,bel.frame _,fun h=>by cases h⟩
theorem proved:Rows.FocusDoesSaid :=
 OpenClaim.holds_of_wide 7 Try.f7 rfl rfl rfl rfl rfl rfl rfl ⟨rfl,rfl,rfl,rfl,rfl⟩ rfl rfl rfl rfl rfl (by kernel_rfl) Try.func7 (by kernel_rfl)
  (of_decide_eq_true (by kernel_rfl)) (by unfold Func.isWrapper;first | (rw [if_pos (by decide +kernel)];kernel_rfl) | (rw [if_neg (by decide +kernel)];exact ⟨rfl,rfl⟩))
  (fun os started H enc _=>lifted os started H enc)
end Go.Proofs.Ytfjkcekfifobpaa.focusDoes
