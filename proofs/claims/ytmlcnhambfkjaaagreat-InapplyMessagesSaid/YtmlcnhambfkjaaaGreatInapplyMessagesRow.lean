/- Called with any arguments, the law InapplyMessages returns true and leaves them as they were; no other condition. -/
import Derived.Test.YtmlcnhambfkjaaaGreatJM7
import Derived.Test.YtmlcnhambfkjaaaGreatJP5
import Derived.ShutString
import Derived.ChangeOld
import Derived.Below
namespace Go.Proofs.YtmlcnhambfkjaaaGreat.inapplyMessages
open Go.ChangeShapes Go.WideShapes Go.ChangeAt Go.RowKit
open Go.ChangeMaps (open_string shut_string)
set_option linter.unusedVariables false
set_option linter.unusedSimpArgs false
theorem op3:Zb4 Tryz.prog 3 (eI .i64) (fun x=>(Lit.int .i64 x).wf=true):=Xz Tryz.underlying3
theorem Yqn:Zb4 Tryz.prog 77 (eI .u64) (fun x=>(Lit.int .u64 x).wf=true):=Xz Tryz.underlying77
theorem Yk7:Zb4 Tryz.prog 77 (eI .u64) (fun x:Int=>(Lit.int .u64 x).wf=true):=(Xz Tryz.underlying77)
theorem Yk5:Zb4 Tryz.prog 22 (eL (eI .u64)) (fun xs:(List Int)=>xs.length * 8≤140737488351232∧∀ x∈xs,(fun x:Int=>(Lit.int .u64 x).wf=true) x):=by
 have h:=Zmh (P:=Tryz.prog) (t:=22) (sz:=1) Tryz.underlying22 (by kernel_rfl) (by decide) (fun _=>rfl) Yk7
 have hb:Tryz.prog.bytesOf 77=8:=by kernel_rfl
 rw [hb] at h
 exact h
inductive Qo:Za→Prop
 | mk (x:Za) (h0:(fun x:Int=>(Lit.int .i64 x).wf=true) x.Kind) (h1:(fun xs:(List Int)=>xs.length * 8≤140737488351232∧∀ x∈xs,(fun x:Int=>(Lit.int .u64 x).wf=true) x) x.Words) (h2a:x.Kids.length * 56≤140737488351232) (h2b:∀ y∈x.Kids,Qo y):Qo x
theorem Ydt (n:Nat) (he:∀ m,m < n→V9 Tryz.prog 25 Zc Qo m):V9 Tryz.prog 23 (eL Zc) (fun xs:(List Za)=>xs.length * 56≤140737488351232∧∀ x∈xs,Qo x) n:=by
 have h:=Zi8 (P:=Tryz.prog) (t:=23) (sz:=3) n Tryz.underlying23 (by kernel_rfl) (by decide) (fun _=>rfl) he
 have hb:Tryz.prog.bytesOf 25=56:=by kernel_rfl
 rw [hb] at h
 exact h
theorem Yk9 (n:Nat):(V9 Tryz.prog 25 Zc Qo n):=by
 induction n using Nat.strongRecOn with
 | ind n ih =>
  cases n with
  | zero=>exact Zc4
  | succ n =>
   have i24:∀ q,q < n→V9 Tryz.prog 25 Zc Qo q:=fun q hq=>(ih q (by omega))
   have j24:V9 Tryz.prog 25 Zc Qo n:=(ih n (by omega))
   have h:=Zdu (P:=Tryz.prog) (t:=25) (g:=Zc) (fun p=>(⟨p.1,p.2.1,p.2.2.1⟩:Za)) Tryz.underlying25 (by kernel_rfl) (Yl (k:=1) rfl (by kernel_rfl) ((Xz Tryz.underlying3) _) (Yl (k:=1) rfl (by kernel_rfl) (Yk5 _) (Yl (k:=1) rfl (by kernel_rfl) (Ydt n i24) Zbt))) (fun x=>by simp only [Zc,Ql,eI,eB,eS,eL,List.cons_append,List.nil_append,List.append_nil,List.append_assoc])
   intro H enc W base spare held cs d ps h1 h2
   obtain ⟨x,⟨y,rfl,hy⟩,hr⟩:=h H enc W base spare held cs d ps h1 h2
   obtain ⟨y0,y1,y2,u⟩:=y
   obtain ⟨a0,a1,⟨a2a,a2b⟩,_⟩:=hy
   exact ⟨_,Qo.mk ⟨y0,y1,y2⟩ a0 a1 a2a a2b,hr⟩
theorem Yds:Zb4 Tryz.prog 25 Zc Qo:=fun n=>(Yk9 n)
theorem Ypd:Zb4 Tryz.prog 23 (eL Zc) (fun xs:(List Za)=>xs.length * 56≤140737488351232∧∀ x∈xs,Qo x):=fun n=>Ydt n (fun m _=>Yds m)
theorem op5:Zb4 Tryz.prog 5 (eI .u8) (fun x=>(Lit.int .u8 x).wf=true):=Xz Tryz.underlying5
def Ka (x:Zy):Prop:=(fun x:Int=>(Lit.int .i64 x).wf=true) x.At∧(fun x:Int=>(Lit.int .u8 x).wf=true) x.Mask∧(fun x:Int=>(Lit.int .u64 x).wf=true) x.Old∧(fun x:Int=>(Lit.int .u64 x).wf=true) x.New
theorem Yqo:Zb4 Tryz.prog 83 Zu Ka:=by
 have h:=Zgz (P:=Tryz.prog) (t:=83) (g:=Zu) (fun p=>(⟨p.1,p.2.1,p.2.2.1,p.2.2.2.1⟩:Zy)) Tryz.underlying83 (by kernel_rfl) (fun n=>(Yl (k:=1) rfl (by kernel_rfl) ((Xz Tryz.underlying3) _) (Yl (k:=1) rfl (by kernel_rfl) ((Xz Tryz.underlying5) _) (Yl (k:=1) rfl (by kernel_rfl) ((Xz Tryz.underlying77) _) (Yl (k:=1) rfl (by kernel_rfl) ((Xz Tryz.underlying77) _) Zbt))))) (fun x=>rfl)
 intro n H enc W base spare held cs d ps h1 h2
 obtain ⟨x,⟨y,rfl,hy⟩,hr⟩:=h n H enc W base spare held cs d ps h1 h2
 exact ⟨_,by unfold Ka;simp only;exact ⟨hy.1,hy.2.1,hy.2.2.1,hy.2.2.2.1⟩,hr⟩
theorem Yld:Zb4 Tryz.prog 84 Zu Ka:=by
 have h:=Zgz (P:=Tryz.prog) (t:=84) (g:=Zu) (fun p=>(⟨p.1,p.2.1,p.2.2.1,p.2.2.2.1⟩:Zy)) Tryz.underlying84 (by kernel_rfl) (fun n=>(Yl (k:=1) rfl (by kernel_rfl) ((Xz Tryz.underlying3) _) (Yl (k:=1) rfl (by kernel_rfl) ((Xz Tryz.underlying5) _) (Yl (k:=1) rfl (by kernel_rfl) ((Xz Tryz.underlying77) _) (Yl (k:=1) rfl (by kernel_rfl) ((Xz Tryz.underlying77) _) Zbt))))) (fun x=>rfl)
 intro n H enc W base spare held cs d ps h1 h2
 obtain ⟨x,⟨y,rfl,hy⟩,hr⟩:=h n H enc W base spare held cs d ps h1 h2
 exact ⟨_,by unfold Ka;simp only;exact ⟨hy.1,hy.2.1,hy.2.2.1,hy.2.2.2.1⟩,hr⟩
theorem Yk8:Zb4 Tryz.prog 84 Zu Ka:=Yld
theorem Ype:Zb4 Tryz.prog 26 (eL Zu) (fun xs:(List Zy)=>xs.length * 32≤140737488351232∧∀ x∈xs,Ka x):=by
 have h:=Zmh (P:=Tryz.prog) (t:=26) (sz:=4) Tryz.underlying26 (by kernel_rfl) (by decide) (fun _=>rfl) Yk8
 have hb:Tryz.prog.bytesOf 84=32:=by kernel_rfl
 rw [hb] at h
 exact h
mutual
inductive K9:Zi→Prop
 | mk (x:Zi) (h0:(fun x:Int=>(Lit.int .i64 x).wf=true) x.Kind) (h1:Qo x.Old) (h2:Qo x.New) (h3:(fun xs:(List Zy)=>xs.length * 32≤140737488351232∧∀ x∈xs,Ka x) x.Words) (h4a:x.Kids.length * 208≤140737488351232) (h4b:∀ y∈x.Kids,Q7 y) (h5:(fun x:Int=>(Lit.int .i64 x).wf=true) x.List_) (h6a:x.Ops.length * 240≤140737488351232) (h6b:∀ y∈x.Ops,Gc y):K9 x
inductive Q7:Zt→Prop
 | mk (x:Zt) (h0:(fun x:Int=>(Lit.int .i64 x).wf=true) x.At) (h1:K9 x.E):Q7 x
inductive Gc:Ya→Prop
 | mk (x:Ya) (h0:(fun x:Int=>(Lit.int .i64 x).wf=true) x.Kind) (h1:(fun x:Int=>(Lit.int .i64 x).wf=true) x.N) (h2:(fun xs:(List Za)=>xs.length * 56≤140737488351232∧∀ x∈xs,Qo x) x.L) (h3:K9 x.E):Gc x
end
theorem Ydu (n:Nat) (he:∀ m,m < n→V9 Tryz.prog 86 Zr Q7 m):V9 Tryz.prog 27 (eL Zr) (fun xs:(List Zt)=>xs.length * 208≤140737488351232∧∀ x∈xs,Q7 x) n:=by
 have h:=Zi8 (P:=Tryz.prog) (t:=27) (sz:=12) n Tryz.underlying27 (by kernel_rfl) (by decide) (fun _=>rfl) he
 have hb:Tryz.prog.bytesOf 86=208:=by kernel_rfl
 rw [hb] at h
 exact h
theorem Ydv (n:Nat) (he:∀ m,m < n→V9 Tryz.prog 89 Yg Gc m):V9 Tryz.prog 28 (eL Yg) (fun xs:(List Ya)=>xs.length * 240≤140737488351232∧∀ x∈xs,Gc x) n:=by
 have h:=Zi8 (P:=Tryz.prog) (t:=28) (sz:=14) n Tryz.underlying28 (by kernel_rfl) (by decide) (fun _=>rfl) he
 have hb:Tryz.prog.bytesOf 89=240:=by kernel_rfl
 rw [hb] at h
 exact h
theorem Ydr (n:Nat):(V9 Tryz.prog 30 Qv K9 n∧V9 Tryz.prog 86 Zr Q7 n∧V9 Tryz.prog 89 Yg Gc n):=by
 induction n using Nat.strongRecOn with
 | ind n ih =>
  cases n with
  | zero=>exact ⟨Zc4,Zc4,Zc4⟩
  | succ n =>
   have i29:∀ q,q < n→V9 Tryz.prog 30 Qv K9 q:=fun q hq=>(ih q (by omega)).1
   have j29:V9 Tryz.prog 30 Qv K9 n:=(ih n (by omega)).1
   have i85:∀ q,q < n→V9 Tryz.prog 86 Zr Q7 q:=fun q hq=>(ih q (by omega)).2.1
   have j85:V9 Tryz.prog 86 Zr Q7 n:=(ih n (by omega)).2.1
   have i88:∀ q,q < n→V9 Tryz.prog 89 Yg Gc q:=fun q hq=>(ih q (by omega)).2.2
   have j88:V9 Tryz.prog 89 Yg Gc n:=(ih n (by omega)).2.2
   refine ⟨?_,?_,?_⟩
   ·have h:=Zdu (P:=Tryz.prog) (t:=30) (g:=Qv) (fun p=>(⟨p.1,p.2.1,p.2.2.1,p.2.2.2.1,p.2.2.2.2.1,p.2.2.2.2.2.1,p.2.2.2.2.2.2.1⟩:Zi)) Tryz.underlying30 (by kernel_rfl) (Yl (k:=1) rfl (by kernel_rfl) ((Xz Tryz.underlying3) _) (Yl (k:=3) rfl (by kernel_rfl) (Yds _) (Yl (k:=3) rfl (by kernel_rfl) (Yds _) (Yl (k:=1) rfl (by kernel_rfl) (Ype _) (Yl (k:=1) rfl (by kernel_rfl) (Ydu n i85) (Yl (k:=1) rfl (by kernel_rfl) ((Xz Tryz.underlying3) _) (Yl (k:=1) rfl (by kernel_rfl) (Ydv n i88) Zbt))))))) (fun x=>by simp only [Qv,Zda,Zc,Ql,Zu,Zr,Qf,Yg,Vb,eI,eB,eS,eL,List.cons_append,List.nil_append,List.append_nil,List.append_assoc])
    intro H enc W base spare held cs d ps h1 h2
    obtain ⟨x,⟨y,rfl,hy⟩,hr⟩:=h H enc W base spare held cs d ps h1 h2
    obtain ⟨y0,y1,y2,y3,y4,y5,y6,u⟩:=y
    obtain ⟨a0,a1,a2,a3,⟨a4a,a4b⟩,a5,⟨a6a,a6b⟩,_⟩:=hy
    exact ⟨_,K9.mk ⟨y0,y1,y2,y3,y4,y5,y6⟩ a0 a1 a2 a3 a4a a4b a5 a6a a6b,hr⟩
   ·have h:=Zdu (P:=Tryz.prog) (t:=86) (g:=Zr) (fun p=>(⟨p.1,p.2.1⟩:Zt)) Tryz.underlying86 (by kernel_rfl) (Yl (k:=1) rfl (by kernel_rfl) ((Xz Tryz.underlying3) _) (Yl (k:=11) rfl (by kernel_rfl) j29 Zbt)) (fun x=>by simp only [Zr,Qf,Qv,Zda,Zc,Ql,Zu,Yg,Vb,eI,eB,eS,eL,List.cons_append,List.nil_append,List.append_nil,List.append_assoc])
    intro H enc W base spare held cs d ps h1 h2
    obtain ⟨x,⟨y,rfl,hy⟩,hr⟩:=h H enc W base spare held cs d ps h1 h2
    obtain ⟨y0,y1,u⟩:=y
    obtain ⟨a0,a1,_⟩:=hy
    exact ⟨_,Q7.mk ⟨y0,y1⟩ a0 a1,hr⟩
   have h:=Zdu (P:=Tryz.prog) (t:=89) (g:=Yg) (fun p=>(⟨p.1,p.2.1,p.2.2.1,p.2.2.2.1⟩:Ya)) Tryz.underlying89 (by kernel_rfl) (Yl (k:=1) rfl (by kernel_rfl) ((Xz Tryz.underlying3) _) (Yl (k:=1) rfl (by kernel_rfl) ((Xz Tryz.underlying3) _) (Yl (k:=1) rfl (by kernel_rfl) (Ypd _) (Yl (k:=11) rfl (by kernel_rfl) j29 Zbt)))) (fun x=>by simp only [Yg,Vb,Zc,Ql,Qv,Zda,Zu,Zr,Qf,eI,eB,eS,eL,List.cons_append,List.nil_append,List.append_nil,List.append_assoc])
   intro H enc W base spare held cs d ps h1 h2
   obtain ⟨x,⟨y,rfl,hy⟩,hr⟩:=h H enc W base spare held cs d ps h1 h2
   obtain ⟨y0,y1,y2,y3,u⟩:=y
   obtain ⟨a0,a1,a2,a3,_⟩:=hy
   exact ⟨_,Gc.mk ⟨y0,y1,y2,y3⟩ a0 a1 a2 a3,hr⟩
theorem Ylb:Zb4 Tryz.prog 30 Qv K9:=fun n=>(Ydr n).1
theorem Yle:Zb4 Tryz.prog 86 Zr Q7:=fun n=>(Ydr n).2.1
theorem Ylf:Zb4 Tryz.prog 89 Yg Gc:=fun n=>(Ydr n).2.2
theorem Yqk:Zb4 Tryz.prog 27 (eL Zr) (fun xs:(List Zt)=>xs.length * 208≤140737488351232∧∀ x∈xs,Q7 x):=fun n=>Ydu n (fun m _=>Yle m)
theorem Yql:Zb4 Tryz.prog 28 (eL Yg) (fun xs:(List Ya)=>xs.length * 240≤140737488351232∧∀ x∈xs,Gc x):=fun n=>Ydv n (fun m _=>Ylf m)
theorem Yk6:Zb4 Tryz.prog 22 (eL (eI .u64)) (fun xs:(List Int)=>xs.length * 8≤140737488351232∧∀ x∈xs,(fun x:Int=>(Lit.int .u64 x).wf=true) x):=Yk5
theorem Ypf:Zb4 Tryz.prog 53 (eL (eL (eI .u64))) (fun xs:(List (List Int))=>xs.length * 24≤140737488351232∧∀ x∈xs,(fun xs:(List Int)=>xs.length * 8≤140737488351232∧∀ x∈xs,(fun x:Int=>(Lit.int .u64 x).wf=true) x) x):=by
 have h:=Zmh (P:=Tryz.prog) (t:=53) (sz:=1) Tryz.underlying53 (by kernel_rfl) (by decide) (fun _=>rfl) Yk6
 have hb:Tryz.prog.bytesOf 22=24:=by kernel_rfl
 rw [hb] at h
 exact h
def Zd0 (x:Yi):Prop:=(fun x:Int=>(Lit.int .i64 x).wf=true) x.Depth∧(fun x:Int=>(Lit.int .i64 x).wf=true) x.Weight∧(fun x:Int=>(Lit.int .i64 x).wf=true) x.MaxD∧(fun x:Int=>(Lit.int .i64 x).wf=true) x.MaxOut
theorem Yqm:Zb4 Tryz.prog 54 Uf Zd0:=by
 have h:=Zgz (P:=Tryz.prog) (t:=54) (g:=Uf) (fun p=>(⟨p.1,p.2.1,p.2.2.1,p.2.2.2.1⟩:Yi)) Tryz.underlying54 (by kernel_rfl) (fun n=>(Yl (k:=1) rfl (by kernel_rfl) ((Xz Tryz.underlying3) _) (Yl (k:=1) rfl (by kernel_rfl) ((Xz Tryz.underlying3) _) (Yl (k:=1) rfl (by kernel_rfl) ((Xz Tryz.underlying3) _) (Yl (k:=1) rfl (by kernel_rfl) ((Xz Tryz.underlying3) _) Zbt))))) (fun x=>rfl)
 intro n H enc W base spare held cs d ps h1 h2
 obtain ⟨x,⟨y,rfl,hy⟩,hr⟩:=h n H enc W base spare held cs d ps h1 h2
 exact ⟨_,by unfold Zd0;simp only;exact ⟨hy.1,hy.2.1,hy.2.2.1,hy.2.2.2.1⟩,hr⟩
theorem Ylc:Zb4 Tryz.prog 55 Uf Zd0:=by
 have h:=Zgz (P:=Tryz.prog) (t:=55) (g:=Uf) (fun p=>(⟨p.1,p.2.1,p.2.2.1,p.2.2.2.1⟩:Yi)) Tryz.underlying55 (by kernel_rfl) (fun n=>(Yl (k:=1) rfl (by kernel_rfl) ((Xz Tryz.underlying3) _) (Yl (k:=1) rfl (by kernel_rfl) ((Xz Tryz.underlying3) _) (Yl (k:=1) rfl (by kernel_rfl) ((Xz Tryz.underlying3) _) (Yl (k:=1) rfl (by kernel_rfl) ((Xz Tryz.underlying3) _) Zbt))))) (fun x=>rfl)
 intro n H enc W base spare held cs d ps h1 h2
 obtain ⟨x,⟨y,rfl,hy⟩,hr⟩:=h n H enc W base spare held cs d ps h1 h2
 exact ⟨_,by unfold Zd0;simp only;exact ⟨hy.1,hy.2.1,hy.2.2.1,hy.2.2.2.1⟩,hr⟩
theorem Ye1 (t:Za) (h:Qo t):Bd t:=by
 induction h with
 | mk x h0 h1 h2a h2b ih =>
  refine .mk _ (by have:=h1.1;omega) (by omega) (fun w hw => ?_) ih
  have:=h1.2 w hw
  simp [Lit.wf,IntKind.min,IntKind.max,IntKind.signed,IntKind.bits] at this
  omega
theorem Yg9 {w:Zy} (h:Ka w):(0≤w.Mask∧w.Mask < 256)∧(0≤w.Old∧w.Old < 18446744073709551616)∧(0≤w.New∧w.New < 18446744073709551616):=by
 obtain ⟨_,h1,h2,h3⟩:=h
 simp [Lit.wf,IntKind.min,IntKind.max,IntKind.signed,IntKind.bits] at h1 h2 h3
 omega
theorem Yor (e:Zi) (h:K9 e):BE e :=
 K9.rec (motive_1:=fun e _=>BE e) (motive_2:=fun k _=>BE k.E) (motive_3:=fun o _=>BO o)
  (fun x h0 h1 h2 h3 h4a h4b h5 h6a h6b i4 i6 => .mk _ (Ye1 _ h1) (Ye1 _ h2) (by have:=h3.1;omega) (fun w hw=>Yg9 (h3.2 w hw)) (by omega) i4 (by omega) (fun o ho=>(i6 o ho).1) (fun o ho=>(i6 o ho).2))
  (fun x h0 h1 i1=>i1)
  (fun x h0 h1 h2 h3 i3=>⟨⟨by have:=h2.1;omega,fun t ht=>Ye1 t (h2.2 t ht)⟩,i3⟩) h
theorem Yos (l:List (List Int)) (h:l.length * 24≤140737488351232∧∀ x∈l,x.length * 8≤140737488351232∧∀ w∈x,(Lit.int .u64 w).wf=true):WS l:=by
 refine ⟨by have:=h.1;omega,fun x hx=>by have:=(h.2 x hx).1;omega,fun x hx w hw => ?_⟩
 have:=(h.2 x hx).2 w hw
 simp [Lit.wf,IntKind.min,IntKind.max,IntKind.signed,IntKind.bits] at this
 omega
theorem Yqj {a:Int} (h:(Lit.int .u8 a).wf=true):0≤a∧a < 256:=by
 simp [Lit.wf,IntKind.min,IntKind.max,IntKind.signed,IntKind.bits] at h
 omega
theorem Yqh {a:Int} (h:(Lit.int .u32 a).wf=true):0≤a∧a < 4294967296:=by
 simp [Lit.wf,IntKind.min,IntKind.max,IntKind.signed,IntKind.bits] at h
 omega
theorem own:ownKnob Tryz.prog.godebug=none:=by kernel_rfl
theorem Zul:laidOutB Tryz.prog=true:=by kernel_rfl
set_option maxRecDepth 100000 in
theorem lifted (os:Os) (started:os.Started) (H:Type) (enc:TypeId×Value→H) :
  ReturnsInHanded {} Tryz.checked os 11 .any (Rows.inapplyMessagesSpec.pre6 enc Tryz.prog Tryz.f11 Rows.inapplyMessagesRow.domain false) (Rows.inapplyMessagesSpec.post enc Tryz.prog Tryz.f11 false true false false):=by
 refine returnsInHanded_of_change_sized (C:=Tryz.checked) own started (by kernel_rfl) Tryz.func11
  (ChangeSpec.witness6 (enc:=enc) (C:=Tryz.checked) false ⟨#[],#[.agg #[.int .i64 0,.int .i64 0,.slice none 0 0,.slice none 0 0,.int .i64 0,.slice none 0 0,.slice none 0 0,.slice none 0 0,.slice none 0 0,.int .i64 0,.slice none 0 0],.slice none 0 0,.agg #[.int .i64 0,.int .i64 0,.int .i64 0,.int .i64 0]],[]⟩ 12 (by kernel_rfl) (by kernel_rfl) (by kernel_rfl) (by kernel_rfl)) ?_
 intro W base args ds gs before hval0 hW hcnd hsz0 _
 have hval:∀ (j:Nat) t v,Tryz.f11.params[j]? = some t→args[j]? = some v→Value.okWide Tryz.prog W .any base t v:=hval0
 have hW':=hW
 obtain ⟨p,q,hA0,hV,rfl,hfz,hnd⟩:=hW
 have hA:DataW.TrodAll enc Tryz.prog W 0 (fun _=>true) true Tryz.f11.params.toList args.toList ds p:=hA0
 rw [Tryz.params11] at hA hval
 obtain ⟨v0,vs0,d0,ds0,p0,q0,hargs,rfl,rfl,h0,r0⟩:=trodAll_cons hA
 obtain ⟨v1,vs1,d1,ds1,p1,q1,rfl,rfl,rfl,h1,r1⟩:=trodAll_cons r0
 obtain ⟨v2,vs2,d2,ds2,p2,q2,rfl,rfl,rfl,h2,r2⟩:=trodAll_cons r1
 obtain ⟨rfl,rfl,rfl⟩:=trodAll_nil r2
 obtain rfl:args=#[v0,v1,v2]:=by cases args;simp_all
 obtain ⟨rfl,rfl⟩:=trodVars_none hV
 clear hA0 hval0
 have hsz:(DataW.weightsEach Tryz.prog (Tryz.f11.params.toList++Rows.inapplyMessagesSpec.plain.varTypes Tryz.prog) _).all (·≤reachBytes)=true:=hsz0
 clear hsz0
 rw [Tryz.params11] at hsz
 have lt0:∀ x∈p0,x.block < W.heap.size:=by obtain ⟨m,hm⟩:=h0;exact DataW.trod_lt m _ _ _ hm
 obtain ⟨x0,w0,e0⟩:=Zxi Ylb h0 (Zse hsz (j:=0) rfl rfl)
 have g0:=Z7p (Zwn Tryz.underlying30 (hval 0 30 v0 rfl rfl)) e0
 simp only [Qv,Zda,Zc,Ql,Zu,Zr,Qf,Yg,Vb] at g0
 have lt1:∀ x∈p1,x.block < W.heap.size:=by obtain ⟨m,hm⟩:=h1;exact DataW.trod_lt m _ _ _ hm
 obtain ⟨x1,w1,e1⟩:=Zxi Ypf h1 (Zse hsz (j:=1) rfl rfl)
 have g1:=Yfb (Ya8 Tryz.underlying53 (hval 1 53 v1 rfl rfl)) e1
 have lt2:∀ x∈p2,x.block < W.heap.size:=by obtain ⟨m,hm⟩:=h2;exact DataW.trod_lt m _ _ _ hm
 obtain ⟨x2,w2,e2⟩:=Zxi Ylc h2 (Zse hsz (j:=2) rfl rfl)
 have g2:=Z7p (Zwn Tryz.underlying55 (hval 2 55 v2 rfl rfl)) e2
 refine (Yjr (Zf7 ((fun e we l wl x _=>Zpa (Yor e we) (Yos l wl) x) x0 w0 x1 w1 x2 w2)).pure (vs:=[v0,v1,v2]) ⟨_,_,rfl,g0,⟨_,_,rfl,g1,⟨_,_,rfl,g2,rfl⟩⟩⟩).mono fun e W' ⟨he,bel⟩ => ?_
 subst he
 exact ⟨_,rfl,_,_,_,[],_,[],hW',trodAll_mk1 (shut_bool Tryz.underlying4 _),(trodAll_cons_mk (Below.trod Zul (by kernel_rfl) (of_decide_eq_true (by kernel_rfl)) h0 bel lt0) (trodAll_cons_mk (Below.trod Zul (by kernel_rfl) (of_decide_eq_true (by kernel_rfl)) h1 bel lt1) (trodAll_cons_mk (Below.trod Zul (by kernel_rfl) (of_decide_eq_true (by kernel_rfl)) h2 bel lt2) trodAll_mk0))),rfl,bel.frame _,fun h=>by cases h⟩
theorem Yax {P:Program} {f:FuncId} {fn:Func} {s:ChangeSpec} {c:OpenClaim} (h0:(c.wf (OpenSpec.ofChange s))=true) (h1:(laidOutB P)=true) (h2:(mapsRowed P)=true) (h3:(fn.params.all (P.readableRec ·))=true) (h4:(namedTie P c.named s.vars)=true) (h5:((c.stops == []))=true) (h6:((P.stops == []))=true) (h7:((c.knobs == []))=true) (h8:((P.stopKnobs == []))=true) (h9:((c.inPlace == P.inPlace f))=true) (h10:((c.unfollowed == P.unfollowed f))=true) (h11:((c.recurses == P.recurses f))=true) (h12:((c.named == P.varsNamed f))=true) (h13:((c.maps == (fn.params.toList++s.plain.varTypes P).any (P.mapsRec ·)))=true) (h14:((c.ifaces == (fn.params.toList++s.plain.varTypes P).any (P.ifacesRec ·)))=true) (h15:((c.mapsOut == P.mapsAmong fn.resultTypes.toList))=true) (h16:((c.loops == (fn.params.toList++s.plain.varTypes P).any (P.loopsFrom ·)))=true) (h17:((c.wideKeys == (fn.params.toList++s.plain.varTypes P++fn.resultTypes.toList).any (P.wideKeysFrom ·)))=true) (h18:(s.vars.all (P.varReadable ·))=true) (h19:(fn.resultTypes.all (fun t=>P.readableRec t && decide (t < P.types.size)))=true) (h20:((c.ifacesOut == fn.resultTypes.toList.any (P.ifacesRec ·)))=true) (h21:((c.loopsOut == fn.resultTypes.toList.any (P.loopsFrom ·)))=true) (h22:((c.plainKeys == P.plainKeys))=true) (h23:(c.shortTexts.isNone)=true) (h24:(P.stopsHeard)=true) (h25:(P.mayEnter)=true) (h26:((c.lifted == P.liftsFinal))=true) (h27:((P.make == some c.make))=true) (hd:c.domain.isEmpty=true) (hk:c.kinds=[]) (h29:((c.pinned == c.pinnedBy))=true) (h30:((c.veiled == (fn.params.toList++s.plain.varTypes P++fn.resultTypes.toList).any (P.veiledRec ·)))=true) (h31:(c.veiledFits P fn.params.toList (fn.params.toList++s.plain.varTypes P++fn.resultTypes.toList))=true):joinedFacts P f fn s c=true:=by
 unfold joinedFacts
 rw [h0,h1,h2,h3,h4,h5,h6,h7,h8,h9,h10,h11,h12,h13,h14,h15,h16,h17,h18,h19,h20,h21,h22,h23,h24,h25,h26,h27,if_pos hd,hk,h29,h30,h31]
 rfl
theorem c0:(Rows.inapplyMessagesRow.wf (OpenSpec.ofChange Rows.inapplyMessagesSpec))=true:=by kernel_rfl
theorem c2:(mapsRowed Tryz.prog)=true:=by kernel_rfl
theorem c3:(Tryz.f11.params.all (Tryz.prog.readableRec ·))=true:=by kernel_rfl
theorem c4:(namedTie Tryz.prog Rows.inapplyMessagesRow.named Rows.inapplyMessagesSpec.vars)=true:=by kernel_rfl
theorem c5:((Rows.inapplyMessagesRow.stops == []))=true:=by kernel_rfl
theorem c6:((Tryz.prog.stops == []))=true:=by kernel_rfl
theorem c7:((Rows.inapplyMessagesRow.knobs == []))=true:=by kernel_rfl
theorem c8:((Tryz.prog.stopKnobs == []))=true:=by kernel_rfl
theorem c9:((Rows.inapplyMessagesRow.inPlace == Tryz.prog.inPlace 11))=true:=by kernel_rfl
theorem c10:((Rows.inapplyMessagesRow.unfollowed == Tryz.prog.unfollowed 11))=true:=by kernel_rfl
theorem Jz:((Rows.inapplyMessagesRow.recurses == Tryz.prog.recurses 11))=true:=by kernel_rfl
theorem G9:((Rows.inapplyMessagesRow.named == Tryz.prog.varsNamed 11))=true:=by kernel_rfl
theorem c13:((Rows.inapplyMessagesRow.maps == (Tryz.f11.params.toList++Rows.inapplyMessagesSpec.plain.varTypes Tryz.prog).any (Tryz.prog.mapsRec ·)))=true:=by kernel_rfl
theorem c14:((Rows.inapplyMessagesRow.ifaces == (Tryz.f11.params.toList++Rows.inapplyMessagesSpec.plain.varTypes Tryz.prog).any (Tryz.prog.ifacesRec ·)))=true:=by kernel_rfl
theorem c15:((Rows.inapplyMessagesRow.mapsOut == Tryz.prog.mapsAmong Tryz.f11.resultTypes.toList))=true:=by kernel_rfl
theorem c16:((Rows.inapplyMessagesRow.loops == (Tryz.f11.params.toList++Rows.inapplyMessagesSpec.plain.varTypes Tryz.prog).any (Tryz.prog.loopsFrom ·)))=true:=by kernel_rfl
theorem c17:((Rows.inapplyMessagesRow.wideKeys == (Tryz.f11.params.toList++Rows.inapplyMessagesSpec.plain.varTypes Tryz.prog++Tryz.f11.resultTypes.toList).any (Tryz.prog.wideKeysFrom ·)))=true:=by kernel_rfl
theorem c18:(Rows.inapplyMessagesSpec.vars.all (Tryz.prog.varReadable ·))=true:=by kernel_rfl
theorem c19:(Tryz.f11.resultTypes.all (fun t=>Tryz.prog.readableRec t && decide (t < Tryz.prog.types.size)))=true:=by kernel_rfl
theorem c20:((Rows.inapplyMessagesRow.ifacesOut == Tryz.f11.resultTypes.toList.any (Tryz.prog.ifacesRec ·)))=true:=by kernel_rfl
theorem c21:((Rows.inapplyMessagesRow.loopsOut == Tryz.f11.resultTypes.toList.any (Tryz.prog.loopsFrom ·)))=true:=by kernel_rfl
theorem c22:((Rows.inapplyMessagesRow.plainKeys == Tryz.prog.plainKeys))=true:=by kernel_rfl
theorem c23:(Rows.inapplyMessagesRow.shortTexts.isNone)=true:=by kernel_rfl
theorem c24:(Tryz.prog.stopsHeard)=true:=by kernel_rfl
theorem c25:(Tryz.prog.mayEnter)=true:=by kernel_rfl
theorem c26:((Rows.inapplyMessagesRow.lifted == Tryz.prog.liftsFinal))=true:=by kernel_rfl
theorem c27:((Tryz.prog.make == some Rows.inapplyMessagesRow.make))=true:=by kernel_rfl
theorem c29:((Rows.inapplyMessagesRow.pinned == Rows.inapplyMessagesRow.pinnedBy))=true:=by kernel_rfl
theorem c30:((Rows.inapplyMessagesRow.veiled == (Tryz.f11.params.toList++Rows.inapplyMessagesSpec.plain.varTypes Tryz.prog++Tryz.f11.resultTypes.toList).any (Tryz.prog.veiledRec ·)))=true:=by kernel_rfl
theorem c31:(Rows.inapplyMessagesRow.veiledFits Tryz.prog Tryz.f11.params.toList (Tryz.f11.params.toList++Rows.inapplyMessagesSpec.plain.varTypes Tryz.prog++Tryz.f11.resultTypes.toList))=true:=by kernel_rfl
theorem named:Tryz.prog.funcNamed Rows.inapplyMessagesRow.func=some 11:=by kernel_rfl
theorem Yjg:joinedFacts Tryz.prog 11 Tryz.f11 Rows.inapplyMessagesSpec Rows.inapplyMessagesRow=true:=Yax (P:=Tryz.prog) (f:=11) (fn:=Tryz.f11) (s:=Rows.inapplyMessagesSpec) (c:=Rows.inapplyMessagesRow) c0 Zul c2 c3 c4 c5 c6 c7 c8 c9 c10 Jz G9 c13 c14 c15 c16 c17 c18 c19 c20 c21 c22 c23 c24 c25 c26 c27 rfl rfl c29 c30 c31
theorem proved:Rows.InapplyMessagesSaid :=
 OpenClaim.holds_of_wide 11 Tryz.f11 rfl rfl rfl rfl rfl rfl rfl ⟨rfl,rfl,rfl,rfl,rfl⟩ rfl rfl rfl rfl rfl named Tryz.func11 Yjg
  (of_decide_eq_true (by kernel_rfl)) (by unfold Func.isWrapper;first | (rw [if_pos (by decide +kernel)];kernel_rfl) | (rw [if_neg (by decide +kernel)];exact ⟨rfl,rfl⟩))
  (fun os started H enc _=>lifted os started H enc)
end Go.Proofs.YtmlcnhambfkjaaaGreat.inapplyMessages
