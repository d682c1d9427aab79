/- Called with any arguments, the law FocusLeaves returns true and leaves them as they were; no other condition. -/
import Derived.Test.YtfjkcekfifobpaaRows
import Derived.Test.YtfjkcekfifobpaaFM10
import Derived.Test.YtfjkcekfifobpaaFP7
import Derived.Test.YtfjkcekfifobpaaH8
import Derived.WalkKit
import Derived.ProofKit
import Derived.OpenShut
import Derived.ShutString
import Derived.ChangeOld
import Derived.Below
import Derived.SizedLaws
namespace Go.Proofs.Ytfjkcekfifobpaa.focusLeaves
open Go.ChangeShapes Go.WideShapes Go.ChangeAt Go.RowKit
open Go.ChangeMaps (open_string shut_string)
set_option linter.unusedVariables false
set_option linter.unusedSimpArgs false
theorem op3:Zd0 Try.prog 3 (eI .i64) (fun x=>(Lit.int .i64 x).wf=true):=Qy Try.underlying3
theorem Ylv:Zd0 Try.prog 73 (eI .u64) (fun x=>(Lit.int .u64 x).wf=true):=Qy Try.underlying73
theorem Yi1:Zd0 Try.prog 73 (eI .u64) (fun x:Int=>(Lit.int .u64 x).wf=true):=(Qy Try.underlying73)
theorem Yki:Zd0 Try.prog 22 (eL (eI .u64)) (fun xs:(List Int)=>xs.length * 8≤140737488351232∧∀ x∈xs,(fun x:Int=>(Lit.int .u64 x).wf=true) x):=by
 have h:=Zpl (P:=Try.prog) (t:=22) (sz:=1) Try.underlying22 (by kernel_rfl) (by decide) (fun _=>rfl) Yi1
 have hb:Try.prog.bytesOf 73=8:=by kernel_rfl
 rw [hb] at h
 exact h
inductive Qo:Zb→Prop
 | mk (x:Zb) (h0:(fun x:Int=>(Lit.int .i64 x).wf=true) x.Kind) (h1:(fun xs:(List Int)=>xs.length * 8≤140737488351232∧∀ x∈xs,(fun x:Int=>(Lit.int .u64 x).wf=true) x) x.Words) (h2a:x.Kids.length * 56≤140737488351232) (h2b:∀ y∈x.Kids,Qo y):Qo x
theorem Yd8 (n:Nat) (he:∀ m,m < n→Ul Try.prog 25 Za Qo m):Ul Try.prog 23 (eL Za) (fun xs:(List Zb)=>xs.length * 56≤140737488351232∧∀ x∈xs,Qo x) n:=by
 have h:=Zls (P:=Try.prog) (t:=23) (sz:=3) n Try.underlying23 (by kernel_rfl) (by decide) (fun _=>rfl) he
 have hb:Try.prog.bytesOf 25=56:=by kernel_rfl
 rw [hb] at h
 exact h
theorem Yi3 (n:Nat):(Ul Try.prog 25 Za Qo n):=by
 induction n using Nat.strongRecOn with
 | ind n ih =>
  cases n with
  | zero=>exact Zfi
  | succ n =>
   have i24:∀ q,q < n→Ul Try.prog 25 Za Qo q:=fun q hq=>(ih q (by omega))
   have j24:Ul Try.prog 25 Za Qo n:=(ih n (by omega))
   have h:=Zgi (P:=Try.prog) (t:=25) (g:=Za) (fun p=>(⟨p.1,p.2.1,p.2.2.1⟩:Zb)) Try.underlying25 (by kernel_rfl) (Y3 (k:=1) rfl (by kernel_rfl) ((Qy Try.underlying3) _) (Y3 (k:=1) rfl (by kernel_rfl) (Yki _) (Y3 (k:=1) rfl (by kernel_rfl) (Yd8 n i24) Zdn))) (fun x=>by simp only [Za,Yr,eI,eB,eS,eL,List.cons_append,List.nil_append,List.append_nil,List.append_assoc])
   intro H enc W base spare held cs d ps h1 h2
   obtain ⟨x,⟨y,rfl,hy⟩,hr⟩:=h H enc W base spare held cs d ps h1 h2
   obtain ⟨y0,y1,y2,u⟩:=y
   obtain ⟨a0,a1,⟨a2a,a2b⟩,_⟩:=hy
   exact ⟨_,Qo.mk ⟨y0,y1,y2⟩ a0 a1 a2a a2b,hr⟩
theorem Z93:Zd0 Try.prog 25 Za Qo:=fun n=>(Yi3 n)
theorem Ykj:Zd0 Try.prog 23 (eL Za) (fun xs:(List Zb)=>xs.length * 56≤140737488351232∧∀ x∈xs,Qo x):=fun n=>Yd8 n (fun m _=>Z93 m)
def Zeo (x:Zx):Prop:=(fun x:Int=>(Lit.int .i64 x).wf=true) x.Kind∧(fun x:Int=>(Lit.int .i64 x).wf=true) x.At
theorem Ylu:Zd0 Try.prog 53 Zr Zeo:=by
 have h:=Zjs (P:=Try.prog) (t:=53) (g:=Zr) (fun p=>(⟨p.1,p.2.1⟩:Zx)) Try.underlying53 (by kernel_rfl) (fun n=>(Y3 (k:=1) rfl (by kernel_rfl) ((Qy Try.underlying3) _) (Y3 (k:=1) rfl (by kernel_rfl) ((Qy Try.underlying3) _) Zdn))) (fun x=>rfl)
 intro n H enc W base spare held cs d ps h1 h2
 obtain ⟨x,⟨y,rfl,hy⟩,hr⟩:=h n H enc W base spare held cs d ps h1 h2
 exact ⟨_,by unfold Zeo;simp only;exact ⟨hy.1,hy.2.1⟩,hr⟩
theorem Yi5:Zd0 Try.prog 54 Zr Zeo:=by
 have h:=Zjs (P:=Try.prog) (t:=54) (g:=Zr) (fun p=>(⟨p.1,p.2.1⟩:Zx)) Try.underlying54 (by kernel_rfl) (fun n=>(Y3 (k:=1) rfl (by kernel_rfl) ((Qy Try.underlying3) _) (Y3 (k:=1) rfl (by kernel_rfl) ((Qy Try.underlying3) _) Zdn))) (fun x=>rfl)
 intro n H enc W base spare held cs d ps h1 h2
 obtain ⟨x,⟨y,rfl,hy⟩,hr⟩:=h n H enc W base spare held cs d ps h1 h2
 exact ⟨_,by unfold Zeo;simp only;exact ⟨hy.1,hy.2.1⟩,hr⟩
theorem Yi0:Zd0 Try.prog 54 Zr Zeo:=Yi5
theorem Yiz:Zd0 Try.prog 43 (eL Zr) (fun xs:(List Zx)=>xs.length * 16≤140737488351232∧∀ x∈xs,Zeo x):=by
 have h:=Zpl (P:=Try.prog) (t:=43) (sz:=2) Try.underlying43 (by kernel_rfl) (by decide) (fun _=>rfl) Yi0
 have hb:Try.prog.bytesOf 54=16:=by kernel_rfl
 rw [hb] at h
 exact h
theorem op5:Zd0 Try.prog 5 (eI .u8) (fun x=>(Lit.int .u8 x).wf=true):=Qy Try.underlying5
def J6 (x:Zt):Prop:=(fun x:Int=>(Lit.int .i64 x).wf=true) x.At∧(fun x:Int=>(Lit.int .u8 x).wf=true) x.Mask∧(fun x:Int=>(Lit.int .u64 x).wf=true) x.Old∧(fun x:Int=>(Lit.int .u64 x).wf=true) x.New
theorem Ylw:Zd0 Try.prog 81 Zl J6:=by
 have h:=Zjs (P:=Try.prog) (t:=81) (g:=Zl) (fun p=>(⟨p.1,p.2.1,p.2.2.1,p.2.2.2.1⟩:Zt)) Try.underlying81 (by kernel_rfl) (fun n=>(Y3 (k:=1) rfl (by kernel_rfl) ((Qy Try.underlying3) _) (Y3 (k:=1) rfl (by kernel_rfl) ((Qy Try.underlying5) _) (Y3 (k:=1) rfl (by kernel_rfl) ((Qy Try.underlying73) _) (Y3 (k:=1) rfl (by kernel_rfl) ((Qy Try.underlying73) _) Zdn))))) (fun x=>rfl)
 intro n H enc W base spare held cs d ps h1 h2
 obtain ⟨x,⟨y,rfl,hy⟩,hr⟩:=h n H enc W base spare held cs d ps h1 h2
 exact ⟨_,by unfold J6;simp only;exact ⟨hy.1,hy.2.1,hy.2.2.1,hy.2.2.2.1⟩,hr⟩
theorem Yi7:Zd0 Try.prog 82 Zl J6:=by
 have h:=Zjs (P:=Try.prog) (t:=82) (g:=Zl) (fun p=>(⟨p.1,p.2.1,p.2.2.1,p.2.2.2.1⟩:Zt)) Try.underlying82 (by kernel_rfl) (fun n=>(Y3 (k:=1) rfl (by kernel_rfl) ((Qy Try.underlying3) _) (Y3 (k:=1) rfl (by kernel_rfl) ((Qy Try.underlying5) _) (Y3 (k:=1) rfl (by kernel_rfl) ((Qy Try.underlying73) _) (Y3 (k:=1) rfl (by kernel_rfl) ((Qy Try.underlying73) _) Zdn))))) (fun x=>rfl)
 intro n H enc W base spare held cs d ps h1 h2
 obtain ⟨x,⟨y,rfl,hy⟩,hr⟩:=h n H enc W base spare held cs d ps h1 h2
 exact ⟨_,by unfold J6;simp only;exact ⟨hy.1,hy.2.1,hy.2.2.1,hy.2.2.2.1⟩,hr⟩
theorem Yi2:Zd0 Try.prog 82 Zl J6:=Yi7
theorem Ykk:Zd0 Try.prog 26 (eL Zl) (fun xs:(List Zt)=>xs.length * 32≤140737488351232∧∀ x∈xs,J6 x):=by
 have h:=Zpl (P:=Try.prog) (t:=26) (sz:=4) Try.underlying26 (by kernel_rfl) (by decide) (fun _=>rfl) Yi2
 have hb:Try.prog.bytesOf 82=32:=by kernel_rfl
 rw [hb] at h
 exact h
mutual
inductive K7:Zc→Prop
 | mk (x:Zc) (h0:(fun x:Int=>(Lit.int .i64 x).wf=true) x.Kind) (h1:Qo x.Old) (h2:Qo x.New) (h3:(fun xs:(List Zt)=>xs.length * 32≤140737488351232∧∀ x∈xs,J6 x) x.Words) (h4a:x.Kids.length * 208≤140737488351232) (h4b:∀ y∈x.Kids,Q3 y) (h5:(fun x:Int=>(Lit.int .i64 x).wf=true) x.List_) (h6a:x.Ops.length * 240≤140737488351232) (h6b:∀ y∈x.Ops,G4 y):K7 x
inductive G4:Zh→Prop
 | mk (x:Zh) (h0:(fun x:Int=>(Lit.int .i64 x).wf=true) x.Kind) (h1:(fun x:Int=>(Lit.int .i64 x).wf=true) x.N) (h2:(fun xs:(List Zb)=>xs.length * 56≤140737488351232∧∀ x∈xs,Qo x) x.L) (h3:K7 x.E):G4 x
inductive Q3:Zk→Prop
 | mk (x:Zk) (h0:(fun x:Int=>(Lit.int .i64 x).wf=true) x.At) (h1:K7 x.E):Q3 x
end
theorem Yd9 (n:Nat) (he:∀ m,m < n→Ul Try.prog 84 Zi Q3 m):Ul Try.prog 27 (eL Zi) (fun xs:(List Zk)=>xs.length * 208≤140737488351232∧∀ x∈xs,Q3 x) n:=by
 have h:=Zls (P:=Try.prog) (t:=27) (sz:=12) n Try.underlying27 (by kernel_rfl) (by decide) (fun _=>rfl) he
 have hb:Try.prog.bytesOf 84=208:=by kernel_rfl
 rw [hb] at h
 exact h
theorem Yea (n:Nat) (he:∀ m,m < n→Ul Try.prog 75 Zd G4 m):Ul Try.prog 28 (eL Zd) (fun xs:(List Zh)=>xs.length * 240≤140737488351232∧∀ x∈xs,G4 x) n:=by
 have h:=Zls (P:=Try.prog) (t:=28) (sz:=14) n Try.underlying28 (by kernel_rfl) (by decide) (fun _=>rfl) he
 have hb:Try.prog.bytesOf 75=240:=by kernel_rfl
 rw [hb] at h
 exact h
theorem Yd5 (n:Nat):(Ul Try.prog 30 Qh K7 n∧Ul Try.prog 75 Zd G4 n∧Ul Try.prog 84 Zi Q3 n):=by
 induction n using Nat.strongRecOn with
 | ind n ih =>
  cases n with
  | zero=>exact ⟨Zfi,Zfi,Zfi⟩
  | succ n =>
   have i29:∀ q,q < n→Ul Try.prog 30 Qh K7 q:=fun q hq=>(ih q (by omega)).1
   have j29:Ul Try.prog 30 Qh K7 n:=(ih n (by omega)).1
   have i74:∀ q,q < n→Ul Try.prog 75 Zd G4 q:=fun q hq=>(ih q (by omega)).2.1
   have j74:Ul Try.prog 75 Zd G4 n:=(ih n (by omega)).2.1
   have i83:∀ q,q < n→Ul Try.prog 84 Zi Q3 q:=fun q hq=>(ih q (by omega)).2.2
   have j83:Ul Try.prog 84 Zi Q3 n:=(ih n (by omega)).2.2
   refine ⟨?_,?_,?_⟩
   ·have h:=Zgi (P:=Try.prog) (t:=30) (g:=Qh) (fun p=>(⟨p.1,p.2.1,p.2.2.1,p.2.2.2.1,p.2.2.2.2.1,p.2.2.2.2.2.1,p.2.2.2.2.2.2.1⟩:Zc)) Try.underlying30 (by kernel_rfl) (Y3 (k:=1) rfl (by kernel_rfl) ((Qy Try.underlying3) _) (Y3 (k:=3) rfl (by kernel_rfl) (Z93 _) (Y3 (k:=3) rfl (by kernel_rfl) (Z93 _) (Y3 (k:=1) rfl (by kernel_rfl) (Ykk _) (Y3 (k:=1) rfl (by kernel_rfl) (Yd9 n i83) (Y3 (k:=1) rfl (by kernel_rfl) ((Qy Try.underlying3) _) (Y3 (k:=1) rfl (by kernel_rfl) (Yea n i74) Zdn))))))) (fun x=>by simp only [Qh,Xn,Za,Yr,Zl,Zi,Y4,Zd,Xv,eI,eB,eS,eL,List.cons_append,List.nil_append,List.append_nil,List.append_assoc])
    intro H enc W base spare held cs d ps h1 h2
    obtain ⟨x,⟨y,rfl,hy⟩,hr⟩:=h H enc W base spare held cs d ps h1 h2
    obtain ⟨y0,y1,y2,y3,y4,y5,y6,u⟩:=y
    obtain ⟨a0,a1,a2,a3,⟨a4a,a4b⟩,a5,⟨a6a,a6b⟩,_⟩:=hy
    exact ⟨_,K7.mk ⟨y0,y1,y2,y3,y4,y5,y6⟩ a0 a1 a2 a3 a4a a4b a5 a6a a6b,hr⟩
   ·have h:=Zgi (P:=Try.prog) (t:=75) (g:=Zd) (fun p=>(⟨p.1,p.2.1,p.2.2.1,p.2.2.2.1⟩:Zh)) Try.underlying75 (by kernel_rfl) (Y3 (k:=1) rfl (by kernel_rfl) ((Qy Try.underlying3) _) (Y3 (k:=1) rfl (by kernel_rfl) ((Qy Try.underlying3) _) (Y3 (k:=1) rfl (by kernel_rfl) (Ykj _) (Y3 (k:=11) rfl (by kernel_rfl) j29 Zdn)))) (fun x=>by simp only [Zd,Xv,Za,Yr,Qh,Xn,Zl,Zi,Y4,eI,eB,eS,eL,List.cons_append,List.nil_append,List.append_nil,List.append_assoc])
    intro H enc W base spare held cs d ps h1 h2
    obtain ⟨x,⟨y,rfl,hy⟩,hr⟩:=h H enc W base spare held cs d ps h1 h2
    obtain ⟨y0,y1,y2,y3,u⟩:=y
    obtain ⟨a0,a1,a2,a3,_⟩:=hy
    exact ⟨_,G4.mk ⟨y0,y1,y2,y3⟩ a0 a1 a2 a3,hr⟩
   have h:=Zgi (P:=Try.prog) (t:=84) (g:=Zi) (fun p=>(⟨p.1,p.2.1⟩:Zk)) Try.underlying84 (by kernel_rfl) (Y3 (k:=1) rfl (by kernel_rfl) ((Qy Try.underlying3) _) (Y3 (k:=11) rfl (by kernel_rfl) j29 Zdn)) (fun x=>by simp only [Zi,Y4,Qh,Xn,Za,Yr,Zl,Zd,Xv,eI,eB,eS,eL,List.cons_append,List.nil_append,List.append_nil,List.append_assoc])
   intro H enc W base spare held cs d ps h1 h2
   obtain ⟨x,⟨y,rfl,hy⟩,hr⟩:=h H enc W base spare held cs d ps h1 h2
   obtain ⟨y0,y1,u⟩:=y
   obtain ⟨a0,a1,_⟩:=hy
   exact ⟨_,Q3.mk ⟨y0,y1⟩ a0 a1,hr⟩
theorem Yi4:Zd0 Try.prog 30 Qh K7:=fun n=>(Yd5 n).1
theorem Yi6:Zd0 Try.prog 75 Zd G4:=fun n=>(Yd5 n).2.1
theorem Yi8:Zd0 Try.prog 84 Zi Q3:=fun n=>(Yd5 n).2.2
theorem Yls:Zd0 Try.prog 27 (eL Zi) (fun xs:(List Zk)=>xs.length * 208≤140737488351232∧∀ x∈xs,Q3 x):=fun n=>Yd9 n (fun m _=>Yi8 m)
theorem Ylt:Zd0 Try.prog 28 (eL Zd) (fun xs:(List Zh)=>xs.length * 240≤140737488351232∧∀ x∈xs,G4 x):=fun n=>Yea n (fun m _=>Yi6 m)
theorem Ybb (t:Zb) (h:Qo t):Bd t:=by
 induction h with
 | mk x h0 h1 h2a h2b ih =>
  refine .mk _ (by have:=h1.1;omega) (by omega) (fun w hw => ?_) ih
  have:=h1.2 w hw
  simp [Lit.wf,IntKind.min,IntKind.max,IntKind.signed,IntKind.bits] at this
  omega
theorem Yg0 {w:Zt} (h:J6 w):(0≤w.Mask∧w.Mask < 256)∧(0≤w.Old∧w.Old < 18446744073709551616)∧(0≤w.New∧w.New < 18446744073709551616):=by
 obtain ⟨_,h1,h2,h3⟩:=h
 simp [Lit.wf,IntKind.min,IntKind.max,IntKind.signed,IntKind.bits] at h1 h2 h3
 omega
theorem Yj9 (e:Zc) (h:K7 e):BE e :=
 K7.rec (motive_1:=fun e _=>BE e) (motive_2:=fun o _=>BO o) (motive_3:=fun k _=>BE k.E)
  (fun x h0 h1 h2 h3 h4a h4b h5 h6a h6b i4 i6 => .mk _ (Ybb _ h1) (Ybb _ h2) (by have:=h3.1;omega) (fun w hw=>Yg0 (h3.2 w hw)) (by omega) i4 (by omega) (fun o ho=>(i6 o ho).1) (fun o ho=>(i6 o ho).2))
  (fun x h0 h1 h2 h3 i3=>⟨⟨by have:=h2.1;omega,fun t ht=>Ybb t (h2.2 t ht)⟩,i3⟩)
  (fun x h0 h1 i1=>i1) h
theorem own:ownKnob Try.prog.godebug=none:=by kernel_rfl
theorem Zxc:laidOutB Try.prog=true:=by kernel_rfl
set_option maxRecDepth 100000 in
theorem lifted (os:Os) (started:os.Started) (H:Type) (enc:TypeId×Value→H) :
  ReturnsInHanded {} Try.checked os 8 .any (Rows.focusLeavesSpec.pre6 enc Try.prog Try.f8 Rows.focusLeavesRow.domain false) (Rows.focusLeavesSpec.post enc Try.prog Try.f8 false true false false):=by
 refine returnsInHanded_of_change_sized (C:=Try.checked) own started (by kernel_rfl) Try.func8
  (ChangeSpec.witness6 (enc:=enc) (C:=Try.checked) false ⟨#[],#[.agg #[.int .i64 0,.slice none 0 0,.slice none 0 0],.slice none 0 0,.agg #[.int .i64 0,.int .i64 0,.slice none 0 0,.slice none 0 0,.int .i64 0,.slice none 0 0,.slice none 0 0,.slice none 0 0,.slice none 0 0,.int .i64 0,.slice none 0 0],.slice none 0 0],[]⟩ 12 (by kernel_rfl) (by kernel_rfl) (by kernel_rfl) (by kernel_rfl)) ?_
 intro W base args ds gs before hval0 hW hcnd hsz0 _
 have hval:∀ (j:Nat) t v,Try.f8.params[j]? = some t→args[j]? = some v→Value.okWide Try.prog W .any base t v:=hval0
 have hW':=hW
 obtain ⟨p,q,hA0,hV,rfl,hfz,hnd⟩:=hW
 have hA:DataW.TrodAll enc Try.prog W 0 (fun _=>true) true Try.f8.params.toList args.toList ds p:=hA0
 rw [Try.params8] at hA hval
 obtain ⟨v0,vs0,d0,ds0,p0,q0,hargs,rfl,rfl,h0,r0⟩:=trodAll_cons hA
 obtain ⟨v1,vs1,d1,ds1,p1,q1,rfl,rfl,rfl,h1,r1⟩:=trodAll_cons r0
 obtain ⟨v2,vs2,d2,ds2,p2,q2,rfl,rfl,rfl,h2,r2⟩:=trodAll_cons r1
 obtain ⟨v3,vs3,d3,ds3,p3,q3,rfl,rfl,rfl,h3,r3⟩:=trodAll_cons r2
 obtain ⟨rfl,rfl,rfl⟩:=trodAll_nil r3
 obtain rfl:args=#[v0,v1,v2,v3]:=by cases args;simp_all
 obtain ⟨rfl,rfl⟩:=trodVars_none hV
 clear hA0 hval0
 have hsz:(DataW.weightsEach Try.prog (Try.f8.params.toList++Rows.focusLeavesSpec.plain.varTypes Try.prog) _).all (·≤reachBytes)=true:=hsz0
 clear hsz0
 rw [Try.params8] at hsz
 have lt0:∀ x∈p0,x.block < W.heap.size:=by obtain ⟨m,hm⟩:=h0;exact DataW.trod_lt m _ _ _ hm
 obtain ⟨x0,w0,e0⟩:=Ztj Z93 h0 (Zp1 hsz (j:=0) rfl rfl)
 have g0:=Z87 (Zze Try.underlying25 (hval 0 25 v0 rfl rfl)) e0
 simp only [Za,Yr] at g0
 have lt1:∀ x∈p1,x.block < W.heap.size:=by obtain ⟨m,hm⟩:=h1;exact DataW.trod_lt m _ _ _ hm
 obtain ⟨x1,w1,e1⟩:=Ztj Yiz h1 (Zp1 hsz (j:=1) rfl rfl)
 have g1:=Z88 (Z2q Try.underlying43 (hval 1 43 v1 rfl rfl)) e1
 have lt2:∀ x∈p2,x.block < W.heap.size:=by obtain ⟨m,hm⟩:=h2;exact DataW.trod_lt m _ _ _ hm
 obtain ⟨x2,w2,e2⟩:=Ztj Yi4 h2 (Zp1 hsz (j:=2) rfl rfl)
 have g2:=Z87 (Zze Try.underlying30 (hval 2 30 v2 rfl rfl)) e2
 simp only [Qh,Xn,Za,Yr,Zl,Zi,Y4,Zd,Xv] at g2
 have lt3:∀ x∈p3,x.block < W.heap.size:=by obtain ⟨m,hm⟩:=h3;exact DataW.trod_lt m _ _ _ hm
 obtain ⟨x3,w3,e3⟩:=Ztj Yiz h3 (Zp1 hsz (j:=3) rfl rfl)
 have g3:=Z88 (Z2q Try.underlying43 (hval 3 43 v3 rfl rfl)) e3
 refine (Yhz (Zkr ((fun x wx l wl e we o wo=>Z1o (Yj9 e we) (Ybb x wx)) x0 w0 x1 w1 x2 w2 x3 w3)).pure (vs:=[v0,v1,v2,v3]) ⟨_,_,rfl,g0,⟨_,_,rfl,g1,⟨_,_,rfl,g2,⟨_,_,rfl,g3,rfl⟩⟩⟩⟩).mono fun e W' ⟨he,bel⟩ => ?_
 subst he
 exact ⟨_,rfl,_,_,_,[],_,[],hW',trodAll_mk1 (shut_bool Try.underlying4 _),(trodAll_cons_mk (Below.trod Zxc (by kernel_rfl) (of_decide_eq_true (by kernel_rfl)) h0 bel lt0) (trodAll_cons_mk (Below.trod Zxc (by kernel_rfl) (of_decide_eq_true (by kernel_rfl)) h1 bel lt1) (trodAll_cons_mk (Below.trod Zxc (by kernel_rfl) (of_decide_eq_true (by kernel_rfl)) h2 bel lt2) (trodAll_cons_mk (Below.trod Zxc (by kernel_rfl) (of_decide_eq_true (by kernel_rfl)) h3 bel lt3) trodAll_mk0)))),rfl,bel.frame _,fun h=>by cases h⟩
theorem proved:Rows.FocusLeavesSaid :=
 OpenClaim.holds_of_wide 8 Try.f8 rfl rfl rfl rfl rfl rfl rfl ⟨rfl,rfl,rfl,rfl,rfl⟩ rfl rfl rfl rfl rfl (by kernel_rfl) Try.func8 (by kernel_rfl)
  (of_decide_eq_true (by kernel_rfl)) (by unfold Func.isWrapper;first | (rw [if_pos (by decide +kernel)];kernel_rfl) | (rw [if_neg (by decide +kernel)];exact ⟨rfl,rfl⟩))
  (fun os started H enc _=>lifted os started H enc)
end Go.Proofs.Ytfjkcekfifobpaa.focusLeaves
