/- Called with any arguments, the law PatchTrees returns true and leaves them as they were; no other condition. -/
import Derived.Test.YtmlcnhambfkjaaaGreatRows
import Derived.Test.YtmlcnhambfkjaaaGreatAM9
import Derived.Test.YtmlcnhambfkjaaaGreatAP2
import Derived.Test.YtmlcnhambfkjaaaGreatH8
import Derived.WalkKit
import Derived.ProofKit
import Derived.OpenShut
import Derived.ShutString
import Derived.ChangeOld
import Derived.Below
import Derived.SizedLaws
namespace Go.Proofs.YtmlcnhambfkjaaaGreat.patchTrees
open Go.ChangeShapes Go.WideShapes Go.ChangeAt Go.RowKit
open Go.ChangeMaps (open_string shut_string)
set_option linter.unusedVariables false
set_option linter.unusedSimpArgs false
theorem op3:Zhc Tryz.prog 3 (eI .i64) (fun x=>(Lit.int .i64 x).wf=true):=Kq Tryz.underlying3
theorem Yov:Zhc Tryz.prog 77 (eI .u64) (fun x=>(Lit.int .u64 x).wf=true):=Kq Tryz.underlying77
theorem Yjm:Zhc Tryz.prog 77 (eI .u64) (fun x:Int=>(Lit.int .u64 x).wf=true):=(Kq Tryz.underlying77)
theorem Ynh:Zhc Tryz.prog 22 (eL (eI .u64)) (fun xs:(List Int)=>xs.length * 8≤140737488351232∧∀ x∈xs,(fun x:Int=>(Lit.int .u64 x).wf=true) x):=by
 have h:=Z1g (P:=Tryz.prog) (t:=22) (sz:=1) Tryz.underlying22 (by kernel_rfl) (by decide) (fun _=>rfl) Yjm
 have hb:Tryz.prog.bytesOf 77=8:=by kernel_rfl
 rw [hb] at h
 exact h
inductive Q6:Za→Prop
 | mk (x:Za) (h0:(fun x:Int=>(Lit.int .i64 x).wf=true) x.Kind) (h1:(fun xs:(List Int)=>xs.length * 8≤140737488351232∧∀ x∈xs,(fun x:Int=>(Lit.int .u64 x).wf=true) x) x.Words) (h2a:x.Kids.length * 56≤140737488351232) (h2b:∀ y∈x.Kids,Q6 y):Q6 x
theorem Ye9 (n:Nat) (he:∀ m,m < n→Gh Tryz.prog 25 Zb Q6 m):Gh Tryz.prog 23 (eL Zb) (fun xs:(List Za)=>xs.length * 56≤140737488351232∧∀ x∈xs,Q6 x) n:=by
 have h:=Zop (P:=Tryz.prog) (t:=23) (sz:=3) n Tryz.underlying23 (by kernel_rfl) (by decide) (fun _=>rfl) he
 have hb:Tryz.prog.bytesOf 25=56:=by kernel_rfl
 rw [hb] at h
 exact h
theorem Yjo (n:Nat):(Gh Tryz.prog 25 Zb Q6 n):=by
 induction n using Nat.strongRecOn with
 | ind n ih =>
  cases n with
  | zero=>exact Zgh
  | succ n =>
   have i24:∀ q,q < n→Gh Tryz.prog 25 Zb Q6 q:=fun q hq=>(ih q (by omega))
   have j24:Gh Tryz.prog 25 Zb Q6 n:=(ih n (by omega))
   have h:=Zhr (P:=Tryz.prog) (t:=25) (g:=Zb) (fun p=>(⟨p.1,p.2.1,p.2.2.1⟩:Za)) Tryz.underlying25 (by kernel_rfl) (Xf (k:=1) rfl (by kernel_rfl) ((Kq Tryz.underlying3) _) (Xf (k:=1) rfl (by kernel_rfl) (Ynh _) (Xf (k:=1) rfl (by kernel_rfl) (Ye9 n i24) Zio))) (fun x=>by simp only [Zb,Y4,eI,eB,eS,eL,List.cons_append,List.nil_append,List.append_nil,List.append_assoc])
   intro H enc W base spare held cs d ps h1 h2
   obtain ⟨x,⟨y,rfl,hy⟩,hr⟩:=h H enc W base spare held cs d ps h1 h2
   obtain ⟨y0,y1,y2,u⟩:=y
   obtain ⟨a0,a1,⟨a2a,a2b⟩,_⟩:=hy
   exact ⟨_,Q6.mk ⟨y0,y1,y2⟩ a0 a1 a2a a2b,hr⟩
theorem Ye7:Zhc Tryz.prog 25 Zb Q6:=fun n=>(Yjo n)
theorem Yni:Zhc Tryz.prog 23 (eL Zb) (fun xs:(List Za)=>xs.length * 56≤140737488351232∧∀ x∈xs,Q6 x):=fun n=>Ye9 n (fun m _=>Ye7 m)
theorem op5:Zhc Tryz.prog 5 (eI .u8) (fun x=>(Lit.int .u8 x).wf=true):=Kq Tryz.underlying5
def Kl (x:Zz):Prop:=(fun x:Int=>(Lit.int .i64 x).wf=true) x.At∧(fun x:Int=>(Lit.int .u8 x).wf=true) x.Mask∧(fun x:Int=>(Lit.int .u64 x).wf=true) x.Old∧(fun x:Int=>(Lit.int .u64 x).wf=true) x.New
theorem Yow:Zhc Tryz.prog 83 Zq Kl:=by
 have h:=Zyi (P:=Tryz.prog) (t:=83) (g:=Zq) (fun p=>(⟨p.1,p.2.1,p.2.2.1,p.2.2.2.1⟩:Zz)) Tryz.underlying83 (by kernel_rfl) (fun n=>(Xf (k:=1) rfl (by kernel_rfl) ((Kq Tryz.underlying3) _) (Xf (k:=1) rfl (by kernel_rfl) ((Kq Tryz.underlying5) _) (Xf (k:=1) rfl (by kernel_rfl) ((Kq Tryz.underlying77) _) (Xf (k:=1) rfl (by kernel_rfl) ((Kq Tryz.underlying77) _) Zio))))) (fun x=>rfl)
 intro n H enc W base spare held cs d ps h1 h2
 obtain ⟨x,⟨y,rfl,hy⟩,hr⟩:=h n H enc W base spare held cs d ps h1 h2
 exact ⟨_,by unfold Kl;simp only;exact ⟨hy.1,hy.2.1,hy.2.2.1,hy.2.2.2.1⟩,hr⟩
theorem Yjq:Zhc Tryz.prog 84 Zq Kl:=by
 have h:=Zyi (P:=Tryz.prog) (t:=84) (g:=Zq) (fun p=>(⟨p.1,p.2.1,p.2.2.1,p.2.2.2.1⟩:Zz)) Tryz.underlying84 (by kernel_rfl) (fun n=>(Xf (k:=1) rfl (by kernel_rfl) ((Kq Tryz.underlying3) _) (Xf (k:=1) rfl (by kernel_rfl) ((Kq Tryz.underlying5) _) (Xf (k:=1) rfl (by kernel_rfl) ((Kq Tryz.underlying77) _) (Xf (k:=1) rfl (by kernel_rfl) ((Kq Tryz.underlying77) _) Zio))))) (fun x=>rfl)
 intro n H enc W base spare held cs d ps h1 h2
 obtain ⟨x,⟨y,rfl,hy⟩,hr⟩:=h n H enc W base spare held cs d ps h1 h2
 exact ⟨_,by unfold Kl;simp only;exact ⟨hy.1,hy.2.1,hy.2.2.1,hy.2.2.2.1⟩,hr⟩
theorem Yjn:Zhc Tryz.prog 84 Zq Kl:=Yjq
theorem Ynj:Zhc Tryz.prog 26 (eL Zq) (fun xs:(List Zz)=>xs.length * 32≤140737488351232∧∀ x∈xs,Kl x):=by
 have h:=Z1g (P:=Tryz.prog) (t:=26) (sz:=4) Tryz.underlying26 (by kernel_rfl) (by decide) (fun _=>rfl) Yjn
 have hb:Tryz.prog.bytesOf 84=32:=by kernel_rfl
 rw [hb] at h
 exact h
mutual
inductive Vs:Zf→Prop
 | mk (x:Zf) (h0:(fun x:Int=>(Lit.int .i64 x).wf=true) x.Kind) (h1:Q6 x.Old) (h2:Q6 x.New) (h3:(fun xs:(List Zz)=>xs.length * 32≤140737488351232∧∀ x∈xs,Kl x) x.Words) (h4a:x.Kids.length * 208≤140737488351232) (h4b:∀ y∈x.Kids,Jm y) (h5:(fun x:Int=>(Lit.int .i64 x).wf=true) x.List_) (h6a:x.Ops.length * 240≤140737488351232) (h6b:∀ y∈x.Ops,Zbl y):Vs x
inductive Jm:Zl→Prop
 | mk (x:Zl) (h0:(fun x:Int=>(Lit.int .i64 x).wf=true) x.At) (h1:Vs x.E):Jm x
inductive Zbl:Zt→Prop
 | mk (x:Zt) (h0:(fun x:Int=>(Lit.int .i64 x).wf=true) x.Kind) (h1:(fun x:Int=>(Lit.int .i64 x).wf=true) x.N) (h2:(fun xs:(List Za)=>xs.length * 56≤140737488351232∧∀ x∈xs,Q6 x) x.L) (h3:Vs x.E):Zbl x
end
theorem Yfa (n:Nat) (he:∀ m,m < n→Gh Tryz.prog 86 Zp Jm m):Gh Tryz.prog 27 (eL Zp) (fun xs:(List Zl)=>xs.length * 208≤140737488351232∧∀ x∈xs,Jm x) n:=by
 have h:=Zop (P:=Tryz.prog) (t:=27) (sz:=12) n Tryz.underlying27 (by kernel_rfl) (by decide) (fun _=>rfl) he
 have hb:Tryz.prog.bytesOf 86=208:=by kernel_rfl
 rw [hb] at h
 exact h
theorem Yfb (n:Nat) (he:∀ m,m < n→Gh Tryz.prog 89 Zx Zbl m):Gh Tryz.prog 28 (eL Zx) (fun xs:(List Zt)=>xs.length * 240≤140737488351232∧∀ x∈xs,Zbl x) n:=by
 have h:=Zop (P:=Tryz.prog) (t:=28) (sz:=14) n Tryz.underlying28 (by kernel_rfl) (by decide) (fun _=>rfl) he
 have hb:Tryz.prog.bytesOf 89=240:=by kernel_rfl
 rw [hb] at h
 exact h
theorem Ye4 (n:Nat):(Gh Tryz.prog 30 Qy Vs n∧Gh Tryz.prog 86 Zp Jm n∧Gh Tryz.prog 89 Zx Zbl n):=by
 induction n using Nat.strongRecOn with
 | ind n ih =>
  cases n with
  | zero=>exact ⟨Zgh,Zgh,Zgh⟩
  | succ n =>
   have i29:∀ q,q < n→Gh Tryz.prog 30 Qy Vs q:=fun q hq=>(ih q (by omega)).1
   have j29:Gh Tryz.prog 30 Qy Vs n:=(ih n (by omega)).1
   have i85:∀ q,q < n→Gh Tryz.prog 86 Zp Jm q:=fun q hq=>(ih q (by omega)).2.1
   have j85:Gh Tryz.prog 86 Zp Jm n:=(ih n (by omega)).2.1
   have i88:∀ q,q < n→Gh Tryz.prog 89 Zx Zbl q:=fun q hq=>(ih q (by omega)).2.2
   have j88:Gh Tryz.prog 89 Zx Zbl n:=(ih n (by omega)).2.2
   refine ⟨?_,?_,?_⟩
   ·have h:=Zhr (P:=Tryz.prog) (t:=30) (g:=Qy) (fun p=>(⟨p.1,p.2.1,p.2.2.1,p.2.2.2.1,p.2.2.2.2.1,p.2.2.2.2.2.1,p.2.2.2.2.2.2.1⟩:Zf)) Tryz.underlying30 (by kernel_rfl) (Xf (k:=1) rfl (by kernel_rfl) ((Kq Tryz.underlying3) _) (Xf (k:=3) rfl (by kernel_rfl) (Ye7 _) (Xf (k:=3) rfl (by kernel_rfl) (Ye7 _) (Xf (k:=1) rfl (by kernel_rfl) (Ynj _) (Xf (k:=1) rfl (by kernel_rfl) (Yfa n i85) (Xf (k:=1) rfl (by kernel_rfl) ((Kq Tryz.underlying3) _) (Xf (k:=1) rfl (by kernel_rfl) (Yfb n i88) Zio))))))) (fun x=>by simp only [Qy,Xh,Zb,Y4,Zq,Zp,Y6,Zx,Xv,eI,eB,eS,eL,List.cons_append,List.nil_append,List.append_nil,List.append_assoc])
    intro H enc W base spare held cs d ps h1 h2
    obtain ⟨x,⟨y,rfl,hy⟩,hr⟩:=h H enc W base spare held cs d ps h1 h2
    obtain ⟨y0,y1,y2,y3,y4,y5,y6,u⟩:=y
    obtain ⟨a0,a1,a2,a3,⟨a4a,a4b⟩,a5,⟨a6a,a6b⟩,_⟩:=hy
    exact ⟨_,Vs.mk ⟨y0,y1,y2,y3,y4,y5,y6⟩ a0 a1 a2 a3 a4a a4b a5 a6a a6b,hr⟩
   ·have h:=Zhr (P:=Tryz.prog) (t:=86) (g:=Zp) (fun p=>(⟨p.1,p.2.1⟩:Zl)) Tryz.underlying86 (by kernel_rfl) (Xf (k:=1) rfl (by kernel_rfl) ((Kq Tryz.underlying3) _) (Xf (k:=11) rfl (by kernel_rfl) j29 Zio)) (fun x=>by simp only [Zp,Y6,Qy,Xh,Zb,Y4,Zq,Zx,Xv,eI,eB,eS,eL,List.cons_append,List.nil_append,List.append_nil,List.append_assoc])
    intro H enc W base spare held cs d ps h1 h2
    obtain ⟨x,⟨y,rfl,hy⟩,hr⟩:=h H enc W base spare held cs d ps h1 h2
    obtain ⟨y0,y1,u⟩:=y
    obtain ⟨a0,a1,_⟩:=hy
    exact ⟨_,Jm.mk ⟨y0,y1⟩ a0 a1,hr⟩
   have h:=Zhr (P:=Tryz.prog) (t:=89) (g:=Zx) (fun p=>(⟨p.1,p.2.1,p.2.2.1,p.2.2.2.1⟩:Zt)) Tryz.underlying89 (by kernel_rfl) (Xf (k:=1) rfl (by kernel_rfl) ((Kq Tryz.underlying3) _) (Xf (k:=1) rfl (by kernel_rfl) ((Kq Tryz.underlying3) _) (Xf (k:=1) rfl (by kernel_rfl) (Yni _) (Xf (k:=11) rfl (by kernel_rfl) j29 Zio)))) (fun x=>by simp only [Zx,Xv,Zb,Y4,Qy,Xh,Zq,Zp,Y6,eI,eB,eS,eL,List.cons_append,List.nil_append,List.append_nil,List.append_assoc])
   intro H enc W base spare held cs d ps h1 h2
   obtain ⟨x,⟨y,rfl,hy⟩,hr⟩:=h H enc W base spare held cs d ps h1 h2
   obtain ⟨y0,y1,y2,y3,u⟩:=y
   obtain ⟨a0,a1,a2,a3,_⟩:=hy
   exact ⟨_,Zbl.mk ⟨y0,y1,y2,y3⟩ a0 a1 a2 a3,hr⟩
theorem Yjp:Zhc Tryz.prog 30 Qy Vs:=fun n=>(Ye4 n).1
theorem Yjr:Zhc Tryz.prog 86 Zp Jm:=fun n=>(Ye4 n).2.1
theorem Yjs:Zhc Tryz.prog 89 Zx Zbl:=fun n=>(Ye4 n).2.2
theorem Yot:Zhc Tryz.prog 27 (eL Zp) (fun xs:(List Zl)=>xs.length * 208≤140737488351232∧∀ x∈xs,Jm x):=fun n=>Yfa n (fun m _=>Yjr m)
theorem You:Zhc Tryz.prog 28 (eL Zx) (fun xs:(List Zt)=>xs.length * 240≤140737488351232∧∀ x∈xs,Zbl x):=fun n=>Yfb n (fun m _=>Yjs m)
theorem Yf8 (t:Za) (h:Q6 t):Bd t:=by
 induction h with
 | mk x h0 h1 h2a h2b ih =>
  refine .mk _ (by have:=h1.1;omega) (by omega) (fun w hw => ?_) ih
  have:=h1.2 w hw
  simp [Lit.wf,IntKind.min,IntKind.max,IntKind.signed,IntKind.bits] at this
  omega
theorem Yhh {w:Zz} (h:Kl w):(0≤w.Mask∧w.Mask < 256)∧(0≤w.Old∧w.Old < 18446744073709551616)∧(0≤w.New∧w.New < 18446744073709551616):=by
 obtain ⟨_,h1,h2,h3⟩:=h
 simp [Lit.wf,IntKind.min,IntKind.max,IntKind.signed,IntKind.bits] at h1 h2 h3
 omega
theorem Yms (e:Zf) (h:Vs e):BE e :=
 Vs.rec (motive_1:=fun e _=>BE e) (motive_2:=fun k _=>BE k.E) (motive_3:=fun o _=>BO o)
  (fun x h0 h1 h2 h3 h4a h4b h5 h6a h6b i4 i6 => .mk _ (Yf8 _ h1) (Yf8 _ h2) (by have:=h3.1;omega) (fun w hw=>Yhh (h3.2 w hw)) (by omega) i4 (by omega) (fun o ho=>(i6 o ho).1) (fun o ho=>(i6 o ho).2))
  (fun x h0 h1 i1=>i1)
  (fun x h0 h1 h2 h3 i3=>⟨⟨by have:=h2.1;omega,fun t ht=>Yf8 t (h2.2 t ht)⟩,i3⟩) h
theorem own:ownKnob Tryz.prog.godebug=none:=by kernel_rfl
theorem Ycf:laidOutB Tryz.prog=true:=by kernel_rfl
set_option maxRecDepth 100000 in
theorem lifted (os:Os) (started:os.Started) (H:Type) (enc:TypeId×Value→H) :
  ReturnsInHanded {} Tryz.checked os 3 .any (Rows.patchTreesSpec.pre6 enc Tryz.prog Tryz.f3 Rows.patchTreesRow.domain false) (Rows.patchTreesSpec.post enc Tryz.prog Tryz.f3 false true false false):=by
 refine returnsInHanded_of_change_sized (C:=Tryz.checked) own started (by kernel_rfl) Tryz.func3
  (ChangeSpec.witness6 (enc:=enc) (C:=Tryz.checked) false ⟨#[],#[.agg #[.int .i64 0,.int .i64 0,.slice none 0 0,.slice none 0 0,.int .i64 0,.slice none 0 0,.slice none 0 0,.slice none 0 0,.slice none 0 0,.int .i64 0,.slice none 0 0]],[]⟩ 12 (by kernel_rfl) (by kernel_rfl) (by kernel_rfl) (by kernel_rfl)) ?_
 intro W base args ds gs before hval0 hW hcnd hsz0 _
 have hval:∀ (j:Nat) t v,Tryz.f3.params[j]? = some t→args[j]? = some v→Value.okWide Tryz.prog W .any base t v:=hval0
 have hW':=hW
 obtain ⟨p,q,hA0,hV,rfl,hfz,hnd⟩:=hW
 have hA:DataW.TrodAll enc Tryz.prog W 0 (fun _=>true) true Tryz.f3.params.toList args.toList ds p:=hA0
 rw [Tryz.params3] at hA hval
 obtain ⟨v0,vs0,d0,ds0,p0,q0,hargs,rfl,rfl,h0,r0⟩:=trodAll_cons hA
 obtain ⟨rfl,rfl,rfl⟩:=trodAll_nil r0
 obtain rfl:args=#[v0]:=by cases args;simp_all
 obtain ⟨rfl,rfl⟩:=trodVars_none hV
 clear hA0 hval0
 have hsz:(DataW.weightsEach Tryz.prog (Tryz.f3.params.toList++Rows.patchTreesSpec.plain.varTypes Tryz.prog) _).all (·≤reachBytes)=true:=hsz0
 clear hsz0
 rw [Tryz.params3] at hsz
 have lt0:∀ x∈p0,x.block < W.heap.size:=by obtain ⟨m,hm⟩:=h0;exact DataW.trod_lt m _ _ _ hm
 obtain ⟨x0,w0,e0⟩:=Ye5 Yjp h0 (Yda hsz (j:=0) rfl rfl)
 have g0:=Ygg (Ybd Tryz.underlying30 (hval 0 30 v0 rfl rfl)) e0
 simp only [Qy,Xh,Zb,Y4,Zq,Zp,Y6,Zx,Xv] at g0
 refine (Yig (Zog ((fun x wx=>Z79 (Yms x wx)) x0 w0)).pure (vs:=[v0]) ⟨_,_,rfl,g0,rfl⟩).mono fun e W' ⟨he,bel⟩ => ?_
 subst he
 exact ⟨_,rfl,_,_,_,[],_,[],hW',trodAll_mk1 (shut_bool Tryz.underlying4 _),(trodAll_cons_mk (Below.trod Ycf (by kernel_rfl) (of_decide_eq_true (by kernel_rfl)) h0 bel lt0) trodAll_mk0),rfl,bel.frame _,fun h=>by cases h⟩
theorem Ydk {P:Program} {f:FuncId} {fn:Func} {s:ChangeSpec} {c:OpenClaim} (h0:(c.wf (OpenSpec.ofChange s))=true) (h1:(laidOutB P)=true) (h2:(mapsRowed P)=true) (h3:(fn.params.all (P.readableRec ·))=true) (h4:(namedTie P c.named s.vars)=true) (h5:((c.stops == []))=true) (h6:((P.stops == []))=true) (h7:((c.knobs == []))=true) (h8:((P.stopKnobs == []))=true) (h9:((c.inPlace == P.inPlace f))=true) (h10:((c.unfollowed == P.unfollowed f))=true) (h11:((c.recurses == P.recurses f))=true) (h12:((c.named == P.varsNamed f))=true) (h13:((c.maps == (fn.params.toList++s.plain.varTypes P).any (P.mapsRec ·)))=true) (h14:((c.ifaces == (fn.params.toList++s.plain.varTypes P).any (P.ifacesRec ·)))=true) (h15:((c.mapsOut == P.mapsAmong fn.resultTypes.toList))=true) (h16:((c.loops == (fn.params.toList++s.plain.varTypes P).any (P.loopsFrom ·)))=true) (h17:((c.wideKeys == (fn.params.toList++s.plain.varTypes P++fn.resultTypes.toList).any (P.wideKeysFrom ·)))=true) (h18:(s.vars.all (P.varReadable ·))=true) (h19:(fn.resultTypes.all (fun t=>P.readableRec t && decide (t < P.types.size)))=true) (h20:((c.ifacesOut == fn.resultTypes.toList.any (P.ifacesRec ·)))=true) (h21:((c.loopsOut == fn.resultTypes.toList.any (P.loopsFrom ·)))=true) (h22:((c.plainKeys == P.plainKeys))=true) (h23:(c.shortTexts.isNone)=true) (h24:(P.stopsHeard)=true) (h25:(P.mayEnter)=true) (h26:((c.lifted == P.liftsFinal))=true) (h27:((P.make == some c.make))=true) (hd:c.domain.isEmpty=true) (hk:c.kinds=[]) (h29:((c.pinned == c.pinnedBy))=true) (h30:((c.veiled == (fn.params.toList++s.plain.varTypes P++fn.resultTypes.toList).any (P.veiledRec ·)))=true) (h31:(c.veiledFits P fn.params.toList (fn.params.toList++s.plain.varTypes P++fn.resultTypes.toList))=true):joinedFacts P f fn s c=true:=by
 unfold joinedFacts
 rw [h0,h1,h2,h3,h4,h5,h6,h7,h8,h9,h10,h11,h12,h13,h14,h15,h16,h17,h18,h19,h20,h21,h22,h23,h24,h25,h26,h27,if_pos hd,hk,h29,h30,h31]
 rfl
theorem c0:(Rows.patchTreesRow.wf (OpenSpec.ofChange Rows.patchTreesSpec))=true:=by kernel_rfl
theorem c2:(mapsRowed Tryz.prog)=true:=by kernel_rfl
theorem c3:(Tryz.f3.params.all (Tryz.prog.readableRec ·))=true:=by kernel_rfl
theorem c4:(namedTie Tryz.prog Rows.patchTreesRow.named Rows.patchTreesSpec.vars)=true:=by kernel_rfl
theorem c5:((Rows.patchTreesRow.stops == []))=true:=by kernel_rfl
theorem c6:((Tryz.prog.stops == []))=true:=by kernel_rfl
theorem c7:((Rows.patchTreesRow.knobs == []))=true:=by kernel_rfl
theorem c8:((Tryz.prog.stopKnobs == []))=true:=by kernel_rfl
theorem c9:((Rows.patchTreesRow.inPlace == Tryz.prog.inPlace 3))=true:=by kernel_rfl
theorem c10:((Rows.patchTreesRow.unfollowed == Tryz.prog.unfollowed 3))=true:=by kernel_rfl
theorem c11:((Rows.patchTreesRow.recurses == Tryz.prog.recurses 3))=true:=by kernel_rfl
theorem c12:((Rows.patchTreesRow.named == Tryz.prog.varsNamed 3))=true:=by kernel_rfl
theorem Vu:((Rows.patchTreesRow.maps == (Tryz.f3.params.toList++Rows.patchTreesSpec.plain.varTypes Tryz.prog).any (Tryz.prog.mapsRec ·)))=true:=by kernel_rfl
theorem Qs:((Rows.patchTreesRow.ifaces == (Tryz.f3.params.toList++Rows.patchTreesSpec.plain.varTypes Tryz.prog).any (Tryz.prog.ifacesRec ·)))=true:=by kernel_rfl
theorem Vq:((Rows.patchTreesRow.mapsOut == Tryz.prog.mapsAmong Tryz.f3.resultTypes.toList))=true:=by kernel_rfl
theorem c16:((Rows.patchTreesRow.loops == (Tryz.f3.params.toList++Rows.patchTreesSpec.plain.varTypes Tryz.prog).any (Tryz.prog.loopsFrom ·)))=true:=by kernel_rfl
theorem c17:((Rows.patchTreesRow.wideKeys == (Tryz.f3.params.toList++Rows.patchTreesSpec.plain.varTypes Tryz.prog++Tryz.f3.resultTypes.toList).any (Tryz.prog.wideKeysFrom ·)))=true:=by kernel_rfl
theorem c18:(Rows.patchTreesSpec.vars.all (Tryz.prog.varReadable ·))=true:=by kernel_rfl
theorem c19:(Tryz.f3.resultTypes.all (fun t=>Tryz.prog.readableRec t && decide (t < Tryz.prog.types.size)))=true:=by kernel_rfl
theorem c20:((Rows.patchTreesRow.ifacesOut == Tryz.f3.resultTypes.toList.any (Tryz.prog.ifacesRec ·)))=true:=by kernel_rfl
theorem c21:((Rows.patchTreesRow.loopsOut == Tryz.f3.resultTypes.toList.any (Tryz.prog.loopsFrom ·)))=true:=by kernel_rfl
theorem c22:((Rows.patchTreesRow.plainKeys == Tryz.prog.plainKeys))=true:=by kernel_rfl
theorem c23:(Rows.patchTreesRow.shortTexts.isNone)=true:=by kernel_rfl
theorem c24:(Tryz.prog.stopsHeard)=true:=by kernel_rfl
theorem c25:(Tryz.prog.mayEnter)=true:=by kernel_rfl
theorem c26:((Rows.patchTreesRow.lifted == Tryz.prog.liftsFinal))=true:=by kernel_rfl
theorem c27:((Tryz.prog.make == some Rows.patchTreesRow.make))=true:=by kernel_rfl
theorem c29:((Rows.patchTreesRow.pinned == Rows.patchTreesRow.pinnedBy))=true:=by kernel_rfl
theorem c30:((Rows.patchTreesRow.veiled == (Tryz.f3.params.toList++Rows.patchTreesSpec.plain.varTypes Tryz.prog++Tryz.f3.resultTypes.toList).any (Tryz.prog.veiledRec ·)))=true:=by kernel_rfl
theorem c31:(Rows.patchTreesRow.veiledFits Tryz.prog Tryz.f3.params.toList (Tryz.f3.params.toList++Rows.patchTreesSpec.plain.varTypes Tryz.prog++Tryz.f3.resultTypes.toList))=true:=by kernel_rfl
theorem named:Tryz.prog.funcNamed Rows.patchTreesRow.func=some 3:=by kernel_rfl
theorem Yh9:joinedFacts Tryz.prog 3 Tryz.f3 Rows.patchTreesSpec Rows.patchTreesRow=true:=Ydk (P:=Tryz.prog) (f:=3) (fn:=Tryz.f3) (s:=Rows.patchTreesSpec) (c:=Rows.patchTreesRow) c0 Ycf c2 c3 c4 c5 c6 c7 c8 c9 c10 c11 c12 Vu Qs Vq c16 c17 c18 c19 c20 c21 c22 c23 c24 c25 c26 c27 rfl rfl c29 c30 c31
theorem proved:Rows.PatchTreesSaid :=
 OpenClaim.holds_of_wide 3 Tryz.f3 rfl rfl rfl rfl rfl rfl rfl ⟨rfl,rfl,rfl,rfl,rfl⟩ rfl rfl rfl rfl rfl named Tryz.func3 Yh9
  (of_decide_eq_true (by kernel_rfl)) (by unfold Func.isWrapper;first | (rw [if_pos (by decide +kernel)];kernel_rfl) | (rw [if_neg (by decide +kernel)];exact ⟨rfl,rfl⟩))
  (fun os started H enc _=>lifted os started H enc)
end Go.Proofs.YtmlcnhambfkjaaaGreat.patchTrees
