/- Called with any arguments, the law CostPatch returns true and leaves them as they were; no other condition. -/
import Derived.Test.YtmlcnhambfkjaaaGreatRows
import Derived.Test.YtmlcnhambfkjaaaGreatCM8
import Derived.Test.YtmlcnhambfkjaaaGreatCP2
import Derived.Test.YtmlcnhambfkjaaaGreatH8
import Derived.WalkKit
import Derived.ProofKit
import Derived.OpenShut
import Derived.ShutString
import Derived.ChangeOld
import Derived.Below
import Derived.SizedLaws
namespace Go.Proofs.YtmlcnhambfkjaaaGreat.costPatch
open Go.ChangeShapes Go.WideShapes Go.ChangeAt Go.RowKit
open Go.ChangeMaps (open_string shut_string)
set_option linter.unusedVariables false
set_option linter.unusedSimpArgs false
theorem op3:Zf4 Tryz.prog 3 (eI .i64) (fun x=>(Lit.int .i64 x).wf=true):=Kc Tryz.underlying3
theorem Yq5:Zf4 Tryz.prog 77 (eI .u64) (fun x=>(Lit.int .u64 x).wf=true):=Kc Tryz.underlying77
theorem Ymk:Zf4 Tryz.prog 77 (eI .u64) (fun x:Int=>(Lit.int .u64 x).wf=true):=(Kc Tryz.underlying77)
theorem Ypz:Zf4 Tryz.prog 22 (eL (eI .u64)) (fun xs:(List Int)=>xs.length * 8≤140737488351232∧∀ x∈xs,(fun x:Int=>(Lit.int .u64 x).wf=true) x):=by
 have h:=Zx5 (P:=Tryz.prog) (t:=22) (sz:=1) Tryz.underlying22 (by kernel_rfl) (by decide) (fun _=>rfl) Ymk
 have hb:Tryz.prog.bytesOf 77=8:=by kernel_rfl
 rw [hb] at h
 exact h
inductive Qr:Za→Prop
 | mk (x:Za) (h0:(fun x:Int=>(Lit.int .i64 x).wf=true) x.Kind) (h1:(fun xs:(List Int)=>xs.length * 8≤140737488351232∧∀ x∈xs,(fun x:Int=>(Lit.int .u64 x).wf=true) x) x.Words) (h2a:x.Kids.length * 56≤140737488351232) (h2b:∀ y∈x.Kids,Qr y):Qr x
theorem Yhh (n:Nat) (he:∀ m,m < n→Uk Tryz.prog 25 Zc Qr m):Uk Tryz.prog 23 (eL Zc) (fun xs:(List Za)=>xs.length * 56≤140737488351232∧∀ x∈xs,Qr x) n:=by
 have h:=Zmx (P:=Tryz.prog) (t:=23) (sz:=3) n Tryz.underlying23 (by kernel_rfl) (by decide) (fun _=>rfl) he
 have hb:Tryz.prog.bytesOf 25=56:=by kernel_rfl
 rw [hb] at h
 exact h
theorem Ymm (n:Nat):(Uk Tryz.prog 25 Zc Qr n):=by
 induction n using Nat.strongRecOn with
 | ind n ih =>
  cases n with
  | zero=>exact Zfc
  | succ n =>
   have i24:∀ q,q < n→Uk Tryz.prog 25 Zc Qr q:=fun q hq=>(ih q (by omega))
   have j24:Uk Tryz.prog 25 Zc Qr n:=(ih n (by omega))
   have h:=Zgf (P:=Tryz.prog) (t:=25) (g:=Zc) (fun p=>(⟨p.1,p.2.1,p.2.2.1⟩:Za)) Tryz.underlying25 (by kernel_rfl) (Y9 (k:=1) rfl (by kernel_rfl) ((Kc Tryz.underlying3) _) (Y9 (k:=1) rfl (by kernel_rfl) (Ypz _) (Y9 (k:=1) rfl (by kernel_rfl) (Yhh n i24) Zhb))) (fun x=>by simp only [Zc,Yz,eI,eB,eS,eL,List.cons_append,List.nil_append,List.append_nil,List.append_assoc])
   intro H enc W base spare held cs d ps h1 h2
   obtain ⟨x,⟨y,rfl,hy⟩,hr⟩:=h H enc W base spare held cs d ps h1 h2
   obtain ⟨y0,y1,y2,u⟩:=y
   obtain ⟨a0,a1,⟨a2a,a2b⟩,_⟩:=hy
   exact ⟨_,Qr.mk ⟨y0,y1,y2⟩ a0 a1 a2a a2b,hr⟩
theorem Yhf:Zf4 Tryz.prog 25 Zc Qr:=fun n=>(Ymm n)
theorem Yp0:Zf4 Tryz.prog 23 (eL Zc) (fun xs:(List Za)=>xs.length * 56≤140737488351232∧∀ x∈xs,Qr x):=fun n=>Yhh n (fun m _=>Yhf m)
theorem op5:Zf4 Tryz.prog 5 (eI .u8) (fun x=>(Lit.int .u8 x).wf=true):=Kc Tryz.underlying5
def J6 (x:Z6):Prop:=(fun x:Int=>(Lit.int .i64 x).wf=true) x.At∧(fun x:Int=>(Lit.int .u8 x).wf=true) x.Mask∧(fun x:Int=>(Lit.int .u64 x).wf=true) x.Old∧(fun x:Int=>(Lit.int .u64 x).wf=true) x.New
theorem Yq6:Zf4 Tryz.prog 83 Zp J6:=by
 have h:=Zui (P:=Tryz.prog) (t:=83) (g:=Zp) (fun p=>(⟨p.1,p.2.1,p.2.2.1,p.2.2.2.1⟩:Z6)) Tryz.underlying83 (by kernel_rfl) (fun n=>(Y9 (k:=1) rfl (by kernel_rfl) ((Kc Tryz.underlying3) _) (Y9 (k:=1) rfl (by kernel_rfl) ((Kc Tryz.underlying5) _) (Y9 (k:=1) rfl (by kernel_rfl) ((Kc Tryz.underlying77) _) (Y9 (k:=1) rfl (by kernel_rfl) ((Kc Tryz.underlying77) _) Zhb))))) (fun x=>rfl)
 intro n H enc W base spare held cs d ps h1 h2
 obtain ⟨x,⟨y,rfl,hy⟩,hr⟩:=h n H enc W base spare held cs d ps h1 h2
 exact ⟨_,by unfold J6;simp only;exact ⟨hy.1,hy.2.1,hy.2.2.1,hy.2.2.2.1⟩,hr⟩
theorem Ymo:Zf4 Tryz.prog 84 Zp J6:=by
 have h:=Zui (P:=Tryz.prog) (t:=84) (g:=Zp) (fun p=>(⟨p.1,p.2.1,p.2.2.1,p.2.2.2.1⟩:Z6)) Tryz.underlying84 (by kernel_rfl) (fun n=>(Y9 (k:=1) rfl (by kernel_rfl) ((Kc Tryz.underlying3) _) (Y9 (k:=1) rfl (by kernel_rfl) ((Kc Tryz.underlying5) _) (Y9 (k:=1) rfl (by kernel_rfl) ((Kc Tryz.underlying77) _) (Y9 (k:=1) rfl (by kernel_rfl) ((Kc Tryz.underlying77) _) Zhb))))) (fun x=>rfl)
 intro n H enc W base spare held cs d ps h1 h2
 obtain ⟨x,⟨y,rfl,hy⟩,hr⟩:=h n H enc W base spare held cs d ps h1 h2
 exact ⟨_,by unfold J6;simp only;exact ⟨hy.1,hy.2.1,hy.2.2.1,hy.2.2.2.1⟩,hr⟩
theorem Yml:Zf4 Tryz.prog 84 Zp J6:=Ymo
theorem Yp1:Zf4 Tryz.prog 26 (eL Zp) (fun xs:(List Z6)=>xs.length * 32≤140737488351232∧∀ x∈xs,J6 x):=by
 have h:=Zx5 (P:=Tryz.prog) (t:=26) (sz:=4) Tryz.underlying26 (by kernel_rfl) (by decide) (fun _=>rfl) Yml
 have hb:Tryz.prog.bytesOf 84=32:=by kernel_rfl
 rw [hb] at h
 exact h
mutual
inductive Va:Zh→Prop
 | mk (x:Zh) (h0:(fun x:Int=>(Lit.int .i64 x).wf=true) x.Kind) (h1:Qr x.Old) (h2:Qr x.New) (h3:(fun xs:(List Z6)=>xs.length * 32≤140737488351232∧∀ x∈xs,J6 x) x.Words) (h4a:x.Kids.length * 208≤140737488351232) (h4b:∀ y∈x.Kids,Q5 y) (h5:(fun x:Int=>(Lit.int .i64 x).wf=true) x.List_) (h6a:x.Ops.length * 240≤140737488351232) (h6b:∀ y∈x.Ops,Gq y):Va x
inductive Q5:Zn→Prop
 | mk (x:Zn) (h0:(fun x:Int=>(Lit.int .i64 x).wf=true) x.At) (h1:Va x.E):Q5 x
inductive Gq:Zt→Prop
 | mk (x:Zt) (h0:(fun x:Int=>(Lit.int .i64 x).wf=true) x.Kind) (h1:(fun x:Int=>(Lit.int .i64 x).wf=true) x.N) (h2:(fun xs:(List Za)=>xs.length * 56≤140737488351232∧∀ x∈xs,Qr x) x.L) (h3:Va x.E):Gq x
end
theorem Yhi (n:Nat) (he:∀ m,m < n→Uk Tryz.prog 86 Zo Q5 m):Uk Tryz.prog 27 (eL Zo) (fun xs:(List Zn)=>xs.length * 208≤140737488351232∧∀ x∈xs,Q5 x) n:=by
 have h:=Zmx (P:=Tryz.prog) (t:=27) (sz:=12) n Tryz.underlying27 (by kernel_rfl) (by decide) (fun _=>rfl) he
 have hb:Tryz.prog.bytesOf 86=208:=by kernel_rfl
 rw [hb] at h
 exact h
theorem Yhj (n:Nat) (he:∀ m,m < n→Uk Tryz.prog 89 Zz Gq m):Uk Tryz.prog 28 (eL Zz) (fun xs:(List Zt)=>xs.length * 240≤140737488351232∧∀ x∈xs,Gq x) n:=by
 have h:=Zmx (P:=Tryz.prog) (t:=28) (sz:=14) n Tryz.underlying28 (by kernel_rfl) (by decide) (fun _=>rfl) he
 have hb:Tryz.prog.bytesOf 89=240:=by kernel_rfl
 rw [hb] at h
 exact h
theorem Yhc (n:Nat):(Uk Tryz.prog 30 Qx Va n∧Uk Tryz.prog 86 Zo Q5 n∧Uk Tryz.prog 89 Zz Gq n):=by
 induction n using Nat.strongRecOn with
 | ind n ih =>
  cases n with
  | zero=>exact ⟨Zfc,Zfc,Zfc⟩
  | succ n =>
   have i29:∀ q,q < n→Uk Tryz.prog 30 Qx Va q:=fun q hq=>(ih q (by omega)).1
   have j29:Uk Tryz.prog 30 Qx Va n:=(ih n (by omega)).1
   have i85:∀ q,q < n→Uk Tryz.prog 86 Zo Q5 q:=fun q hq=>(ih q (by omega)).2.1
   have j85:Uk Tryz.prog 86 Zo Q5 n:=(ih n (by omega)).2.1
   have i88:∀ q,q < n→Uk Tryz.prog 89 Zz Gq q:=fun q hq=>(ih q (by omega)).2.2
   have j88:Uk Tryz.prog 89 Zz Gq n:=(ih n (by omega)).2.2
   refine ⟨?_,?_,?_⟩
   ·have h:=Zgf (P:=Tryz.prog) (t:=30) (g:=Qx) (fun p=>(⟨p.1,p.2.1,p.2.2.1,p.2.2.2.1,p.2.2.2.2.1,p.2.2.2.2.2.1,p.2.2.2.2.2.2.1⟩:Zh)) Tryz.underlying30 (by kernel_rfl) (Y9 (k:=1) rfl (by kernel_rfl) ((Kc Tryz.underlying3) _) (Y9 (k:=3) rfl (by kernel_rfl) (Yhf _) (Y9 (k:=3) rfl (by kernel_rfl) (Yhf _) (Y9 (k:=1) rfl (by kernel_rfl) (Yp1 _) (Y9 (k:=1) rfl (by kernel_rfl) (Yhi n i85) (Y9 (k:=1) rfl (by kernel_rfl) ((Kc Tryz.underlying3) _) (Y9 (k:=1) rfl (by kernel_rfl) (Yhj n i88) Zhb))))))) (fun x=>by simp only [Qx,Xi,Zc,Yz,Zp,Zo,Y2,Zz,Xx,eI,eB,eS,eL,List.cons_append,List.nil_append,List.append_nil,List.append_assoc])
    intro H enc W base spare held cs d ps h1 h2
    obtain ⟨x,⟨y,rfl,hy⟩,hr⟩:=h H enc W base spare held cs d ps h1 h2
    obtain ⟨y0,y1,y2,y3,y4,y5,y6,u⟩:=y
    obtain ⟨a0,a1,a2,a3,⟨a4a,a4b⟩,a5,⟨a6a,a6b⟩,_⟩:=hy
    exact ⟨_,Va.mk ⟨y0,y1,y2,y3,y4,y5,y6⟩ a0 a1 a2 a3 a4a a4b a5 a6a a6b,hr⟩
   ·have h:=Zgf (P:=Tryz.prog) (t:=86) (g:=Zo) (fun p=>(⟨p.1,p.2.1⟩:Zn)) Tryz.underlying86 (by kernel_rfl) (Y9 (k:=1) rfl (by kernel_rfl) ((Kc Tryz.underlying3) _) (Y9 (k:=11) rfl (by kernel_rfl) j29 Zhb)) (fun x=>by simp only [Zo,Y2,Qx,Xi,Zc,Yz,Zp,Zz,Xx,eI,eB,eS,eL,List.cons_append,List.nil_append,List.append_nil,List.append_assoc])
    intro H enc W base spare held cs d ps h1 h2
    obtain ⟨x,⟨y,rfl,hy⟩,hr⟩:=h H enc W base spare held cs d ps h1 h2
    obtain ⟨y0,y1,u⟩:=y
    obtain ⟨a0,a1,_⟩:=hy
    exact ⟨_,Q5.mk ⟨y0,y1⟩ a0 a1,hr⟩
   have h:=Zgf (P:=Tryz.prog) (t:=89) (g:=Zz) (fun p=>(⟨p.1,p.2.1,p.2.2.1,p.2.2.2.1⟩:Zt)) Tryz.underlying89 (by kernel_rfl) (Y9 (k:=1) rfl (by kernel_rfl) ((Kc Tryz.underlying3) _) (Y9 (k:=1) rfl (by kernel_rfl) ((Kc Tryz.underlying3) _) (Y9 (k:=1) rfl (by kernel_rfl) (Yp0 _) (Y9 (k:=11) rfl (by kernel_rfl) j29 Zhb)))) (fun x=>by simp only [Zz,Xx,Zc,Yz,Qx,Xi,Zp,Zo,Y2,eI,eB,eS,eL,List.cons_append,List.nil_append,List.append_nil,List.append_assoc])
   intro H enc W base spare held cs d ps h1 h2
   obtain ⟨x,⟨y,rfl,hy⟩,hr⟩:=h H enc W base spare held cs d ps h1 h2
   obtain ⟨y0,y1,y2,y3,u⟩:=y
   obtain ⟨a0,a1,a2,a3,_⟩:=hy
   exact ⟨_,Gq.mk ⟨y0,y1,y2,y3⟩ a0 a1 a2 a3,hr⟩
theorem Ymn:Zf4 Tryz.prog 30 Qx Va:=fun n=>(Yhc n).1
theorem Ymp:Zf4 Tryz.prog 86 Zo Q5:=fun n=>(Yhc n).2.1
theorem Ymq:Zf4 Tryz.prog 89 Zz Gq:=fun n=>(Yhc n).2.2
theorem Yq3:Zf4 Tryz.prog 27 (eL Zo) (fun xs:(List Zn)=>xs.length * 208≤140737488351232∧∀ x∈xs,Q5 x):=fun n=>Yhi n (fun m _=>Ymp m)
theorem Yq4:Zf4 Tryz.prog 28 (eL Zz) (fun xs:(List Zt)=>xs.length * 240≤140737488351232∧∀ x∈xs,Gq x):=fun n=>Yhj n (fun m _=>Ymq m)
theorem Yig (t:Za) (h:Qr t):Bd t:=by
 induction h with
 | mk x h0 h1 h2a h2b ih =>
  refine .mk _ (by have:=h1.1;omega) (by omega) (fun w hw => ?_) ih
  have:=h1.2 w hw
  simp [Lit.wf,IntKind.min,IntKind.max,IntKind.signed,IntKind.bits] at this
  omega
theorem Yka {w:Z6} (h:J6 w):(0≤w.Mask∧w.Mask < 256)∧(0≤w.Old∧w.Old < 18446744073709551616)∧(0≤w.New∧w.New < 18446744073709551616):=by
 obtain ⟨_,h1,h2,h3⟩:=h
 simp [Lit.wf,IntKind.min,IntKind.max,IntKind.signed,IntKind.bits] at h1 h2 h3
 omega
theorem Ypk (e:Zh) (h:Va e):BE e :=
 Va.rec (motive_1:=fun e _=>BE e) (motive_2:=fun k _=>BE k.E) (motive_3:=fun o _=>BO o)
  (fun x h0 h1 h2 h3 h4a h4b h5 h6a h6b i4 i6 => .mk _ (Yig _ h1) (Yig _ h2) (by have:=h3.1;omega) (fun w hw=>Yka (h3.2 w hw)) (by omega) i4 (by omega) (fun o ho=>(i6 o ho).1) (fun o ho=>(i6 o ho).2))
  (fun x h0 h1 i1=>i1)
  (fun x h0 h1 h2 h3 i3=>⟨⟨by have:=h2.1;omega,fun t ht=>Yig t (h2.2 t ht)⟩,i3⟩) h
theorem own:ownKnob Tryz.prog.godebug=none:=by kernel_rfl
theorem Ycj:laidOutB Tryz.prog=true:=by kernel_rfl
set_option maxRecDepth 100000 in
theorem lifted (os:Os) (started:os.Started) (H:Type) (enc:TypeId×Value→H) :
  ReturnsInHanded {} Tryz.checked os 12 .any (Rows.costPatchSpec.pre6 enc Tryz.prog Tryz.f12 Rows.costPatchRow.domain false) (Rows.costPatchSpec.post enc Tryz.prog Tryz.f12 false true false false):=by
 refine returnsInHanded_of_change_sized (C:=Tryz.checked) own started (by kernel_rfl) Tryz.func12
  (ChangeSpec.witness6 (enc:=enc) (C:=Tryz.checked) false ⟨#[],#[.agg #[.int .i64 0,.int .i64 0,.slice none 0 0,.slice none 0 0,.int .i64 0,.slice none 0 0,.slice none 0 0,.slice none 0 0,.slice none 0 0,.int .i64 0,.slice none 0 0]],[]⟩ 12 (by kernel_rfl) (by kernel_rfl) (by kernel_rfl) (by kernel_rfl)) ?_
 intro W base args ds gs before hval0 hW hcnd hsz0 _
 have hval:∀ (j:Nat) t v,Tryz.f12.params[j]? = some t→args[j]? = some v→Value.okWide Tryz.prog W .any base t v:=hval0
 have hW':=hW
 obtain ⟨p,q,hA0,hV,rfl,hfz,hnd⟩:=hW
 have hA:DataW.TrodAll enc Tryz.prog W 0 (fun _=>true) true Tryz.f12.params.toList args.toList ds p:=hA0
 rw [Tryz.params12] at hA hval
 obtain ⟨v0,vs0,d0,ds0,p0,q0,hargs,rfl,rfl,h0,r0⟩:=trodAll_cons hA
 obtain ⟨rfl,rfl,rfl⟩:=trodAll_nil r0
 obtain rfl:args=#[v0]:=by cases args;simp_all
 obtain ⟨rfl,rfl⟩:=trodVars_none hV
 clear hA0 hval0
 have hsz:(DataW.weightsEach Tryz.prog (Tryz.f12.params.toList++Rows.costPatchSpec.plain.varTypes Tryz.prog) _).all (·≤reachBytes)=true:=hsz0
 clear hsz0
 rw [Tryz.params12] at hsz
 have lt0:∀ x∈p0,x.block < W.heap.size:=by obtain ⟨m,hm⟩:=h0;exact DataW.trod_lt m _ _ _ hm
 obtain ⟨x0,w0,e0⟩:=Yhd Ymn h0 (Yek hsz (j:=0) rfl rfl)
 have g0:=Yip (Yaz Tryz.underlying30 (hval 0 30 v0 rfl rfl)) e0
 simp only [Qx,Xi,Zc,Yz,Zp,Zo,Y2,Zz,Xx] at g0
 refine (Yle (Znf ((fun x wx=>Z8z (Ypk x wx)) x0 w0)).pure (vs:=[v0]) ⟨_,_,rfl,g0,rfl⟩).mono fun e W' ⟨he,bel⟩ => ?_
 subst he
 exact ⟨_,rfl,_,_,_,[],_,[],hW',trodAll_mk1 (shut_bool Tryz.underlying4 _),(trodAll_cons_mk (Below.trod Ycj (by kernel_rfl) (of_decide_eq_true (by kernel_rfl)) h0 bel lt0) trodAll_mk0),rfl,bel.frame _,fun h=>by cases h⟩
theorem Ye0 {P:Program} {f:FuncId} {fn:Func} {s:ChangeSpec} {c:OpenClaim} (h0:(c.wf (OpenSpec.ofChange s))=true) (h1:(laidOutB P)=true) (h2:(mapsRowed P)=true) (h3:(fn.params.all (P.readableRec ·))=true) (h4:(namedTie P c.named s.vars)=true) (h5:((c.stops == []))=true) (h6:((P.stops == []))=true) (h7:((c.knobs == []))=true) (h8:((P.stopKnobs == []))=true) (h9:((c.inPlace == P.inPlace f))=true) (h10:((c.unfollowed == P.unfollowed f))=true) (h11:((c.recurses == P.recurses f))=true) (h12:((c.named == P.varsNamed f))=true) (h13:((c.maps == (fn.params.toList++s.plain.varTypes P).any (P.mapsRec ·)))=true) (h14:((c.ifaces == (fn.params.toList++s.plain.varTypes P).any (P.ifacesRec ·)))=true) (h15:((c.mapsOut == P.mapsAmong fn.resultTypes.toList))=true) (h16:((c.loops == (fn.params.toList++s.plain.varTypes P).any (P.loopsFrom ·)))=true) (h17:((c.wideKeys == (fn.params.toList++s.plain.varTypes P++fn.resultTypes.toList).any (P.wideKeysFrom ·)))=true) (h18:(s.vars.all (P.varReadable ·))=true) (h19:(fn.resultTypes.all (fun t=>P.readableRec t && decide (t < P.types.size)))=true) (h20:((c.ifacesOut == fn.resultTypes.toList.any (P.ifacesRec ·)))=true) (h21:((c.loopsOut == fn.resultTypes.toList.any (P.loopsFrom ·)))=true) (h22:((c.plainKeys == P.plainKeys))=true) (h23:(c.shortTexts.isNone)=true) (h24:(P.stopsHeard)=true) (h25:(P.mayEnter)=true) (h26:((c.lifted == P.liftsFinal))=true) (h27:((P.make == some c.make))=true) (hd:c.domain.isEmpty=true) (hk:c.kinds=[]) (h29:((c.pinned == c.pinnedBy))=true) (h30:((c.veiled == (fn.params.toList++s.plain.varTypes P++fn.resultTypes.toList).any (P.veiledRec ·)))=true) (h31:(c.veiledFits P fn.params.toList (fn.params.toList++s.plain.varTypes P++fn.resultTypes.toList))=true):joinedFacts P f fn s c=true:=by
 unfold joinedFacts
 rw [h0,h1,h2,h3,h4,h5,h6,h7,h8,h9,h10,h11,h12,h13,h14,h15,h16,h17,h18,h19,h20,h21,h22,h23,h24,h25,h26,h27,if_pos hd,hk,h29,h30,h31]
 rfl
theorem c0:(Rows.costPatchRow.wf (OpenSpec.ofChange Rows.costPatchSpec))=true:=by kernel_rfl
theorem c2:(mapsRowed Tryz.prog)=true:=by kernel_rfl
theorem c3:(Tryz.f12.params.all (Tryz.prog.readableRec ·))=true:=by kernel_rfl
theorem c4:(namedTie Tryz.prog Rows.costPatchRow.named Rows.costPatchSpec.vars)=true:=by kernel_rfl
theorem c5:((Rows.costPatchRow.stops == []))=true:=by kernel_rfl
theorem c6:((Tryz.prog.stops == []))=true:=by kernel_rfl
theorem c7:((Rows.costPatchRow.knobs == []))=true:=by kernel_rfl
theorem c8:((Tryz.prog.stopKnobs == []))=true:=by kernel_rfl
theorem c9:((Rows.costPatchRow.inPlace == Tryz.prog.inPlace 12))=true:=by kernel_rfl
theorem c10:((Rows.costPatchRow.unfollowed == Tryz.prog.unfollowed 12))=true:=by kernel_rfl
theorem c11:((Rows.costPatchRow.recurses == Tryz.prog.recurses 12))=true:=by kernel_rfl
theorem c12:((Rows.costPatchRow.named == Tryz.prog.varsNamed 12))=true:=by kernel_rfl
theorem c13:((Rows.costPatchRow.maps == (Tryz.f12.params.toList++Rows.costPatchSpec.plain.varTypes Tryz.prog).any (Tryz.prog.mapsRec ·)))=true:=by kernel_rfl
theorem Jg:((Rows.costPatchRow.ifaces == (Tryz.f12.params.toList++Rows.costPatchSpec.plain.varTypes Tryz.prog).any (Tryz.prog.ifacesRec ·)))=true:=by kernel_rfl
theorem c15:((Rows.costPatchRow.mapsOut == Tryz.prog.mapsAmong Tryz.f12.resultTypes.toList))=true:=by kernel_rfl
theorem c16:((Rows.costPatchRow.loops == (Tryz.f12.params.toList++Rows.costPatchSpec.plain.varTypes Tryz.prog).any (Tryz.prog.loopsFrom ·)))=true:=by kernel_rfl
theorem c17:((Rows.costPatchRow.wideKeys == (Tryz.f12.params.toList++Rows.costPatchSpec.plain.varTypes Tryz.prog++Tryz.f12.resultTypes.toList).any (Tryz.prog.wideKeysFrom ·)))=true:=by kernel_rfl
theorem Uj:(Rows.costPatchSpec.vars.all (Tryz.prog.varReadable ·))=true:=by kernel_rfl
theorem c19:(Tryz.f12.resultTypes.all (fun t=>Tryz.prog.readableRec t && decide (t < Tryz.prog.types.size)))=true:=by kernel_rfl
theorem c20:((Rows.costPatchRow.ifacesOut == Tryz.f12.resultTypes.toList.any (Tryz.prog.ifacesRec ·)))=true:=by kernel_rfl
theorem c21:((Rows.costPatchRow.loopsOut == Tryz.f12.resultTypes.toList.any (Tryz.prog.loopsFrom ·)))=true:=by kernel_rfl
theorem c22:((Rows.costPatchRow.plainKeys == Tryz.prog.plainKeys))=true:=by kernel_rfl
theorem c23:(Rows.costPatchRow.shortTexts.isNone)=true:=by kernel_rfl
theorem c24:(Tryz.prog.stopsHeard)=true:=by kernel_rfl
theorem c25:(Tryz.prog.mayEnter)=true:=by kernel_rfl
theorem c26:((Rows.costPatchRow.lifted == Tryz.prog.liftsFinal))=true:=by kernel_rfl
theorem c27:((Tryz.prog.make == some Rows.costPatchRow.make))=true:=by kernel_rfl
theorem c29:((Rows.costPatchRow.pinned == Rows.costPatchRow.pinnedBy))=true:=by kernel_rfl
theorem c30:((Rows.costPatchRow.veiled == (Tryz.f12.params.toList++Rows.costPatchSpec.plain.varTypes Tryz.prog++Tryz.f12.resultTypes.toList).any (Tryz.prog.veiledRec ·)))=true:=by kernel_rfl
theorem c31:(Rows.costPatchRow.veiledFits Tryz.prog Tryz.f12.params.toList (Tryz.f12.params.toList++Rows.costPatchSpec.plain.varTypes Tryz.prog++Tryz.f12.resultTypes.toList))=true:=by kernel_rfl
theorem named:Tryz.prog.funcNamed Rows.costPatchRow.func=some 12:=by kernel_rfl
theorem Yk3:joinedFacts Tryz.prog 12 Tryz.f12 Rows.costPatchSpec Rows.costPatchRow=true:=Ye0 (P:=Tryz.prog) (f:=12) (fn:=Tryz.f12) (s:=Rows.costPatchSpec) (c:=Rows.costPatchRow) c0 Ycj c2 c3 c4 c5 c6 c7 c8 c9 c10 c11 c12 c13 Jg c15 c16 c17 Uj c19 c20 c21 c22 c23 c24 c25 c26 c27 rfl rfl c29 c30 c31
theorem proved:Rows.CostPatchSaid :=
 OpenClaim.holds_of_wide 12 Tryz.f12 rfl rfl rfl rfl rfl rfl rfl ⟨rfl,rfl,rfl,rfl,rfl⟩ rfl rfl rfl rfl rfl named Tryz.func12 Yk3
  (of_decide_eq_true (by kernel_rfl)) (by unfold Func.isWrapper;first | (rw [if_pos (by decide +kernel)];kernel_rfl) | (rw [if_neg (by decide +kernel)];exact ⟨rfl,rfl⟩))
  (fun os started H enc _=>lifted os started H enc)
end Go.Proofs.YtmlcnhambfkjaaaGreat.costPatch
