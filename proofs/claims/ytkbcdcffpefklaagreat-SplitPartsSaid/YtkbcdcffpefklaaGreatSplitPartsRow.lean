/- Called with any arguments, the law SplitParts returns true and leaves them as they were; no other condition. -/
import Derived.Test.YtkbcdcffpefklaaGreatSM7
import Derived.Test.YtkbcdcffpefklaaGreatSQ1
import Derived.ShutString
import Derived.ChangeOld
import Derived.Below
namespace Go.Proofs.YtkbcdcffpefklaaGreat.splitParts
open Go.ChangeShapes Go.WideShapes Go.ChangeAt Go.RowKit
open Go.ChangeMaps (open_string shut_string)
set_option linter.unusedVariables false
set_option linter.unusedSimpArgs false
theorem op3:Zfj Tryz.prog 3 (eI .i64) (fun x=>(Lit.int .i64 x).wf=true):=Jq Tryz.underlying3
theorem Ykl:Zfj Tryz.prog 43 (eI .u64) (fun x=>(Lit.int .u64 x).wf=true):=Jq Tryz.underlying43
theorem Yhm:Zfj Tryz.prog 43 (eI .u64) (fun x:Int=>(Lit.int .u64 x).wf=true):=(Jq Tryz.underlying43)
theorem Yjb:Zfj Tryz.prog 22 (eL (eI .u64)) (fun xs:(List Int)=>xs.length * 8≤140737488351232∧∀ x∈xs,(fun x:Int=>(Lit.int .u64 x).wf=true) x):=by
 have h:=Zvo (P:=Tryz.prog) (t:=22) (sz:=1) Tryz.underlying22 (by kernel_rfl) (by decide) (fun _=>rfl) Yhm
 have hb:Tryz.prog.bytesOf 43=8:=by kernel_rfl
 rw [hb] at h
 exact h
inductive Qc:Zc→Prop
 | mk (x:Zc) (h0:(fun x:Int=>(Lit.int .i64 x).wf=true) x.Kind) (h1:(fun xs:(List Int)=>xs.length * 8≤140737488351232∧∀ x∈xs,(fun x:Int=>(Lit.int .u64 x).wf=true) x) x.Words) (h2a:x.Kids.length * 56≤140737488351232) (h2b:∀ y∈x.Kids,Qc y):Qc x
theorem Yck (n:Nat) (he:∀ m,m < n→Vv Tryz.prog 25 Za Qc m):Vv Tryz.prog 23 (eL Za) (fun xs:(List Zc)=>xs.length * 56≤140737488351232∧∀ x∈xs,Qc x) n:=by
 have h:=Zk9 (P:=Tryz.prog) (t:=23) (sz:=3) n Tryz.underlying23 (by kernel_rfl) (by decide) (fun _=>rfl) he
 have hb:Tryz.prog.bytesOf 25=56:=by kernel_rfl
 rw [hb] at h
 exact h
theorem Yho (n:Nat):(Vv Tryz.prog 25 Za Qc n):=by
 induction n using Nat.strongRecOn with
 | ind n ih =>
  cases n with
  | zero=>exact Zen
  | succ n =>
   have i24:∀ q,q < n→Vv Tryz.prog 25 Za Qc q:=fun q hq=>(ih q (by omega))
   have j24:Vv Tryz.prog 25 Za Qc n:=(ih n (by omega))
   have h:=Zfr (P:=Tryz.prog) (t:=25) (g:=Za) (fun p=>(⟨p.1,p.2.1,p.2.2.1⟩:Zc)) Tryz.underlying25 (by kernel_rfl) (Y3 (k:=1) rfl (by kernel_rfl) ((Jq Tryz.underlying3) _) (Y3 (k:=1) rfl (by kernel_rfl) (Yjb _) (Y3 (k:=1) rfl (by kernel_rfl) (Yck n i24) Zge))) (fun x=>by simp only [Za,Yq,eI,eB,eS,eL,List.cons_append,List.nil_append,List.append_nil,List.append_assoc])
   intro H enc W base spare held cs d ps h1 h2
   obtain ⟨x,⟨y,rfl,hy⟩,hr⟩:=h H enc W base spare held cs d ps h1 h2
   obtain ⟨y0,y1,y2,u⟩:=y
   obtain ⟨a0,a1,⟨a2a,a2b⟩,_⟩:=hy
   exact ⟨_,Qc.mk ⟨y0,y1,y2⟩ a0 a1 a2a a2b,hr⟩
theorem Ycg:Zfj Tryz.prog 25 Za Qc:=fun n=>(Yho n)
theorem Yjc:Zfj Tryz.prog 23 (eL Za) (fun xs:(List Zc)=>xs.length * 56≤140737488351232∧∀ x∈xs,Qc x):=fun n=>Yck n (fun m _=>Ycg m)
theorem op5:Zfj Tryz.prog 5 (eI .u8) (fun x=>(Lit.int .u8 x).wf=true):=Jq Tryz.underlying5
def Jl (x:Zu):Prop:=(fun x:Int=>(Lit.int .i64 x).wf=true) x.At∧(fun x:Int=>(Lit.int .u8 x).wf=true) x.Mask∧(fun x:Int=>(Lit.int .u64 x).wf=true) x.Old∧(fun x:Int=>(Lit.int .u64 x).wf=true) x.New
theorem Ykm:Zfj Tryz.prog 48 Zi Jl:=by
 have h:=Zsy (P:=Tryz.prog) (t:=48) (g:=Zi) (fun p=>(⟨p.1,p.2.1,p.2.2.1,p.2.2.2.1⟩:Zu)) Tryz.underlying48 (by kernel_rfl) (fun n=>(Y3 (k:=1) rfl (by kernel_rfl) ((Jq Tryz.underlying3) _) (Y3 (k:=1) rfl (by kernel_rfl) ((Jq Tryz.underlying5) _) (Y3 (k:=1) rfl (by kernel_rfl) ((Jq Tryz.underlying43) _) (Y3 (k:=1) rfl (by kernel_rfl) ((Jq Tryz.underlying43) _) Zge))))) (fun x=>rfl)
 intro n H enc W base spare held cs d ps h1 h2
 obtain ⟨x,⟨y,rfl,hy⟩,hr⟩:=h n H enc W base spare held cs d ps h1 h2
 exact ⟨_,by unfold Jl;simp only;exact ⟨hy.1,hy.2.1,hy.2.2.1,hy.2.2.2.1⟩,hr⟩
theorem Yhs:Zfj Tryz.prog 49 Zi Jl:=by
 have h:=Zsy (P:=Tryz.prog) (t:=49) (g:=Zi) (fun p=>(⟨p.1,p.2.1,p.2.2.1,p.2.2.2.1⟩:Zu)) Tryz.underlying49 (by kernel_rfl) (fun n=>(Y3 (k:=1) rfl (by kernel_rfl) ((Jq Tryz.underlying3) _) (Y3 (k:=1) rfl (by kernel_rfl) ((Jq Tryz.underlying5) _) (Y3 (k:=1) rfl (by kernel_rfl) ((Jq Tryz.underlying43) _) (Y3 (k:=1) rfl (by kernel_rfl) ((Jq Tryz.underlying43) _) Zge))))) (fun x=>rfl)
 intro n H enc W base spare held cs d ps h1 h2
 obtain ⟨x,⟨y,rfl,hy⟩,hr⟩:=h n H enc W base spare held cs d ps h1 h2
 exact ⟨_,by unfold Jl;simp only;exact ⟨hy.1,hy.2.1,hy.2.2.1,hy.2.2.2.1⟩,hr⟩
theorem Yhn:Zfj Tryz.prog 49 Zi Jl:=Yhs
theorem Yjd:Zfj Tryz.prog 26 (eL Zi) (fun xs:(List Zu)=>xs.length * 32≤140737488351232∧∀ x∈xs,Jl x):=by
 have h:=Zvo (P:=Tryz.prog) (t:=26) (sz:=4) Tryz.underlying26 (by kernel_rfl) (by decide) (fun _=>rfl) Yhn
 have hb:Tryz.prog.bytesOf 49=32:=by kernel_rfl
 rw [hb] at h
 exact h
mutual
inductive Ki:Zb→Prop
 | mk (x:Zb) (h0:(fun x:Int=>(Lit.int .i64 x).wf=true) x.Kind) (h1:Qc x.Old) (h2:Qc x.New) (h3:(fun xs:(List Zu)=>xs.length * 32≤140737488351232∧∀ x∈xs,Jl x) x.Words) (h4a:x.Kids.length * 208≤140737488351232) (h4b:∀ y∈x.Kids,Ql y) (h5:(fun x:Int=>(Lit.int .i64 x).wf=true) x.List_) (h6a:x.Ops.length * 240≤140737488351232) (h6b:∀ y∈x.Ops,Gb y):Ki x
inductive Ql:Zj→Prop
 | mk (x:Zj) (h0:(fun x:Int=>(Lit.int .i64 x).wf=true) x.At) (h1:Ki x.E):Ql x
inductive Gb:Zg→Prop
 | mk (x:Zg) (h0:(fun x:Int=>(Lit.int .i64 x).wf=true) x.Kind) (h1:(fun x:Int=>(Lit.int .i64 x).wf=true) x.N) (h2:(fun xs:(List Zc)=>xs.length * 56≤140737488351232∧∀ x∈xs,Qc x) x.L) (h3:Ki x.E):Gb x
end
theorem Ycl (n:Nat) (he:∀ m,m < n→Vv Tryz.prog 40 Zh Ql m):Vv Tryz.prog 27 (eL Zh) (fun xs:(List Zj)=>xs.length * 208≤140737488351232∧∀ x∈xs,Ql x) n:=by
 have h:=Zk9 (P:=Tryz.prog) (t:=27) (sz:=12) n Tryz.underlying27 (by kernel_rfl) (by decide) (fun _=>rfl) he
 have hb:Tryz.prog.bytesOf 40=208:=by kernel_rfl
 rw [hb] at h
 exact h
theorem Ycm (n:Nat) (he:∀ m,m < n→Vv Tryz.prog 42 Zd Gb m):Vv Tryz.prog 28 (eL Zd) (fun xs:(List Zg)=>xs.length * 240≤140737488351232∧∀ x∈xs,Gb x) n:=by
 have h:=Zk9 (P:=Tryz.prog) (t:=28) (sz:=14) n Tryz.underlying28 (by kernel_rfl) (by decide) (fun _=>rfl) he
 have hb:Tryz.prog.bytesOf 42=240:=by kernel_rfl
 rw [hb] at h
 exact h
theorem Yce (n:Nat):(Vv Tryz.prog 30 Zk Ki n∧Vv Tryz.prog 40 Zh Ql n∧Vv Tryz.prog 42 Zd Gb n):=by
 induction n using Nat.strongRecOn with
 | ind n ih =>
  cases n with
  | zero=>exact ⟨Zen,Zen,Zen⟩
  | succ n =>
   have i29:∀ q,q < n→Vv Tryz.prog 30 Zk Ki q:=fun q hq=>(ih q (by omega)).1
   have j29:Vv Tryz.prog 30 Zk Ki n:=(ih n (by omega)).1
   have i39:∀ q,q < n→Vv Tryz.prog 40 Zh Ql q:=fun q hq=>(ih q (by omega)).2.1
   have j39:Vv Tryz.prog 40 Zh Ql n:=(ih n (by omega)).2.1
   have i41:∀ q,q < n→Vv Tryz.prog 42 Zd Gb q:=fun q hq=>(ih q (by omega)).2.2
   have j41:Vv Tryz.prog 42 Zd Gb n:=(ih n (by omega)).2.2
   refine ⟨?_,?_,?_⟩
   ·have h:=Zfr (P:=Tryz.prog) (t:=30) (g:=Zk) (fun p=>(⟨p.1,p.2.1,p.2.2.1,p.2.2.2.1,p.2.2.2.2.1,p.2.2.2.2.2.1,p.2.2.2.2.2.2.1⟩:Zb)) Tryz.underlying30 (by kernel_rfl) (Y3 (k:=1) rfl (by kernel_rfl) ((Jq Tryz.underlying3) _) (Y3 (k:=3) rfl (by kernel_rfl) (Ycg _) (Y3 (k:=3) rfl (by kernel_rfl) (Ycg _) (Y3 (k:=1) rfl (by kernel_rfl) (Yjd _) (Y3 (k:=1) rfl (by kernel_rfl) (Ycl n i39) (Y3 (k:=1) rfl (by kernel_rfl) ((Jq Tryz.underlying3) _) (Y3 (k:=1) rfl (by kernel_rfl) (Ycm n i41) Zge))))))) (fun x=>by simp only [Zk,Xa,Za,Yq,Zi,Zh,Yr,Zd,Xo,eI,eB,eS,eL,List.cons_append,List.nil_append,List.append_nil,List.append_assoc])
    intro H enc W base spare held cs d ps h1 h2
    obtain ⟨x,⟨y,rfl,hy⟩,hr⟩:=h H enc W base spare held cs d ps h1 h2
    obtain ⟨y0,y1,y2,y3,y4,y5,y6,u⟩:=y
    obtain ⟨a0,a1,a2,a3,⟨a4a,a4b⟩,a5,⟨a6a,a6b⟩,_⟩:=hy
    exact ⟨_,Ki.mk ⟨y0,y1,y2,y3,y4,y5,y6⟩ a0 a1 a2 a3 a4a a4b a5 a6a a6b,hr⟩
   ·have h:=Zfr (P:=Tryz.prog) (t:=40) (g:=Zh) (fun p=>(⟨p.1,p.2.1⟩:Zj)) Tryz.underlying40 (by kernel_rfl) (Y3 (k:=1) rfl (by kernel_rfl) ((Jq Tryz.underlying3) _) (Y3 (k:=11) rfl (by kernel_rfl) j29 Zge)) (fun x=>by simp only [Zh,Yr,Zk,Xa,Za,Yq,Zi,Zd,Xo,eI,eB,eS,eL,List.cons_append,List.nil_append,List.append_nil,List.append_assoc])
    intro H enc W base spare held cs d ps h1 h2
    obtain ⟨x,⟨y,rfl,hy⟩,hr⟩:=h H enc W base spare held cs d ps h1 h2
    obtain ⟨y0,y1,u⟩:=y
    obtain ⟨a0,a1,_⟩:=hy
    exact ⟨_,Ql.mk ⟨y0,y1⟩ a0 a1,hr⟩
   have h:=Zfr (P:=Tryz.prog) (t:=42) (g:=Zd) (fun p=>(⟨p.1,p.2.1,p.2.2.1,p.2.2.2.1⟩:Zg)) Tryz.underlying42 (by kernel_rfl) (Y3 (k:=1) rfl (by kernel_rfl) ((Jq Tryz.underlying3) _) (Y3 (k:=1) rfl (by kernel_rfl) ((Jq Tryz.underlying3) _) (Y3 (k:=1) rfl (by kernel_rfl) (Yjc _) (Y3 (k:=11) rfl (by kernel_rfl) j29 Zge)))) (fun x=>by simp only [Zd,Xo,Za,Yq,Zk,Xa,Zi,Zh,Yr,eI,eB,eS,eL,List.cons_append,List.nil_append,List.append_nil,List.append_assoc])
   intro H enc W base spare held cs d ps h1 h2
   obtain ⟨x,⟨y,rfl,hy⟩,hr⟩:=h H enc W base spare held cs d ps h1 h2
   obtain ⟨y0,y1,y2,y3,u⟩:=y
   obtain ⟨a0,a1,a2,a3,_⟩:=hy
   exact ⟨_,Gb.mk ⟨y0,y1,y2,y3⟩ a0 a1 a2 a3,hr⟩
theorem Yhp:Zfj Tryz.prog 30 Zk Ki:=fun n=>(Yce n).1
theorem Yhq:Zfj Tryz.prog 40 Zh Ql:=fun n=>(Yce n).2.1
theorem Yhr:Zfj Tryz.prog 42 Zd Gb:=fun n=>(Yce n).2.2
theorem Ykj:Zfj Tryz.prog 27 (eL Zh) (fun xs:(List Zj)=>xs.length * 208≤140737488351232∧∀ x∈xs,Ql x):=fun n=>Ycl n (fun m _=>Yhq m)
theorem Ykk:Zfj Tryz.prog 28 (eL Zd) (fun xs:(List Zg)=>xs.length * 240≤140737488351232∧∀ x∈xs,Gb x):=fun n=>Ycm n (fun m _=>Yhr m)
theorem Yde (t:Zc) (h:Qc t):Bd t:=by
 induction h with
 | mk x h0 h1 h2a h2b ih =>
  refine .mk _ (by have:=h1.1;omega) (by omega) (fun w hw => ?_) ih
  have:=h1.2 w hw
  simp [Lit.wf,IntKind.min,IntKind.max,IntKind.signed,IntKind.bits] at this
  omega
theorem Ye6 {w:Zu} (h:Jl w):(0≤w.Mask∧w.Mask < 256)∧(0≤w.Old∧w.Old < 18446744073709551616)∧(0≤w.New∧w.New < 18446744073709551616):=by
 obtain ⟨_,h1,h2,h3⟩:=h
 simp [Lit.wf,IntKind.min,IntKind.max,IntKind.signed,IntKind.bits] at h1 h2 h3
 omega
theorem Yiz (e:Zb) (h:Ki e):BE e :=
 Ki.rec (motive_1:=fun e _=>BE e) (motive_2:=fun k _=>BE k.E) (motive_3:=fun o _=>BO o)
  (fun x h0 h1 h2 h3 h4a h4b h5 h6a h6b i4 i6 => .mk _ (Yde _ h1) (Yde _ h2) (by have:=h3.1;omega) (fun w hw=>Ye6 (h3.2 w hw)) (by omega) i4 (by omega) (fun o ho=>(i6 o ho).1) (fun o ho=>(i6 o ho).2))
  (fun x h0 h1 i1=>i1)
  (fun x h0 h1 h2 h3 i3=>⟨⟨by have:=h2.1;omega,fun t ht=>Yde t (h2.2 t ht)⟩,i3⟩) h
theorem own:ownKnob Tryz.prog.godebug=none:=by kernel_rfl
theorem Yd3:laidOutB Tryz.prog=true:=by kernel_rfl
set_option maxRecDepth 100000 in
theorem lifted (os:Os) (started:os.Started) (H:Type) (enc:TypeId×Value→H) :
  ReturnsInHanded {} Tryz.checked os 3 .any (Rows.splitPartsSpec.pre6 enc Tryz.prog Tryz.f3 Rows.splitPartsRow.domain false) (Rows.splitPartsSpec.post enc Tryz.prog Tryz.f3 false true false false):=by
 refine returnsInHanded_of_change_sized (C:=Tryz.checked) own started (by kernel_rfl) Tryz.func3
  (ChangeSpec.witness6 (enc:=enc) (C:=Tryz.checked) false ⟨#[],#[.agg #[.int .i64 0,.int .i64 0,.slice none 0 0,.slice none 0 0,.int .i64 0,.slice none 0 0,.slice none 0 0,.slice none 0 0,.slice none 0 0,.int .i64 0,.slice none 0 0]],[]⟩ 12 (by kernel_rfl) (by kernel_rfl) (by kernel_rfl) (by kernel_rfl)) ?_
 intro W base args ds gs before hval0 hW hcnd hsz0 _
 have hval:∀ (j:Nat) t v,Tryz.f3.params[j]? = some t→args[j]? = some v→Value.okWide Tryz.prog W .any base t v:=hval0
 have hW':=hW
 obtain ⟨p,q,hA0,hV,rfl,hfz,hnd⟩:=hW
 have hA:DataW.TrodAll enc Tryz.prog W 0 (fun _=>true) true Tryz.f3.params.toList args.toList ds p:=hA0
 rw [Tryz.params3] at hA hval
 obtain ⟨v0,vs0,d0,ds0,p0,q0,hargs,rfl,rfl,h0,r0⟩:=trodAll_cons hA
 obtain ⟨rfl,rfl,rfl⟩:=trodAll_nil r0
 obtain rfl:args=#[v0]:=by cases args;simp_all
 obtain ⟨rfl,rfl⟩:=trodVars_none hV
 clear hA0 hval0
 have hsz:(DataW.weightsEach Tryz.prog (Tryz.f3.params.toList++Rows.splitPartsSpec.plain.varTypes Tryz.prog) _).all (·≤reachBytes)=true:=hsz0
 clear hsz0
 rw [Tryz.params3] at hsz
 have lt0:∀ x∈p0,x.block < W.heap.size:=by obtain ⟨m,hm⟩:=h0;exact DataW.trod_lt m _ _ _ hm
 obtain ⟨x0,w0,e0⟩:=Ycf Yhp h0 (Z95 hsz (j:=0) rfl rfl)
 have g0:=Ydn (Z6k Tryz.underlying30 (hval 0 30 v0 rfl rfl)) e0
 simp only [Zk,Xa,Za,Yq,Zi,Zh,Yr,Zd,Xo] at g0
 refine (Ygg (Zk6 ((fun x wx=>Z3f (Yiz x wx)) x0 w0)).pure (vs:=[v0]) ⟨_,_,rfl,g0,rfl⟩).mono fun e W' ⟨he,bel⟩ => ?_
 subst he
 exact ⟨_,rfl,_,_,_,[],_,[],hW',trodAll_mk1 (shut_bool Tryz.underlying4 _),(trodAll_cons_mk (Below.trod Yd3 (by kernel_rfl) (of_decide_eq_true (by kernel_rfl)) h0 bel lt0) trodAll_mk0),rfl,bel.frame _,fun h=>by cases h⟩
theorem proved:Rows.SplitPartsSaid :=
 OpenClaim.holds_of_wide 3 Tryz.f3 rfl rfl rfl rfl rfl rfl rfl ⟨rfl,rfl,rfl,rfl,rfl⟩ rfl rfl rfl rfl rfl (by kernel_rfl) Tryz.func3 (by kernel_rfl)
  (of_decide_eq_true (by kernel_rfl)) (by unfold Func.isWrapper;first | (rw [if_pos (by decide +kernel)];kernel_rfl) | (rw [if_neg (by decide +kernel)];exact ⟨rfl,rfl⟩))
  (fun os started H enc _=>lifted os started H enc)
end Go.Proofs.YtkbcdcffpefklaaGreat.splitParts
