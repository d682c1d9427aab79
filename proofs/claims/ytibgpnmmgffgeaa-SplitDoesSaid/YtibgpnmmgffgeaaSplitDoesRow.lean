/- Called with any arguments, the law SplitDoes returns true and leaves them as they were; no other condition. -/
import Derived.Test.YtibgpnmmgffgeaaJM5
import Derived.Test.YtibgpnmmgffgeaaJQ1
import Derived.ShutString
import Derived.ChangeOld
import Derived.Below
namespace Go.Proofs.Ytibgpnmmgffgeaa.splitDoes
open Go.ChangeShapes Go.WideShapes Go.ChangeAt Go.RowKit
open Go.ChangeMaps (open_string shut_string)
set_option linter.unusedVariables false
set_option linter.unusedSimpArgs false
theorem op3:Zef Try.prog 3 (eI .i64) (fun x=>(Lit.int .i64 x).wf=true):=Jp Try.underlying3
theorem Yk5:Zef Try.prog 48 (eI .u64) (fun x=>(Lit.int .u64 x).wf=true):=Jp Try.underlying48
theorem Yh2:Zef Try.prog 48 (eI .u64) (fun x:Int=>(Lit.int .u64 x).wf=true):=(Jp Try.underlying48)
theorem Yjr:Zef Try.prog 22 (eL (eI .u64)) (fun xs:(List Int)=>xs.length * 8≤140737488351232∧∀ x∈xs,(fun x:Int=>(Lit.int .u64 x).wf=true) x):=by
 have h:=Zsx (P:=Try.prog) (t:=22) (sz:=1) Try.underlying22 (by kernel_rfl) (by decide) (fun _=>rfl) Yh2
 have hb:Try.prog.bytesOf 48=8:=by kernel_rfl
 rw [hb] at h
 exact h
inductive X9:Zb→Prop
 | mk (x:Zb) (h0:(fun x:Int=>(Lit.int .i64 x).wf=true) x.Kind) (h1:(fun xs:(List Int)=>xs.length * 8≤140737488351232∧∀ x∈xs,(fun x:Int=>(Lit.int .u64 x).wf=true) x) x.Words) (h2a:x.Kids.length * 56≤140737488351232) (h2b:∀ y∈x.Kids,X9 y):X9 x
theorem Ya2 (n:Nat) (he:∀ m,m < n→Vf Try.prog 25 Za X9 m):Vf Try.prog 23 (eL Za) (fun xs:(List Zb)=>xs.length * 56≤140737488351232∧∀ x∈xs,X9 x) n:=by
 have h:=Zjt (P:=Try.prog) (t:=23) (sz:=3) n Try.underlying23 (by kernel_rfl) (by decide) (fun _=>rfl) he
 have hb:Try.prog.bytesOf 25=56:=by kernel_rfl
 rw [hb] at h
 exact h
theorem Yh4 (n:Nat):(Vf Try.prog 25 Za X9 n):=by
 induction n using Nat.strongRecOn with
 | ind n ih =>
  cases n with
  | zero=>exact Zcx
  | succ n =>
   have i24:∀ q,q < n→Vf Try.prog 25 Za X9 q:=fun q hq=>(ih q (by omega))
   have j24:Vf Try.prog 25 Za X9 n:=(ih n (by omega))
   have h:=Zem (P:=Try.prog) (t:=25) (g:=Za) (fun p=>(⟨p.1,p.2.1,p.2.2.1⟩:Zb)) Try.underlying25 (by kernel_rfl) (Y3 (k:=1) rfl (by kernel_rfl) ((Jp Try.underlying3) _) (Y3 (k:=1) rfl (by kernel_rfl) (Yjr _) (Y3 (k:=1) rfl (by kernel_rfl) (Ya2 n i24) Ze3))) (fun x=>by simp only [Za,Yq,eI,eB,eS,eL,List.cons_append,List.nil_append,List.append_nil,List.append_assoc])
   intro H enc W base spare held cs d ps h1 h2
   obtain ⟨x,⟨y,rfl,hy⟩,hr⟩:=h H enc W base spare held cs d ps h1 h2
   obtain ⟨y0,y1,y2,u⟩:=y
   obtain ⟨a0,a1,⟨a2a,a2b⟩,_⟩:=hy
   exact ⟨_,X9.mk ⟨y0,y1,y2⟩ a0 a1 a2a a2b,hr⟩
theorem Z7f:Zef Try.prog 25 Za X9:=fun n=>(Yh4 n)
theorem Yjs:Zef Try.prog 23 (eL Za) (fun xs:(List Zb)=>xs.length * 56≤140737488351232∧∀ x∈xs,X9 x):=fun n=>Ya2 n (fun m _=>Z7f m)
theorem op5:Zef Try.prog 5 (eI .u8) (fun x=>(Lit.int .u8 x).wf=true):=Jp Try.underlying5
def Jl (x:Zr):Prop:=(fun x:Int=>(Lit.int .i64 x).wf=true) x.At∧(fun x:Int=>(Lit.int .u8 x).wf=true) x.Mask∧(fun x:Int=>(Lit.int .u64 x).wf=true) x.Old∧(fun x:Int=>(Lit.int .u64 x).wf=true) x.New
theorem Yk6:Zef Try.prog 56 Zf Jl:=by
 have h:=Zpw (P:=Try.prog) (t:=56) (g:=Zf) (fun p=>(⟨p.1,p.2.1,p.2.2.1,p.2.2.2.1⟩:Zr)) Try.underlying56 (by kernel_rfl) (fun n=>(Y3 (k:=1) rfl (by kernel_rfl) ((Jp Try.underlying3) _) (Y3 (k:=1) rfl (by kernel_rfl) ((Jp Try.underlying5) _) (Y3 (k:=1) rfl (by kernel_rfl) ((Jp Try.underlying48) _) (Y3 (k:=1) rfl (by kernel_rfl) ((Jp Try.underlying48) _) Ze3))))) (fun x=>rfl)
 intro n H enc W base spare held cs d ps h1 h2
 obtain ⟨x,⟨y,rfl,hy⟩,hr⟩:=h n H enc W base spare held cs d ps h1 h2
 exact ⟨_,by unfold Jl;simp only;exact ⟨hy.1,hy.2.1,hy.2.2.1,hy.2.2.2.1⟩,hr⟩
theorem Yh8:Zef Try.prog 57 Zf Jl:=by
 have h:=Zpw (P:=Try.prog) (t:=57) (g:=Zf) (fun p=>(⟨p.1,p.2.1,p.2.2.1,p.2.2.2.1⟩:Zr)) Try.underlying57 (by kernel_rfl) (fun n=>(Y3 (k:=1) rfl (by kernel_rfl) ((Jp Try.underlying3) _) (Y3 (k:=1) rfl (by kernel_rfl) ((Jp Try.underlying5) _) (Y3 (k:=1) rfl (by kernel_rfl) ((Jp Try.underlying48) _) (Y3 (k:=1) rfl (by kernel_rfl) ((Jp Try.underlying48) _) Ze3))))) (fun x=>rfl)
 intro n H enc W base spare held cs d ps h1 h2
 obtain ⟨x,⟨y,rfl,hy⟩,hr⟩:=h n H enc W base spare held cs d ps h1 h2
 exact ⟨_,by unfold Jl;simp only;exact ⟨hy.1,hy.2.1,hy.2.2.1,hy.2.2.2.1⟩,hr⟩
theorem Yh3:Zef Try.prog 57 Zf Jl:=Yh8
theorem Yjt:Zef Try.prog 26 (eL Zf) (fun xs:(List Zr)=>xs.length * 32≤140737488351232∧∀ x∈xs,Jl x):=by
 have h:=Zsx (P:=Try.prog) (t:=26) (sz:=4) Try.underlying26 (by kernel_rfl) (by decide) (fun _=>rfl) Yh3
 have hb:Try.prog.bytesOf 57=32:=by kernel_rfl
 rw [hb] at h
 exact h
mutual
inductive Kg:Zc→Prop
 | mk (x:Zc) (h0:(fun x:Int=>(Lit.int .i64 x).wf=true) x.Kind) (h1:X9 x.Old) (h2:X9 x.New) (h3:(fun xs:(List Zr)=>xs.length * 32≤140737488351232∧∀ x∈xs,Jl x) x.Words) (h4a:x.Kids.length * 208≤140737488351232) (h4b:∀ y∈x.Kids,Qk y) (h5:(fun x:Int=>(Lit.int .i64 x).wf=true) x.List_) (h6a:x.Ops.length * 240≤140737488351232) (h6b:∀ y∈x.Ops,Uq y):Kg x
inductive Qk:Zm→Prop
 | mk (x:Zm) (h0:(fun x:Int=>(Lit.int .i64 x).wf=true) x.At) (h1:Kg x.E):Qk x
inductive Uq:Zl→Prop
 | mk (x:Zl) (h0:(fun x:Int=>(Lit.int .i64 x).wf=true) x.Kind) (h1:(fun x:Int=>(Lit.int .i64 x).wf=true) x.N) (h2:(fun xs:(List Zb)=>xs.length * 56≤140737488351232∧∀ x∈xs,X9 x) x.L) (h3:Kg x.E):Uq x
end
theorem Ya3 (n:Nat) (he:∀ m,m < n→Vf Try.prog 44 Zh Qk m):Vf Try.prog 27 (eL Zh) (fun xs:(List Zm)=>xs.length * 208≤140737488351232∧∀ x∈xs,Qk x) n:=by
 have h:=Zjt (P:=Try.prog) (t:=27) (sz:=12) n Try.underlying27 (by kernel_rfl) (by decide) (fun _=>rfl) he
 have hb:Try.prog.bytesOf 44=208:=by kernel_rfl
 rw [hb] at h
 exact h
theorem Ya4 (n:Nat) (he:∀ m,m < n→Vf Try.prog 46 Zd Uq m):Vf Try.prog 28 (eL Zd) (fun xs:(List Zl)=>xs.length * 240≤140737488351232∧∀ x∈xs,Uq x) n:=by
 have h:=Zjt (P:=Try.prog) (t:=28) (sz:=14) n Try.underlying28 (by kernel_rfl) (by decide) (fun _=>rfl) he
 have hb:Try.prog.bytesOf 46=240:=by kernel_rfl
 rw [hb] at h
 exact h
theorem Yaz (n:Nat):(Vf Try.prog 30 Zn Kg n∧Vf Try.prog 44 Zh Qk n∧Vf Try.prog 46 Zd Uq n):=by
 induction n using Nat.strongRecOn with
 | ind n ih =>
  cases n with
  | zero=>exact ⟨Zcx,Zcx,Zcx⟩
  | succ n =>
   have i29:∀ q,q < n→Vf Try.prog 30 Zn Kg q:=fun q hq=>(ih q (by omega)).1
   have j29:Vf Try.prog 30 Zn Kg n:=(ih n (by omega)).1
   have i43:∀ q,q < n→Vf Try.prog 44 Zh Qk q:=fun q hq=>(ih q (by omega)).2.1
   have j43:Vf Try.prog 44 Zh Qk n:=(ih n (by omega)).2.1
   have i45:∀ q,q < n→Vf Try.prog 46 Zd Uq q:=fun q hq=>(ih q (by omega)).2.2
   have j45:Vf Try.prog 46 Zd Uq n:=(ih n (by omega)).2.2
   refine ⟨?_,?_,?_⟩
   ·have h:=Zem (P:=Try.prog) (t:=30) (g:=Zn) (fun p=>(⟨p.1,p.2.1,p.2.2.1,p.2.2.2.1,p.2.2.2.2.1,p.2.2.2.2.2.1,p.2.2.2.2.2.2.1⟩:Zc)) Try.underlying30 (by kernel_rfl) (Y3 (k:=1) rfl (by kernel_rfl) ((Jp Try.underlying3) _) (Y3 (k:=3) rfl (by kernel_rfl) (Z7f _) (Y3 (k:=3) rfl (by kernel_rfl) (Z7f _) (Y3 (k:=1) rfl (by kernel_rfl) (Yjt _) (Y3 (k:=1) rfl (by kernel_rfl) (Ya3 n i43) (Y3 (k:=1) rfl (by kernel_rfl) ((Jp Try.underlying3) _) (Y3 (k:=1) rfl (by kernel_rfl) (Ya4 n i45) Ze3))))))) (fun x=>by simp only [Zn,Xh,Za,Yq,Zf,Zh,Y0,Zd,Xu,eI,eB,eS,eL,List.cons_append,List.nil_append,List.append_nil,List.append_assoc])
    intro H enc W base spare held cs d ps h1 h2
    obtain ⟨x,⟨y,rfl,hy⟩,hr⟩:=h H enc W base spare held cs d ps h1 h2
    obtain ⟨y0,y1,y2,y3,y4,y5,y6,u⟩:=y
    obtain ⟨a0,a1,a2,a3,⟨a4a,a4b⟩,a5,⟨a6a,a6b⟩,_⟩:=hy
    exact ⟨_,Kg.mk ⟨y0,y1,y2,y3,y4,y5,y6⟩ a0 a1 a2 a3 a4a a4b a5 a6a a6b,hr⟩
   ·have h:=Zem (P:=Try.prog) (t:=44) (g:=Zh) (fun p=>(⟨p.1,p.2.1⟩:Zm)) Try.underlying44 (by kernel_rfl) (Y3 (k:=1) rfl (by kernel_rfl) ((Jp Try.underlying3) _) (Y3 (k:=11) rfl (by kernel_rfl) j29 Ze3)) (fun x=>by simp only [Zh,Y0,Zn,Xh,Za,Yq,Zf,Zd,Xu,eI,eB,eS,eL,List.cons_append,List.nil_append,List.append_nil,List.append_assoc])
    intro H enc W base spare held cs d ps h1 h2
    obtain ⟨x,⟨y,rfl,hy⟩,hr⟩:=h H enc W base spare held cs d ps h1 h2
    obtain ⟨y0,y1,u⟩:=y
    obtain ⟨a0,a1,_⟩:=hy
    exact ⟨_,Qk.mk ⟨y0,y1⟩ a0 a1,hr⟩
   have h:=Zem (P:=Try.prog) (t:=46) (g:=Zd) (fun p=>(⟨p.1,p.2.1,p.2.2.1,p.2.2.2.1⟩:Zl)) Try.underlying46 (by kernel_rfl) (Y3 (k:=1) rfl (by kernel_rfl) ((Jp Try.underlying3) _) (Y3 (k:=1) rfl (by kernel_rfl) ((Jp Try.underlying3) _) (Y3 (k:=1) rfl (by kernel_rfl) (Yjs _) (Y3 (k:=11) rfl (by kernel_rfl) j29 Ze3)))) (fun x=>by simp only [Zd,Xu,Za,Yq,Zn,Xh,Zf,Zh,Y0,eI,eB,eS,eL,List.cons_append,List.nil_append,List.append_nil,List.append_assoc])
   intro H enc W base spare held cs d ps h1 h2
   obtain ⟨x,⟨y,rfl,hy⟩,hr⟩:=h H enc W base spare held cs d ps h1 h2
   obtain ⟨y0,y1,y2,y3,u⟩:=y
   obtain ⟨a0,a1,a2,a3,_⟩:=hy
   exact ⟨_,Uq.mk ⟨y0,y1,y2,y3⟩ a0 a1 a2 a3,hr⟩
theorem Yh5:Zef Try.prog 30 Zn Kg:=fun n=>(Yaz n).1
theorem Yh6:Zef Try.prog 44 Zh Qk:=fun n=>(Yaz n).2.1
theorem Yh7:Zef Try.prog 46 Zd Uq:=fun n=>(Yaz n).2.2
theorem Yk3:Zef Try.prog 27 (eL Zh) (fun xs:(List Zm)=>xs.length * 208≤140737488351232∧∀ x∈xs,Qk x):=fun n=>Ya3 n (fun m _=>Yh6 m)
theorem Yk4:Zef Try.prog 28 (eL Zd) (fun xs:(List Zl)=>xs.length * 240≤140737488351232∧∀ x∈xs,Uq x):=fun n=>Ya4 n (fun m _=>Yh7 m)
theorem Z7z (t:Zb) (h:X9 t):Bd t:=by
 induction h with
 | mk x h0 h1 h2a h2b ih =>
  refine .mk _ (by have:=h1.1;omega) (by omega) (fun w hw => ?_) ih
  have:=h1.2 w hw
  simp [Lit.wf,IntKind.min,IntKind.max,IntKind.signed,IntKind.bits] at this
  omega
theorem Yey {w:Zr} (h:Jl w):(0≤w.Mask∧w.Mask < 256)∧(0≤w.Old∧w.Old < 18446744073709551616)∧(0≤w.New∧w.New < 18446744073709551616):=by
 obtain ⟨_,h1,h2,h3⟩:=h
 simp [Lit.wf,IntKind.min,IntKind.max,IntKind.signed,IntKind.bits] at h1 h2 h3
 omega
theorem Yjc (e:Zc) (h:Kg e):BE e :=
 Kg.rec (motive_1:=fun e _=>BE e) (motive_2:=fun k _=>BE k.E) (motive_3:=fun o _=>BO o)
  (fun x h0 h1 h2 h3 h4a h4b h5 h6a h6b i4 i6 => .mk _ (Z7z _ h1) (Z7z _ h2) (by have:=h3.1;omega) (fun w hw=>Yey (h3.2 w hw)) (by omega) i4 (by omega) (fun o ho=>(i6 o ho).1) (fun o ho=>(i6 o ho).2))
  (fun x h0 h1 i1=>i1)
  (fun x h0 h1 h2 h3 i3=>⟨⟨by have:=h2.1;omega,fun t ht=>Z7z t (h2.2 t ht)⟩,i3⟩) h
theorem own:ownKnob Try.prog.godebug=none:=by kernel_rfl
theorem Z62:laidOutB Try.prog=true:=by kernel_rfl
set_option maxRecDepth 100000 in
theorem lifted (os:Os) (started:os.Started) (H:Type) (enc:TypeId×Value→H) :
  ReturnsInHanded {} Try.checked os 3 .any (Rows.splitDoesSpec.pre6 enc Try.prog Try.f3 Rows.splitDoesRow.domain false) (Rows.splitDoesSpec.post enc Try.prog Try.f3 false true false false):=by
 refine returnsInHanded_of_change_sized (C:=Try.checked) own started (by kernel_rfl) Try.func3
  (ChangeSpec.witness6 (enc:=enc) (C:=Try.checked) false ⟨#[],#[.agg #[.int .i64 0,.int .i64 0,.slice none 0 0,.slice none 0 0,.int .i64 0,.slice none 0 0,.slice none 0 0,.slice none 0 0,.slice none 0 0,.int .i64 0,.slice none 0 0],.agg #[.int .i64 0,.slice none 0 0,.slice none 0 0]],[]⟩ 12 (by kernel_rfl) (by kernel_rfl) (by kernel_rfl) (by kernel_rfl)) ?_
 intro W base args ds gs before hval0 hW hcnd hsz0 _
 have hval:∀ (j:Nat) t v,Try.f3.params[j]? = some t→args[j]? = some v→Value.okWide Try.prog W .any base t v:=hval0
 have hW':=hW
 obtain ⟨p,q,hA0,hV,rfl,hfz,hnd⟩:=hW
 have hA:DataW.TrodAll enc Try.prog W 0 (fun _=>true) true Try.f3.params.toList args.toList ds p:=hA0
 rw [Try.params3] at hA hval
 obtain ⟨v0,vs0,d0,ds0,p0,q0,hargs,rfl,rfl,h0,r0⟩:=trodAll_cons hA
 obtain ⟨v1,vs1,d1,ds1,p1,q1,rfl,rfl,rfl,h1,r1⟩:=trodAll_cons r0
 obtain ⟨rfl,rfl,rfl⟩:=trodAll_nil r1
 obtain rfl:args=#[v0,v1]:=by cases args;simp_all
 obtain ⟨rfl,rfl⟩:=trodVars_none hV
 clear hA0 hval0
 have hsz:(DataW.weightsEach Try.prog (Try.f3.params.toList++Rows.splitDoesSpec.plain.varTypes Try.prog) _).all (·≤reachBytes)=true:=hsz0
 clear hsz0
 rw [Try.params3] at hsz
 have lt0:∀ x∈p0,x.block < W.heap.size:=by obtain ⟨m,hm⟩:=h0;exact DataW.trod_lt m _ _ _ hm
 obtain ⟨x0,w0,e0⟩:=Z25 Yh5 h0 (Zxi hsz (j:=0) rfl rfl)
 have g0:=Z6e (Zt7 Try.underlying30 (hval 0 30 v0 rfl rfl)) e0
 simp only [Zn,Xh,Za,Yq,Zf,Zh,Y0,Zd,Xu] at g0
 have lt1:∀ x∈p1,x.block < W.heap.size:=by obtain ⟨m,hm⟩:=h1;exact DataW.trod_lt m _ _ _ hm
 obtain ⟨x1,w1,e1⟩:=Z25 Z7f h1 (Zxi hsz (j:=1) rfl rfl)
 have g1:=Z6e (Zt7 Try.underlying25 (hval 1 25 v1 rfl rfl)) e1
 simp only [Za,Yq] at g1
 refine (Ygb (Zka ((fun x wx y wy=>Z3k (Yjc x wx) (Z7z y wy)) x0 w0 x1 w1)).pure (vs:=[v0,v1]) ⟨_,_,rfl,g0,⟨_,_,rfl,g1,rfl⟩⟩).mono fun e W' ⟨he,bel⟩ => ?_
 subst he
 exact ⟨_,rfl,_,_,_,[],_,[],hW',trodAll_mk1 (shut_bool Try.underlying4 _),(trodAll_cons_mk (Below.trod Z62 (by kernel_rfl) (of_decide_eq_true (by kernel_rfl)) h0 bel lt0) (trodAll_cons_mk (Below.trod Z62 (by kernel_rfl) (of_decide_eq_true (by kernel_rfl)) h1 bel lt1) trodAll_mk0)),rfl,bel.frame _,fun h=>by cases h⟩
theorem proved:Rows.SplitDoesSaid :=
 OpenClaim.holds_of_wide 3 Try.f3 rfl rfl rfl rfl rfl rfl rfl ⟨rfl,rfl,rfl,rfl,rfl⟩ rfl rfl rfl rfl rfl (by kernel_rfl) Try.func3 (by kernel_rfl)
  (of_decide_eq_true (by kernel_rfl)) (by unfold Func.isWrapper;first | (rw [if_pos (by decide +kernel)];kernel_rfl) | (rw [if_neg (by decide +kernel)];exact ⟨rfl,rfl⟩))
  (fun os started H enc _=>lifted os started H enc)
end Go.Proofs.Ytibgpnmmgffgeaa.splitDoes
