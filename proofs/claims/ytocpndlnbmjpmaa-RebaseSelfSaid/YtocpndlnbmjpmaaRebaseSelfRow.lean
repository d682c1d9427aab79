/- Called with any arguments, the law RebaseSelf returns true and leaves them as they were; no other condition. -/
import Derived.Test.YtocpndlnbmjpmaaRM7
import Derived.Test.YtocpndlnbmjpmaaRP3
import Derived.ShutString
import Derived.ChangeOld
import Derived.Below
namespace Go.Proofs.Ytocpndlnbmjpmaa.rebaseSelf
open Go.ChangeShapes Go.WideShapes Go.ChangeAt Go.RowKit
open Go.ChangeMaps (open_string shut_string)
set_option linter.unusedVariables false
set_option linter.unusedSimpArgs false
theorem op3:Zei Try.prog 3 (eI .i64) (fun x=>(Lit.int .i64 x).wf=true):=Kv Try.underlying3
theorem Yfp:Zei Try.prog 39 (eI .u64) (fun x=>(Lit.int .u64 x).wf=true):=Kv Try.underlying39
theorem Yci:Zei Try.prog 39 (eI .u64) (fun x:Int=>(Lit.int .u64 x).wf=true):=(Kv Try.underlying39)
theorem Yec:Zei Try.prog 22 (eL (eI .u64)) (fun xs:(List Int)=>xs.length * 8≤140737488351232∧∀ x∈xs,(fun x:Int=>(Lit.int .u64 x).wf=true) x):=by
 have h:=Ztu (P:=Try.prog) (t:=22) (sz:=1) Try.underlying22 (by kernel_rfl) (by decide) (fun _=>rfl) Yci
 have hb:Try.prog.bytesOf 39=8:=by kernel_rfl
 rw [hb] at h
 exact h
inductive Qv:Zb→Prop
 | mk (x:Zb) (h0:(fun x:Int=>(Lit.int .i64 x).wf=true) x.Kind) (h1:(fun xs:(List Int)=>xs.length * 8≤140737488351232∧∀ x∈xs,(fun x:Int=>(Lit.int .u64 x).wf=true) x) x.Words) (h2a:x.Kids.length * 56≤140737488351232) (h2b:∀ y∈x.Kids,Qv y):Qv x
theorem Z7k (n:Nat) (he:∀ m,m < n→Uf Try.prog 25 Za Qv m):Uf Try.prog 23 (eL Za) (fun xs:(List Zb)=>xs.length * 56≤140737488351232∧∀ x∈xs,Qv x) n:=by
 have h:=Zko (P:=Try.prog) (t:=23) (sz:=3) n Try.underlying23 (by kernel_rfl) (by decide) (fun _=>rfl) he
 have hb:Try.prog.bytesOf 25=56:=by kernel_rfl
 rw [hb] at h
 exact h
theorem Yck (n:Nat):(Uf Try.prog 25 Za Qv n):=by
 induction n using Nat.strongRecOn with
 | ind n ih =>
  cases n with
  | zero=>exact Zdy
  | succ n =>
   have i24:∀ q,q < n→Uf Try.prog 25 Za Qv q:=fun q hq=>(ih q (by omega))
   have j24:Uf Try.prog 25 Za Qv n:=(ih n (by omega))
   have h:=Zes (P:=Try.prog) (t:=25) (g:=Za) (fun p=>(⟨p.1,p.2.1,p.2.2.1⟩:Zb)) Try.underlying25 (by kernel_rfl) (Xi (k:=1) rfl (by kernel_rfl) ((Kv Try.underlying3) _) (Xi (k:=1) rfl (by kernel_rfl) (Yec _) (Xi (k:=1) rfl (by kernel_rfl) (Z7k n i24) Zfg))) (fun x=>by simp only [Za,Q9,eI,eB,eS,eL,List.cons_append,List.nil_append,List.append_nil,List.append_assoc])
   intro H enc W base spare held cs d ps h1 h2
   obtain ⟨x,⟨y,rfl,hy⟩,hr⟩:=h H enc W base spare held cs d ps h1 h2
   obtain ⟨y0,y1,y2,u⟩:=y
   obtain ⟨a0,a1,⟨a2a,a2b⟩,_⟩:=hy
   exact ⟨_,Qv.mk ⟨y0,y1,y2⟩ a0 a1 a2a a2b,hr⟩
theorem Z7i:Zei Try.prog 25 Za Qv:=fun n=>(Yck n)
theorem Yed:Zei Try.prog 23 (eL Za) (fun xs:(List Zb)=>xs.length * 56≤140737488351232∧∀ x∈xs,Qv x):=fun n=>Z7k n (fun m _=>Z7i m)
theorem op5:Zei Try.prog 5 (eI .u8) (fun x=>(Lit.int .u8 x).wf=true):=Kv Try.underlying5
def Kp (x:Zp):Prop:=(fun x:Int=>(Lit.int .i64 x).wf=true) x.At∧(fun x:Int=>(Lit.int .u8 x).wf=true) x.Mask∧(fun x:Int=>(Lit.int .u64 x).wf=true) x.Old∧(fun x:Int=>(Lit.int .u64 x).wf=true) x.New
theorem Yfq:Zei Try.prog 47 Zd Kp:=by
 have h:=Zrg (P:=Try.prog) (t:=47) (g:=Zd) (fun p=>(⟨p.1,p.2.1,p.2.2.1,p.2.2.2.1⟩:Zp)) Try.underlying47 (by kernel_rfl) (fun n=>(Xi (k:=1) rfl (by kernel_rfl) ((Kv Try.underlying3) _) (Xi (k:=1) rfl (by kernel_rfl) ((Kv Try.underlying5) _) (Xi (k:=1) rfl (by kernel_rfl) ((Kv Try.underlying39) _) (Xi (k:=1) rfl (by kernel_rfl) ((Kv Try.underlying39) _) Zfg))))) (fun x=>rfl)
 intro n H enc W base spare held cs d ps h1 h2
 obtain ⟨x,⟨y,rfl,hy⟩,hr⟩:=h n H enc W base spare held cs d ps h1 h2
 exact ⟨_,by unfold Kp;simp only;exact ⟨hy.1,hy.2.1,hy.2.2.1,hy.2.2.2.1⟩,hr⟩
theorem Ycn:Zei Try.prog 48 Zd Kp:=by
 have h:=Zrg (P:=Try.prog) (t:=48) (g:=Zd) (fun p=>(⟨p.1,p.2.1,p.2.2.1,p.2.2.2.1⟩:Zp)) Try.underlying48 (by kernel_rfl) (fun n=>(Xi (k:=1) rfl (by kernel_rfl) ((Kv Try.underlying3) _) (Xi (k:=1) rfl (by kernel_rfl) ((Kv Try.underlying5) _) (Xi (k:=1) rfl (by kernel_rfl) ((Kv Try.underlying39) _) (Xi (k:=1) rfl (by kernel_rfl) ((Kv Try.underlying39) _) Zfg))))) (fun x=>rfl)
 intro n H enc W base spare held cs d ps h1 h2
 obtain ⟨x,⟨y,rfl,hy⟩,hr⟩:=h n H enc W base spare held cs d ps h1 h2
 exact ⟨_,by unfold Kp;simp only;exact ⟨hy.1,hy.2.1,hy.2.2.1,hy.2.2.2.1⟩,hr⟩
theorem Ycj:Zei Try.prog 48 Zd Kp:=Ycn
theorem Yee:Zei Try.prog 26 (eL Zd) (fun xs:(List Zp)=>xs.length * 32≤140737488351232∧∀ x∈xs,Kp x):=by
 have h:=Ztu (P:=Try.prog) (t:=26) (sz:=4) Try.underlying26 (by kernel_rfl) (by decide) (fun _=>rfl) Ycj
 have hb:Try.prog.bytesOf 48=32:=by kernel_rfl
 rw [hb] at h
 exact h
mutual
inductive Vd:Zg→Prop
 | mk (x:Zg) (h0:(fun x:Int=>(Lit.int .i64 x).wf=true) x.Kind) (h1:Qv x.Old) (h2:Qv x.New) (h3:(fun xs:(List Zp)=>xs.length * 32≤140737488351232∧∀ x∈xs,Kp x) x.Words) (h4a:x.Kids.length * 208≤140737488351232) (h4b:∀ y∈x.Kids,Jc y) (h5:(fun x:Int=>(Lit.int .i64 x).wf=true) x.List_) (h6a:x.Ops.length * 240≤140737488351232) (h6b:∀ y∈x.Ops,Gx y):Vd x
inductive Gx:Zl→Prop
 | mk (x:Zl) (h0:(fun x:Int=>(Lit.int .i64 x).wf=true) x.Kind) (h1:(fun x:Int=>(Lit.int .i64 x).wf=true) x.N) (h2:(fun xs:(List Zb)=>xs.length * 56≤140737488351232∧∀ x∈xs,Qv x) x.L) (h3:Vd x.E):Gx x
inductive Jc:Zm→Prop
 | mk (x:Zm) (h0:(fun x:Int=>(Lit.int .i64 x).wf=true) x.At) (h1:Vd x.E):Jc x
end
theorem Z7l (n:Nat) (he:∀ m,m < n→Uf Try.prog 50 Zc Jc m):Uf Try.prog 27 (eL Zc) (fun xs:(List Zm)=>xs.length * 208≤140737488351232∧∀ x∈xs,Jc x) n:=by
 have h:=Zko (P:=Try.prog) (t:=27) (sz:=12) n Try.underlying27 (by kernel_rfl) (by decide) (fun _=>rfl) he
 have hb:Try.prog.bytesOf 50=208:=by kernel_rfl
 rw [hb] at h
 exact h
theorem Z7m (n:Nat) (he:∀ m,m < n→Uf Try.prog 41 Zf Gx m):Uf Try.prog 28 (eL Zf) (fun xs:(List Zl)=>xs.length * 240≤140737488351232∧∀ x∈xs,Gx x) n:=by
 have h:=Zko (P:=Try.prog) (t:=28) (sz:=14) n Try.underlying28 (by kernel_rfl) (by decide) (fun _=>rfl) he
 have hb:Try.prog.bytesOf 41=240:=by kernel_rfl
 rw [hb] at h
 exact h
theorem Z7g (n:Nat):(Uf Try.prog 30 Qf Vd n∧Uf Try.prog 41 Zf Gx n∧Uf Try.prog 50 Zc Jc n):=by
 induction n using Nat.strongRecOn with
 | ind n ih =>
  cases n with
  | zero=>exact ⟨Zdy,Zdy,Zdy⟩
  | succ n =>
   have i29:∀ q,q < n→Uf Try.prog 30 Qf Vd q:=fun q hq=>(ih q (by omega)).1
   have j29:Uf Try.prog 30 Qf Vd n:=(ih n (by omega)).1
   have i40:∀ q,q < n→Uf Try.prog 41 Zf Gx q:=fun q hq=>(ih q (by omega)).2.1
   have j40:Uf Try.prog 41 Zf Gx n:=(ih n (by omega)).2.1
   have i49:∀ q,q < n→Uf Try.prog 50 Zc Jc q:=fun q hq=>(ih q (by omega)).2.2
   have j49:Uf Try.prog 50 Zc Jc n:=(ih n (by omega)).2.2
   refine ⟨?_,?_,?_⟩
   ·have h:=Zes (P:=Try.prog) (t:=30) (g:=Qf) (fun p=>(⟨p.1,p.2.1,p.2.2.1,p.2.2.2.1,p.2.2.2.2.1,p.2.2.2.2.2.1,p.2.2.2.2.2.2.1⟩:Zg)) Try.underlying30 (by kernel_rfl) (Xi (k:=1) rfl (by kernel_rfl) ((Kv Try.underlying3) _) (Xi (k:=3) rfl (by kernel_rfl) (Z7i _) (Xi (k:=3) rfl (by kernel_rfl) (Z7i _) (Xi (k:=1) rfl (by kernel_rfl) (Yee _) (Xi (k:=1) rfl (by kernel_rfl) (Z7l n i49) (Xi (k:=1) rfl (by kernel_rfl) ((Kv Try.underlying3) _) (Xi (k:=1) rfl (by kernel_rfl) (Z7m n i40) Zfg))))))) (fun x=>by simp only [Qf,Zd6,Za,Q9,Zd,Zc,X3,Zf,Js,eI,eB,eS,eL,List.cons_append,List.nil_append,List.append_nil,List.append_assoc])
    intro H enc W base spare held cs d ps h1 h2
    obtain ⟨x,⟨y,rfl,hy⟩,hr⟩:=h H enc W base spare held cs d ps h1 h2
    obtain ⟨y0,y1,y2,y3,y4,y5,y6,u⟩:=y
    obtain ⟨a0,a1,a2,a3,⟨a4a,a4b⟩,a5,⟨a6a,a6b⟩,_⟩:=hy
    exact ⟨_,Vd.mk ⟨y0,y1,y2,y3,y4,y5,y6⟩ a0 a1 a2 a3 a4a a4b a5 a6a a6b,hr⟩
   ·have h:=Zes (P:=Try.prog) (t:=41) (g:=Zf) (fun p=>(⟨p.1,p.2.1,p.2.2.1,p.2.2.2.1⟩:Zl)) Try.underlying41 (by kernel_rfl) (Xi (k:=1) rfl (by kernel_rfl) ((Kv Try.underlying3) _) (Xi (k:=1) rfl (by kernel_rfl) ((Kv Try.underlying3) _) (Xi (k:=1) rfl (by kernel_rfl) (Yed _) (Xi (k:=11) rfl (by kernel_rfl) j29 Zfg)))) (fun x=>by simp only [Zf,Js,Za,Q9,Qf,Zd6,Zd,Zc,X3,eI,eB,eS,eL,List.cons_append,List.nil_append,List.append_nil,List.append_assoc])
    intro H enc W base spare held cs d ps h1 h2
    obtain ⟨x,⟨y,rfl,hy⟩,hr⟩:=h H enc W base spare held cs d ps h1 h2
    obtain ⟨y0,y1,y2,y3,u⟩:=y
    obtain ⟨a0,a1,a2,a3,_⟩:=hy
    exact ⟨_,Gx.mk ⟨y0,y1,y2,y3⟩ a0 a1 a2 a3,hr⟩
   have h:=Zes (P:=Try.prog) (t:=50) (g:=Zc) (fun p=>(⟨p.1,p.2.1⟩:Zm)) Try.underlying50 (by kernel_rfl) (Xi (k:=1) rfl (by kernel_rfl) ((Kv Try.underlying3) _) (Xi (k:=11) rfl (by kernel_rfl) j29 Zfg)) (fun x=>by simp only [Zc,X3,Qf,Zd6,Za,Q9,Zd,Zf,Js,eI,eB,eS,eL,List.cons_append,List.nil_append,List.append_nil,List.append_assoc])
   intro H enc W base spare held cs d ps h1 h2
   obtain ⟨x,⟨y,rfl,hy⟩,hr⟩:=h H enc W base spare held cs d ps h1 h2
   obtain ⟨y0,y1,u⟩:=y
   obtain ⟨a0,a1,_⟩:=hy
   exact ⟨_,Jc.mk ⟨y0,y1⟩ a0 a1,hr⟩
theorem Ycl:Zei Try.prog 30 Qf Vd:=fun n=>(Z7g n).1
theorem Ycm:Zei Try.prog 41 Zf Gx:=fun n=>(Z7g n).2.1
theorem Yco:Zei Try.prog 50 Zc Jc:=fun n=>(Z7g n).2.2
theorem Yfn:Zei Try.prog 27 (eL Zc) (fun xs:(List Zm)=>xs.length * 208≤140737488351232∧∀ x∈xs,Jc x):=fun n=>Z7l n (fun m _=>Yco m)
theorem Yfo:Zei Try.prog 28 (eL Zf) (fun xs:(List Zl)=>xs.length * 240≤140737488351232∧∀ x∈xs,Gx x):=fun n=>Z7m n (fun m _=>Ycm m)
theorem Z8m (t:Zb) (h:Qv t):Bd t:=by
 induction h with
 | mk x h0 h1 h2a h2b ih =>
  refine .mk _ (by have:=h1.1;omega) (by omega) (fun w hw => ?_) ih
  have:=h1.2 w hw
  simp [Lit.wf,IntKind.min,IntKind.max,IntKind.signed,IntKind.bits] at this
  omega
theorem Z94 {w:Zp} (h:Kp w):(0≤w.Mask∧w.Mask < 256)∧(0≤w.Old∧w.Old < 18446744073709551616)∧(0≤w.New∧w.New < 18446744073709551616):=by
 obtain ⟨_,h1,h2,h3⟩:=h
 simp [Lit.wf,IntKind.min,IntKind.max,IntKind.signed,IntKind.bits] at h1 h2 h3
 omega
theorem Ydt (e:Zg) (h:Vd e):BE e :=
 Vd.rec (motive_1:=fun e _=>BE e) (motive_2:=fun o _=>BO o) (motive_3:=fun k _=>BE k.E)
  (fun x h0 h1 h2 h3 h4a h4b h5 h6a h6b i4 i6 => .mk _ (Z8m _ h1) (Z8m _ h2) (by have:=h3.1;omega) (fun w hw=>Z94 (h3.2 w hw)) (by omega) i4 (by omega) (fun o ho=>(i6 o ho).1) (fun o ho=>(i6 o ho).2))
  (fun x h0 h1 h2 h3 i3=>⟨⟨by have:=h2.1;omega,fun t ht=>Z8m t (h2.2 t ht)⟩,i3⟩)
  (fun x h0 h1 i1=>i1) h
theorem own:ownKnob Try.prog.godebug=none:=by kernel_rfl
theorem Z88:laidOutB Try.prog=true:=by kernel_rfl
set_option maxRecDepth 100000 in
theorem lifted (os:Os) (started:os.Started) (H:Type) (enc:TypeId×Value→H) :
  ReturnsInHanded {} Try.checked os 4 .any (Rows.rebaseSelfSpec.pre6 enc Try.prog Try.f4 Rows.rebaseSelfRow.domain false) (Rows.rebaseSelfSpec.post enc Try.prog Try.f4 false true false false):=by
 refine returnsInHanded_of_change_sized (C:=Try.checked) own started (by kernel_rfl) Try.func4
  (ChangeSpec.witness6 (enc:=enc) (C:=Try.checked) false ⟨#[],#[.agg #[.int .i64 0,.int .i64 0,.slice none 0 0,.slice none 0 0,.int .i64 0,.slice none 0 0,.slice none 0 0,.slice none 0 0,.slice none 0 0,.int .i64 0,.slice none 0 0]],[]⟩ 12 (by kernel_rfl) (by kernel_rfl) (by kernel_rfl) (by kernel_rfl)) ?_
 intro W base args ds gs before hval0 hW hcnd hsz0 _
 have hval:∀ (j:Nat) t v,Try.f4.params[j]? = some t→args[j]? = some v→Value.okWide Try.prog W .any base t v:=hval0
 have hW':=hW
 obtain ⟨p,q,hA0,hV,rfl,hfz,hnd⟩:=hW
 have hA:DataW.TrodAll enc Try.prog W 0 (fun _=>true) true Try.f4.params.toList args.toList ds p:=hA0
 rw [Try.params4] at hA hval
 obtain ⟨v0,vs0,d0,ds0,p0,q0,hargs,rfl,rfl,h0,r0⟩:=trodAll_cons hA
 obtain ⟨rfl,rfl,rfl⟩:=trodAll_nil r0
 obtain rfl:args=#[v0]:=by cases args;simp_all
 obtain ⟨rfl,rfl⟩:=trodVars_none hV
 clear hA0 hval0
 have hsz:(DataW.weightsEach Try.prog (Try.f4.params.toList++Rows.rebaseSelfSpec.plain.varTypes Try.prog) _).all (·≤reachBytes)=true:=hsz0
 clear hsz0
 rw [Try.params4] at hsz
 have lt0:∀ x∈p0,x.block < W.heap.size:=by obtain ⟨m,hm⟩:=h0;exact DataW.trod_lt m _ _ _ hm
 obtain ⟨x0,w0,e0⟩:=Z7h Ycl h0 (Z46 hsz (j:=0) rfl rfl)
 have g0:=Z8w (Z19 Try.underlying30 (hval 0 30 v0 rfl rfl)) e0
 simp only [Qf,Zd6,Za,Q9,Zd,Zc,X3,Zf,Js] at g0
 refine (Ya5 (Zkk ((fun x wx=>Zze (Ydt x wx)) x0 w0)).pure (vs:=[v0]) ⟨_,_,rfl,g0,rfl⟩).mono fun e W' ⟨he,bel⟩ => ?_
 subst he
 exact ⟨_,rfl,_,_,_,[],_,[],hW',trodAll_mk1 (shut_bool Try.underlying4 _),(trodAll_cons_mk (Below.trod Z88 (by kernel_rfl) (of_decide_eq_true (by kernel_rfl)) h0 bel lt0) trodAll_mk0),rfl,bel.frame _,fun h=>by cases h⟩
theorem proved:Rows.RebaseSelfSaid :=
 OpenClaim.holds_of_wide 4 Try.f4 rfl rfl rfl rfl rfl rfl rfl ⟨rfl,rfl,rfl,rfl,rfl⟩ rfl rfl rfl rfl rfl (by kernel_rfl) Try.func4 (by kernel_rfl)
  (of_decide_eq_true (by kernel_rfl)) (by unfold Func.isWrapper;first | (rw [if_pos (by decide +kernel)];kernel_rfl) | (rw [if_neg (by decide +kernel)];exact ⟨rfl,rfl⟩))
  (fun os started H enc _=>lifted os started H enc)
end Go.Proofs.Ytocpndlnbmjpmaa.rebaseSelf
