/- Called with any arguments, the law RebaseTurned returns true and leaves them as they were; no other condition. -/
import Derived.Test.YtocpndlnbmjpmaaVM9
import Derived.Test.YtocpndlnbmjpmaaVQ1
import Derived.ShutString
import Derived.ChangeOld
import Derived.Below
namespace Go.Proofs.Ytocpndlnbmjpmaa.rebaseTurned
open Go.ChangeShapes Go.WideShapes Go.ChangeAt Go.RowKit
open Go.ChangeMaps (open_string shut_string)
set_option linter.unusedVariables false
set_option linter.unusedSimpArgs false
theorem op3:kB Try.prog 3 (eI .i64) (fun x=>(Lit.int .i64 x).wf=true):=Uo Try.underlying3
theorem Yfu:kB Try.prog 39 (eI .u64) (fun x=>(Lit.int .u64 x).wf=true):=Uo Try.underlying39
theorem Yax:kB Try.prog 39 (eI .u64) (fun x:Int=>(Lit.int .u64 x).wf=true):=(Uo Try.underlying39)
theorem Yd5:kB Try.prog 22 (eL (eI .u64)) (fun xs:(List Int)=>xs.length * 8≤140737488351232∧∀ x∈xs,(fun x:Int=>(Lit.int .u64 x).wf=true) x):=by
 have h:=Ziy (P:=Try.prog) (t:=22) (sz:=1) Try.underlying22 (by kernel_rfl) (by decide) (fun _=>rfl) Yax
 have hb:Try.prog.bytesOf 39=8:=by kernel_rfl
 rw [hb] at h
 exact h
inductive Kt:Zb→Prop
 | mk (x:Zb) (h0:(fun x:Int=>(Lit.int .i64 x).wf=true) x.Kind) (h1:(fun xs:(List Int)=>xs.length * 8≤140737488351232∧∀ x∈xs,(fun x:Int=>(Lit.int .u64 x).wf=true) x) x.Words) (h2a:x.Kids.length * 56≤140737488351232) (h2b:∀ y∈x.Kids,Kt y):Kt x
theorem Z0t (n:Nat) (he:∀ m,m < n→vZ Try.prog 25 Za Kt m):vZ Try.prog 23 (eL Za) (fun xs:(List Zb)=>xs.length * 56≤140737488351232∧∀ x∈xs,Kt x) n:=by
 have h:=jT (P:=Try.prog) (t:=23) (sz:=3) n Try.underlying23 (by kernel_rfl) (by decide) (fun _=>rfl) he
 have hb:Try.prog.bytesOf 25=56:=by kernel_rfl
 rw [hb] at h
 exact h
theorem Yaz (n:Nat):(vZ Try.prog 25 Za Kt n):=by
 induction n using Nat.strongRecOn with
 | ind n ih =>
  cases n with
  | zero=>exact iA
  | succ n =>
   have i24:∀ q,q < n→vZ Try.prog 25 Za Kt q:=fun q hq=>(ih q (by omega))
   have j24:vZ Try.prog 25 Za Kt n:=(ih n (by omega))
   have h:=uB (P:=Try.prog) (t:=25) (g:=Za) (fun p=>(⟨p.1,p.2.1,p.2.2.1⟩:Zb)) Try.underlying25 (by kernel_rfl) (Qk (k:=1) rfl (by kernel_rfl) ((Uo Try.underlying3) _) (Qk (k:=1) rfl (by kernel_rfl) (Yd5 _) (Qk (k:=1) rfl (by kernel_rfl) (Z0t n i24) pC))) (fun x=>by simp only [Za,Jn,eI,eB,eS,eL,List.cons_append,List.nil_append,List.append_nil,List.append_assoc])
   intro H enc W base spare held cs d ps h1 h2
   obtain ⟨x,⟨y,rfl,hy⟩,hr⟩:=h H enc W base spare held cs d ps h1 h2
   obtain ⟨y0,y1,y2,u⟩:=y
   obtain ⟨a0,a1,⟨a2a,a2b⟩,_⟩:=hy
   exact ⟨_,Kt.mk ⟨y0,y1,y2⟩ a0 a1 a2a a2b,hr⟩
theorem Z0r:kB Try.prog 25 Za Kt:=fun n=>(Yaz n)
theorem Yd6:kB Try.prog 23 (eL Za) (fun xs:(List Zb)=>xs.length * 56≤140737488351232∧∀ x∈xs,Kt x):=fun n=>Z0t n (fun m _=>Z0r m)
theorem op5:kB Try.prog 5 (eI .u8) (fun x=>(Lit.int .u8 x).wf=true):=Uo Try.underlying5
def Uj (x:Zs):Prop:=(fun x:Int=>(Lit.int .i64 x).wf=true) x.At∧(fun x:Int=>(Lit.int .u8 x).wf=true) x.Mask∧(fun x:Int=>(Lit.int .u64 x).wf=true) x.Old∧(fun x:Int=>(Lit.int .u64 x).wf=true) x.New
theorem Yfv:kB Try.prog 47 Zf Uj:=by
 have h:=Zf2 (P:=Try.prog) (t:=47) (g:=Zf) (fun p=>(⟨p.1,p.2.1,p.2.2.1,p.2.2.2.1⟩:Zs)) Try.underlying47 (by kernel_rfl) (fun n=>(Qk (k:=1) rfl (by kernel_rfl) ((Uo Try.underlying3) _) (Qk (k:=1) rfl (by kernel_rfl) ((Uo Try.underlying5) _) (Qk (k:=1) rfl (by kernel_rfl) ((Uo Try.underlying39) _) (Qk (k:=1) rfl (by kernel_rfl) ((Uo Try.underlying39) _) pC))))) (fun x=>rfl)
 intro n H enc W base spare held cs d ps h1 h2
 obtain ⟨x,⟨y,rfl,hy⟩,hr⟩:=h n H enc W base spare held cs d ps h1 h2
 exact ⟨_,by unfold Uj;simp only;exact ⟨hy.1,hy.2.1,hy.2.2.1,hy.2.2.2.1⟩,hr⟩
theorem Ya1:kB Try.prog 48 Zf Uj:=by
 have h:=Zf2 (P:=Try.prog) (t:=48) (g:=Zf) (fun p=>(⟨p.1,p.2.1,p.2.2.1,p.2.2.2.1⟩:Zs)) Try.underlying48 (by kernel_rfl) (fun n=>(Qk (k:=1) rfl (by kernel_rfl) ((Uo Try.underlying3) _) (Qk (k:=1) rfl (by kernel_rfl) ((Uo Try.underlying5) _) (Qk (k:=1) rfl (by kernel_rfl) ((Uo Try.underlying39) _) (Qk (k:=1) rfl (by kernel_rfl) ((Uo Try.underlying39) _) pC))))) (fun x=>rfl)
 intro n H enc W base spare held cs d ps h1 h2
 obtain ⟨x,⟨y,rfl,hy⟩,hr⟩:=h n H enc W base spare held cs d ps h1 h2
 exact ⟨_,by unfold Uj;simp only;exact ⟨hy.1,hy.2.1,hy.2.2.1,hy.2.2.2.1⟩,hr⟩
theorem Yay:kB Try.prog 48 Zf Uj:=Ya1
theorem Yd7:kB Try.prog 26 (eL Zf) (fun xs:(List Zs)=>xs.length * 32≤140737488351232∧∀ x∈xs,Uj x):=by
 have h:=Ziy (P:=Try.prog) (t:=26) (sz:=4) Try.underlying26 (by kernel_rfl) (by decide) (fun _=>rfl) Yay
 have hb:Try.prog.bytesOf 48=32:=by kernel_rfl
 rw [hb] at h
 exact h
mutual
inductive Gg:Zd→Prop
 | mk (x:Zd) (h0:(fun x:Int=>(Lit.int .i64 x).wf=true) x.Kind) (h1:Kt x.Old) (h2:Kt x.New) (h3:(fun xs:(List Zs)=>xs.length * 32≤140737488351232∧∀ x∈xs,Uj x) x.Words) (h4a:x.Kids.length * 208≤140737488351232) (h4b:∀ y∈x.Kids,K8 y) (h5:(fun x:Int=>(Lit.int .i64 x).wf=true) x.List_) (h6a:x.Ops.length * 240≤140737488351232) (h6b:∀ y∈x.Ops,wX y):Gg x
inductive wX:Zo→Prop
 | mk (x:Zo) (h0:(fun x:Int=>(Lit.int .i64 x).wf=true) x.Kind) (h1:(fun x:Int=>(Lit.int .i64 x).wf=true) x.N) (h2:(fun xs:(List Zb)=>xs.length * 56≤140737488351232∧∀ x∈xs,Kt x) x.L) (h3:Gg x.E):wX x
inductive K8:Zq→Prop
 | mk (x:Zq) (h0:(fun x:Int=>(Lit.int .i64 x).wf=true) x.At) (h1:Gg x.E):K8 x
end
theorem Z0u (n:Nat) (he:∀ m,m < n→vZ Try.prog 50 Ze K8 m):vZ Try.prog 27 (eL Ze) (fun xs:(List Zq)=>xs.length * 208≤140737488351232∧∀ x∈xs,K8 x) n:=by
 have h:=jT (P:=Try.prog) (t:=27) (sz:=12) n Try.underlying27 (by kernel_rfl) (by decide) (fun _=>rfl) he
 have hb:Try.prog.bytesOf 50=208:=by kernel_rfl
 rw [hb] at h
 exact h
theorem Z0v (n:Nat) (he:∀ m,m < n→vZ Try.prog 41 Zh wX m):vZ Try.prog 28 (eL Zh) (fun xs:(List Zo)=>xs.length * 240≤140737488351232∧∀ x∈xs,wX x) n:=by
 have h:=jT (P:=Try.prog) (t:=28) (sz:=14) n Try.underlying28 (by kernel_rfl) (by decide) (fun _=>rfl) he
 have hb:Try.prog.bytesOf 41=240:=by kernel_rfl
 rw [hb] at h
 exact h
theorem Z0q (n:Nat):(vZ Try.prog 30 Jz Gg n∧vZ Try.prog 41 Zh wX n∧vZ Try.prog 50 Ze K8 n):=by
 induction n using Nat.strongRecOn with
 | ind n ih =>
  cases n with
  | zero=>exact ⟨iA,iA,iA⟩
  | succ n =>
   have i29:∀ q,q < n→vZ Try.prog 30 Jz Gg q:=fun q hq=>(ih q (by omega)).1
   have j29:vZ Try.prog 30 Jz Gg n:=(ih n (by omega)).1
   have i40:∀ q,q < n→vZ Try.prog 41 Zh wX q:=fun q hq=>(ih q (by omega)).2.1
   have j40:vZ Try.prog 41 Zh wX n:=(ih n (by omega)).2.1
   have i49:∀ q,q < n→vZ Try.prog 50 Ze K8 q:=fun q hq=>(ih q (by omega)).2.2
   have j49:vZ Try.prog 50 Ze K8 n:=(ih n (by omega)).2.2
   refine ⟨?_,?_,?_⟩
   ·have h:=uB (P:=Try.prog) (t:=30) (g:=Jz) (fun p=>(⟨p.1,p.2.1,p.2.2.1,p.2.2.2.1,p.2.2.2.2.1,p.2.2.2.2.2.1,p.2.2.2.2.2.2.1⟩:Zd)) Try.underlying30 (by kernel_rfl) (Qk (k:=1) rfl (by kernel_rfl) ((Uo Try.underlying3) _) (Qk (k:=3) rfl (by kernel_rfl) (Z0r _) (Qk (k:=3) rfl (by kernel_rfl) (Z0r _) (Qk (k:=1) rfl (by kernel_rfl) (Yd7 _) (Qk (k:=1) rfl (by kernel_rfl) (Z0u n i49) (Qk (k:=1) rfl (by kernel_rfl) ((Uo Try.underlying3) _) (Qk (k:=1) rfl (by kernel_rfl) (Z0v n i40) pC))))))) (fun x=>by simp only [Jz,kV,Za,Jn,Zf,Ze,Jj,Zh,Vk,eI,eB,eS,eL,List.cons_append,List.nil_append,List.append_nil,List.append_assoc])
    intro H enc W base spare held cs d ps h1 h2
    obtain ⟨x,⟨y,rfl,hy⟩,hr⟩:=h H enc W base spare held cs d ps h1 h2
    obtain ⟨y0,y1,y2,y3,y4,y5,y6,u⟩:=y
    obtain ⟨a0,a1,a2,a3,⟨a4a,a4b⟩,a5,⟨a6a,a6b⟩,_⟩:=hy
    exact ⟨_,Gg.mk ⟨y0,y1,y2,y3,y4,y5,y6⟩ a0 a1 a2 a3 a4a a4b a5 a6a a6b,hr⟩
   ·have h:=uB (P:=Try.prog) (t:=41) (g:=Zh) (fun p=>(⟨p.1,p.2.1,p.2.2.1,p.2.2.2.1⟩:Zo)) Try.underlying41 (by kernel_rfl) (Qk (k:=1) rfl (by kernel_rfl) ((Uo Try.underlying3) _) (Qk (k:=1) rfl (by kernel_rfl) ((Uo Try.underlying3) _) (Qk (k:=1) rfl (by kernel_rfl) (Yd6 _) (Qk (k:=11) rfl (by kernel_rfl) j29 pC)))) (fun x=>by simp only [Zh,Vk,Za,Jn,Jz,kV,Zf,Ze,Jj,eI,eB,eS,eL,List.cons_append,List.nil_append,List.append_nil,List.append_assoc])
    intro H enc W base spare held cs d ps h1 h2
    obtain ⟨x,⟨y,rfl,hy⟩,hr⟩:=h H enc W base spare held cs d ps h1 h2
    obtain ⟨y0,y1,y2,y3,u⟩:=y
    obtain ⟨a0,a1,a2,a3,_⟩:=hy
    exact ⟨_,wX.mk ⟨y0,y1,y2,y3⟩ a0 a1 a2 a3,hr⟩
   have h:=uB (P:=Try.prog) (t:=50) (g:=Ze) (fun p=>(⟨p.1,p.2.1⟩:Zq)) Try.underlying50 (by kernel_rfl) (Qk (k:=1) rfl (by kernel_rfl) ((Uo Try.underlying3) _) (Qk (k:=11) rfl (by kernel_rfl) j29 pC)) (fun x=>by simp only [Ze,Jj,Jz,kV,Za,Jn,Zf,Zh,Vk,eI,eB,eS,eL,List.cons_append,List.nil_append,List.append_nil,List.append_assoc])
   intro H enc W base spare held cs d ps h1 h2
   obtain ⟨x,⟨y,rfl,hy⟩,hr⟩:=h H enc W base spare held cs d ps h1 h2
   obtain ⟨y0,y1,u⟩:=y
   obtain ⟨a0,a1,_⟩:=hy
   exact ⟨_,K8.mk ⟨y0,y1⟩ a0 a1,hr⟩
theorem Z42:kB Try.prog 30 Jz Gg:=fun n=>(Z0q n).1
theorem Ya0:kB Try.prog 41 Zh wX:=fun n=>(Z0q n).2.1
theorem Ya2:kB Try.prog 50 Ze K8:=fun n=>(Z0q n).2.2
theorem Yfs:kB Try.prog 27 (eL Ze) (fun xs:(List Zq)=>xs.length * 208≤140737488351232∧∀ x∈xs,K8 x):=fun n=>Z0u n (fun m _=>Ya2 m)
theorem Yft:kB Try.prog 28 (eL Zh) (fun xs:(List Zo)=>xs.length * 240≤140737488351232∧∀ x∈xs,wX x):=fun n=>Z0v n (fun m _=>Ya0 m)
theorem Z1y (t:Zb) (h:Kt t):Bd t:=by
 induction h with
 | mk x h0 h1 h2a h2b ih =>
  refine .mk _ (by have:=h1.1;omega) (by omega) (fun w hw => ?_) ih
  have:=h1.2 w hw
  simp [Lit.wf,IntKind.min,IntKind.max,IntKind.signed,IntKind.bits] at this
  omega
theorem Z3v {w:Zs} (h:Uj w):(0≤w.Mask∧w.Mask < 256)∧(0≤w.Old∧w.Old < 18446744073709551616)∧(0≤w.New∧w.New < 18446744073709551616):=by
 obtain ⟨_,h1,h2,h3⟩:=h
 simp [Lit.wf,IntKind.min,IntKind.max,IntKind.signed,IntKind.bits] at h1 h2 h3
 omega
theorem Z5f (e:Zd) (h:Gg e):BE e :=
 Gg.rec (motive_1:=fun e _=>BE e) (motive_2:=fun o _=>BO o) (motive_3:=fun k _=>BE k.E)
  (fun x h0 h1 h2 h3 h4a h4b h5 h6a h6b i4 i6 => .mk _ (Z1y _ h1) (Z1y _ h2) (by have:=h3.1;omega) (fun w hw=>Z3v (h3.2 w hw)) (by omega) i4 (by omega) (fun o ho=>(i6 o ho).1) (fun o ho=>(i6 o ho).2))
  (fun x h0 h1 h2 h3 i3=>⟨⟨by have:=h2.1;omega,fun t ht=>Z1y t (h2.2 t ht)⟩,i3⟩)
  (fun x h0 h1 i1=>i1) h
theorem own:ownKnob Try.prog.godebug=none:=by kernel_rfl
theorem Zvo:laidOutB Try.prog=true:=by kernel_rfl
set_option maxRecDepth 100000 in
theorem lifted (os:Os) (started:os.Started) (H:Type) (enc:TypeId×Value→H) :
  ReturnsInHanded {} Try.checked os 3 .any (Rows.rebaseTurnedSpec.pre6 enc Try.prog Try.f3 Rows.rebaseTurnedRow.domain false) (Rows.rebaseTurnedSpec.post enc Try.prog Try.f3 false true false false):=by
 refine returnsInHanded_of_change_sized (C:=Try.checked) own started (by kernel_rfl) Try.func3
  (ChangeSpec.witness6 (enc:=enc) (C:=Try.checked) false ⟨#[],#[.agg #[.int .i64 0,.int .i64 0,.slice none 0 0,.slice none 0 0,.int .i64 0,.slice none 0 0,.slice none 0 0,.slice none 0 0,.slice none 0 0,.int .i64 0,.slice none 0 0],.agg #[.int .i64 0,.int .i64 0,.slice none 0 0,.slice none 0 0,.int .i64 0,.slice none 0 0,.slice none 0 0,.slice none 0 0,.slice none 0 0,.int .i64 0,.slice none 0 0]],[]⟩ 12 (by kernel_rfl) (by kernel_rfl) (by kernel_rfl) (by kernel_rfl)) ?_
 intro W base args ds gs before Z4p hW hcnd Z9c _
 have hval:∀ (j:Nat) t v,Try.f3.params[j]? = some t→args[j]? = some v→Value.okWide Try.prog W .any base t v:=Z4p
 have hW':=hW
 obtain ⟨p,q,hA0,hV,rfl,hfz,hnd⟩:=hW
 have hA:DataW.TrodAll enc Try.prog W 0 (fun _=>true) true Try.f3.params.toList args.toList ds p:=hA0
 rw [Try.params3] at hA hval
 obtain ⟨v0,vs0,d0,ds0,p0,q0,hargs,rfl,rfl,h0,r0⟩:=trodAll_cons hA
 obtain ⟨v1,vs1,d1,ds1,p1,q1,rfl,rfl,rfl,h1,r1⟩:=trodAll_cons r0
 obtain ⟨rfl,rfl,rfl⟩:=trodAll_nil r1
 obtain rfl:args=#[v0,v1]:=by cases args;simp_all
 obtain ⟨rfl,rfl⟩:=trodVars_none hV
 clear hA0 Z4p
 have hsz:(DataW.weightsEach Try.prog (Try.f3.params.toList++Rows.rebaseTurnedSpec.plain.varTypes Try.prog) _).all (·≤reachBytes)=true:=Z9c
 clear Z9c
 rw [Try.params3] at hsz
 have lt0:∀ x∈p0,x.block < W.heap.size:=by obtain ⟨m,hm⟩:=h0;exact DataW.trod_lt m _ _ _ hm
 obtain ⟨x0,w0,e0⟩:=Zru Z42 h0 (Zn1 hsz (j:=0) rfl rfl)
 have g0:=Zu1 (Zj3 Try.underlying30 (hval 0 30 v0 rfl rfl)) e0
 simp only [Jz,kV,Za,Jn,Zf,Ze,Jj,Zh,Vk] at g0
 have lt1:∀ x∈p1,x.block < W.heap.size:=by obtain ⟨m,hm⟩:=h1;exact DataW.trod_lt m _ _ _ hm
 obtain ⟨x1,w1,e1⟩:=Zru Z42 h1 (Zn1 hsz (j:=1) rfl rfl)
 have g1:=Zu1 (Zj3 Try.underlying30 (hval 1 30 v1 rfl rfl)) e1
 simp only [Jz,kV,Za,Jn,Zf,Ze,Jj,Zh,Vk] at g1
 refine (Z6s (wN ((fun x wx y wy=>Zlt (Z5f x wx) (Z5f y wy)) x0 w0 x1 w1)).pure (vs:=[v0,v1]) ⟨_,_,rfl,g0,⟨_,_,rfl,g1,rfl⟩⟩).mono fun e W' ⟨he,bel⟩ => ?_
 subst he
 exact ⟨_,rfl,_,_,_,[],_,[],hW',trodAll_mk1 (shut_bool Try.underlying4 _),(trodAll_cons_mk (Below.trod Zvo (by kernel_rfl) (of_decide_eq_true (by kernel_rfl)) h0 bel lt0) (trodAll_cons_mk (Below.trod Zvo (by kernel_rfl) (of_decide_eq_true (by kernel_rfl)) h1 bel lt1) trodAll_mk0)),rfl,bel.frame _,fun h=>by cases h⟩
theorem proved:Rows.RebaseTurnedSaid :=
 OpenClaim.holds_of_wide 3 Try.f3 rfl rfl rfl rfl rfl rfl rfl ⟨rfl,rfl,rfl,rfl,rfl⟩ rfl rfl rfl rfl rfl (by kernel_rfl) Try.func3 (by kernel_rfl)
  (of_decide_eq_true (by kernel_rfl)) (by unfold Func.isWrapper;first | (rw [if_pos (by decide +kernel)];kernel_rfl) | (rw [if_neg (by decide +kernel)];exact ⟨rfl,rfl⟩))
  (fun os started H enc _=>lifted os started H enc)
end Go.Proofs.Ytocpndlnbmjpmaa.rebaseTurned
