/- Called with any arguments, the law ArenaPlays returns true and leaves them as they were; no other condition. -/
import Derived.Test.YtpggbianhdebmaaVD
import Derived.ShutString
import Derived.ChangeOld
import Derived.Below
namespace Go.Proofs.Ytpggbianhdebmaa.arenaPlays
open Go.ChangeShapes Go.WideShapes Go.ChangeAt Go.RowKit
open Go.ChangeMaps (open_string shut_string)
set_option linter.unusedVariables false
set_option linter.unusedSimpArgs false
theorem op3:Zeq Try.prog 3 (eI .i64) (fun x=>(Lit.int .i64 x).wf=true):=Qe Try.underlying3
theorem Zu0:Zeq Try.prog 27 (eI .u64) (fun x=>(Lit.int .u64 x).wf=true):=Qe Try.underlying27
def Xs (x:Zq):Prop:=(fun x:Int=>(Lit.int .i64 x).wf=true) x.Kind∧(fun x:Int=>(Lit.int .i64 x).wf=true) x.S∧(fun x:Int=>(Lit.int .i64 x).wf=true) x.At∧(fun x:Int=>(Lit.int .i64 x).wf=true) x.N∧(fun x:Int=>(Lit.int .u64 x).wf=true) x.W
theorem Zu1:Zeq Try.prog 28 Zd Xs:=by
 have h:=Zhh (P:=Try.prog) (t:=28) (g:=Zd) (fun p=>(⟨p.1,p.2.1,p.2.2.1,p.2.2.2.1,p.2.2.2.2.1⟩:Zq)) Try.underlying28 (by kernel_rfl) (fun n=>(X2 (k:=1) rfl (by kernel_rfl) ((Qe Try.underlying3) _) (X2 (k:=1) rfl (by kernel_rfl) ((Qe Try.underlying3) _) (X2 (k:=1) rfl (by kernel_rfl) ((Qe Try.underlying3) _) (X2 (k:=1) rfl (by kernel_rfl) ((Qe Try.underlying3) _) (X2 (k:=1) rfl (by kernel_rfl) ((Qe Try.underlying27) _) Zik)))))) (fun x=>rfl)
 intro n H enc W base spare held cs d ps h1 h2
 obtain ⟨x,⟨y,rfl,hy⟩,hr⟩:=h n H enc W base spare held cs d ps h1 h2
 exact ⟨_,by unfold Xs;simp only;exact ⟨hy.1,hy.2.1,hy.2.2.1,hy.2.2.2.1,hy.2.2.2.2.1⟩,hr⟩
theorem Zs2:Zeq Try.prog 29 Zd Xs:=by
 have h:=Zhh (P:=Try.prog) (t:=29) (g:=Zd) (fun p=>(⟨p.1,p.2.1,p.2.2.1,p.2.2.2.1,p.2.2.2.2.1⟩:Zq)) Try.underlying29 (by kernel_rfl) (fun n=>(X2 (k:=1) rfl (by kernel_rfl) ((Qe Try.underlying3) _) (X2 (k:=1) rfl (by kernel_rfl) ((Qe Try.underlying3) _) (X2 (k:=1) rfl (by kernel_rfl) ((Qe Try.underlying3) _) (X2 (k:=1) rfl (by kernel_rfl) ((Qe Try.underlying3) _) (X2 (k:=1) rfl (by kernel_rfl) ((Qe Try.underlying27) _) Zik)))))) (fun x=>rfl)
 intro n H enc W base spare held cs d ps h1 h2
 obtain ⟨x,⟨y,rfl,hy⟩,hr⟩:=h n H enc W base spare held cs d ps h1 h2
 exact ⟨_,by unfold Xs;simp only;exact ⟨hy.1,hy.2.1,hy.2.2.1,hy.2.2.2.1,hy.2.2.2.2.1⟩,hr⟩
theorem Zs1:Zeq Try.prog 29 Zd Xs:=Zs2
theorem Zt0:Zeq Try.prog 22 (eL Zd) (fun xs:(List Zq)=>xs.length * 40≤140737488351232∧∀ x∈xs,Xs x):=by
 have h:=Zm1 (P:=Try.prog) (t:=22) (sz:=5) Try.underlying22 (by kernel_rfl) (by decide) (fun _=>rfl) Zs1
 have hb:Try.prog.bytesOf 29=40:=by kernel_rfl
 rw [hb] at h
 exact h
theorem own:ownKnob Try.prog.godebug=none:=by kernel_rfl
theorem Zly:laidOutB Try.prog=true:=by kernel_rfl
set_option maxRecDepth 100000 in
theorem lifted (os:Os) (started:os.Started) (H:Type) (enc:TypeId×Value→H) :
  ReturnsInHanded {} Try.checked os 3 .any (Rows.arenaPlaysSpec.pre6 enc Try.prog Try.f3 Rows.arenaPlaysRow.domain false) (Rows.arenaPlaysSpec.post enc Try.prog Try.f3 false true false false):=by
 refine returnsInHanded_of_change_sized (C:=Try.checked) own started (by kernel_rfl) Try.func3
  (ChangeSpec.witness6 (enc:=enc) (C:=Try.checked) false ⟨#[],#[.int .i64 0,.int .i64 0,.slice none 0 0],[]⟩ 12 (by kernel_rfl) (by kernel_rfl) (by kernel_rfl) (by kernel_rfl)) ?_
 intro W base args ds gs before hval0 hW hcnd hsz0 _
 have hval:∀ (j:Nat) t v,Try.f3.params[j]? = some t→args[j]? = some v→Value.okWide Try.prog W .any base t v:=hval0
 have hW':=hW
 obtain ⟨p,q,hA0,hV,rfl,hfz,hnd⟩:=hW
 have hA:DataW.TrodAll enc Try.prog W 0 (fun _=>true) true Try.f3.params.toList args.toList ds p:=hA0
 rw [Try.params3] at hA hval
 obtain ⟨v0,vs0,d0,ds0,p0,q0,hargs,rfl,rfl,h0,r0⟩:=trodAll_cons hA
 obtain ⟨v1,vs1,d1,ds1,p1,q1,rfl,rfl,rfl,h1,r1⟩:=trodAll_cons r0
 obtain ⟨v2,vs2,d2,ds2,p2,q2,rfl,rfl,rfl,h2,r2⟩:=trodAll_cons r1
 obtain ⟨rfl,rfl,rfl⟩:=trodAll_nil r2
 obtain rfl:args=#[v0,v1,v2]:=by cases args;simp_all
 obtain ⟨rfl,rfl⟩:=trodVars_none hV
 clear hA0 hval0
 have hsz:(DataW.weightsEach Try.prog (Try.f3.params.toList++Rows.arenaPlaysSpec.plain.varTypes Try.prog) _).all (·≤reachBytes)=true:=hsz0
 clear hsz0
 rw [Try.params3] at hsz
 have lt0:∀ x∈p0,x.block < W.heap.size:=by obtain ⟨m,hm⟩:=h0;exact DataW.trod_lt m _ _ _ hm
 obtain ⟨x0,w0,e0⟩:=Zkn (Qe Try.underlying3) h0 (Zht hsz (j:=0) rfl rfl)
 have g0:=Zlk (Zoi Try.underlying3 (hval 0 3 v0 rfl rfl)) e0
 have lt1:∀ x∈p1,x.block < W.heap.size:=by obtain ⟨m,hm⟩:=h1;exact DataW.trod_lt m _ _ _ hm
 obtain ⟨x1,w1,e1⟩:=Zkn (Qe Try.underlying3) h1 (Zht hsz (j:=1) rfl rfl)
 have g1:=Zlk (Zoi Try.underlying3 (hval 1 3 v1 rfl rfl)) e1
 have lt2:∀ x∈p2,x.block < W.heap.size:=by obtain ⟨m,hm⟩:=h2;exact DataW.trod_lt m _ _ _ hm
 obtain ⟨x2,w2,e2⟩:=Zkn Zt0 h2 (Zht hsz (j:=2) rfl rfl)
 have g2:=Zlk (Zo8 Try.underlying22 (hval 2 22 v2 rfl rfl)) e2
 refine (Zr4 (Zdz ((fun a _ b _ l _=>rfl) x0 w0 x1 w1 x2 w2)).pure (vs:=[v0,v1,v2]) ⟨_,_,rfl,g0,⟨_,_,rfl,g1,⟨_,_,rfl,g2,rfl⟩⟩⟩).mono fun e W' ⟨he,bel⟩ => ?_
 subst he
 exact ⟨_,rfl,_,_,_,[],_,[],hW',trodAll_mk1 (shut_bool Try.underlying4 _),(trodAll_cons_mk (Below.trod Zly (by kernel_rfl) (of_decide_eq_true (by kernel_rfl)) h0 bel lt0) (trodAll_cons_mk (Below.trod Zly (by kernel_rfl) (of_decide_eq_true (by kernel_rfl)) h1 bel lt1) (trodAll_cons_mk (Below.trod Zly (by kernel_rfl) (of_decide_eq_true (by kernel_rfl)) h2 bel lt2) trodAll_mk0))),rfl,bel.frame _,fun h=>by cases h⟩
theorem proved:Rows.ArenaPlaysSaid :=
 OpenClaim.holds_of_wide 3 Try.f3 rfl rfl rfl rfl rfl rfl rfl ⟨rfl,rfl,rfl,rfl,rfl⟩ rfl rfl rfl rfl rfl (by kernel_rfl) Try.func3 (by kernel_rfl)
  (of_decide_eq_true (by kernel_rfl)) (by unfold Func.isWrapper;first | (rw [if_pos (by decide +kernel)];kernel_rfl) | (rw [if_neg (by decide +kernel)];exact ⟨rfl,rfl⟩))
  (fun os started H enc _=>lifted os started H enc)
end Go.Proofs.Ytpggbianhdebmaa.arenaPlays
