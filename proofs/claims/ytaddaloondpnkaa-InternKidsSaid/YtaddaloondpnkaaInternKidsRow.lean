/- Called with any arguments, the law InternKids returns true and leaves them as they were; no other condition. -/
import Derived.Test.YtaddaloondpnkaaXA
import Derived.ShutString
import Derived.ChangeOld
import Derived.Below
namespace Go.Proofs.Ytaddaloondpnkaa.internKids
open Go.ChangeShapes Go.WideShapes Go.ChangeAt Go.RowKit
open Go.ChangeMaps (open_string shut_string)
set_option linter.unusedVariables false
set_option linter.unusedSimpArgs false
theorem op3:Zne Try.prog 3 (eI .i64) (fun x=>(Lit.int .i64 x).wf=true):=Zel Try.underlying3
theorem Yfq:Zne Try.prog 58 (eI .u64) (fun x=>(Lit.int .u64 x).wf=true):=Zel Try.underlying58
theorem Ycr:Zne Try.prog 58 (eI .u64) (fun x:Int=>(Lit.int .u64 x).wf=true):=(Zel Try.underlying58)
theorem Yeg:Zne Try.prog 22 (eL (eI .u64)) (fun xs:(List Int)=>xs.length * 8≤140737488351232∧∀ x∈xs,(fun x:Int=>(Lit.int .u64 x).wf=true) x):=by
 have h:=Z0h (P:=Try.prog) (t:=22) (sz:=1) Try.underlying22 (by kernel_rfl) (by decide) (fun _=>rfl) Ycr
 have hb:Try.prog.bytesOf 58=8:=by kernel_rfl
 rw [hb] at h
 exact h
inductive Q8:Zi→Prop
 | mk (x:Zi) (h0:(fun x:Int=>(Lit.int .i64 x).wf=true) x.Kind) (h1:(fun xs:(List Int)=>xs.length * 8≤140737488351232∧∀ x∈xs,(fun x:Int=>(Lit.int .u64 x).wf=true) x) x.Words) (h2a:x.Kids.length * 56≤140737488351232) (h2b:∀ y∈x.Kids,Q8 y):Q8 x
theorem Z68 (n:Nat) (he:∀ m,m < n→Zck Try.prog 25 Zl Q8 m):Zck Try.prog 23 (eL Zl) (fun xs:(List Zi)=>xs.length * 56≤140737488351232∧∀ x∈xs,Q8 x) n:=by
 have h:=Zu8 (P:=Try.prog) (t:=23) (sz:=3) n Try.underlying23 (by kernel_rfl) (by decide) (fun _=>rfl) he
 have hb:Try.prog.bytesOf 25=56:=by kernel_rfl
 rw [hb] at h
 exact h
theorem Ycs (n:Nat):(Zck Try.prog 25 Zl Q8 n):=by
 induction n using Nat.strongRecOn with
 | ind n ih =>
  cases n with
  | zero=>exact Zju
  | succ n =>
   have i24:∀ q,q < n→Zck Try.prog 25 Zl Q8 q:=fun q hq=>(ih q (by omega))
   have j24:Zck Try.prog 25 Zl Q8 n:=(ih n (by omega))
   have h:=Zu9 (P:=Try.prog) (t:=25) (g:=Zl) (fun p=>(⟨p.1,p.2.1,p.2.2.1⟩:Zi)) Try.underlying25 (by kernel_rfl) (Zii (k:=1) rfl (by kernel_rfl) ((Zel Try.underlying3) _) (Zii (k:=1) rfl (by kernel_rfl) (Yeg _) (Zii (k:=1) rfl (by kernel_rfl) (Z68 n i24) Z0g))) (fun x=>by simp only [Zl,Kh,eI,eB,eS,eL,List.cons_append,List.nil_append,List.append_nil,List.append_assoc])
   intro H enc W base spare held cs d ps h1 h2
   obtain ⟨x,⟨y,rfl,hy⟩,hr⟩:=h H enc W base spare held cs d ps h1 h2
   obtain ⟨y0,y1,y2,u⟩:=y
   obtain ⟨a0,a1,⟨a2a,a2b⟩,_⟩:=hy
   exact ⟨_,Q8.mk ⟨y0,y1,y2⟩ a0 a1 a2a a2b,hr⟩
theorem Z67:Zne Try.prog 25 Zl Q8:=fun n=>(Ycs n)
theorem Yfp:Zne Try.prog 23 (eL Zl) (fun xs:(List Zi)=>xs.length * 56≤140737488351232∧∀ x∈xs,Q8 x):=fun n=>Z68 n (fun m _=>Z67 m)
theorem Yaz (t:Zi) (h:Q8 t):Bd t:=by
 induction h with
 | mk x h0 h1 h2a h2b ih =>
  refine .mk _ (by have:=h1.1;omega) (by omega) (fun w hw => ?_) ih
  have:=h1.2 w hw
  simp [Lit.wf,IntKind.min,IntKind.max,IntKind.signed,IntKind.bits] at this
  omega
theorem own:ownKnob Try.prog.godebug=none:=by kernel_rfl
theorem Zsl:laidOutB Try.prog=true:=by kernel_rfl
set_option maxRecDepth 100000 in
theorem lifted (os:Os) (started:os.Started) (H:Type) (enc:TypeId×Value→H) :
  ReturnsInHanded {} Try.checked os 5 .any (Rows.internKidsSpec.pre6 enc Try.prog Try.f5 Rows.internKidsRow.domain false) (Rows.internKidsSpec.post enc Try.prog Try.f5 false true false false):=by
 refine returnsInHanded_of_change_sized (C:=Try.checked) own started (by kernel_rfl) Try.func5
  (ChangeSpec.witness6 (enc:=enc) (C:=Try.checked) false ⟨#[],#[.agg #[.int .i64 0,.slice none 0 0,.slice none 0 0],.agg #[.int .i64 0,.slice none 0 0,.slice none 0 0],.int .i64 0,.int .i64 0],[]⟩ 12 (by kernel_rfl) (by kernel_rfl) (by kernel_rfl) (by kernel_rfl)) ?_
 intro W base args ds gs before hval0 hW hcnd hsz0 _
 have hval:∀ (j:Nat) t v,Try.f5.params[j]? = some t→args[j]? = some v→Value.okWide Try.prog W .any base t v:=hval0
 have hW':=hW
 obtain ⟨p,q,hA0,hV,rfl,hfz,hnd⟩:=hW
 have hA:DataW.TrodAll enc Try.prog W 0 (fun _=>true) true Try.f5.params.toList args.toList ds p:=hA0
 rw [Try.params5] at hA hval
 obtain ⟨v0,vs0,d0,ds0,p0,q0,hargs,rfl,rfl,h0,r0⟩:=trodAll_cons hA
 obtain ⟨v1,vs1,d1,ds1,p1,q1,rfl,rfl,rfl,h1,r1⟩:=trodAll_cons r0
 obtain ⟨v2,vs2,d2,ds2,p2,q2,rfl,rfl,rfl,h2,r2⟩:=trodAll_cons r1
 obtain ⟨v3,vs3,d3,ds3,p3,q3,rfl,rfl,rfl,h3,r3⟩:=trodAll_cons r2
 obtain ⟨rfl,rfl,rfl⟩:=trodAll_nil r3
 obtain rfl:args=#[v0,v1,v2,v3]:=by cases args;simp_all
 obtain ⟨rfl,rfl⟩:=trodVars_none hV
 clear hA0 hval0
 have hsz:(DataW.weightsEach Try.prog (Try.f5.params.toList++Rows.internKidsSpec.plain.varTypes Try.prog) _).all (·≤reachBytes)=true:=hsz0
 clear hsz0
 rw [Try.params5] at hsz
 have lt0:∀ x∈p0,x.block < W.heap.size:=by obtain ⟨m,hm⟩:=h0;exact DataW.trod_lt m _ _ _ hm
 obtain ⟨x0,w0,e0⟩:=Zpf Z67 h0 (Zkd hsz (j:=0) rfl rfl)
 have g0:=Z2n (Zs0 Try.underlying25 (hval 0 25 v0 rfl rfl)) e0
 simp only [Zl,Kh] at g0
 have lt1:∀ x∈p1,x.block < W.heap.size:=by obtain ⟨m,hm⟩:=h1;exact DataW.trod_lt m _ _ _ hm
 obtain ⟨x1,w1,e1⟩:=Zpf Z67 h1 (Zkd hsz (j:=1) rfl rfl)
 have g1:=Z2n (Zs0 Try.underlying25 (hval 1 25 v1 rfl rfl)) e1
 simp only [Zl,Kh] at g1
 have lt2:∀ x∈p2,x.block < W.heap.size:=by obtain ⟨m,hm⟩:=h2;exact DataW.trod_lt m _ _ _ hm
 obtain ⟨x2,w2,e2⟩:=Zpf (Zel Try.underlying3) h2 (Zkd hsz (j:=2) rfl rfl)
 have g2:=Z2o (Z29 Try.underlying3 (hval 2 3 v2 rfl rfl)) e2
 have lt3:∀ x∈p3,x.block < W.heap.size:=by obtain ⟨m,hm⟩:=h3;exact DataW.trod_lt m _ _ _ hm
 obtain ⟨x3,w3,e3⟩:=Zpf (Zel Try.underlying3) h3 (Zkd hsz (j:=3) rfl rfl)
 have g3:=Z2o (Z29 Try.underlying3 (hval 3 3 v3 rfl rfl)) e3
 refine (Ybj (Zgb ((fun x wx y wy a _ b _=>Zxv (Yaz x wx) (Yaz y wy) a b) x0 w0 x1 w1 x2 w2 x3 w3)).pure (vs:=[v0,v1,v2,v3]) ⟨_,_,rfl,g0,⟨_,_,rfl,g1,⟨_,_,rfl,g2,⟨_,_,rfl,g3,rfl⟩⟩⟩⟩).mono fun e W' ⟨he,bel⟩ => ?_
 subst he
 exact ⟨_,rfl,_,_,_,[],_,[],hW',trodAll_mk1 (shut_bool Try.underlying4 _),(trodAll_cons_mk (Below.trod Zsl (by kernel_rfl) (of_decide_eq_true (by kernel_rfl)) h0 bel lt0) (trodAll_cons_mk (Below.trod Zsl (by kernel_rfl) (of_decide_eq_true (by kernel_rfl)) h1 bel lt1) (trodAll_cons_mk (Below.trod Zsl (by kernel_rfl) (of_decide_eq_true (by kernel_rfl)) h2 bel lt2) (trodAll_cons_mk (Below.trod Zsl (by kernel_rfl) (of_decide_eq_true (by kernel_rfl)) h3 bel lt3) trodAll_mk0)))),rfl,bel.frame _,fun h=>by cases h⟩
theorem proved:Rows.InternKidsSaid :=
 OpenClaim.holds_of_wide 5 Try.f5 rfl rfl rfl rfl rfl rfl rfl ⟨rfl,rfl,rfl,rfl,rfl⟩ rfl rfl rfl rfl rfl (by kernel_rfl) Try.func5 (by kernel_rfl)
  (of_decide_eq_true (by kernel_rfl)) (by unfold Func.isWrapper;first | (rw [if_pos (by decide +kernel)];kernel_rfl) | (rw [if_neg (by decide +kernel)];exact ⟨rfl,rfl⟩))
  (fun os started H enc _=>lifted os started H enc)
end Go.Proofs.Ytaddaloondpnkaa.internKids
