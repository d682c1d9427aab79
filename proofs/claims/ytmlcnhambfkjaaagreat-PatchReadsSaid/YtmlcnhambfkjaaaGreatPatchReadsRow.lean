/- Called with any arguments, the law PatchReads returns true and leaves them as they were; no other condition. -/
import Derived.Test.YtmlcnhambfkjaaaGreatRows
import Derived.Test.YtmlcnhambfkjaaaGreatRM7
import Derived.Test.YtmlcnhambfkjaaaGreatRP2
import Derived.Test.YtmlcnhambfkjaaaGreatH8
import Derived.WalkKit
import Derived.ProofKit
import Derived.OpenShut
import Derived.ShutString
import Derived.ChangeOld
import Derived.Below
import Derived.SizedLaws
namespace Go.Proofs.YtmlcnhambfkjaaaGreat.patchReads
open Go.ChangeShapes Go.WideShapes Go.ChangeAt Go.RowKit
open Go.ChangeMaps (open_string shut_string)
set_option linter.unusedVariables false
set_option linter.unusedSimpArgs false
theorem op3:Zqy Tryz.prog 3 (eI .i64) (fun x=>(Lit.int .i64 x).wf=true):=Zqa Tryz.underlying3
theorem Yqw:Zqy Tryz.prog 77 (eI .u64) (fun x=>(Lit.int .u64 x).wf=true):=Zqa Tryz.underlying77
theorem Ylf:Zqy Tryz.prog 77 (eI .u64) (fun x:Int=>(Lit.int .u64 x).wf=true):=(Zqa Tryz.underlying77)
theorem Ypl:Zqy Tryz.prog 22 (eL (eI .u64)) (fun xs:(List Int)=>xs.length * 8≤140737488351232∧∀ x∈xs,(fun x:Int=>(Lit.int .u64 x).wf=true) x):=by
 have h:=Z6z (P:=Tryz.prog) (t:=22) (sz:=1) Tryz.underlying22 (by kernel_rfl) (by decide) (fun _=>rfl) Ylf
 have hb:Tryz.prog.bytesOf 77=8:=by kernel_rfl
 rw [hb] at h
 exact h
inductive Kp:Za→Prop
 | mk (x:Za) (h0:(fun x:Int=>(Lit.int .i64 x).wf=true) x.Kind) (h1:(fun xs:(List Int)=>xs.length * 8≤140737488351232∧∀ x∈xs,(fun x:Int=>(Lit.int .u64 x).wf=true) x) x.Words) (h2a:x.Kids.length * 56≤140737488351232) (h2b:∀ y∈x.Kids,Kp y):Kp x
theorem Yee (n:Nat) (he:∀ m,m < n→Zij Tryz.prog 25 Zb Kp m):Zij Tryz.prog 23 (eL Zb) (fun xs:(List Za)=>xs.length * 56≤140737488351232∧∀ x∈xs,Kp x) n:=by
 have h:=Z1c (P:=Tryz.prog) (t:=23) (sz:=3) n Tryz.underlying23 (by kernel_rfl) (by decide) (fun _=>rfl) he
 have hb:Tryz.prog.bytesOf 25=56:=by kernel_rfl
 rw [hb] at h
 exact h
theorem Ylg (n:Nat):(Zij Tryz.prog 25 Zb Kp n):=by
 induction n using Nat.strongRecOn with
 | ind n ih =>
  cases n with
  | zero=>exact Zpi
  | succ n =>
   have i24:∀ q,q < n→Zij Tryz.prog 25 Zb Kp q:=fun q hq=>(ih q (by omega))
   have j24:Zij Tryz.prog 25 Zb Kp n:=(ih n (by omega))
   have h:=Z1d (P:=Tryz.prog) (t:=25) (g:=Zb) (fun p=>(⟨p.1,p.2.1,p.2.2.1⟩:Za)) Tryz.underlying25 (by kernel_rfl) (Znr (k:=1) rfl (by kernel_rfl) ((Zqa Tryz.underlying3) _) (Znr (k:=1) rfl (by kernel_rfl) (Ypl _) (Znr (k:=1) rfl (by kernel_rfl) (Yee n i24) Z6y))) (fun x=>by simp only [Zb,Xe,eI,eB,eS,eL,List.cons_append,List.nil_append,List.append_nil,List.append_assoc])
   intro H enc W base spare held cs d ps h1 h2
   obtain ⟨x,⟨y,rfl,hy⟩,hr⟩:=h H enc W base spare held cs d ps h1 h2
   obtain ⟨y0,y1,y2,u⟩:=y
   obtain ⟨a0,a1,⟨a2a,a2b⟩,_⟩:=hy
   exact ⟨_,Kp.mk ⟨y0,y1,y2⟩ a0 a1 a2a a2b,hr⟩
theorem Yhx:Zqy Tryz.prog 25 Zb Kp:=fun n=>(Ylg n)
theorem Yqv:Zqy Tryz.prog 23 (eL Zb) (fun xs:(List Za)=>xs.length * 56≤140737488351232∧∀ x∈xs,Kp x):=fun n=>Yee n (fun m _=>Yhx m)
theorem You (t:Za) (h:Kp t):Bd t:=by
 induction h with
 | mk x h0 h1 h2a h2b ih =>
  refine .mk _ (by have:=h1.1;omega) (by omega) (fun w hw => ?_) ih
  have:=h1.2 w hw
  simp [Lit.wf,IntKind.min,IntKind.max,IntKind.signed,IntKind.bits] at this
  omega
theorem own:ownKnob Tryz.prog.godebug=none:=by kernel_rfl
theorem Ya4:laidOutB Tryz.prog=true:=by kernel_rfl
set_option maxRecDepth 100000 in
theorem lifted (os:Os) (started:os.Started) (H:Type) (enc:TypeId×Value→H) :
  ReturnsInHanded {} Tryz.checked os 4 .any (Rows.patchReadsSpec.pre6 enc Tryz.prog Tryz.f4 Rows.patchReadsRow.domain false) (Rows.patchReadsSpec.post enc Tryz.prog Tryz.f4 false true false false):=by
 refine returnsInHanded_of_change_sized (C:=Tryz.checked) own started (by kernel_rfl) Tryz.func4
  (ChangeSpec.witness6 (enc:=enc) (C:=Tryz.checked) false ⟨#[],#[.agg #[.int .i64 0,.slice none 0 0,.slice none 0 0]],[]⟩ 12 (by kernel_rfl) (by kernel_rfl) (by kernel_rfl) (by kernel_rfl)) ?_
 intro W base args ds gs before hval0 hW hcnd hsz0 _
 have hval:∀ (j:Nat) t v,Tryz.f4.params[j]? = some t→args[j]? = some v→Value.okWide Tryz.prog W .any base t v:=hval0
 have hW':=hW
 obtain ⟨p,q,hA0,hV,rfl,hfz,hnd⟩:=hW
 have hA:DataW.TrodAll enc Tryz.prog W 0 (fun _=>true) true Tryz.f4.params.toList args.toList ds p:=hA0
 rw [Tryz.params4] at hA hval
 obtain ⟨v0,vs0,d0,ds0,p0,q0,hargs,rfl,rfl,h0,r0⟩:=trodAll_cons hA
 obtain ⟨rfl,rfl,rfl⟩:=trodAll_nil r0
 obtain rfl:args=#[v0]:=by cases args;simp_all
 obtain ⟨rfl,rfl⟩:=trodVars_none hV
 clear hA0 hval0
 have hsz:(DataW.weightsEach Tryz.prog (Tryz.f4.params.toList++Rows.patchReadsSpec.plain.varTypes Tryz.prog) _).all (·≤reachBytes)=true:=hsz0
 clear hsz0
 rw [Tryz.params4] at hsz
 have lt0:∀ x∈p0,x.block < W.heap.size:=by obtain ⟨m,hm⟩:=h0;exact DataW.trod_lt m _ _ _ hm
 obtain ⟨x0,w0,e0⟩:=Yec Yhx h0 (Ycc hsz (j:=0) rfl rfl)
 have g0:=Yga (Z7t Tryz.underlying25 (hval 0 25 v0 rfl rfl)) e0
 simp only [Zb,Xe] at g0
 refine (Yj0 (Zl6 ((fun x wx=>Z30 (You x wx)) x0 w0)).pure (vs:=[v0]) ⟨_,_,rfl,g0,rfl⟩).mono fun e W' ⟨he,bel⟩ => ?_
 subst he
 exact ⟨_,rfl,_,_,_,[],_,[],hW',trodAll_mk1 (shut_bool Tryz.underlying4 _),(trodAll_cons_mk (Below.trod Ya4 (by kernel_rfl) (of_decide_eq_true (by kernel_rfl)) h0 bel lt0) trodAll_mk0),rfl,bel.frame _,fun h=>by cases h⟩
theorem Ycn {P:Program} {f:FuncId} {fn:Func} {s:ChangeSpec} {c:OpenClaim} (h0:(c.wf (OpenSpec.ofChange s))=true) (h1:(laidOutB P)=true) (h2:(mapsRowed P)=true) (h3:(fn.params.all (P.readableRec ·))=true) (h4:(namedTie P c.named s.vars)=true) (h5:((c.stops == []))=true) (h6:((P.stops == []))=true) (h7:((c.knobs == []))=true) (h8:((P.stopKnobs == []))=true) (h9:((c.inPlace == P.inPlace f))=true) (h10:((c.unfollowed == P.unfollowed f))=true) (h11:((c.recurses == P.recurses f))=true) (h12:((c.named == P.varsNamed f))=true) (h13:((c.maps == (fn.params.toList++s.plain.varTypes P).any (P.mapsRec ·)))=true) (h14:((c.ifaces == (fn.params.toList++s.plain.varTypes P).any (P.ifacesRec ·)))=true) (h15:((c.mapsOut == P.mapsAmong fn.resultTypes.toList))=true) (h16:((c.loops == (fn.params.toList++s.plain.varTypes P).any (P.loopsFrom ·)))=true) (h17:((c.wideKeys == (fn.params.toList++s.plain.varTypes P++fn.resultTypes.toList).any (P.wideKeysFrom ·)))=true) (h18:(s.vars.all (P.varReadable ·))=true) (h19:(fn.resultTypes.all (fun t=>P.readableRec t && decide (t < P.types.size)))=true) (h20:((c.ifacesOut == fn.resultTypes.toList.any (P.ifacesRec ·)))=true) (h21:((c.loopsOut == fn.resultTypes.toList.any (P.loopsFrom ·)))=true) (h22:((c.plainKeys == P.plainKeys))=true) (h23:(c.shortTexts.isNone)=true) (h24:(P.stopsHeard)=true) (h25:(P.mayEnter)=true) (h26:((c.lifted == P.liftsFinal))=true) (h27:((P.make == some c.make))=true) (hd:c.domain.isEmpty=true) (hk:c.kinds=[]) (h29:((c.pinned == c.pinnedBy))=true) (h30:((c.veiled == (fn.params.toList++s.plain.varTypes P++fn.resultTypes.toList).any (P.veiledRec ·)))=true) (h31:(c.veiledFits P fn.params.toList (fn.params.toList++s.plain.varTypes P++fn.resultTypes.toList))=true):joinedFacts P f fn s c=true:=by
 unfold joinedFacts
 rw [h0,h1,h2,h3,h4,h5,h6,h7,h8,h9,h10,h11,h12,h13,h14,h15,h16,h17,h18,h19,h20,h21,h22,h23,h24,h25,h26,h27,if_pos hd,hk,h29,h30,h31]
 rfl
theorem c0:(Rows.patchReadsRow.wf (OpenSpec.ofChange Rows.patchReadsSpec))=true:=by kernel_rfl
theorem c2:(mapsRowed Tryz.prog)=true:=by kernel_rfl
theorem c3:(Tryz.f4.params.all (Tryz.prog.readableRec ·))=true:=by kernel_rfl
theorem c4:(namedTie Tryz.prog Rows.patchReadsRow.named Rows.patchReadsSpec.vars)=true:=by kernel_rfl
theorem c5:((Rows.patchReadsRow.stops == []))=true:=by kernel_rfl
theorem c6:((Tryz.prog.stops == []))=true:=by kernel_rfl
theorem c7:((Rows.patchReadsRow.knobs == []))=true:=by kernel_rfl
theorem c8:((Tryz.prog.stopKnobs == []))=true:=by kernel_rfl
theorem c9:((Rows.patchReadsRow.inPlace == Tryz.prog.inPlace 4))=true:=by kernel_rfl
theorem c10:((Rows.patchReadsRow.unfollowed == Tryz.prog.unfollowed 4))=true:=by kernel_rfl
theorem c11:((Rows.patchReadsRow.recurses == Tryz.prog.recurses 4))=true:=by kernel_rfl
theorem c12:((Rows.patchReadsRow.named == Tryz.prog.varsNamed 4))=true:=by kernel_rfl
theorem Kj:((Rows.patchReadsRow.maps == (Tryz.f4.params.toList++Rows.patchReadsSpec.plain.varTypes Tryz.prog).any (Tryz.prog.mapsRec ·)))=true:=by kernel_rfl
theorem Qk:((Rows.patchReadsRow.ifaces == (Tryz.f4.params.toList++Rows.patchReadsSpec.plain.varTypes Tryz.prog).any (Tryz.prog.ifacesRec ·)))=true:=by kernel_rfl
theorem K9:((Rows.patchReadsRow.mapsOut == Tryz.prog.mapsAmong Tryz.f4.resultTypes.toList))=true:=by kernel_rfl
theorem c16:((Rows.patchReadsRow.loops == (Tryz.f4.params.toList++Rows.patchReadsSpec.plain.varTypes Tryz.prog).any (Tryz.prog.loopsFrom ·)))=true:=by kernel_rfl
theorem c17:((Rows.patchReadsRow.wideKeys == (Tryz.f4.params.toList++Rows.patchReadsSpec.plain.varTypes Tryz.prog++Tryz.f4.resultTypes.toList).any (Tryz.prog.wideKeysFrom ·)))=true:=by kernel_rfl
theorem c18:(Rows.patchReadsSpec.vars.all (Tryz.prog.varReadable ·))=true:=by kernel_rfl
theorem c19:(Tryz.f4.resultTypes.all (fun t=>Tryz.prog.readableRec t && decide (t < Tryz.prog.types.size)))=true:=by kernel_rfl
theorem c20:((Rows.patchReadsRow.ifacesOut == Tryz.f4.resultTypes.toList.any (Tryz.prog.ifacesRec ·)))=true:=by kernel_rfl
theorem c21:((Rows.patchReadsRow.loopsOut == Tryz.f4.resultTypes.toList.any (Tryz.prog.loopsFrom ·)))=true:=by kernel_rfl
theorem c22:((Rows.patchReadsRow.plainKeys == Tryz.prog.plainKeys))=true:=by kernel_rfl
theorem c23:(Rows.patchReadsRow.shortTexts.isNone)=true:=by kernel_rfl
theorem c24:(Tryz.prog.stopsHeard)=true:=by kernel_rfl
theorem c25:(Tryz.prog.mayEnter)=true:=by kernel_rfl
theorem c26:((Rows.patchReadsRow.lifted == Tryz.prog.liftsFinal))=true:=by kernel_rfl
theorem c27:((Tryz.prog.make == some Rows.patchReadsRow.make))=true:=by kernel_rfl
theorem c29:((Rows.patchReadsRow.pinned == Rows.patchReadsRow.pinnedBy))=true:=by kernel_rfl
theorem c30:((Rows.patchReadsRow.veiled == (Tryz.f4.params.toList++Rows.patchReadsSpec.plain.varTypes Tryz.prog++Tryz.f4.resultTypes.toList).any (Tryz.prog.veiledRec ·)))=true:=by kernel_rfl
theorem c31:(Rows.patchReadsRow.veiledFits Tryz.prog Tryz.f4.params.toList (Tryz.f4.params.toList++Rows.patchReadsSpec.plain.varTypes Tryz.prog++Tryz.f4.resultTypes.toList))=true:=by kernel_rfl
theorem named:Tryz.prog.funcNamed Rows.patchReadsRow.func=some 4:=by kernel_rfl
theorem Yjt:joinedFacts Tryz.prog 4 Tryz.f4 Rows.patchReadsSpec Rows.patchReadsRow=true:=Ycn (P:=Tryz.prog) (f:=4) (fn:=Tryz.f4) (s:=Rows.patchReadsSpec) (c:=Rows.patchReadsRow) c0 Ya4 c2 c3 c4 c5 c6 c7 c8 c9 c10 c11 c12 Kj Qk K9 c16 c17 c18 c19 c20 c21 c22 c23 c24 c25 c26 c27 rfl rfl c29 c30 c31
theorem proved:Rows.PatchReadsSaid :=
 OpenClaim.holds_of_wide 4 Tryz.f4 rfl rfl rfl rfl rfl rfl rfl ⟨rfl,rfl,rfl,rfl,rfl⟩ rfl rfl rfl rfl rfl named Tryz.func4 Yjt
  (of_decide_eq_true (by kernel_rfl)) (by unfold Func.isWrapper;first | (rw [if_pos (by decide +kernel)];kernel_rfl) | (rw [if_neg (by decide +kernel)];exact ⟨rfl,rfl⟩))
  (fun os started H enc _=>lifted os started H enc)
end Go.Proofs.YtmlcnhambfkjaaaGreat.patchReads
