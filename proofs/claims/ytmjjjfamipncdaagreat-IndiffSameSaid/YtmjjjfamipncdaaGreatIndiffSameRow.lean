/- Called with any arguments, the law IndiffSame returns true and leaves them as they were; no other condition. -/
import Derived.Test.YtmjjjfamipncdaaGreatYA
import Derived.ShutString
import Derived.ChangeOld
import Derived.Below
namespace Go.Proofs.YtmjjjfamipncdaaGreat.indiffSame
open Go.ChangeShapes Go.WideShapes Go.ChangeAt Go.RowKit
open Go.ChangeMaps (open_string shut_string)
set_option linter.unusedVariables false
set_option linter.unusedSimpArgs false
theorem Ykk:Zf4 Tryz.prog 49 (eI .u64) (fun x=>(Lit.int .u64 x).wf=true):=Vp Tryz.underlying49
theorem Yfw:Zf4 Tryz.prog 49 (eI .u64) (fun x:Int=>(Lit.int .u64 x).wf=true):=(Vp Tryz.underlying49)
theorem Yi6:Zf4 Tryz.prog 26 (eL (eI .u64)) (fun xs:(List Int)=>xs.length * 8≤140737488351232∧∀ x∈xs,(fun x:Int=>(Lit.int .u64 x).wf=true) x):=by
 have h:=Zsf (P:=Tryz.prog) (t:=26) (sz:=1) Tryz.underlying26 (by kernel_rfl) (by decide) (fun _=>rfl) Yfw
 have hb:Tryz.prog.bytesOf 49=8:=by kernel_rfl
 rw [hb] at h
 exact h
theorem Yfv:Zf4 Tryz.prog 26 (eL (eI .u64)) (fun xs:(List Int)=>xs.length * 8≤140737488351232∧∀ x∈xs,(fun x:Int=>(Lit.int .u64 x).wf=true) x):=Yi6
theorem Yi5:Zf4 Tryz.prog 22 (eL (eL (eI .u64))) (fun xs:(List (List Int))=>xs.length * 24≤140737488351232∧∀ x∈xs,(fun xs:(List Int)=>xs.length * 8≤140737488351232∧∀ x∈xs,(fun x:Int=>(Lit.int .u64 x).wf=true) x) x):=by
 have h:=Zsf (P:=Tryz.prog) (t:=22) (sz:=1) Tryz.underlying22 (by kernel_rfl) (by decide) (fun _=>rfl) Yfv
 have hb:Tryz.prog.bytesOf 26=24:=by kernel_rfl
 rw [hb] at h
 exact h
theorem op3:Zf4 Tryz.prog 3 (eI .i64) (fun x=>(Lit.int .i64 x).wf=true):=Vp Tryz.underlying3
def Za0 (x:Yd):Prop:=(fun x:Int=>(Lit.int .i64 x).wf=true) x.Depth∧(fun x:Int=>(Lit.int .i64 x).wf=true) x.Weight∧(fun x:Int=>(Lit.int .i64 x).wf=true) x.MaxD∧(fun x:Int=>(Lit.int .i64 x).wf=true) x.MaxOut
theorem Ykj:Zf4 Tryz.prog 23 Q1 Za0:=by
 have h:=Zpj (P:=Tryz.prog) (t:=23) (g:=Q1) (fun p=>(⟨p.1,p.2.1,p.2.2.1,p.2.2.2.1⟩:Yd)) Tryz.underlying23 (by kernel_rfl) (fun n=>(V6 (k:=1) rfl (by kernel_rfl) ((Vp Tryz.underlying3) _) (V6 (k:=1) rfl (by kernel_rfl) ((Vp Tryz.underlying3) _) (V6 (k:=1) rfl (by kernel_rfl) ((Vp Tryz.underlying3) _) (V6 (k:=1) rfl (by kernel_rfl) ((Vp Tryz.underlying3) _) Zse))))) (fun x=>rfl)
 intro n H enc W base spare held cs d ps h1 h2
 obtain ⟨x,⟨y,rfl,hy⟩,hr⟩:=h n H enc W base spare held cs d ps h1 h2
 exact ⟨_,by unfold Za0;simp only;exact ⟨hy.1,hy.2.1,hy.2.2.1,hy.2.2.2.1⟩,hr⟩
theorem Yfx:Zf4 Tryz.prog 24 Q1 Za0:=by
 have h:=Zpj (P:=Tryz.prog) (t:=24) (g:=Q1) (fun p=>(⟨p.1,p.2.1,p.2.2.1,p.2.2.2.1⟩:Yd)) Tryz.underlying24 (by kernel_rfl) (fun n=>(V6 (k:=1) rfl (by kernel_rfl) ((Vp Tryz.underlying3) _) (V6 (k:=1) rfl (by kernel_rfl) ((Vp Tryz.underlying3) _) (V6 (k:=1) rfl (by kernel_rfl) ((Vp Tryz.underlying3) _) (V6 (k:=1) rfl (by kernel_rfl) ((Vp Tryz.underlying3) _) Zse))))) (fun x=>rfl)
 intro n H enc W base spare held cs d ps h1 h2
 obtain ⟨x,⟨y,rfl,hy⟩,hr⟩:=h n H enc W base spare held cs d ps h1 h2
 exact ⟨_,by unfold Za0;simp only;exact ⟨hy.1,hy.2.1,hy.2.2.1,hy.2.2.2.1⟩,hr⟩
theorem Yip (l:List (List Int)) (h:l.length * 24≤140737488351232∧∀ x∈l,x.length * 8≤140737488351232∧∀ w∈x,(Lit.int .u64 w).wf=true):WS l:=by
 refine ⟨by have:=h.1;omega,fun x hx=>by have:=(h.2 x hx).1;omega,fun x hx w hw => ?_⟩
 have:=(h.2 x hx).2 w hw
 simp [Lit.wf,IntKind.min,IntKind.max,IntKind.signed,IntKind.bits] at this
 omega
theorem Ykh {a:Int} (h:(Lit.int .u8 a).wf=true):0≤a∧a < 256:=by
 simp [Lit.wf,IntKind.min,IntKind.max,IntKind.signed,IntKind.bits] at h
 omega
theorem Ykg {a:Int} (h:(Lit.int .u32 a).wf=true):0≤a∧a < 4294967296:=by
 simp [Lit.wf,IntKind.min,IntKind.max,IntKind.signed,IntKind.bits] at h
 omega
theorem own:ownKnob Tryz.prog.godebug=none:=by kernel_rfl
theorem Zs0:laidOutB Tryz.prog=true:=by kernel_rfl
set_option maxRecDepth 100000 in
theorem lifted (os:Os) (started:os.Started) (H:Type) (enc:TypeId×Value→H) :
  ReturnsInHanded {} Tryz.checked os 3 .any (Rows.indiffSameSpec.pre6 enc Tryz.prog Tryz.f3 Rows.indiffSameRow.domain false) (Rows.indiffSameSpec.post enc Tryz.prog Tryz.f3 false true false false):=by
 refine returnsInHanded_of_change_sized (C:=Tryz.checked) own started (by kernel_rfl) Tryz.func3
  (ChangeSpec.witness6 (enc:=enc) (C:=Tryz.checked) false ⟨#[],#[.slice none 0 0,.agg #[.int .i64 0,.int .i64 0,.int .i64 0,.int .i64 0],.int .i64 0],[]⟩ 12 (by kernel_rfl) (by kernel_rfl) (by kernel_rfl) (by kernel_rfl)) ?_
 intro W base args ds gs before hval0 hW hcnd hsz0 _
 have hval:∀ (j:Nat) t v,Tryz.f3.params[j]? = some t→args[j]? = some v→Value.okWide Tryz.prog W .any base t v:=hval0
 have hW':=hW
 obtain ⟨p,q,hA0,hV,rfl,hfz,hnd⟩:=hW
 have hA:DataW.TrodAll enc Tryz.prog W 0 (fun _=>true) true Tryz.f3.params.toList args.toList ds p:=hA0
 rw [Tryz.params3] at hA hval
 obtain ⟨v0,vs0,d0,ds0,p0,q0,hargs,rfl,rfl,h0,r0⟩:=trodAll_cons hA
 obtain ⟨v1,vs1,d1,ds1,p1,q1,rfl,rfl,rfl,h1,r1⟩:=trodAll_cons r0
 obtain ⟨v2,vs2,d2,ds2,p2,q2,rfl,rfl,rfl,h2,r2⟩:=trodAll_cons r1
 obtain ⟨rfl,rfl,rfl⟩:=trodAll_nil r2
 obtain rfl:args=#[v0,v1,v2]:=by cases args;simp_all
 obtain ⟨rfl,rfl⟩:=trodVars_none hV
 clear hA0 hval0
 have hsz:(DataW.weightsEach Tryz.prog (Tryz.f3.params.toList++Rows.indiffSameSpec.plain.varTypes Tryz.prog) _).all (·≤reachBytes)=true:=hsz0
 clear hsz0
 rw [Tryz.params3] at hsz
 have lt0:∀ x∈p0,x.block < W.heap.size:=by obtain ⟨m,hm⟩:=h0;exact DataW.trod_lt m _ _ _ hm
 obtain ⟨x0,w0,e0⟩:=Zuc Yi5 h0 (Zp2 hsz (j:=0) rfl rfl)
 have g0:=Z3q (Z6a Tryz.underlying22 (hval 0 22 v0 rfl rfl)) e0
 have lt1:∀ x∈p1,x.block < W.heap.size:=by obtain ⟨m,hm⟩:=h1;exact DataW.trod_lt m _ _ _ hm
 obtain ⟨x1,w1,e1⟩:=Zuc Yfx h1 (Zp2 hsz (j:=1) rfl rfl)
 have g1:=Yau (Z2a Tryz.underlying24 (hval 1 24 v1 rfl rfl)) e1
 have lt2:∀ x∈p2,x.block < W.heap.size:=by obtain ⟨m,hm⟩:=h2;exact DataW.trod_lt m _ _ _ hm
 obtain ⟨x2,w2,e2⟩:=Zuc (Vp Tryz.underlying3) h2 (Zp2 hsz (j:=2) rfl rfl)
 have g2:=Z3q (Ybr Tryz.underlying3 (hval 2 3 v2 rfl rfl)) e2
 refine (Yel (Zfx ((fun l wl x _ s _=>Zyc (Yip l wl) x s) x0 w0 x1 w1 x2 w2)).pure (vs:=[v0,v1,v2]) ⟨_,_,rfl,g0,⟨_,_,rfl,g1,⟨_,_,rfl,g2,rfl⟩⟩⟩).mono fun e W' ⟨he,bel⟩ => ?_
 subst he
 exact ⟨_,rfl,_,_,_,[],_,[],hW',trodAll_mk1 (shut_bool Tryz.underlying4 _),(trodAll_cons_mk (Below.trod Zs0 (by kernel_rfl) (of_decide_eq_true (by kernel_rfl)) h0 bel lt0) (trodAll_cons_mk (Below.trod Zs0 (by kernel_rfl) (of_decide_eq_true (by kernel_rfl)) h1 bel lt1) (trodAll_cons_mk (Below.trod Zs0 (by kernel_rfl) (of_decide_eq_true (by kernel_rfl)) h2 bel lt2) trodAll_mk0))),rfl,bel.frame _,fun h=>by cases h⟩
theorem Z5z {P:Program} {f:FuncId} {fn:Func} {s:ChangeSpec} {c:OpenClaim} (h0:(c.wf (OpenSpec.ofChange s))=true) (h1:(laidOutB P)=true) (h2:(mapsRowed P)=true) (h3:(fn.params.all (P.readableRec ·))=true) (h4:(namedTie P c.named s.vars)=true) (h5:((c.stops == []))=true) (h6:((P.stops == []))=true) (h7:((c.knobs == []))=true) (h8:((P.stopKnobs == []))=true) (h9:((c.inPlace == P.inPlace f))=true) (h10:((c.unfollowed == P.unfollowed f))=true) (h11:((c.recurses == P.recurses f))=true) (h12:((c.named == P.varsNamed f))=true) (h13:((c.maps == (fn.params.toList++s.plain.varTypes P).any (P.mapsRec ·)))=true) (h14:((c.ifaces == (fn.params.toList++s.plain.varTypes P).any (P.ifacesRec ·)))=true) (h15:((c.mapsOut == P.mapsAmong fn.resultTypes.toList))=true) (h16:((c.loops == (fn.params.toList++s.plain.varTypes P).any (P.loopsFrom ·)))=true) (h17:((c.wideKeys == (fn.params.toList++s.plain.varTypes P++fn.resultTypes.toList).any (P.wideKeysFrom ·)))=true) (h18:(s.vars.all (P.varReadable ·))=true) (h19:(fn.resultTypes.all (fun t=>P.readableRec t && decide (t < P.types.size)))=true) (h20:((c.ifacesOut == fn.resultTypes.toList.any (P.ifacesRec ·)))=true) (h21:((c.loopsOut == fn.resultTypes.toList.any (P.loopsFrom ·)))=true) (h22:((c.plainKeys == P.plainKeys))=true) (h23:(c.shortTexts.isNone)=true) (h24:(P.stopsHeard)=true) (h25:(P.mayEnter)=true) (h26:((c.lifted == P.liftsFinal))=true) (h27:((P.make == some c.make))=true) (hd:c.domain.isEmpty=true) (hk:c.kinds=[]) (h29:((c.pinned == c.pinnedBy))=true) (h30:((c.veiled == (fn.params.toList++s.plain.varTypes P++fn.resultTypes.toList).any (P.veiledRec ·)))=true) (h31:(c.veiledFits P fn.params.toList (fn.params.toList++s.plain.varTypes P++fn.resultTypes.toList))=true):joinedFacts P f fn s c=true:=by
 unfold joinedFacts
 rw [h0,h1,h2,h3,h4,h5,h6,h7,h8,h9,h10,h11,h12,h13,h14,h15,h16,h17,h18,h19,h20,h21,h22,h23,h24,h25,h26,h27,if_pos hd,hk,h29,h30,h31]
 rfl
theorem c0:(Rows.indiffSameRow.wf (OpenSpec.ofChange Rows.indiffSameSpec))=true:=by kernel_rfl
theorem c2:(mapsRowed Tryz.prog)=true:=by kernel_rfl
theorem c3:(Tryz.f3.params.all (Tryz.prog.readableRec ·))=true:=by kernel_rfl
theorem c4:(namedTie Tryz.prog Rows.indiffSameRow.named Rows.indiffSameSpec.vars)=true:=by kernel_rfl
theorem c5:((Rows.indiffSameRow.stops == []))=true:=by kernel_rfl
theorem c6:((Tryz.prog.stops == []))=true:=by kernel_rfl
theorem c7:((Rows.indiffSameRow.knobs == []))=true:=by kernel_rfl
theorem c8:((Tryz.prog.stopKnobs == []))=true:=by kernel_rfl
theorem c9:((Rows.indiffSameRow.inPlace == Tryz.prog.inPlace 3))=true:=by kernel_rfl
theorem Gi:((Rows.indiffSameRow.unfollowed == Tryz.prog.unfollowed 3))=true:=by kernel_rfl
theorem Kl:((Rows.indiffSameRow.recurses == Tryz.prog.recurses 3))=true:=by kernel_rfl
theorem Ux:((Rows.indiffSameRow.named == Tryz.prog.varsNamed 3))=true:=by kernel_rfl
theorem U7:((Rows.indiffSameRow.maps == (Tryz.f3.params.toList++Rows.indiffSameSpec.plain.varTypes Tryz.prog).any (Tryz.prog.mapsRec ·)))=true:=by kernel_rfl
theorem c14:((Rows.indiffSameRow.ifaces == (Tryz.f3.params.toList++Rows.indiffSameSpec.plain.varTypes Tryz.prog).any (Tryz.prog.ifacesRec ·)))=true:=by kernel_rfl
theorem Vn:((Rows.indiffSameRow.mapsOut == Tryz.prog.mapsAmong Tryz.f3.resultTypes.toList))=true:=by kernel_rfl
theorem c16:((Rows.indiffSameRow.loops == (Tryz.f3.params.toList++Rows.indiffSameSpec.plain.varTypes Tryz.prog).any (Tryz.prog.loopsFrom ·)))=true:=by kernel_rfl
theorem c17:((Rows.indiffSameRow.wideKeys == (Tryz.f3.params.toList++Rows.indiffSameSpec.plain.varTypes Tryz.prog++Tryz.f3.resultTypes.toList).any (Tryz.prog.wideKeysFrom ·)))=true:=by kernel_rfl
theorem Gj:(Rows.indiffSameSpec.vars.all (Tryz.prog.varReadable ·))=true:=by kernel_rfl
theorem c19:(Tryz.f3.resultTypes.all (fun t=>Tryz.prog.readableRec t && decide (t < Tryz.prog.types.size)))=true:=by kernel_rfl
theorem c20:((Rows.indiffSameRow.ifacesOut == Tryz.f3.resultTypes.toList.any (Tryz.prog.ifacesRec ·)))=true:=by kernel_rfl
theorem c21:((Rows.indiffSameRow.loopsOut == Tryz.f3.resultTypes.toList.any (Tryz.prog.loopsFrom ·)))=true:=by kernel_rfl
theorem c22:((Rows.indiffSameRow.plainKeys == Tryz.prog.plainKeys))=true:=by kernel_rfl
theorem c23:(Rows.indiffSameRow.shortTexts.isNone)=true:=by kernel_rfl
theorem c24:(Tryz.prog.stopsHeard)=true:=by kernel_rfl
theorem c25:(Tryz.prog.mayEnter)=true:=by kernel_rfl
theorem c26:((Rows.indiffSameRow.lifted == Tryz.prog.liftsFinal))=true:=by kernel_rfl
theorem c27:((Tryz.prog.make == some Rows.indiffSameRow.make))=true:=by kernel_rfl
theorem c29:((Rows.indiffSameRow.pinned == Rows.indiffSameRow.pinnedBy))=true:=by kernel_rfl
theorem c30:((Rows.indiffSameRow.veiled == (Tryz.f3.params.toList++Rows.indiffSameSpec.plain.varTypes Tryz.prog++Tryz.f3.resultTypes.toList).any (Tryz.prog.veiledRec ·)))=true:=by kernel_rfl
theorem c31:(Rows.indiffSameRow.veiledFits Tryz.prog Tryz.f3.params.toList (Tryz.f3.params.toList++Rows.indiffSameSpec.plain.varTypes Tryz.prog++Tryz.f3.resultTypes.toList))=true:=by kernel_rfl
theorem named:Tryz.prog.funcNamed Rows.indiffSameRow.func=some 3:=by kernel_rfl
theorem Yd8:joinedFacts Tryz.prog 3 Tryz.f3 Rows.indiffSameSpec Rows.indiffSameRow=true:=Z5z (P:=Tryz.prog) (f:=3) (fn:=Tryz.f3) (s:=Rows.indiffSameSpec) (c:=Rows.indiffSameRow) c0 Zs0 c2 c3 c4 c5 c6 c7 c8 c9 Gi Kl Ux U7 c14 Vn c16 c17 Gj c19 c20 c21 c22 c23 c24 c25 c26 c27 rfl rfl c29 c30 c31
theorem proved:Rows.IndiffSameSaid :=
 OpenClaim.holds_of_wide 3 Tryz.f3 rfl rfl rfl rfl rfl rfl rfl ⟨rfl,rfl,rfl,rfl,rfl⟩ rfl rfl rfl rfl rfl named Tryz.func3 Yd8
  (of_decide_eq_true (by kernel_rfl)) (by unfold Func.isWrapper;first | (rw [if_pos (by decide +kernel)];kernel_rfl) | (rw [if_neg (by decide +kernel)];exact ⟨rfl,rfl⟩))
  (fun os started H enc _=>lifted os started H enc)
end Go.Proofs.YtmjjjfamipncdaaGreat.indiffSame
