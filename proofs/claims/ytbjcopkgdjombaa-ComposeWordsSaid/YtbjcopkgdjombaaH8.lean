/- Part H8 of the ghost memory: lemmas and contracts used by the proofs of this seat's laws; each theorem bears its own conditions. -/
import Derived.Test.YtbjcopkgdjombaaH6
import Derived.WalkKit
import Derived.WalkSpells
import Derived.WalkLawsBesides
import Derived.Lib.Hide
import Derived.BigQuiet
import Derived.StillTailTactics
import Derived.Deep.RegionHeld3
import Derived.Deep.AppendLies
import Derived.Laws.CopyOwn
import Derived.Deep.DeepCutAuto
import Derived.Deep.QuietTactic
import Derived.Maps.AppendAt
import Derived.Great.BuildSlice
import Derived.Laws.StructEq
import Derived.IntWalk
import Derived.ProofKit
import Derived.OpenShut
import Derived.SizedLaws
import Derived.Deep.Slices
namespace Go.Proofs.Ytbjcopkgdjombaa
open Go.RowKit
set_option linter.unusedVariables false
set_option linter.unusedSimpArgs false
open Go.ChangeShapes Go.WideShapes Go.ChangeAt
def Zta (P:Program) (t:TypeId) {α:Type} (f:α→List G) (wf:α→Prop) (n:Nat):Prop :=
 ∀ (H:Type) (enc:TypeId×Value→H) (W:World) (base:Nat) (spare:Nat→Bool) (held:Bool) (cs:List Value) (d:DataW H) (ps:List MemPlace),
  DataW.trod enc P W base spare held n t cs=some (d,ps)→(∀ x∈d.weights P t,x≤reachBytes)→∃ x,wf x∧G.reps W Zau (fun _=>undef) 0 (f x) cs
def Zn8 (P:Program) (t:TypeId) {α:Type} (f:α→List G) (wf:α→Prop):Prop:=∀ n,Zta P t f wf n
theorem Zw6 {P:Program} {t:TypeId} {α:Type} {f:α→List G} {wf:α→Prop}:Zta P t f wf 0:=fun H enc W base spare held cs d ps h=>by simp [DataW.trod] at h
theorem Ut {P:Program} {t:TypeId} {k:IntKind} (ht:P.underlying t=some (.int k)):Zn8 P t (eI k) (fun x=>(Lit.int k x).wf=true):=fun n H enc W base spare held cs d ps h _=>by
 cases n with
 | zero=>simp [DataW.trod] at h
 | succ n =>
  unfold DataW.trod at h
  rw [ht] at h
  split at h <;> simp_all
  exact ⟨_,h.1.2,by simp [eI,G.reps,G.rep]⟩
def Zls (P:Program) (fs:List Field) (o k:Nat) {α:Type} (f:α→List G) (wf:α→Prop) (n:Nat):Prop :=
 ∀ (H:Type) (enc:TypeId×Value→H) (W:World) (base:Nat) (spare:Nat→Bool) (held:Bool) (cs:List Value) (ys:List (DataW H×List MemPlace)),ys.length=fs.length →
  (∀ (i:Nat) (fld:Field),fs[i]? = some fld→DataW.trod enc P W base spare held n fld.type ((cs.drop fld.offset).take (P.cellsOf fld.type))=ys[i]?) →
  (∀ x∈DataW.weightsEach P (fs.map (·.type)) (ys.map (·.1)),x≤reachBytes)→∃ x,wf x∧G.reps W Zau (fun _=>undef) 0 (f x) ((cs.drop o).take k)
theorem Zof {P:Program} {o n:Nat}:Zls P [] o 0 (fun _:Unit=>[]) (fun _=>True) n:=fun H enc W base spare held cs ys _ _ _=>⟨(),trivial,by simp [G.reps]⟩
theorem Ub {P:Program} {fld:Field} {fs:List Field} {o k k' n:Nat} {α β:Type} {f:α→List G} {wf:α→Prop} {g:β→List G} {wg:β→Prop} (ho:fld.offset=o) (hk:P.cellsOf fld.type=k) (h1:Zta P fld.type f wf n) (h2:Zls P fs (o+k) k' g wg n) :
  Zls P (fld::fs) o (k+k') (fun p:α×β=>f p.1++g p.2) (fun p=>wf p.1∧wg p.2) n:=fun H enc W base spare held cs ys hl hf hw=>by
 match ys,hl with
 | y::ys,hl =>
  have h0:=hf 0 fld rfl
  rw [ho,hk] at h0
  simp only [List.getElem?_cons_zero] at h0
  simp only [List.map_cons,DataW.weightsEach,List.mem_append] at hw
  obtain ⟨x,hx,rx⟩:=h1 H enc W base spare held _ y.1 y.2 h0 fun z hz=>hw z (.inl hz)
  obtain ⟨z,hz,rz⟩:=h2 H enc W base spare held cs ys (by simpa using hl) (fun i fld' hi=>hf (i+1) fld' (by simpa using hi)) fun z hz=>hw z (.inr hz)
  refine ⟨(x,z),⟨hx,hz⟩,?_⟩
  rw [List.take_add,List.drop_drop]
  exact Uu _ _ _ _ rx rz
theorem Zsg {P:Program} {t:TypeId} {fields:Array Field} {n k:Nat} {α β:Type} {f:α→List G} {wf:α→Prop} {g:β→List G} (mk:α→β) (ht:P.underlying t=some (.struct fields)) (hk:P.cellsOf t=k) (h:Zls P fields.toList 0 k f wf n) (hg:∀ x,g (mk x)=f x) :
  Zta P t g (fun y=>∃ x,y=mk x∧wf x) (n+1):=fun H enc W base spare held cs d ps hh hw=>by
 obtain ⟨ys,n',hn,hx,hl,hlen,hf⟩:=DataW.trod_struct ht hh
 obtain rfl:n'=n:=by omega
 injection hx with hd hp
 subst hd
 obtain ⟨x,h1,h2⟩:=h H enc W base spare held cs ys (by simpa using hlen) (fun i fld hi=>hf i fld (by simpa using hi)) (fun x hx=>hw x (by simpa [DataW.weights,ht] using hx))
 refine ⟨mk x,⟨x,rfl,h1⟩,?_⟩
 rw [hg]
 rw [List.drop_zero,List.take_of_length_le (by omega)] at h2
 exact h2
theorem Zmg {P:Program} {t:TypeId} {fields:Array Field} {k:Nat} {α β:Type} {f:α→List G} {wf:α→Prop} {g:β→List G} (mk:α→β) (ht:P.underlying t=some (.struct fields)) (hk:P.cellsOf t=k) (h:∀ n,Zls P fields.toList 0 k f wf n) (hg:∀ x,g (mk x)=f x) :
  Zn8 P t g (fun y=>∃ x,y=mk x∧wf x):=fun n=>by
 cases n with
 | zero=>exact Zw6
 | succ n=>exact Zsg mk ht hk (h n) hg
theorem Zw5 {P:Program} {t:TypeId} {α:Type} {f:α→List G} {wf:α→Prop} (ho:Zn8 P t f wf) {H:Type} {enc:TypeId×Value→H} {W:World} {held:Bool} {v:Value} {d:DataW H} {ps:List MemPlace} {base:Nat}
  (h:DataW.Trod enc P W base (fun _=>true) held t v d ps) (hw:∀ x∈d.weights P t,x≤reachBytes):∃ x,wf x∧G.reps W Zau (fun _=>undef) 0 (f x) v.cells.toList:=by
 obtain ⟨n,hn⟩:=h
 exact ho n H enc W base _ held _ d ps hn hw
section
variable {P:Program} {W:World} {r:Reach} {b:Nat} {t:TypeId} {v:Value}
theorem Zpg {fs:Array Field} (ht:P.underlying t=some (.struct fs)) (h:Value.okWide P W r b t v):∃ cs,v = .agg cs:=by
 simp only [Value.okWide,ht] at h
 obtain ⟨cs,h,_⟩:=h
 exact ⟨cs,h⟩
theorem Zz3 {gs:List G} (h1:∃ cs,v = .agg cs) (h:G.reps W Zau (fun _=>undef) 0 gs v.cells.toList):(G.agg gs).rep W Zau (fun _=>undef) 0 v:=by
 obtain ⟨cs,rfl⟩:=h1
 simp only [G.rep]
 exact ⟨cs,rfl,h⟩
theorem Zsl {H:Type} {ts:List TypeId} {ds:List (DataW H)} (h:(DataW.weightsEach P ts ds).all (·≤reachBytes)=true) {j:Nat} {d:DataW H} (ht:ts[j]? = some t) (hd:ds[j]? = some d):∀ x∈d.weights P t,x≤reachBytes:=fun x hx=>by
 have:=List.all_eq_true.1 h _ (DataW.weights_mem_each ht hd x hx)
 simpa using this
end
end Go.Proofs.Ytbjcopkgdjombaa
