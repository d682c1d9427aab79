/- Part H8 of the ghost memory: lemmas and contracts used by the proofs of this seat's laws; each theorem bears its own conditions. -/
import Derived.Test.YtibgpnmmgffgeaaH6
namespace Go.Proofs.Ytibgpnmmgffgeaa
open Go.RowKit
set_option linter.unusedVariables false
set_option linter.unusedSimpArgs false
open Go.ChangeShapes Go.WideShapes Go.ChangeAt
def Vf (P:Program) (t:TypeId) {α:Type} (f:α→List G) (wf:α→Prop) (n:Nat):Prop :=
 ∀ (H:Type) (enc:TypeId×Value→H) (W:World) (base:Nat) (spare:Nat→Bool) (held:Bool) (cs:List Value) (d:DataW H) (ps:List MemPlace),
  DataW.trod enc P W base spare held n t cs=some (d,ps)→(∀ x∈d.weights P t,x≤reachBytes)→∃ x,wf x∧G.reps W Za7 (fun _=>undef) 0 (f x) cs
def Zef (P:Program) (t:TypeId) {α:Type} (f:α→List G) (wf:α→Prop):Prop:=∀ n,Vf P t f wf n
theorem Zcx {P:Program} {t:TypeId} {α:Type} {f:α→List G} {wf:α→Prop}:Vf P t f wf 0:=fun H enc W base spare held cs d ps h=>by simp [DataW.trod] at h
theorem Jp {P:Program} {t:TypeId} {k:IntKind} (ht:P.underlying t=some (.int k)):Zef P t (eI k) (fun x=>(Lit.int k x).wf=true):=fun n H enc W base spare held cs d ps h _=>by
 cases n with
 | zero=>simp [DataW.trod] at h
 | succ n =>
  unfold DataW.trod at h
  rw [ht] at h
  split at h <;> simp_all
  exact ⟨_,h.1.2,by simp [eI,G.reps,G.rep]⟩
theorem Zxg {H:Type} {P:Program} {t e:TypeId} {es sp:List (DataW H)} (ht:P.underlying t=some (.slice e)) (hw:∀ x∈(DataW.slice es sp).weights P t,x≤reachBytes) :
  (es.length+sp.length) * P.bytesOf e≤reachBytes∧∀ d∈es,∀ x∈d.weights P e,x≤reachBytes:=by
 simp only [DataW.weights,ht,List.mem_cons,List.mem_append] at hw
 refine ⟨hw _ (.inl rfl),fun d hd x hx=>hw x (.inr (.inl ?_))⟩
 have key:∀ l:List (DataW H),d∈l→x∈DataW.weightsAll P e l:=fun l=>by
  induction l with
  | nil=>intro h;cases h
  | cons y l ih =>
   intro h
   simp only [DataW.weightsAll,List.mem_append]
   cases h with
   | head=>exact .inl hx
   | tail _ h=>exact .inr (ih h)
 exact key es hd
theorem Z79 (a:Addr) (i j:Nat):(a.add i).add j=a.add (i+j):=by
 unfold Addr.add
 by_cases hi:i=0 <;> by_cases hj:j=0 <;> simp [hi,hj,Nat.add_assoc]
theorem Zpv {P:Program} {t e:TypeId} {α:Type} {f:α→List G} {wf:α→Prop} {sz n:Nat} (ht:P.underlying t=some (.slice e)) (hc:P.cellsOf e=sz) (hs:0 < sz) (hf:∀ x,(f x).length=sz) (he:Vf P e f wf n) :
  Vf P t (eL f) (fun xs=>xs.length * P.bytesOf e≤reachBytes∧∀ x∈xs,wf x) (n+1):=fun H enc W base spare held cs d ps h hw=>by
 rcases DataW.trod_slice ht h with ⟨rfl,hx⟩ | ⟨a,len,cap,elems,Zju,n',hn,rfl,hx,hb,hl,hm,hlen,hel,_,_⟩
 ·refine ⟨[],⟨by simp,(fun x hx=>by cases hx)⟩,_,_,rfl,?_,rfl⟩
  simp only [G.rep]
  exact ⟨none,0,rfl,Nat.le_refl _,[],rfl,fun h=>absurd rfl h⟩
 injection hx with hd hp
 subst hd
 obtain rfl:n'=n:=by omega
 obtain ⟨w1,w2⟩:=Zxg ht hw
 have key:∀ k,k≤len→∃ (xs:List α) (vs:List Value),xs.length=k∧(∀ x∈xs,wf x)∧G.reps W Za7 (fun _=>undef) 0 (fl f xs) vs∧∀ j u,vs[j]? = some u→W.cell? (a.add j)=some u:=by
  intro k
  induction k with
  | zero=>intro _;exact ⟨[],[],rfl,(fun x hx=>by cases hx),rfl,(fun j u hu=>by simp at hu)⟩
  | succ k ih =>
   intro hk
   obtain ⟨xs,vs,h1,h2,h3,h4⟩:=ih (by omega)
   have hek:=hel k (by omega)
   have hkl:k < elems.length:=by omega
   rw [List.getElem?_eq_getElem hkl] at hek
   obtain ⟨cs',h5,h6⟩:=Option.bind_eq_some_iff.1 hek
   rw [hc] at h5
   obtain ⟨_,h7,h8⟩:=World.cells?_some h5
   obtain ⟨x,h9,h10⟩:=he H enc W base spare held cs' elems[k].1 elems[k].2 h6 (w2 _ (List.mem_map.2 ⟨_,List.getElem_mem hkl,rfl⟩))
   have hv:vs.length=k * sz:=by rw [← Ju _ _ h3,Q7 hf,h1]
   refine ⟨xs++[x],vs++cs',by simp [h1],fun y hy => ?_,?_,fun j u hu => ?_⟩
   ·rcases List.mem_append.1 hy with hy | hy
    ·exact h2 y hy
    simp at hy;subst hy;exact h9
   ·rw [Zj2,Zyk]
    exact U7 _ _ _ _ h3 h10
   rw [List.getElem?_append] at hu
   split at hu
   ·exact h4 j u hu
   rename_i hj
   have hj2:j - vs.length < sz:=by
    rcases Nat.lt_or_ge (j - vs.length) cs'.length with h | h
    ·omega
    rw [List.getElem?_eq_none h] at hu;cases hu
   have:=h8 (j - vs.length) hj2
   rw [hu,Z79] at this
   rw [← this]
   congr 2
   omega
 obtain ⟨xs,vs,h1,h2,h3,h4⟩:=key len (Nat.le_refl _)
 refine ⟨xs,⟨by simp only [List.length_map] at w1;exact Nat.le_trans (Nat.mul_le_mul_right _ (by omega)) w1,h2⟩,_,_,rfl,?_,rfl⟩
 simp only [G.rep]
 refine ⟨some a,cap,by rw [h1],by omega,vs,h3,fun hne => ?_⟩
 have hv:vs.length=xs.length * sz:=by rw [← Ju _ _ h3,Q7 hf]
 have hp:0 < vs.length:=by rw [hv];exact Nat.mul_pos (by omega) hs
 have h0:=h4 0 _ (List.getElem?_eq_getElem hp)
 have e0:a.add 0=a:=by simp [Addr.add]
 rw [e0] at h0
 obtain ⟨g,off,spot⟩:=a
 cases spot with
 | some s=>have:=World.cell?_spot h0;simp at this
 | none =>
  refine ⟨g,off,rfl,?_,fun ⟨i,o,hi,_⟩=>by simp [Za7] at hi,fun j u hu => ?_⟩
  ·rcases Nat.lt_or_ge g W.heap.size with hlt | hge
   ·exact hlt
   unfold World.cell? at h0
   rw [Array.getElem?_eq_none hge] at h0
   simp at h0
  have:=h4 j u hu
  rw [← this]
  unfold Addr.add
  split
  ·rename_i hj;subst hj;rfl
  rfl
theorem Zsx {P:Program} {t e:TypeId} {α:Type} {f:α→List G} {wf:α→Prop} {sz:Nat} (ht:P.underlying t=some (.slice e)) (hc:P.cellsOf e=sz) (hs:0 < sz) (hf:∀ x,(f x).length=sz) (he:Zef P e f wf) :
  Zef P t (eL f) (fun xs=>xs.length * P.bytesOf e≤reachBytes∧∀ x∈xs,wf x):=fun n=>by
 cases n with
 | zero=>exact Zcx
 | succ n=>exact Zpv ht hc hs hf (he n)
def Zo6 (P:Program) (fs:List Field) (o k:Nat) {α:Type} (f:α→List G) (wf:α→Prop) (n:Nat):Prop :=
 ∀ (H:Type) (enc:TypeId×Value→H) (W:World) (base:Nat) (spare:Nat→Bool) (held:Bool) (cs:List Value) (ys:List (DataW H×List MemPlace)),ys.length=fs.length →
  (∀ (i:Nat) (fld:Field),fs[i]? = some fld→DataW.trod enc P W base spare held n fld.type ((cs.drop fld.offset).take (P.cellsOf fld.type))=ys[i]?) →
  (∀ x∈DataW.weightsEach P (fs.map (·.type)) (ys.map (·.1)),x≤reachBytes)→∃ x,wf x∧G.reps W Za7 (fun _=>undef) 0 (f x) ((cs.drop o).take k)
theorem Ze3 {P:Program} {o n:Nat}:Zo6 P [] o 0 (fun _:Unit=>[]) (fun _=>True) n:=fun H enc W base spare held cs ys _ _ _=>⟨(),trivial,by simp [G.reps]⟩
theorem Y3 {P:Program} {fld:Field} {fs:List Field} {o k k' n:Nat} {α β:Type} {f:α→List G} {wf:α→Prop} {g:β→List G} {wg:β→Prop} (ho:fld.offset=o) (hk:P.cellsOf fld.type=k) (h1:Vf P fld.type f wf n) (h2:Zo6 P fs (o+k) k' g wg n) :
  Zo6 P (fld::fs) o (k+k') (fun p:α×β=>f p.1++g p.2) (fun p=>wf p.1∧wg p.2) n:=fun H enc W base spare held cs ys hl hf hw=>by
 match ys,hl with
 | y::ys,hl =>
  have h0:=hf 0 fld rfl
  rw [ho,hk] at h0
  simp only [List.getElem?_cons_zero] at h0
  simp only [List.map_cons,DataW.weightsEach,List.mem_append] at hw
  obtain ⟨x,hx,rx⟩:=h1 H enc W base spare held _ y.1 y.2 h0 fun z hz=>hw z (.inl hz)
  obtain ⟨z,hz,rz⟩:=h2 H enc W base spare held cs ys (by simpa using hl) (fun i fld' hi=>hf (i+1) fld' (by simpa using hi)) fun z hz=>hw z (.inr hz)
  refine ⟨(x,z),⟨hx,hz⟩,?_⟩
  rw [List.take_add,List.drop_drop]
  exact U7 _ _ _ _ rx rz
theorem Zem {P:Program} {t:TypeId} {fields:Array Field} {n k:Nat} {α β:Type} {f:α→List G} {wf:α→Prop} {g:β→List G} (mk:α→β) (ht:P.underlying t=some (.struct fields)) (hk:P.cellsOf t=k) (h:Zo6 P fields.toList 0 k f wf n) (hg:∀ x,g (mk x)=f x) :
  Vf P t g (fun y=>∃ x,y=mk x∧wf x) (n+1):=fun H enc W base spare held cs d ps hh hw=>by
 obtain ⟨ys,n',hn,hx,hl,hlen,hf⟩:=DataW.trod_struct ht hh
 obtain rfl:n'=n:=by omega
 injection hx with hd hp
 subst hd
 obtain ⟨x,h1,h2⟩:=h H enc W base spare held cs ys (by simpa using hlen) (fun i fld hi=>hf i fld (by simpa using hi)) (fun x hx=>hw x (by simpa [DataW.weights,ht] using hx))
 refine ⟨mk x,⟨x,rfl,h1⟩,?_⟩
 rw [hg]
 rw [List.drop_zero,List.take_of_length_le (by omega)] at h2
 exact h2
theorem Zpw {P:Program} {t:TypeId} {fields:Array Field} {k:Nat} {α β:Type} {f:α→List G} {wf:α→Prop} {g:β→List G} (mk:α→β) (ht:P.underlying t=some (.struct fields)) (hk:P.cellsOf t=k) (h:∀ n,Zo6 P fields.toList 0 k f wf n) (hg:∀ x,g (mk x)=f x) :
  Zef P t g (fun y=>∃ x,y=mk x∧wf x):=fun n=>by
 cases n with
 | zero=>exact Zcx
 | succ n=>exact Zem mk ht hk (h n) hg
theorem Z25 {P:Program} {t:TypeId} {α:Type} {f:α→List G} {wf:α→Prop} (ho:Zef P t f wf) {H:Type} {enc:TypeId×Value→H} {W:World} {held:Bool} {v:Value} {d:DataW H} {ps:List MemPlace} {base:Nat}
  (h:DataW.Trod enc P W base (fun _=>true) held t v d ps) (hw:∀ x∈d.weights P t,x≤reachBytes):∃ x,wf x∧G.reps W Za7 (fun _=>undef) 0 (f x) v.cells.toList:=by
 obtain ⟨n,hn⟩:=h
 exact ho n H enc W base _ held _ d ps hn hw
section
variable {P:Program} {W:World} {r:Reach} {b:Nat} {t:TypeId} {v:Value}
theorem Zt7 {fs:Array Field} (ht:P.underlying t=some (.struct fs)) (h:Value.okWide P W r b t v):∃ cs,v = .agg cs:=by
 simp only [Value.okWide,ht] at h
 obtain ⟨cs,h,_⟩:=h
 exact ⟨cs,h⟩
theorem Z6e {gs:List G} (h1:∃ cs,v = .agg cs) (h:G.reps W Za7 (fun _=>undef) 0 gs v.cells.toList):(G.agg gs).rep W Za7 (fun _=>undef) 0 v:=by
 obtain ⟨cs,rfl⟩:=h1
 simp only [G.rep]
 exact ⟨cs,rfl,h⟩
theorem Zxi {H:Type} {ts:List TypeId} {ds:List (DataW H)} (h:(DataW.weightsEach P ts ds).all (·≤reachBytes)=true) {j:Nat} {d:DataW H} (ht:ts[j]? = some t) (hd:ds[j]? = some d):∀ x∈d.weights P t,x≤reachBytes:=fun x hx=>by
 have:=List.all_eq_true.1 h _ (DataW.weights_mem_each ht hd x hx)
 simpa using this
end
end Go.Proofs.Ytibgpnmmgffgeaa
