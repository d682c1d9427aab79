/- Part G13 of the ghost memory: lemmas and contracts used by the proofs of this seat's laws; each theorem bears its own conditions. -/
import Derived.Test.YtbkhdkfjabiocaaG12
namespace Go.Proofs.Ytbkhdkfjabiocaa
open Go.RowKit
set_option linter.unusedVariables false
set_option linter.unusedSimpArgs false
section
variable {P:Program} {T:J9} {w:World} {O:Objs} {m:Hands} {n:Nat}
def leL (l:List (Nat×G)):List (Nat×G)→Prop
 | []=>True
 | (t,g)::l0=>Q0 l t=g∧leL l l0
def leG (E0 E:Env):Prop:=E0.n=E.n∧leL E.l E0.l
theorem Zuz:∀ (l l0:List (Nat×G)),leL l l0→∀ t,Q0 l0 t = .any∨Q0 l0 t=Q0 l t
 | l,[],h,t => .inl rfl
 | l,(t',g)::l0,h,t=>by
  simp only [leL] at h
  simp only [Q0]
  split
  ·rename_i e;subst e;exact .inr h.1.symm
  exact Zuz l l0 h.2 t
theorem Holds.le {E E':Env} {a:Act} (h:Holds w O m n E' a) (hl:leG E E'):Holds w O m n E a:=by
 refine ⟨h.size.trans hl.1.symm,fun t v hv => ?_,fun t ht => ?_,h.defers⟩
 ·rcases Zuz _ _ hl.2 t with e | e
  ·rw [e];simp [G.rep]
  rw [e];exact h.at_ t v hv
 rcases Zuz _ _ hl.2 t with e | e
 ·exact e
 rw [e];exact h.out t (by rw [← hl.1];exact ht)
theorem Holds.compact {E:Env} {a:Act} (h:Holds w O m n E a):Holds w O m n E.compact a:=by
 unfold Env.compact
 split
 ·exact h
 refine h.le ⟨rfl,?_⟩
 have hk:∀ (l:List (Nat×G)) (k:List Nat),leL l (Ziv l k):=fun l k=>by
  induction k with
  | nil=>trivial
  | cons t k ih=>exact ⟨rfl,ih⟩
 exact hk _ _
abbrev GK:=Env→Objs→Nat→Prop
abbrev GQ:=Exit→Env→Objs→Nat→Prop
def Zk (K:GK) (Q:GQ):GQ
 | .normal,E,O,n=>K E O n
 | e,E,O,n=>Q e E O n
def Zg (id:Nat) (Q:GQ):GQ
 | .exit id',E,O,n=>if id'=id then Q .normal E O n else Q (.exit id') E O n
 | e,E,O,n=>Q e E O n
def Ya5 (I:Nat→GK) (k:Nat) (E':Env) (O':Objs) (n':Nat):Prop:=∃ k' E0,k' < k∧I k' E0 O' n'∧leG E0 E'
def gloop (body:GQ→GK) (Q:GQ) (E:Env) (O:Objs) (n:Nat):Prop :=
 ∃ I:Nat→GK,(∃ k E0,I k E0 O n∧leG E0 E)∧∀ k E O n,I k E O n→body (Zk (Ya5 I k) Q) E O n
def gwp (P:Program) (T:J9) (D:Array Oper→Env→Objs→Nat→GK→Prop):Code→GQ→Env→Objs→Nat→Prop
 | .skip,Q,E,O,n=>Q .normal E O n
 | .region _ ops false,Q,E,O,n=>Zwb P T ops.toList ops.toList E O n (Q .normal)
 | .region _ ops true,Q,E,O,n=>D ops E O n (Q .normal)
 | .seq x y,Q,E,O,n=>gwp P T D x (Zk (fun E O n=>gwp P T D y Q E.compact O n) Q) E O n
 | .cond c x y,Q,E,O,n=>match ev E c with
  | .val (.bool t)=>(t=true→gwp P T D x Q E O n)∧(t=false→gwp P T D y Q E O n)
  | _=>False
 | .block id c,Q,E,O,n=>gwp P T D c (Zg id Q) E O n
 | .loop c,Q,E,O,n=>gloop (gwp P T D c) Q E O n
 | .exit id,Q,E,O,n=>Q (.exit id) E O n
 | .ret,Q,E,O,n=>Q .ret E O n
 | _,_,_,_,_=>False
def gcond (P:Program) (T:J9) (D:Array Oper→Env→Objs→Nat→GK→Prop) (g:G) (x y:Code) (Q:GQ) (E:Env) (O:Objs) (n:Nat):Prop :=
 match g with
 | .val (.bool t)=>(t=true→gwp P T D x Q E O n)∧(t=false→gwp P T D y Q E O n)
 | _=>False
theorem gcond.by {D:Array Oper→Env→Objs→Nat→GK→Prop} {t:Bool} {x y:Code} {Q:GQ} {E:Env} (h1:t=true→gwp P T D x Q E O n) (h2:t=false→gwp P T D y Q E O n):gcond P T D (.val (.bool t)) x y Q E O n:=⟨h1,h2⟩
def lift (w:World) (O:Objs) (m:Hands) (n:Nat) (Q:GQ):Exit→Act→World→Prop:=fun e a' w'=>∃ E' O' n' m',Q e E' O' n'∧Mem w' O' m' n'∧Holds w' O' m' n' E' a'∧Ext w O m n w' O' m' n'
theorem Z4c {c:Code} {Q:Exit→Act→World→Prop} (I:Nat→Act→World→Prop) (round:∀ k a w,I k a w→c.wp P (Exit.then (fun a' w'=>∃ k',k' < k∧I k' a' w') Q) a w):∀ k a w,I k a w→(Code.loop c).wp P Q a w:=by
 intro k0 a0 w0 h0 b k cs
 have key:∀ i a w,I i a w→∃ e a' w',Q e a' w'∧Arrives P (lone (b.at a (.code c :: .inLoop c::k)) cs w) b k cs e a' w':=by
  intro i
  induction i using Nat.strongRecOn with
  | _ i ih =>
   intro a w hI
   obtain ⟨e,a₁,w₁,hq,harr⟩:=round i a w hI b (.inLoop c::k) cs
   cases e with
   | normal =>
    obtain ⟨i',hlt,hI₁⟩:=hq
    obtain ⟨e₂,a₂,w₂,hq₂,harr₂⟩:=ih i' hlt a₁ w₁ hI₁
    exact ⟨e₂,a₂,w₂,hq₂,.of_steps (Steps.trans harr (.one step_inLoop)) harr₂⟩
   | exit id=>exact ⟨_,a₁,w₁,hq,.pass (x := .inLoop c) rfl (fun _ _ => .inl (by simp)) harr⟩
   | goto l=>exact ⟨_,a₁,w₁,hq,.pass (x := .inLoop c) rfl (fun _ _ => .inl (by simp)) harr⟩
   | ret=>exact ⟨_,a₁,w₁,hq,.pass (x := .inLoop c) rfl (fun _ _ => .inl (by simp)) harr⟩
   | panic ch=>exact ⟨_,a₁,w₁,hq,.pass (x := .inLoop c) rfl (fun _ _ => .inl (by simp)) harr⟩
   | outgrown=>exact ⟨_,a₁,w₁,hq,.pass (x := .inLoop c) rfl (fun _ _ => .inl (by simp)) harr⟩
 obtain ⟨e,a',w',hq,harr⟩:=key k0 a0 w0 h0
 exact ⟨e,a',w',hq,.of_steps (.one step_loop) harr⟩
end
end Go.Proofs.Ytbkhdkfjabiocaa
