/- Part H5 of the ghost memory: lemmas and contracts used by the proofs of this seat's laws; each theorem bears its own conditions. -/
import Derived.Test.YtmjjjfamipncdaaGreatH4
namespace Go.Proofs.YtmjjjfamipncdaaGreat
open Go.RowKit
set_option linter.unusedVariables false
set_option linter.unusedSimpArgs false
section
variable {P:Program} {T:J0} {w:World} {O:Objs} {m:Hands} {n:Nat}
def Zc1 (P:Program) (T:J0) (ops:List Oper):List (Option Bool)→List Oper→Env→Objs→Nat→(Env→Objs→Nat→Prop)→Prop
 | _,[],E,O,n,K=>K E O n
 | ds,o::l,E,O,n,K=>match o.guard with
  | none=>gop P T E O n o.op fun g O' n'=>Zc1 P T ops ds l (Yc E o.dst g) O' n' K
  | some g=>match ds with
   | some true::ds'=>Xn ops E (some g)=some true∧gop P T E O n o.op fun g O' n'=>Zc1 P T ops ds' l (Yc E o.dst g) O' n' K
   | some false::ds'=>Xn ops E (some g)=some false∧Zc1 P T ops ds' l (Yc E o.dst (.val undef)) O n K
   | none::ds'=>match Xn ops E (some g) with
    | some b=>Q0 o.op=true∧Zbs T E O n o.op b fun g=>Zc1 P T ops ds' l (Yc E o.dst g) O n K
    | none=>False
   | []=>False
def Zyu (P:Program) (T:J0) (ops:List Oper) (ds:List (Option Bool)) (l:List Oper) (E:Env) (d:Option Tmp) (K:Env→Objs→Nat→Prop) (g:G) (O':Objs) (n':Nat):Prop:=Zc1 P T ops ds l (Yc E d g) O' n' K
def Z01 (P:Program) (T:J0) (ops:List Oper) (ds:List (Option Bool)) (l:List Oper) (E:Env) (d:Option Tmp) (O:Objs) (n:Nat) (K:Env→Objs→Nat→Prop) (g:G):Prop:=Zc1 P T ops ds l (Yc E d g) O n K
theorem Zcl (ops:List Oper) (ds:List (Option Bool)) (E:Env) (K:Env→Objs→Nat→Prop):Zc1 P T ops ds [] E O n K=K E O n:=by cases ds <;> rfl
theorem Zbe (ops:List Oper) (ds:List (Option Bool)) (d:Option Tmp) (op:Op) (ty:TypeId) (pos:String) (af:Array Edge) (l:List Oper) (E:Env) (K:Env→Objs→Nat→Prop):Zc1 P T ops ds (⟨d,op,ty,pos,af,none⟩::l) E O n K=gop P T E O n op (Zyu P T ops ds l E d K):=by cases ds <;> rfl
theorem Zko (ops:List Oper) (ds:List (Option Bool)) (d:Option Tmp) (op:Op) (ty:TypeId) (pos:String) (af:Array Edge) (g:Nat×Bool) (l:List Oper) (E:Env) (K:Env→Objs→Nat→Prop) :
  Zc1 P T ops (some true::ds) (⟨d,op,ty,pos,af,some g⟩::l) E O n K=(Xn ops E (some g)=some true∧gop P T E O n op (Zyu P T ops ds l E d K)):=rfl
theorem Zkm (ops:List Oper) (ds:List (Option Bool)) (d:Option Tmp) (op:Op) (ty:TypeId) (pos:String) (af:Array Edge) (g:Nat×Bool) (l:List Oper) (E:Env) (K:Env→Objs→Nat→Prop) :
  Zc1 P T ops (some false::ds) (⟨d,op,ty,pos,af,some g⟩::l) E O n K=(Xn ops E (some g)=some false∧Zc1 P T ops ds l (Yc E d (.val undef)) O n K):=rfl
theorem Zkn (ops:List Oper) (ds:List (Option Bool)) (d:Option Tmp) (op:Op) (ty:TypeId) (pos:String) (af:Array Edge) (g:Nat×Bool) (l:List Oper) (E:Env) (K:Env→Objs→Nat→Prop) :
  Zc1 P T ops (none::ds) (⟨d,op,ty,pos,af,some g⟩::l) E O n K=match Xn ops E (some g) with
   | some b=>Q0 op=true∧Zbs T E O n op b (Z01 P T ops ds l E d O n K)
   | none=>False:=rfl
theorem Z0d {ops:List Oper} {ds:List (Option Bool)} {o:Oper} {l:List Oper} {E:Env} {K:Env→Objs→Nat→Prop} (h:Zc1 P T ops ds (o::l) E O n K) :
  ∃ ds',(Qa ops E o=some true∧gop P T E O n o.op (Zyu P T ops ds' l E o.dst K))∨(Qa ops E o=some false∧Zc1 P T ops ds' l (Yc E o.dst (.val undef)) O n K) ∨
  (∃ b,Qa ops E o=some b∧Zbs T E O n o.op b (Z01 P T ops ds' l E o.dst O n K)∧Q0 o.op=true):=by
 unfold Zc1 at h
 split at h
 ·rename_i hg
  exact ⟨ds,.inl ⟨by unfold Qa;rw [hg];rfl,h⟩⟩
 rename_i g hg
 split at h
 ·rename_i ds';exact ⟨ds',.inl ⟨by unfold Qa;rw [hg];exact h.1,h.2⟩⟩
 ·rename_i ds';exact ⟨ds',.inr (.inl ⟨by unfold Qa;rw [hg];exact h.1,h.2⟩)⟩
 ·rename_i ds'
  split at h
  ·rename_i b hb
   exact ⟨ds',.inr (.inr ⟨b,by unfold Qa;rw [hg];exact hb,h.2,h.1⟩)⟩
  exact h.elim
 exact h.elim
theorem Zbf (hT:Ql P T) (ops:List Oper):∀ (l:List Oper) (ds:List (Option Bool)) (w:World) (O:Objs) (m:Hands) (n:Nat) (E:Env) (a:Act) (K:Env→Objs→Nat→Prop) (Q:Exit→Act→World→Prop),Mem w O m n→Holds w O m n E a→Zc1 P T ops ds l E O n K →
  (∀ w' O' m' n' E' a',K E' O' n'→Mem w' O' m' n'→Holds w' O' m' n' E' a'→Ext w O m n w' O' m' n'→Q .normal a' w')→wpList P ops.toArray Q l a w
 | [],ds,w,O,m,n,E,a,K,Q,hM,hE,h,hQ=>hQ w O m n E a (by rw [Zcl] at h;exact h) hM hE (Ext.refl _ _ _ _)
 | o::l,ds,w,O,m,n,E,a,K,Q,hM,hE,h,hQ=>by
  unfold wpList
  obtain ⟨ds',h⟩:=Z0d h
  rcases h with ⟨hw,h⟩ | ⟨hw,h⟩ | ⟨b,hw,h,hcalm⟩
  ·rw [Qo hE hw,if_pos rfl]
   refine .inl (Zdv hT hM hE h fun v g w' O' m' n' hK hM' hX hg => ?_)
   exact Zbf hT ops l ds' w' O' m' n' _ _ K Q hM' ((hE.ext hX).put o.dst hg) hK fun w2 O2 m2 n2 E2 a2 k1 k2 k3 k4=>hQ w2 O2 m2 n2 E2 a2 k1 k2 k3 (hX.trans k4)
  ·rw [Qo hE hw,if_neg Bool.false_ne_true]
   exact Zbf hT ops l ds' w O m n _ _ K Q hM (hE.put (g := .val undef) (v:=undef) o.dst (by simp [G.rep])) h hQ
  unfold Zbs at h
  split at h
  ·rename_i S g O2 n2 hst
   obtain ⟨e1,e2⟩:=Zf7 hcalm hst
   subst e1 e2
   rw [Qo hE hw]
   cases b with
   | true =>
    rw [if_pos rfl]
    refine .inl ?_
    obtain ⟨v,nx,w',m',h1,h2,h3,h4,h5⟩:=Zeg hT hM hE hst (h.1 rfl)
    have hg:(G.when true g).rep w' O2 m' n2 v:=by simp only [G.rep];exact ⟨fun _=>h5,fun h=>by cases h⟩
    have fin:=Zbf hT ops l ds' w' O2 m' n2 _ _ K Q h3 ((hE.ext h4).put o.dst hg) h.2 fun w2 O2 m2 n2 E2 a2 k1 k2 k3 k4=>hQ w2 O2 m2 n2 E2 a2 k1 k2 k3 (h4.trans k4)
    unfold Oper.wp
    rw [h1]
    rcases h2 with rfl | ⟨rfl,rfl⟩ <;> exact fin
   | false =>
    rw [if_neg Bool.false_ne_true]
    exact Zbf hT ops l ds' w O2 m n2 _ _ K Q hM (hE.put (g := .when false g) (v:=undef) o.dst (by simp [G.rep,undef])) h.2 hQ
  obtain ⟨rfl,hK⟩:=h
  rw [Qo hE hw,if_neg Bool.false_ne_true]
  exact Zbf hT ops l ds' w O m n _ _ K Q hM (hE.put (g := .val undef) (v:=undef) o.dst (by simp [G.rep])) hK hQ
theorem Zb {ba:Nat} (hT:Ql P T) (ds:List (Option Bool)) {id:Nat} {ops:Array Oper} {E:Env} {Q:GQ} (h:Zc1 P T ops.toList ds ops.toList E O n (Q .normal)):W P ba (.region id ops false) Q E O n :=
 fun hb w m a hM hE=>wp_region_list (Zbf hT ops.toList ops.toList ds w O m n E a _ _ hM hE h fun w' O' m' n' E' a' h1 h2 h3 h4=>⟨E',O',n',m',h1,h2,h3,h4.base hb⟩)
def Zeu (P:Program) (T:J0) (ops:List Oper) (O:Objs) (n:Nat):List (Option Bool)→List Oper→Env→(Env→Prop)→Prop
 | _,[],E,K=>K E
 | ds,o::l,E,K=>match o.guard with
  | none=>pop P T E O n o.op fun g=>Zeu P T ops O n ds l (Yc E o.dst g) K
  | some g=>match ds with
   | some true::ds'=>Xn ops E (some g)=some true∧pop P T E O n o.op fun g=>Zeu P T ops O n ds' l (Yc E o.dst g) K
   | some false::ds'=>Xn ops E (some g)=some false∧Zeu P T ops O n ds' l (Yc E o.dst (.val undef)) K
   | none::ds'=>match Xn ops E (some g) with
    | some b=>Q0 o.op=true∧Zbs T E O n o.op b fun g=>Zeu P T ops O n ds' l (Yc E o.dst g) K
    | none=>False
   | []=>False
def Zub (P:Program) (T:J0) (ops:List Oper) (O:Objs) (n:Nat) (ds:List (Option Bool)) (l:List Oper) (E:Env) (d:Option Tmp) (K:Env→Prop) (g:G):Prop:=Zeu P T ops O n ds l (Yc E d g) K
theorem Zlg (ops:List Oper) (ds:List (Option Bool)) (E:Env) (K:Env→Prop):Zeu P T ops O n ds [] E K=K E:=by cases ds <;> rfl
theorem Zjq (ops:List Oper) (ds:List (Option Bool)) (d:Option Tmp) (op:Op) (ty:TypeId) (pos:String) (af:Array Edge) (l:List Oper) (E:Env) (K:Env→Prop):Zeu P T ops O n ds (⟨d,op,ty,pos,af,none⟩::l) E K=pop P T E O n op (Zub P T ops O n ds l E d K):=by cases ds <;> rfl
theorem Zlh (ops:List Oper) (ds:List (Option Bool)) (d:Option Tmp) (op:Op) (ty:TypeId) (pos:String) (af:Array Edge) (g:Nat×Bool) (l:List Oper) (E:Env) (K:Env→Prop) :
  Zeu P T ops O n (some true::ds) (⟨d,op,ty,pos,af,some g⟩::l) E K=(Xn ops E (some g)=some true∧pop P T E O n op (Zub P T ops O n ds l E d K)):=rfl
theorem Zle (ops:List Oper) (ds:List (Option Bool)) (d:Option Tmp) (op:Op) (ty:TypeId) (pos:String) (af:Array Edge) (g:Nat×Bool) (l:List Oper) (E:Env) (K:Env→Prop) :
  Zeu P T ops O n (some false::ds) (⟨d,op,ty,pos,af,some g⟩::l) E K=(Xn ops E (some g)=some false∧Zeu P T ops O n ds l (Yc E d (.val undef)) K):=rfl
theorem Zlf (ops:List Oper) (ds:List (Option Bool)) (d:Option Tmp) (op:Op) (ty:TypeId) (pos:String) (af:Array Edge) (g:Nat×Bool) (l:List Oper) (E:Env) (K:Env→Prop) :
  Zeu P T ops O n (none::ds) (⟨d,op,ty,pos,af,some g⟩::l) E K=match Xn ops E (some g) with
   | some b=>Q0 op=true∧Zbs T E O n op b (Zub P T ops O n ds l E d K)
   | none=>False:=rfl
theorem Zgs {ops:List Oper} {O:Objs} {n:Nat}:∀ (l:List Oper) (ds:List (Option Bool)) (E:Env) (K:Env→Prop),Zeu P T ops O n ds l E K→∃ Ef,Run P T ops O n l E Ef∧K Ef
 | [],ds,E,K,h=>⟨E,EqE.refl E,by rw [Zlg] at h;exact h⟩
 | o::l,ds,E,K,h=>by
  have hc:∃ ds',(Qa ops E o=some true∧pop P T E O n o.op (Zub P T ops O n ds' l E o.dst K))∨(Qa ops E o=some false∧Zeu P T ops O n ds' l (Yc E o.dst (.val undef)) K) ∨
    (∃ b,Qa ops E o=some b∧Zbs T E O n o.op b (Zub P T ops O n ds' l E o.dst K)∧Q0 o.op=true):=by
   unfold Zeu at h
   split at h
   ·rename_i hg
    exact ⟨ds,.inl ⟨by unfold Qa;rw [hg];rfl,h⟩⟩
   rename_i g hg
   split at h
   ·rename_i ds';exact ⟨ds',.inl ⟨by unfold Qa;rw [hg];exact h.1,h.2⟩⟩
   ·rename_i ds';exact ⟨ds',.inr (.inl ⟨by unfold Qa;rw [hg];exact h.1,h.2⟩)⟩
   ·rename_i ds'
    split at h
    ·rename_i b hb
     exact ⟨ds',.inr (.inr ⟨b,by unfold Qa;rw [hg];exact hb,h.2,h.1⟩)⟩
    exact h.elim
   exact h.elim
  obtain ⟨ds',hc⟩:=hc
  rcases hc with ⟨hw,hp⟩ | ⟨hw,hp⟩ | ⟨b,hw,hp,hcalm⟩
  ·obtain ⟨r,h1,h2⟩:=Zpl hp
   obtain ⟨Ef,h3,h4⟩:=Zgs l ds' _ K h2
   exact ⟨Ef,⟨r,.inl ⟨hw,h1⟩,h3⟩,h4⟩
  ·obtain ⟨Ef,h3,h4⟩:=Zgs l ds' _ K hp
   exact ⟨Ef,⟨_,.inr (.inl ⟨hw,rfl⟩),h3⟩,h4⟩
  unfold Zbs at hp
  split at hp
  ·rename_i S g O2 n2 hst
   obtain ⟨Ef,h3,h4⟩:=Zgs l ds' _ K hp.2
   exact ⟨Ef,⟨_,.inr (.inr ⟨b,g,hw,hcalm,⟨S,O2,n2,hst,hp.1⟩,rfl⟩),h3⟩,h4⟩
  obtain ⟨rfl,hK⟩:=hp
  obtain ⟨Ef,h3,h4⟩:=Zgs l ds' _ K hK
  exact ⟨Ef,⟨_,.inr (.inl ⟨hw,rfl⟩),h3⟩,h4⟩
theorem Y8 {ba:Nat} (hT:Ql P T) (hm:P.follows .mixedOrders=true) (ds:List (Option Bool)) {id:Nat} {ops:Array Oper} {E:Env} {Q:GQ} (hord:Zpk ops.toList=true) (h:Zeu P T ops.toList O n ds ops.toList E (atK (Q .normal) O n)):W P ba (.region id ops true) Q E O n:=fun hb w m a hM hE=>by
 obtain ⟨Ef,hrun,hK⟩:=Zgs _ ds _ _ h
 exact Yay hT hm id ops w O m n E a (Q .normal) _ hM hE hord hrun hK fun w' O' m' n' E' a' h1 h2 h3 h4=>⟨E',O',n',m',h1,h2,h3,h4.base hb⟩
end
end Go.Proofs.YtmjjjfamipncdaaGreat
