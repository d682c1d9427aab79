/- Part H11 of the ghost memory: lemmas and contracts used by the proofs of this seat's laws; each theorem bears its own conditions. -/
import Derived.Test.YtibgpnmmgffgeaaH10
namespace Go.Proofs.Ytibgpnmmgffgeaa
open Go.RowKit
set_option linter.unusedVariables false
set_option linter.unusedSimpArgs false
section
variable {P:Program} {T:Kv} {O:Objs} {n:Nat}
theorem Vk {E:Env} {op:Op} {K K':G→Objs→Nat→Prop} (h:gop P T E O n op K) (hk:∀ g O' n',K g O' n'→K' g O' n'):gop P T E O n op K':=by
 unfold gop at h ⊢
 split at h
 ·split at h
  ·rename_i hev
   first
    | exact ⟨h.1,h.2.mono hk⟩
    | (simp only [hev];exact ⟨h.1,h.2.mono hk⟩)
  exact h.elim
 split at h
 ·rename_i S g O' n' hs
  exact ⟨h.1,hk _ _ _ h.2⟩
 exact h.elim
def Zbl (P:Program) (T:Kv) (ops:List Oper):List Bool→List (Option Bool)→List Oper→Env→Objs→Nat→GK→Prop
 | _,_,[],E,O,n,K=>K E O n
 | true::bs,ds,o::l,E,O,n,K=>match o.guard with
  | none=>gop P T E O n o.op fun g O' n'=>Zbl P T ops bs ds l (Yr E o.dst g) O' n' K
  | some g=>match ds with
   | some true::ds'=>Qa ops E (some g)=some true∧gop P T E O n o.op fun g O' n'=>Zbl P T ops bs ds' l (Yr E o.dst g) O' n' K
   | _=>False
 | false::bs,ds,o::l,E,O,n,K=>match o.guard with
  | none=>pop P T E O n o.op fun g=>Zbl P T ops bs ds l (Yr E o.dst g) O n K
  | some g=>match ds with
   | some true::ds'=>Qa ops E (some g)=some true∧pop P T E O n o.op fun g=>Zbl P T ops bs ds' l (Yr E o.dst g) O n K
   | some false::ds'=>Qa ops E (some g)=some false∧Zbl P T ops bs ds' l (Yr E o.dst (.val undef)) O n K
   | none::ds'=>match Qa ops E (some g) with
    | some b=>Jz o.op=true∧Zf0 T E O n o.op b fun g=>Zbl P T ops bs ds' l (Yr E o.dst g) O n K
    | none=>False
   | []=>False
 | [],_,_::_,_,_,_,_=>False
def onB (P:Program) (T:Kv) (ops:List Oper) (bs:List Bool) (ds:List (Option Bool)) (l:List Oper) (E:Env) (d:Option Tmp) (K:GK) (g:G) (O':Objs) (n':Nat):Prop:=Zbl P T ops bs ds l (Yr E d g) O' n' K
def Z8s (P:Program) (T:Kv) (ops:List Oper) (bs:List Bool) (ds:List (Option Bool)) (l:List Oper) (E:Env) (d:Option Tmp) (O:Objs) (n:Nat) (K:GK) (g:G):Prop:=Zbl P T ops bs ds l (Yr E d g) O n K
theorem Zm1 (ops:List Oper) (bs:List Bool) (ds:List (Option Bool)) (E:Env) (K:GK):Zbl P T ops bs ds [] E O n K=K E O n:=by cases bs <;> cases ds <;> simp only [Zbl]
theorem Zr3 (ops:List Oper) (bs:List Bool) (ds:List (Option Bool)) (d:Option Tmp) (op:Op) (ty:TypeId) (pos:String) (af:Array Edge) (l:List Oper) (E:Env) (K:GK):Zbl P T ops (true::bs) ds (⟨d,op,ty,pos,af,none⟩::l) E O n K=gop P T E O n op (onB P T ops bs ds l E d K):=by cases ds <;> rfl
theorem Zoo (ops:List Oper) (bs:List Bool) (ds:List (Option Bool)) (d:Option Tmp) (op:Op) (ty:TypeId) (pos:String) (af:Array Edge) (g:Nat×Bool) (l:List Oper) (E:Env) (K:GK) :
  Zbl P T ops (true::bs) (some true::ds) (⟨d,op,ty,pos,af,some g⟩::l) E O n K=(Qa ops E (some g)=some true∧gop P T E O n op (onB P T ops bs ds l E d K)):=rfl
theorem Zmg (ops:List Oper) (bs:List Bool) (ds:List (Option Bool)) (d:Option Tmp) (op:Op) (ty:TypeId) (pos:String) (af:Array Edge) (l:List Oper) (E:Env) (K:GK):Zbl P T ops (false::bs) ds (⟨d,op,ty,pos,af,none⟩::l) E O n K=pop P T E O n op (Z8s P T ops bs ds l E d O n K):=by cases ds <;> rfl
theorem Z0j (ops:List Oper) (bs:List Bool) (ds:List (Option Bool)) (d:Option Tmp) (op:Op) (ty:TypeId) (pos:String) (af:Array Edge) (g:Nat×Bool) (l:List Oper) (E:Env) (K:GK) :
  Zbl P T ops (false::bs) (some true::ds) (⟨d,op,ty,pos,af,some g⟩::l) E O n K=(Qa ops E (some g)=some true∧pop P T E O n op (Z8s P T ops bs ds l E d O n K)):=rfl
theorem Z0h (ops:List Oper) (bs:List Bool) (ds:List (Option Bool)) (d:Option Tmp) (op:Op) (ty:TypeId) (pos:String) (af:Array Edge) (g:Nat×Bool) (l:List Oper) (E:Env) (K:GK) :
  Zbl P T ops (false::bs) (some false::ds) (⟨d,op,ty,pos,af,some g⟩::l) E O n K=(Qa ops E (some g)=some false∧Zbl P T ops bs ds l (Yr E d (.val undef)) O n K):=rfl
theorem Z0i (ops:List Oper) (bs:List Bool) (ds:List (Option Bool)) (d:Option Tmp) (op:Op) (ty:TypeId) (pos:String) (af:Array Edge) (g:Nat×Bool) (l:List Oper) (E:Env) (K:GK) :
  Zbl P T ops (false::bs) (none::ds) (⟨d,op,ty,pos,af,some g⟩::l) E O n K=match Qa ops E (some g) with
   | some b=>Jz op=true∧Zf0 T E O n op b (Z8s P T ops bs ds l E d O n K)
   | none=>False:=rfl
theorem Zx2 {bs0:List Bool} {K:GK}:∀ (l pre:List Oper) (bs:List Bool) (ds:List (Option Bool)) (E:Env) (O:Objs) (n:Nat) (ops:List Oper),ops=pre++l→(∀ j,Zfe bs0 (pre.length+j)=Zfe bs j)→Zbl P T ops bs ds l E O n K→Zk0 P T ops bs0 (List.range' pre.length l.length) E O n K
 | [],pre,bs,ds,E,O,n,ops,hp,hb,h=>by rw [Zm1] at h;exact h
 | o::l,pre,bs,ds,E,O,n,ops,hp,hb,h=>by
  have ho:ops[pre.length]? = some o:=by rw [hp,List.getElem?_append_right (Nat.le_refl _),Nat.sub_self];rfl
  have hp':ops=(pre++[o])++l:=by rw [hp];simp
  have hl:(pre++[o]).length=pre.length+1:=by simp
  have next:∀ {bs' ds' E' O' n'},(∀ j,Zfe bs (j+1)=Zfe bs' j)→Zbl P T ops bs' ds' l E' O' n' K→Zk0 P T ops bs0 (List.range' (pre.length+1) l.length) E' O' n' K:=fun {bs' ds' E' O' n'} hb' hr=>by
   rw [← hl]
   exact Zx2 l (pre++[o]) bs' ds' E' O' n' ops hp' (fun j=>by rw [hl,Nat.add_assoc,Nat.add_comm 1 j,hb (j+1)];exact hb' j) hr
  rw [List.length_cons,List.range'_succ]
  simp only [Zk0,ho]
  have hb0:=hb 0
  rw [Nat.add_zero] at hb0
  cases bs with
  | nil=>simp only [Zbl] at h
  | cons b bs =>
   have hbs:∀ j,Zfe (b::bs) (j+1)=Zfe bs j:=fun j=>rfl
   cases b with
   | true =>
    have hbt:Zfe bs0 pre.length=true:=hb0
    rw [if_pos hbt]
    unfold Qj
    cases hg:o.guard with
    | none =>
     simp only [Zbl,hg] at h
     refine ⟨rfl,Vk h fun g O' n' hk=>next hbs hk⟩
    | some g =>
     simp only [Zbl,hg] at h
     split at h
     ·exact ⟨h.1,Vk h.2 fun g O' n' hk=>next hbs hk⟩
     exact h.elim
   | false =>
    have hbt:¬ Zfe bs0 pre.length=true:=by rw [hb0];exact Bool.false_ne_true
    rw [if_neg hbt]
    unfold PS Qj
    cases hg:o.guard with
    | none =>
     simp only [Zbl,hg] at h
     obtain ⟨r,h1,h2⟩:=Zpy h
     exact ⟨r,.inl ⟨rfl,h1⟩,next hbs h2⟩
    | some g =>
     simp only [Zbl,hg] at h
     split at h
     ·obtain ⟨r,h1,h2⟩:=Zpy h.2
      exact ⟨r,.inl ⟨h.1,h1⟩,next hbs h2⟩
     ·exact ⟨_,.inr (.inl ⟨h.1,rfl⟩),next hbs h.2⟩
     ·split at h
      ·rename_i b hwb
       obtain ⟨hcalm,hp⟩:=h
       unfold Zf0 at hp
       split at hp
       ·rename_i S g' O2 n2 hst
        exact ⟨_,.inr (.inr ⟨b,g',hwb,hcalm,⟨S,O2,n2,hst,hp.1⟩,rfl⟩),next hbs hp.2⟩
       obtain ⟨rfl,hK⟩:=hp
       exact ⟨_,.inr (.inl ⟨hwb,rfl⟩),next hbs hK⟩
      exact h.elim
     exact h.elim
end
theorem Zv5 {α:Type} (xs:List α) (i:Int) (x:α):(Zgr xs i x).length=xs.length:=by rw [Zgr,List.length_set]
section
variable {P:Program} {T:Kv} {O O2 X:Objs} {n n':Nat} {f:FuncId} {gs gs':List G} {K:G→Objs→Nat→Prop} {E:Env}
theorem GCalls.drop (hL:LessO O O2 n) (hw:U8 O O2 n gs gs') (h:GCalls P f gs' O2 n K):GCalls P f gs O n K:=by
 refine ⟨h.1,fun w m vs hM hr => ?_⟩
 refine (h.2 w m vs (hM.weak hL) (V1 hM hL _ _ hr _ hw)).mono fun e w' ⟨v,g,O',n',m',h1,h2,h3,h4,h5⟩=>⟨v,g,O',n',m',h1,h2,?_,h4,h5⟩
 exact ((Ext.refl w O m n).weak hL (Nat.le_refl _)).trans h3
theorem GCalls.dropL {l l':List (Option GObj)} {k:Nat} (hU:Und X n) (hk:l'.length=k) (hw:Zlw (Zq X n l) (Zq X n l') (n+k) l l'∧U8 (Zq X n l) (Zq X n l') (n+k) gs gs') (h:GCalls P f gs' (Zq X n l') (n+k) K):GCalls P f gs (Zq X n l) (n+k) K :=
 GCalls.drop (Zhb hk (OutLe.refl hU (Nat.le_add_right _ _)) hw.1) hw.2 h
theorem Zun {ba:Nat} {r:G} {rs:List ResultVar} {l l':List (Option GObj)} {k:Nat} {e:Exit} (he:e = .normal∨e = .ret) (hU:Und X n) (hk:l'.length=k) (gs:List G) (hb:ba≤n')
  (h:Zlf T (Zq X n l) E rs=some gs∧Zlw (Zq X n l) (Zq X n l') (n+k) l l'∧wk (Zq X n l) (Zq X n l') (n+k) (gone gs) r):Fin T rs r ba (Zq X n l') (n+k) e E (Zq X n l) n' :=
 ⟨he,E,_,n',gs,Zxm hb,h.1,Zhb hk (OutLe.refl hU (Nat.le_add_right _ _)) h.2.1,h.2.2⟩
theorem Xg (X:Objs) (n:Nat) (l l':List (Option GObj)) {k:Nat} (hk:l.length=k):Zq (Zq X n l) (n+k) l'=Zq X n (l++l'):=by
 subst hk
 funext i
 unfold Zq
 by_cases h1:i < n
 ·rw [if_pos (by omega),if_pos h1,if_pos h1]
 by_cases h2:i < n+l.length
 ·rw [if_pos h2,if_neg h1,if_neg h1,List.getElem?_append_left (by omega)]
 rw [if_neg h2,if_neg h1,List.getElem?_append_right (by omega)]
 congr 2
 omega
theorem Ztv (X:Objs) (n:Nat) (l':List (Option GObj)):Zq (Zq X n []) n l'=Zq X n l':=Xg X n [] l' (k:=0) rfl
theorem Ztw (X:Objs) (n:Nat) (a:Option GObj) (l':List (Option GObj)):Zq (Zq X n [a]) (n+1) l'=Zq X n (a::l'):=Xg X n [a] l' rfl
theorem Ztx (X:Objs) (n:Nat) (a b:Option GObj) (l':List (Option GObj)):Zq (Zq X n [a,b]) (n+2) l'=Zq X n (a::b::l'):=Xg X n [a,b] l' rfl
theorem Zty (X:Objs) (n:Nat) (a b c:Option GObj) (l':List (Option GObj)):Zq (Zq X n [a,b,c]) (n+3) l'=Zq X n (a::b::c::l'):=Xg X n [a,b,c] l' rfl
theorem Ztz (X:Objs) (n:Nat) (a b c d:Option GObj) (l':List (Option GObj)):Zq (Zq X n [a,b,c,d]) (n+4) l'=Zq X n (a::b::c::d::l'):=Xg X n [a,b,c,d] l' rfl
theorem Zt0 (X:Objs) (n:Nat) (a b c d e:Option GObj) (l':List (Option GObj)):Zq (Zq X n [a,b,c,d,e]) (n+5) l'=Zq X n (a::b::c::d::e::l'):=Xg X n [a,b,c,d,e] l' rfl
end
theorem Zrt (i:Nat):Za7 i=none:=rfl
def Zxo {α σ R:Type} (g:σ→α→Option (σ ⊕ R)) (out:σ→R):List α→σ→Option R
 | [],s=>some (out s)
 | x::xs,s=>match g s x with
  | none=>none
  | some (.inl s')=>Zxo g out xs s'
  | some (.inr r)=>some r
theorem Z0s {S R:Type} {step:S→Option (S ⊕ R)} {s:S} (h:step s=none):Zw step s=none:=by
 cases hr:Zw step s with
 | none=>rfl
 | some r =>
  obtain ⟨k,hk⟩:=Zkg hr
  cases k with
  | zero=>simp [Zcd] at hk
  | succ k=>simp [Zcd,h] at hk
theorem Z8p {α σ S R:Type} (xs:List α) (pack:Int→σ→S) (step:S→Option (S ⊕ R)) (g:σ→α→Option (σ ⊕ R)) (out:σ→R)
  (h1:∀ (i:Nat) (s:σ) (x:α),i < xs.length→xs[i]? = some x→step (pack i s)=match g s x with
   | none=>none
   | some (.inl s')=>some (.inl (pack ((i+1:Nat):Int) s'))
   | some (.inr r)=>some (.inr r))
  (h2:∀ s,step (pack xs.length s)=some (.inr (out s))) (s:σ):Zw step (pack 0 s)=Zxo g out xs s:=by
 have key:∀ (l pre:List α) (s:σ),xs=pre++l→Zw step (pack (pre.length:Nat) s)=Zxo g out l s:=fun l=>by
  induction l with
  | nil =>
   intro pre s hp
   rw [List.append_nil] at hp
   subst hp
   exact Yg (h2 s)
  | cons x l ih =>
   intro pre s hp
   have hx:xs[pre.length]? = some x:=by rw [hp,List.getElem?_append_right (Nat.le_refl _),Nat.sub_self];rfl
   have hi:pre.length < xs.length:=by rw [hp];simp
   have h:=h1 pre.length s x hi hx
   unfold Zxo
   cases hg:g s x with
   | none=>rw [hg] at h;exact Z0s h
   | some y =>
    rw [hg] at h
    cases y with
    | inl s' =>
     have:=ih (pre++[x]) s' (by rw [hp];simp)
     rw [List.length_append,List.length_singleton] at this
     exact (Yw h).trans this
    | inr r=>exact Yg h
 exact key xs [] s rfl
theorem Yt {α:Type} {xs:List α} {i:Nat} {x:α} (h:xs[i]? = some x):Xj xs (i:Int)=some x:=by
 unfold Xj;rw [if_pos (Int.natCast_nonneg _),Int.toNat_natCast,h]
theorem Ga {α:Type} {b:Nat} {xs ys:List α} (h1:(xs.length+ys.length) * b≤140737488355328) (h2:xs.length+ys.length≤140737488355328):Gc b xs ys=some (xs++ys):=by
 unfold Gc;rw [if_pos ⟨h1,h2⟩]
theorem Yak {α:Type} {b:Nat} {i:Int} {x:α} (h0:0≤i) (h1:(b:Int) * i≤140737488355328) (h2:i≤140737488355328):Zl5 b i x=some (List.replicate i.toNat x):=by
 unfold Zl5;rw [if_pos ⟨h0,h1,h2⟩]
theorem Zm8 {α:Type} {xs:List α} {lo hi:Int} (h0:0≤lo) (h1:lo≤hi) (h2:hi≤xs.length):Zen xs lo hi=some ((xs.drop lo.toNat).take (hi - lo).toNat):=by
 unfold Zen;rw [if_pos ⟨h0,h1,h2⟩]
theorem Zxs {c:Prop} [Decidable c] (h:c):Zob c=some ():=by unfold Zob;rw [if_pos h]
theorem Zuo {α σ R:Type} {g:σ→α→Option (σ ⊕ R)} {out:σ→R} (p:α→Bool) (f:σ→α→σ) (e:R) (I:σ→Nat→Prop) (N:Nat):∀ (xs:List α) (s:σ) (k:Nat),k+xs.length≤N→I s k →
  (∀ s k x,x∈xs→k < N→I s k→g s x=(if p x=true then some (.inr e) else some (.inl (f s x)))∧(p x=false→I (f s x) (k+1)))→Zxo g out xs s=some (if xs.any p=true then e else out (xs.foldl f s))
 | [],s,k,_,_,_=>rfl
 | x::xs,s,k,hN,hI,h=>by
  rw [List.length_cons] at hN
  obtain ⟨h1,h2⟩:=h s k x (.head _) (by omega) hI
  unfold Zxo
  rw [h1]
  cases hp:p x with
  | true=>simp [List.any_cons,hp]
  | false =>
   have:=Zuo (out:=out) p f e I N xs (f s x) (k+1) (by omega) (h2 hp) fun s k y hy=>h s k y (.tail _ hy)
   simp only [Bool.false_eq_true,if_false]
   rw [this,List.any_cons,hp,Bool.false_or,List.foldl_cons]
noncomputable def lim {R:Type} (F:Nat→Option R):Option R :=
 @dite _ (∃ r,∃ K,∀ k,K≤k→F k=some r) (Classical.propDecidable _) (fun h=>some h.choose) (fun _=>none)
theorem Gt {R:Type} {F:Nat→Option R} {r:R} (h:lim F=some r):∃ k,F k=some r:=by
 unfold lim at h
 split at h
 ·rename_i hx
  injection h with h
  obtain ⟨K,hK⟩:=hx.choose_spec
  exact ⟨K,by rw [← h];exact hK K (Nat.le_refl _)⟩
 cases h
theorem Zd2 {R:Type} {F:Nat→Option R} {r:R} (K:Nat) (h:∀ k,K≤k→F k=some r):lim F=some r:=by
 have hx:∃ r,∃ K,∀ k,K≤k→F k=some r:=⟨r,K,h⟩
 unfold lim
 rw [dif_pos hx]
 obtain ⟨K',hK'⟩:=hx.choose_spec
 have a:=hK' (max K K') (Nat.le_max_right _ _)
 rw [h (max K K') (Nat.le_max_left _ _)] at a
 exact a.symm
end Go.Proofs.Ytibgpnmmgffgeaa
