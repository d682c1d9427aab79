/- Part H11 of the ghost memory: lemmas and contracts used by the proofs of this seat's laws; each theorem bears its own conditions. -/
import Derived.Test.YtmjjjfamipncdaaGreatH10
namespace Go.Proofs.YtmjjjfamipncdaaGreat
open Go.RowKit
set_option linter.unusedVariables false
set_option linter.unusedSimpArgs false
section
variable {P:Program} {T:J0} {O:Objs} {n:Nat}
theorem Ke {E:Env} {op:Op} {K K':G→Objs→Nat→Prop} (h:gop P T E O n op K) (hk:∀ g O' n',K g O' n'→K' g O' n'):gop P T E O n op K':=by
 unfold gop at h ⊢
 split at h
 ·split at h
  ·rename_i hev
   first
    | exact ⟨h.1,h.2.mono hk⟩
    | (simp only [hev];exact ⟨h.1,h.2.mono hk⟩)
  exact h.elim
 split at h
 ·rename_i S g O' n' hs
  exact ⟨h.1,hk _ _ _ h.2⟩
 exact h.elim
def Gc (P:Program) (T:J0) (ops:List Oper):List Bool→List (Option Bool)→List Oper→Env→Objs→Nat→GK→Prop
 | _,_,[],E,O,n,K=>K E O n
 | true::bs,ds,o::l,E,O,n,K=>match o.guard with
  | none=>gop P T E O n o.op fun g O' n'=>Gc P T ops bs ds l (Yc E o.dst g) O' n' K
  | some g=>match ds with
   | some true::ds'=>Xn ops E (some g)=some true∧gop P T E O n o.op fun g O' n'=>Gc P T ops bs ds' l (Yc E o.dst g) O' n' K
   | _=>False
 | false::bs,ds,o::l,E,O,n,K=>match o.guard with
  | none=>pop P T E O n o.op fun g=>Gc P T ops bs ds l (Yc E o.dst g) O n K
  | some g=>match ds with
   | some true::ds'=>Xn ops E (some g)=some true∧pop P T E O n o.op fun g=>Gc P T ops bs ds' l (Yc E o.dst g) O n K
   | some false::ds'=>Xn ops E (some g)=some false∧Gc P T ops bs ds' l (Yc E o.dst (.val undef)) O n K
   | none::ds'=>match Xn ops E (some g) with
    | some b=>Q0 o.op=true∧Zbs T E O n o.op b fun g=>Gc P T ops bs ds' l (Yc E o.dst g) O n K
    | none=>False
   | []=>False
 | [],_,_::_,_,_,_,_=>False
def onB (P:Program) (T:J0) (ops:List Oper) (bs:List Bool) (ds:List (Option Bool)) (l:List Oper) (E:Env) (d:Option Tmp) (K:GK) (g:G) (O':Objs) (n':Nat):Prop:=Gc P T ops bs ds l (Yc E d g) O' n' K
def Zyt (P:Program) (T:J0) (ops:List Oper) (bs:List Bool) (ds:List (Option Bool)) (l:List Oper) (E:Env) (d:Option Tmp) (O:Objs) (n:Nat) (K:GK) (g:G):Prop:=Gc P T ops bs ds l (Yc E d g) O n K
theorem Zv5 (ops:List Oper) (bs:List Bool) (ds:List (Option Bool)) (E:Env) (K:GK):Gc P T ops bs ds [] E O n K=K E O n:=by cases bs <;> cases ds <;> simp only [Gc]
theorem Z6c (ops:List Oper) (bs:List Bool) (ds:List (Option Bool)) (d:Option Tmp) (op:Op) (ty:TypeId) (pos:String) (af:Array Edge) (l:List Oper) (E:Env) (K:GK):Gc P T ops (true::bs) ds (⟨d,op,ty,pos,af,none⟩::l) E O n K=gop P T E O n op (onB P T ops bs ds l E d K):=by cases ds <;> rfl
theorem Zcq (ops:List Oper) (bs:List Bool) (ds:List (Option Bool)) (d:Option Tmp) (op:Op) (ty:TypeId) (pos:String) (af:Array Edge) (g:Nat×Bool) (l:List Oper) (E:Env) (K:GK) :
  Gc P T ops (true::bs) (some true::ds) (⟨d,op,ty,pos,af,some g⟩::l) E O n K=(Xn ops E (some g)=some true∧gop P T E O n op (onB P T ops bs ds l E d K)):=rfl
theorem Z08 (ops:List Oper) (bs:List Bool) (ds:List (Option Bool)) (d:Option Tmp) (op:Op) (ty:TypeId) (pos:String) (af:Array Edge) (l:List Oper) (E:Env) (K:GK):Gc P T ops (false::bs) ds (⟨d,op,ty,pos,af,none⟩::l) E O n K=pop P T E O n op (Zyt P T ops bs ds l E d O n K):=by cases ds <;> rfl
theorem Zld (ops:List Oper) (bs:List Bool) (ds:List (Option Bool)) (d:Option Tmp) (op:Op) (ty:TypeId) (pos:String) (af:Array Edge) (g:Nat×Bool) (l:List Oper) (E:Env) (K:GK) :
  Gc P T ops (false::bs) (some true::ds) (⟨d,op,ty,pos,af,some g⟩::l) E O n K=(Xn ops E (some g)=some true∧pop P T E O n op (Zyt P T ops bs ds l E d O n K)):=rfl
theorem Zlb (ops:List Oper) (bs:List Bool) (ds:List (Option Bool)) (d:Option Tmp) (op:Op) (ty:TypeId) (pos:String) (af:Array Edge) (g:Nat×Bool) (l:List Oper) (E:Env) (K:GK) :
  Gc P T ops (false::bs) (some false::ds) (⟨d,op,ty,pos,af,some g⟩::l) E O n K=(Xn ops E (some g)=some false∧Gc P T ops bs ds l (Yc E d (.val undef)) O n K):=rfl
theorem Zlc (ops:List Oper) (bs:List Bool) (ds:List (Option Bool)) (d:Option Tmp) (op:Op) (ty:TypeId) (pos:String) (af:Array Edge) (g:Nat×Bool) (l:List Oper) (E:Env) (K:GK) :
  Gc P T ops (false::bs) (none::ds) (⟨d,op,ty,pos,af,some g⟩::l) E O n K=match Xn ops E (some g) with
   | some b=>Q0 op=true∧Zbs T E O n op b (Zyt P T ops bs ds l E d O n K)
   | none=>False:=rfl
theorem Zv6 {bs0:List Bool} {K:GK}:∀ (l pre:List Oper) (bs:List Bool) (ds:List (Option Bool)) (E:Env) (O:Objs) (n:Nat) (ops:List Oper),ops=pre++l→(∀ j,Zbv bs0 (pre.length+j)=Zbv bs j)→Gc P T ops bs ds l E O n K→Zim P T ops bs0 (List.range' pre.length l.length) E O n K
 | [],pre,bs,ds,E,O,n,ops,hp,hb,h=>by rw [Zv5] at h;exact h
 | o::l,pre,bs,ds,E,O,n,ops,hp,hb,h=>by
  have ho:ops[pre.length]? = some o:=by rw [hp,List.getElem?_append_right (Nat.le_refl _),Nat.sub_self];rfl
  have hp':ops=(pre++[o])++l:=by rw [hp];simp
  have hl:(pre++[o]).length=pre.length+1:=by simp
  have next:∀ {bs' ds' E' O' n'},(∀ j,Zbv bs (j+1)=Zbv bs' j)→Gc P T ops bs' ds' l E' O' n' K→Zim P T ops bs0 (List.range' (pre.length+1) l.length) E' O' n' K:=fun {bs' ds' E' O' n'} hb' hr=>by
   rw [← hl]
   exact Zv6 l (pre++[o]) bs' ds' E' O' n' ops hp' (fun j=>by rw [hl,Nat.add_assoc,Nat.add_comm 1 j,hb (j+1)];exact hb' j) hr
  rw [List.length_cons,List.range'_succ]
  simp only [Zim,ho]
  have hb0:=hb 0
  rw [Nat.add_zero] at hb0
  cases bs with
  | nil=>simp only [Gc] at h
  | cons b bs =>
   have hbs:∀ j,Zbv (b::bs) (j+1)=Zbv bs j:=fun j=>rfl
   cases b with
   | true =>
    have hbt:Zbv bs0 pre.length=true:=hb0
    rw [if_pos hbt]
    unfold Qa
    cases hg:o.guard with
    | none =>
     simp only [Gc,hg] at h
     refine ⟨rfl,Ke h fun g O' n' hk=>next hbs hk⟩
    | some g =>
     simp only [Gc,hg] at h
     split at h
     ·exact ⟨h.1,Ke h.2 fun g O' n' hk=>next hbs hk⟩
     exact h.elim
   | false =>
    have hbt:¬ Zbv bs0 pre.length=true:=by rw [hb0];exact Bool.false_ne_true
    rw [if_neg hbt]
    unfold PS Qa
    cases hg:o.guard with
    | none =>
     simp only [Gc,hg] at h
     obtain ⟨r,h1,h2⟩:=Zpl h
     exact ⟨r,.inl ⟨rfl,h1⟩,next hbs h2⟩
    | some g =>
     simp only [Gc,hg] at h
     split at h
     ·obtain ⟨r,h1,h2⟩:=Zpl h.2
      exact ⟨r,.inl ⟨h.1,h1⟩,next hbs h2⟩
     ·exact ⟨_,.inr (.inl ⟨h.1,rfl⟩),next hbs h.2⟩
     ·split at h
      ·rename_i b hwb
       obtain ⟨hcalm,hp⟩:=h
       unfold Zbs at hp
       split at hp
       ·rename_i S g' O2 n2 hst
        exact ⟨_,.inr (.inr ⟨b,g',hwb,hcalm,⟨S,O2,n2,hst,hp.1⟩,rfl⟩),next hbs hp.2⟩
       obtain ⟨rfl,hK⟩:=hp
       exact ⟨_,.inr (.inl ⟨hwb,rfl⟩),next hbs hK⟩
      exact h.elim
     exact h.elim
end
theorem Kx {α:Type} (xs:List α) (i:Int) (x:α):(Xs xs i x).length=xs.length:=by rw [Xs,List.length_set]
section
variable {P:Program} {T:J0} {O O2 X:Objs} {n n':Nat} {f:FuncId} {gs gs':List G} {K:G→Objs→Nat→Prop} {E:Env}
theorem GCalls.drop (hL:LessO O O2 n) (hw:wkl O O2 n gs gs') (h:GCalls P f gs' O2 n K):GCalls P f gs O n K:=by
 refine ⟨h.1,fun w m vs hM hr => ?_⟩
 refine (h.2 w m vs (hM.weak hL) (J9 hM hL _ _ hr _ hw)).mono fun e w' ⟨v,g,O',n',m',h1,h2,h3,h4,h5⟩=>⟨v,g,O',n',m',h1,h2,?_,h4,h5⟩
 exact ((Ext.refl w O m n).weak hL (Nat.le_refl _)).trans h3
theorem GCalls.dropL {l l':List (Option GObj)} {k:Nat} (hU:Und X n) (hk:l'.length=k) (hw:Ziz (Z3 X n l) (Z3 X n l') (n+k) l l'∧wkl (Z3 X n l) (Z3 X n l') (n+k) gs gs') (h:GCalls P f gs' (Z3 X n l') (n+k) K):GCalls P f gs (Z3 X n l) (n+k) K :=
 GCalls.drop (Zgg hk (OutLe.refl hU (Nat.le_add_right _ _)) hw.1) hw.2 h
theorem Zz2 {ba:Nat} {r:G} {rs:List ResultVar} {l l':List (Option GObj)} {k:Nat} {e:Exit} (he:e = .normal∨e = .ret) (hU:Und X n) (hk:l'.length=k) (gs:List G) (hb:ba≤n')
  (h:Zfs T (Z3 X n l) E rs=some gs∧Ziz (Z3 X n l) (Z3 X n l') (n+k) l l'∧wk (Z3 X n l) (Z3 X n l') (n+k) (Zmz gs) r):Fin T rs r ba (Z3 X n l') (n+k) e E (Z3 X n l) n' :=
 ⟨he,E,_,n',gs,Zvs hb,h.1,Zgg hk (OutLe.refl hU (Nat.le_add_right _ _)) h.2.1,h.2.2⟩
theorem Zsr (X:Objs) (n:Nat) (l l':List (Option GObj)) {k:Nat} (hk:l.length=k):Z3 (Z3 X n l) (n+k) l'=Z3 X n (l++l'):=by
 subst hk
 funext i
 unfold Z3
 by_cases h1:i < n
 ·rw [if_pos (by omega),if_pos h1,if_pos h1]
 by_cases h2:i < n+l.length
 ·rw [if_pos h2,if_neg h1,if_neg h1,List.getElem?_append_left (by omega)]
 rw [if_neg h2,if_neg h1,List.getElem?_append_right (by omega)]
 congr 2
 omega
theorem Z66 (X:Objs) (n:Nat) (l':List (Option GObj)):Z3 (Z3 X n []) n l'=Z3 X n l':=Zsr X n [] l' (k:=0) rfl
theorem Z67 (X:Objs) (n:Nat) (a b:Option GObj) (l':List (Option GObj)):Z3 (Z3 X n [a,b]) (n+2) l'=Z3 X n (a::b::l'):=Zsr X n [a,b] l' rfl
theorem Z68 (X:Objs) (n:Nat) (a b c:Option GObj) (l':List (Option GObj)):Z3 (Z3 X n [a,b,c]) (n+3) l'=Z3 X n (a::b::c::l'):=Zsr X n [a,b,c] l' rfl
theorem Z69 (X:Objs) (n:Nat) (a b c d:Option GObj) (l':List (Option GObj)):Z3 (Z3 X n [a,b,c,d]) (n+4) l'=Z3 X n (a::b::c::d::l'):=Zsr X n [a,b,c,d] l' rfl
end
theorem Zd2 (i:Nat):Ue i=none:=rfl
theorem Z1z {α:Type} {O O':Objs} {n':Nat} (f:α→List G):∀ k:Nat,wkl O O' n' (List.replicate k [G.val (.slice none 0 0)]).flatten (fl (eL f) (List.replicate k []))
 | 0=>by simp [wkl,fl]
 | k+1=>by
  rw [List.replicate_succ,List.replicate_succ,List.flatten_cons,Kz]
  simp only [eL,Zde,List.length_nil,List.cons_append,List.nil_append,Zdc]
  exact ⟨by simp [Zpy],Z1z f k⟩
def Zvu {α σ R:Type} (g:σ→α→Option (σ ⊕ R)) (out:σ→R):List α→σ→Option R
 | [],s=>some (out s)
 | x::xs,s=>match g s x with
  | none=>none
  | some (.inl s')=>Zvu g out xs s'
  | some (.inr r)=>some r
theorem Zza {S R:Type} {step:S→Option (S ⊕ R)} {s:S} (h:step s=none):Z6 step s=none:=by
 cases hr:Z6 step s with
 | none=>rfl
 | some r =>
  obtain ⟨k,hk⟩:=Zg1 hr
  cases k with
  | zero=>simp [Gx] at hk
  | succ k=>simp [Gx,h] at hk
theorem Z54 {α σ S R:Type} (xs:List α) (pack:Int→σ→S) (step:S→Option (S ⊕ R)) (g:σ→α→Option (σ ⊕ R)) (out:σ→R)
  (h1:∀ (i:Nat) (s:σ) (x:α),i < xs.length→xs[i]? = some x→step (pack i s)=match g s x with
   | none=>none
   | some (.inl s')=>some (.inl (pack ((i+1:Nat):Int) s'))
   | some (.inr r)=>some (.inr r))
  (h2:∀ s,step (pack xs.length s)=some (.inr (out s))) (s:σ):Z6 step (pack 0 s)=Zvu g out xs s:=by
 have key:∀ (l pre:List α) (s:σ),xs=pre++l→Z6 step (pack (pre.length:Nat) s)=Zvu g out l s:=fun l=>by
  induction l with
  | nil =>
   intro pre s hp
   rw [List.append_nil] at hp
   subst hp
   exact Yt (h2 s)
  | cons x l ih =>
   intro pre s hp
   have hx:xs[pre.length]? = some x:=by rw [hp,List.getElem?_append_right (Nat.le_refl _),Nat.sub_self];rfl
   have hi:pre.length < xs.length:=by rw [hp];simp
   have h:=h1 pre.length s x hi hx
   unfold Zvu
   cases hg:g s x with
   | none=>rw [hg] at h;exact Zza h
   | some y =>
    rw [hg] at h
    cases y with
    | inl s' =>
     have:=ih (pre++[x]) s' (by rw [hp];simp)
     rw [List.length_append,List.length_singleton] at this
     exact (X9 h).trans this
    | inr r=>exact Yt h
 exact key xs [] s rfl
theorem Zaz {α:Type} {xs:List α} {i:Nat} {x:α} (h:xs[i]? = some x):Z5 xs (i:Int)=some x:=by
 unfold Z5;rw [if_pos (Int.natCast_nonneg _),Int.toNat_natCast,h]
theorem Zcx {α:Type} {b:Nat} {xs ys:List α} (h1:(xs.length+ys.length) * b≤140737488355328) (h2:xs.length+ys.length≤140737488355328):Zf5 b xs ys=some (xs++ys):=by
 unfold Zf5;rw [if_pos ⟨h1,h2⟩]
theorem Z0s {α:Type} {b:Nat} {i:Int} {x:α} (h0:0≤i) (h1:(b:Int) * i≤140737488355328) (h2:i≤140737488355328):Znf b i x=some (List.replicate i.toNat x):=by
 unfold Znf;rw [if_pos ⟨h0,h1,h2⟩]
theorem Zs6 {α:Type} {xs:List α} {lo hi:Int} (h0:0≤lo) (h1:lo≤hi) (h2:hi≤xs.length):Zg9 xs lo hi=some ((xs.drop lo.toNat).take (hi - lo).toNat):=by
 unfold Zg9;rw [if_pos ⟨h0,h1,h2⟩]
theorem Zac {c:Prop} [Decidable c] (h:c):Xz c=some ():=by unfold Xz;rw [if_pos h]
theorem Ztk {α σ R:Type} {g:σ→α→Option (σ ⊕ R)} {out:σ→R} (p:α→Bool) (f:σ→α→σ) (e:R) (I:σ→Nat→Prop) (N:Nat):∀ (xs:List α) (s:σ) (k:Nat),k+xs.length≤N→I s k →
  (∀ s k x,x∈xs→k < N→I s k→g s x=(if p x=true then some (.inr e) else some (.inl (f s x)))∧(p x=false→I (f s x) (k+1)))→Zvu g out xs s=some (if xs.any p=true then e else out (xs.foldl f s))
 | [],s,k,_,_,_=>rfl
 | x::xs,s,k,hN,hI,h=>by
  rw [List.length_cons] at hN
  obtain ⟨h1,h2⟩:=h s k x (.head _) (by omega) hI
  unfold Zvu
  rw [h1]
  cases hp:p x with
  | true=>simp [List.any_cons,hp]
  | false =>
   have:=Ztk (out:=out) p f e I N xs (f s x) (k+1) (by omega) (h2 hp) fun s k y hy=>h s k y (.tail _ hy)
   simp only [Bool.false_eq_true,if_false]
   rw [this,List.any_cons,hp,Bool.false_or,List.foldl_cons]
noncomputable def lim {R:Type} (F:Nat→Option R):Option R :=
 @dite _ (∃ r,∃ K,∀ k,K≤k→F k=some r) (Classical.propDecidable _) (fun h=>some h.choose) (fun _=>none)
theorem Zjd {R:Type} {F:Nat→Option R} {r:R} (h:lim F=some r):∃ k,F k=some r:=by
 unfold lim at h
 split at h
 ·rename_i hx
  injection h with h
  obtain ⟨K,hK⟩:=hx.choose_spec
  exact ⟨K,by rw [← h];exact hK K (Nat.le_refl _)⟩
 cases h
theorem Ztz {R:Type} {F:Nat→Option R} {r:R} (K:Nat) (h:∀ k,K≤k→F k=some r):lim F=some r:=by
 have hx:∃ r,∃ K,∀ k,K≤k→F k=some r:=⟨r,K,h⟩
 unfold lim
 rw [dif_pos hx]
 obtain ⟨K',hK'⟩:=hx.choose_spec
 have a:=hK' (max K K') (Nat.le_max_right _ _)
 rw [h (max K K') (Nat.le_max_left _ _)] at a
 exact a.symm
end Go.Proofs.YtmjjjfamipncdaaGreat
