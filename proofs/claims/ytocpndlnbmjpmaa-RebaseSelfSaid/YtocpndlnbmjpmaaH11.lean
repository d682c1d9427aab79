/- Part H11 of the ghost memory: lemmas and contracts used by the proofs of this seat's laws; each theorem bears its own conditions. -/
import Derived.Test.YtocpndlnbmjpmaaH10
namespace Go.Proofs.Ytocpndlnbmjpmaa
open Go.RowKit
set_option linter.unusedVariables false
set_option linter.unusedSimpArgs false
section
variable {P:Program} {T:V3} {O:Objs} {n:Nat}
theorem Un {E:Env} {op:Op} {K K':G→Objs→Nat→Prop} (h:gop P T E O n op K) (hk:∀ g O' n',K g O' n'→K' g O' n'):gop P T E O n op K':=by
 unfold gop at h ⊢
 split at h
 ·split at h
  ·rename_i hev
   first
    | exact ⟨h.1,h.2.mono hk⟩
    | (simp only [hev];exact ⟨h.1,h.2.mono hk⟩)
  exact h.elim
 split at h
 ·rename_i S g O' n' hs
  exact ⟨h.1,hk _ _ _ h.2⟩
 exact h.elim
def Zc7 (P:Program) (T:V3) (ops:List Oper):List Bool→List (Option Bool)→List Oper→Env→Objs→Nat→GK→Prop
 | _,_,[],E,O,n,K=>K E O n
 | true::bs,ds,o::l,E,O,n,K=>match o.guard with
  | none=>gop P T E O n o.op fun g O' n'=>Zc7 P T ops bs ds l (Y3 E o.dst g) O' n' K
  | some g=>match ds with
   | some true::ds'=>Qw ops E (some g)=some true∧gop P T E O n o.op fun g O' n'=>Zc7 P T ops bs ds' l (Y3 E o.dst g) O' n' K
   | _=>False
 | false::bs,ds,o::l,E,O,n,K=>match o.guard with
  | none=>pop P T E O n o.op fun g=>Zc7 P T ops bs ds l (Y3 E o.dst g) O n K
  | some g=>match ds with
   | some true::ds'=>Qw ops E (some g)=some true∧pop P T E O n o.op fun g=>Zc7 P T ops bs ds' l (Y3 E o.dst g) O n K
   | some false::ds'=>Qw ops E (some g)=some false∧Zc7 P T ops bs ds' l (Y3 E o.dst (.val undef)) O n K
   | none::ds'=>match Qw ops E (some g) with
    | some b=>K0 o.op=true∧Zf4 T E O n o.op b fun g=>Zc7 P T ops bs ds' l (Y3 E o.dst g) O n K
    | none=>False
   | []=>False
 | [],_,_::_,_,_,_,_=>False
def onB (P:Program) (T:V3) (ops:List Oper) (bs:List Bool) (ds:List (Option Bool)) (l:List Oper) (E:Env) (d:Option Tmp) (K:GK) (g:G) (O':Objs) (n':Nat):Prop:=Zc7 P T ops bs ds l (Y3 E d g) O' n' K
def Z0m (P:Program) (T:V3) (ops:List Oper) (bs:List Bool) (ds:List (Option Bool)) (l:List Oper) (E:Env) (d:Option Tmp) (O:Objs) (n:Nat) (K:GK) (g:G):Prop:=Zc7 P T ops bs ds l (Y3 E d g) O n K
theorem Zib (ops:List Oper) (bs:List Bool) (ds:List (Option Bool)) (E:Env) (K:GK):Zc7 P T ops bs ds [] E O n K=K E O n:=by cases bs <;> cases ds <;> simp only [Zc7]
theorem Zk6 (ops:List Oper) (bs:List Bool) (ds:List (Option Bool)) (d:Option Tmp) (op:Op) (ty:TypeId) (pos:String) (af:Array Edge) (l:List Oper) (E:Env) (K:GK):Zc7 P T ops (true::bs) ds (⟨d,op,ty,pos,af,none⟩::l) E O n K=gop P T E O n op (onB P T ops bs ds l E d K):=by cases ds <;> rfl
theorem Zi9 (ops:List Oper) (bs:List Bool) (ds:List (Option Bool)) (d:Option Tmp) (op:Op) (ty:TypeId) (pos:String) (af:Array Edge) (g:Nat×Bool) (l:List Oper) (E:Env) (K:GK) :
  Zc7 P T ops (true::bs) (some true::ds) (⟨d,op,ty,pos,af,some g⟩::l) E O n K=(Qw ops E (some g)=some true∧gop P T E O n op (onB P T ops bs ds l E d K)):=rfl
theorem Zhd (ops:List Oper) (bs:List Bool) (ds:List (Option Bool)) (d:Option Tmp) (op:Op) (ty:TypeId) (pos:String) (af:Array Edge) (l:List Oper) (E:Env) (K:GK):Zc7 P T ops (false::bs) ds (⟨d,op,ty,pos,af,none⟩::l) E O n K=pop P T E O n op (Z0m P T ops bs ds l E d O n K):=by cases ds <;> rfl
theorem Zrk (ops:List Oper) (bs:List Bool) (ds:List (Option Bool)) (d:Option Tmp) (op:Op) (ty:TypeId) (pos:String) (af:Array Edge) (g:Nat×Bool) (l:List Oper) (E:Env) (K:GK) :
  Zc7 P T ops (false::bs) (some true::ds) (⟨d,op,ty,pos,af,some g⟩::l) E O n K=(Qw ops E (some g)=some true∧pop P T E O n op (Z0m P T ops bs ds l E d O n K)):=rfl
theorem Zri (ops:List Oper) (bs:List Bool) (ds:List (Option Bool)) (d:Option Tmp) (op:Op) (ty:TypeId) (pos:String) (af:Array Edge) (g:Nat×Bool) (l:List Oper) (E:Env) (K:GK) :
  Zc7 P T ops (false::bs) (some false::ds) (⟨d,op,ty,pos,af,some g⟩::l) E O n K=(Qw ops E (some g)=some false∧Zc7 P T ops bs ds l (Y3 E d (.val undef)) O n K):=rfl
theorem Zrj (ops:List Oper) (bs:List Bool) (ds:List (Option Bool)) (d:Option Tmp) (op:Op) (ty:TypeId) (pos:String) (af:Array Edge) (g:Nat×Bool) (l:List Oper) (E:Env) (K:GK) :
  Zc7 P T ops (false::bs) (none::ds) (⟨d,op,ty,pos,af,some g⟩::l) E O n K=match Qw ops E (some g) with
   | some b=>K0 op=true∧Zf4 T E O n op b (Z0m P T ops bs ds l E d O n K)
   | none=>False:=rfl
theorem Zx5 {bs0:List Bool} {K:GK}:∀ (l pre:List Oper) (bs:List Bool) (ds:List (Option Bool)) (E:Env) (O:Objs) (n:Nat) (ops:List Oper),ops=pre++l→(∀ j,Zfp bs0 (pre.length+j)=Zfp bs j)→Zc7 P T ops bs ds l E O n K→Zl7 P T ops bs0 (List.range' pre.length l.length) E O n K
 | [],pre,bs,ds,E,O,n,ops,hp,hb,h=>by rw [Zib] at h;exact h
 | o::l,pre,bs,ds,E,O,n,ops,hp,hb,h=>by
  have ho:ops[pre.length]? = some o:=by rw [hp,List.getElem?_append_right (Nat.le_refl _),Nat.sub_self];rfl
  have hp':ops=(pre++[o])++l:=by rw [hp];simp
  have hl:(pre++[o]).length=pre.length+1:=by simp
  have next:∀ {bs' ds' E' O' n'},(∀ j,Zfp bs (j+1)=Zfp bs' j)→Zc7 P T ops bs' ds' l E' O' n' K→Zl7 P T ops bs0 (List.range' (pre.length+1) l.length) E' O' n' K:=fun {bs' ds' E' O' n'} hb' hr=>by
   rw [← hl]
   exact Zx5 l (pre++[o]) bs' ds' E' O' n' ops hp' (fun j=>by rw [hl,Nat.add_assoc,Nat.add_comm 1 j,hb (j+1)];exact hb' j) hr
  rw [List.length_cons,List.range'_succ]
  simp only [Zl7,ho]
  have hb0:=hb 0
  rw [Nat.add_zero] at hb0
  cases bs with
  | nil=>simp only [Zc7] at h
  | cons b bs =>
   have hbs:∀ j,Zfp (b::bs) (j+1)=Zfp bs j:=fun j=>rfl
   cases b with
   | true =>
    have hbt:Zfp bs0 pre.length=true:=hb0
    rw [if_pos hbt]
    unfold Q6
    cases hg:o.guard with
    | none =>
     simp only [Zc7,hg] at h
     refine ⟨rfl,Un h fun g O' n' hk=>next hbs hk⟩
    | some g =>
     simp only [Zc7,hg] at h
     split at h
     ·exact ⟨h.1,Un h.2 fun g O' n' hk=>next hbs hk⟩
     exact h.elim
   | false =>
    have hbt:¬ Zfp bs0 pre.length=true:=by rw [hb0];exact Bool.false_ne_true
    rw [if_neg hbt]
    unfold PS Q6
    cases hg:o.guard with
    | none =>
     simp only [Zc7,hg] at h
     obtain ⟨r,h1,h2⟩:=Zrh h
     exact ⟨r,.inl ⟨rfl,h1⟩,next hbs h2⟩
    | some g =>
     simp only [Zc7,hg] at h
     split at h
     ·obtain ⟨r,h1,h2⟩:=Zrh h.2
      exact ⟨r,.inl ⟨h.1,h1⟩,next hbs h2⟩
     ·exact ⟨_,.inr (.inl ⟨h.1,rfl⟩),next hbs h.2⟩
     ·split at h
      ·rename_i b hwb
       obtain ⟨hcalm,hp⟩:=h
       unfold Zf4 at hp
       split at hp
       ·rename_i S g' O2 n2 hst
        exact ⟨_,.inr (.inr ⟨b,g',hwb,hcalm,⟨S,O2,n2,hst,hp.1⟩,rfl⟩),next hbs hp.2⟩
       obtain ⟨rfl,hK⟩:=hp
       exact ⟨_,.inr (.inl ⟨hwb,rfl⟩),next hbs hK⟩
      exact h.elim
     exact h.elim
end
theorem Z0y {α:Type} (xs:List α) (i:Int) (x:α):(Zld xs i x).length=xs.length:=by rw [Zld,List.length_set]
section
variable {P:Program} {T:V3} {O O2 X:Objs} {n n':Nat} {f:FuncId} {gs gs':List G} {K:G→Objs→Nat→Prop} {E:Env}
theorem GCalls.drop (hL:LessO O O2 n) (hw:wkl O O2 n gs gs') (h:GCalls P f gs' O2 n K):GCalls P f gs O n K:=by
 refine ⟨h.1,fun w m vs hM hr => ?_⟩
 refine (h.2 w m vs (hM.weak hL) (Gc hM hL _ _ hr _ hw)).mono fun e w' ⟨v,g,O',n',m',h1,h2,h3,h4,h5⟩=>⟨v,g,O',n',m',h1,h2,?_,h4,h5⟩
 exact ((Ext.refl w O m n).weak hL (Nat.le_refl _)).trans h3
theorem Z6m {ba:Nat} {r:G} {rs:List ResultVar} {l l':List (Option GObj)} {k:Nat} {e:Exit} (he:e = .normal∨e = .ret) (hU:Und X n) (hk:l'.length=k) (gs:List G) (hb:ba≤n')
  (h:Zkh T (Zx X n l) E rs=some gs∧Zku (Zx X n l) (Zx X n l') (n+k) l l'∧wk (Zx X n l) (Zx X n l') (n+k) (gone gs) r):Fin T rs r ba (Zx X n l') (n+k) e E (Zx X n l) n' :=
 ⟨he,E,_,n',gs,Zxt hb,h.1,Zfq hk (OutLe.refl hU (Nat.le_add_right _ _)) h.2.1,h.2.2⟩
theorem Uc (X:Objs) (n:Nat) (l l':List (Option GObj)) {k:Nat} (hk:l.length=k):Zx (Zx X n l) (n+k) l'=Zx X n (l++l'):=by
 subst hk
 funext i
 unfold Zx
 by_cases h1:i < n
 ·rw [if_pos (by omega),if_pos h1,if_pos h1]
 by_cases h2:i < n+l.length
 ·rw [if_pos h2,if_neg h1,if_neg h1,List.getElem?_append_left (by omega)]
 rw [if_neg h2,if_neg h1,List.getElem?_append_right (by omega)]
 congr 2
 omega
theorem Z50 (X:Objs) (n:Nat) (a b:Option GObj) (l':List (Option GObj)):Zx (Zx X n [a,b]) (n+2) l'=Zx X n (a::b::l'):=Uc X n [a,b] l' rfl
theorem Zuf (X:Objs) (n:Nat) (a b c:Option GObj) (l':List (Option GObj)):Zx (Zx X n [a,b,c]) (n+3) l'=Zx X n (a::b::c::l'):=Uc X n [a,b,c] l' rfl
theorem Zzn (X:Objs) (n:Nat) (a b c d:Option GObj) (l':List (Option GObj)):Zx (Zx X n [a,b,c,d]) (n+4) l'=Zx X n (a::b::c::d::l'):=Uc X n [a,b,c,d] l' rfl
theorem Zug (X:Objs) (n:Nat) (a b c d e:Option GObj) (l':List (Option GObj)):Zx (Zx X n [a,b,c,d,e]) (n+5) l'=Zx X n (a::b::c::d::e::l'):=Uc X n [a,b,c,d,e] l' rfl
end
theorem Zk2 (i:Nat):Zcy i=none:=rfl
def Zxv {α σ R:Type} (g:σ→α→Option (σ ⊕ R)) (out:σ→R):List α→σ→Option R
 | [],s=>some (out s)
 | x::xs,s=>match g s x with
  | none=>none
  | some (.inl s')=>Zxv g out xs s'
  | some (.inr r)=>some r
theorem Zzg {S R:Type} {step:S→Option (S ⊕ R)} {s:S} (h:step s=none):Z9 step s=none:=by
 cases hr:Z9 step s with
 | none=>rfl
 | some r =>
  obtain ⟨k,hk⟩:=Zor hr
  cases k with
  | zero=>simp [Zfd] at hk
  | succ k=>simp [Zfd,h] at hk
theorem Z5i {α σ S R:Type} (xs:List α) (pack:Int→σ→S) (step:S→Option (S ⊕ R)) (g:σ→α→Option (σ ⊕ R)) (out:σ→R)
  (h1:∀ (i:Nat) (s:σ) (x:α),i < xs.length→xs[i]? = some x→step (pack i s)=match g s x with
   | none=>none
   | some (.inl s')=>some (.inl (pack ((i+1:Nat):Int) s'))
   | some (.inr r)=>some (.inr r))
  (h2:∀ s,step (pack xs.length s)=some (.inr (out s))) (s:σ):Z9 step (pack 0 s)=Zxv g out xs s:=by
 have key:∀ (l pre:List α) (s:σ),xs=pre++l→Z9 step (pack (pre.length:Nat) s)=Zxv g out l s:=fun l=>by
  induction l with
  | nil =>
   intro pre s hp
   rw [List.append_nil] at hp
   subst hp
   exact Y0 (h2 s)
  | cons x l ih =>
   intro pre s hp
   have hx:xs[pre.length]? = some x:=by rw [hp,List.getElem?_append_right (Nat.le_refl _),Nat.sub_self];rfl
   have hi:pre.length < xs.length:=by rw [hp];simp
   have h:=h1 pre.length s x hi hx
   unfold Zxv
   cases hg:g s x with
   | none=>rw [hg] at h;exact Zzg h
   | some y =>
    rw [hg] at h
    cases y with
    | inl s' =>
     have:=ih (pre++[x]) s' (by rw [hp];simp)
     rw [List.length_append,List.length_singleton] at this
     exact (Yu h).trans this
    | inr r=>exact Y0 h
 exact key xs [] s rfl
theorem Xd {α:Type} {xs:List α} {i:Nat} {x:α} (h:xs[i]? = some x):Xg xs (i:Int)=some x:=by
 unfold Xg;rw [if_pos (Int.natCast_nonneg _),Int.toNat_natCast,h]
theorem Vh {α:Type} {b:Nat} {xs ys:List α} (h1:(xs.length+ys.length) * b≤140737488355328) (h2:xs.length+ys.length≤140737488355328):Zbf b xs ys=some (xs++ys):=by
 unfold Zbf;rw [if_pos ⟨h1,h2⟩]
theorem Z64 {α:Type} {b:Nat} {i:Int} {x:α} (h0:0≤i) (h1:(b:Int) * i≤140737488355328) (h2:i≤140737488355328):Zm7 b i x=some (List.replicate i.toNat x):=by
 unfold Zm7;rw [if_pos ⟨h0,h1,h2⟩]
theorem Zot {α:Type} {xs:List α} {lo hi:Int} (h0:0≤lo) (h1:lo≤hi) (h2:hi≤xs.length):Zfj xs lo hi=some ((xs.drop lo.toNat).take (hi - lo).toNat):=by
 unfold Zfj;rw [if_pos ⟨h0,h1,h2⟩]
theorem Zxy {c:Prop} [Decidable c] (h:c):Zpl c=some ():=by unfold Zpl;rw [if_pos h]
theorem Zus {α σ R:Type} {g:σ→α→Option (σ ⊕ R)} {out:σ→R} (p:α→Bool) (f:σ→α→σ) (e:R) (I:σ→Nat→Prop) (N:Nat):∀ (xs:List α) (s:σ) (k:Nat),k+xs.length≤N→I s k →
  (∀ s k x,x∈xs→k < N→I s k→g s x=(if p x=true then some (.inr e) else some (.inl (f s x)))∧(p x=false→I (f s x) (k+1)))→Zxv g out xs s=some (if xs.any p=true then e else out (xs.foldl f s))
 | [],s,k,_,_,_=>rfl
 | x::xs,s,k,hN,hI,h=>by
  rw [List.length_cons] at hN
  obtain ⟨h1,h2⟩:=h s k x (.head _) (by omega) hI
  unfold Zxv
  rw [h1]
  cases hp:p x with
  | true=>simp [List.any_cons,hp]
  | false =>
   have:=Zus (out:=out) p f e I N xs (f s x) (k+1) (by omega) (h2 hp) fun s k y hy=>h s k y (.tail _ hy)
   simp only [Bool.false_eq_true,if_false]
   rw [this,List.any_cons,hp,Bool.false_or,List.foldl_cons]
noncomputable def lim {R:Type} (F:Nat→Option R):Option R :=
 @dite _ (∃ r,∃ K,∀ k,K≤k→F k=some r) (Classical.propDecidable _) (fun h=>some h.choose) (fun _=>none)
theorem Zbt {R:Type} {F:Nat→Option R} {r:R} (h:lim F=some r):∃ k,F k=some r:=by
 unfold lim at h
 split at h
 ·rename_i hx
  injection h with h
  obtain ⟨K,hK⟩:=hx.choose_spec
  exact ⟨K,by rw [← h];exact hK K (Nat.le_refl _)⟩
 cases h
theorem Zeg {R:Type} {F:Nat→Option R} {r:R} (K:Nat) (h:∀ k,K≤k→F k=some r):lim F=some r:=by
 have hx:∃ r,∃ K,∀ k,K≤k→F k=some r:=⟨r,K,h⟩
 unfold lim
 rw [dif_pos hx]
 obtain ⟨K',hK'⟩:=hx.choose_spec
 have a:=hK' (max K K') (Nat.le_max_right _ _)
 rw [h (max K K') (Nat.le_max_left _ _)] at a
 exact a.symm
end Go.Proofs.Ytocpndlnbmjpmaa
