/- Part H11 of the ghost memory: lemmas and contracts used by the proofs of this seat's laws; each theorem bears its own conditions. -/
import Derived.Test.YtpggbianhdebmaaH10
namespace Go.Proofs.Ytpggbianhdebmaa
open Go.RowKit
set_option linter.unusedVariables false
set_option linter.unusedSimpArgs false
section
variable {P:Program} {T:X0} {O:Objs} {n:Nat}
theorem Jy {E:Env} {op:Op} {K K':G→Objs→Nat→Prop} (h:gop P T E O n op K) (hk:∀ g O' n',K g O' n'→K' g O' n'):gop P T E O n op K':=by
 unfold gop at h ⊢
 split at h
 ·split at h
  ·rename_i hev
   first
    | exact ⟨h.1,h.2.mono hk⟩
    | (simp only [hev];exact ⟨h.1,h.2.mono hk⟩)
  exact h.elim
 split at h
 ·rename_i S g O' n' hs
  exact ⟨h.1,hk _ _ _ h.2⟩
 exact h.elim
def G8 (P:Program) (T:X0) (ops:List Oper):List Bool→List (Option Bool)→List Oper→Env→Objs→Nat→GK→Prop
 | _,_,[],E,O,n,K=>K E O n
 | true::bs,ds,o::l,E,O,n,K=>match o.guard with
  | none=>gop P T E O n o.op fun g O' n'=>G8 P T ops bs ds l (Zp E o.dst g) O' n' K
  | some g=>match ds with
   | some true::ds'=>Yi ops E (some g)=some true∧gop P T E O n o.op fun g O' n'=>G8 P T ops bs ds' l (Zp E o.dst g) O' n' K
   | _=>False
 | false::bs,ds,o::l,E,O,n,K=>match o.guard with
  | none=>pop P T E O n o.op fun g=>G8 P T ops bs ds l (Zp E o.dst g) O n K
  | some g=>match ds with
   | some true::ds'=>Yi ops E (some g)=some true∧pop P T E O n o.op fun g=>G8 P T ops bs ds' l (Zp E o.dst g) O n K
   | some false::ds'=>Yi ops E (some g)=some false∧G8 P T ops bs ds' l (Zp E o.dst (.val undef)) O n K
   | none::ds'=>match Yi ops E (some g) with
    | some b=>Xg o.op=true∧Vg T E O n o.op b fun g=>G8 P T ops bs ds' l (Zp E o.dst g) O n K
    | none=>False
   | []=>False
 | [],_,_::_,_,_,_,_=>False
def onB (P:Program) (T:X0) (ops:List Oper) (bs:List Bool) (ds:List (Option Bool)) (l:List Oper) (E:Env) (d:Option Tmp) (K:GK) (g:G) (O':Objs) (n':Nat):Prop:=G8 P T ops bs ds l (Zp E d g) O' n' K
def Zkk (P:Program) (T:X0) (ops:List Oper) (bs:List Bool) (ds:List (Option Bool)) (l:List Oper) (E:Env) (d:Option Tmp) (O:Objs) (n:Nat) (K:GK) (g:G):Prop:=G8 P T ops bs ds l (Zp E d g) O n K
theorem Ub (ops:List Oper) (bs:List Bool) (ds:List (Option Bool)) (E:Env) (K:GK):G8 P T ops bs ds [] E O n K=K E O n:=by cases bs <;> cases ds <;> simp only [G8]
theorem Ua (ops:List Oper) (bs:List Bool) (ds:List (Option Bool)) (d:Option Tmp) (op:Op) (ty:TypeId) (pos:String) (af:Array Edge) (l:List Oper) (E:Env) (K:GK):G8 P T ops (true::bs) ds (⟨d,op,ty,pos,af,none⟩::l) E O n K=gop P T E O n op (onB P T ops bs ds l E d K):=by cases ds <;> rfl
theorem Kt (ops:List Oper) (bs:List Bool) (ds:List (Option Bool)) (d:Option Tmp) (op:Op) (ty:TypeId) (pos:String) (af:Array Edge) (g:Nat×Bool) (l:List Oper) (E:Env) (K:GK) :
  G8 P T ops (true::bs) (some true::ds) (⟨d,op,ty,pos,af,some g⟩::l) E O n K=(Yi ops E (some g)=some true∧gop P T E O n op (onB P T ops bs ds l E d K)):=rfl
theorem Jn (ops:List Oper) (bs:List Bool) (ds:List (Option Bool)) (d:Option Tmp) (op:Op) (ty:TypeId) (pos:String) (af:Array Edge) (l:List Oper) (E:Env) (K:GK):G8 P T ops (false::bs) ds (⟨d,op,ty,pos,af,none⟩::l) E O n K=pop P T E O n op (Zkk P T ops bs ds l E d O n K):=by cases ds <;> rfl
theorem Zcv (ops:List Oper) (bs:List Bool) (ds:List (Option Bool)) (d:Option Tmp) (op:Op) (ty:TypeId) (pos:String) (af:Array Edge) (g:Nat×Bool) (l:List Oper) (E:Env) (K:GK) :
  G8 P T ops (false::bs) (some true::ds) (⟨d,op,ty,pos,af,some g⟩::l) E O n K=(Yi ops E (some g)=some true∧pop P T E O n op (Zkk P T ops bs ds l E d O n K)):=rfl
theorem Zct (ops:List Oper) (bs:List Bool) (ds:List (Option Bool)) (d:Option Tmp) (op:Op) (ty:TypeId) (pos:String) (af:Array Edge) (g:Nat×Bool) (l:List Oper) (E:Env) (K:GK) :
  G8 P T ops (false::bs) (some false::ds) (⟨d,op,ty,pos,af,some g⟩::l) E O n K=(Yi ops E (some g)=some false∧G8 P T ops bs ds l (Zp E d (.val undef)) O n K):=rfl
theorem Zcu (ops:List Oper) (bs:List Bool) (ds:List (Option Bool)) (d:Option Tmp) (op:Op) (ty:TypeId) (pos:String) (af:Array Edge) (g:Nat×Bool) (l:List Oper) (E:Env) (K:GK) :
  G8 P T ops (false::bs) (none::ds) (⟨d,op,ty,pos,af,some g⟩::l) E O n K=match Yi ops E (some g) with
   | some b=>Xg op=true∧Vg T E O n op b (Zkk P T ops bs ds l E d O n K)
   | none=>False:=rfl
end
theorem X7 {α:Type} (xs:List α) (i:Int) (x:α):(Yr xs i x).length=xs.length:=by rw [Yr,List.length_set]
section
variable {P:Program} {T:X0} {O O2 X:Objs} {n n':Nat} {f:FuncId} {gs gs':List G} {K:G→Objs→Nat→Prop} {E:Env}
theorem GCalls.drop (hL:LessO O O2 n) (hw:Q4 O O2 n gs gs') (h:GCalls P f gs' O2 n K):GCalls P f gs O n K:=by
 refine ⟨h.1,fun w m vs hM hr => ?_⟩
 refine (h.2 w m vs (hM.weak hL) (Xz hM hL _ _ hr _ hw)).mono fun e w' ⟨v,g,O',n',m',h1,h2,h3,h4,h5⟩=>⟨v,g,O',n',m',h1,h2,?_,h4,h5⟩
 exact ((Ext.refl w O m n).weak hL (Nat.le_refl _)).trans h3
theorem Zmm {ba:Nat} {r:G} {rs:List ResultVar} {l l':List (Option GObj)} {k:Nat} {e:Exit} (he:e = .normal∨e = .ret) (hU:Und X n) (hk:l'.length=k) (gs:List G) (hb:ba≤n')
  (h:Zbo T (Zu X n l) E rs=some gs∧Zeu (Zu X n l) (Zu X n l') (n+k) l l'∧wk (Zu X n l) (Zu X n l') (n+k) (Zex gs) r):Fin T rs r ba (Zu X n l') (n+k) e E (Zu X n l) n' :=
 ⟨he,E,_,n',gs,Zk7 hb,h.1,Zke hk (OutLe.refl hU (Nat.le_add_right _ _)) h.2.1,h.2.2⟩
theorem Xt (X:Objs) (n:Nat) (l l':List (Option GObj)) {k:Nat} (hk:l.length=k):Zu (Zu X n l) (n+k) l'=Zu X n (l++l'):=by
 subst hk
 funext i
 unfold Zu
 by_cases h1:i < n
 ·rw [if_pos (by omega),if_pos h1,if_pos h1]
 by_cases h2:i < n+l.length
 ·rw [if_pos h2,if_neg h1,if_neg h1,List.getElem?_append_left (by omega)]
 rw [if_neg h2,if_neg h1,List.getElem?_append_right (by omega)]
 congr 2
 omega
theorem Gf (X:Objs) (n:Nat) (l':List (Option GObj)):Zu (Zu X n []) n l'=Zu X n l':=Xt X n [] l' (k:=0) rfl
theorem Gg (X:Objs) (n:Nat) (a:Option GObj) (l':List (Option GObj)):Zu (Zu X n [a]) (n+1) l'=Zu X n (a::l'):=Xt X n [a] l' rfl
theorem Gh (X:Objs) (n:Nat) (a b:Option GObj) (l':List (Option GObj)):Zu (Zu X n [a,b]) (n+2) l'=Zu X n (a::b::l'):=Xt X n [a,b] l' rfl
theorem Gi (X:Objs) (n:Nat) (a b c:Option GObj) (l':List (Option GObj)):Zu (Zu X n [a,b,c]) (n+3) l'=Zu X n (a::b::c::l'):=Xt X n [a,b,c] l' rfl
theorem Gj (X:Objs) (n:Nat) (a b c d:Option GObj) (l':List (Option GObj)):Zu (Zu X n [a,b,c,d]) (n+4) l'=Zu X n (a::b::c::d::l'):=Xt X n [a,b,c,d] l' rfl
theorem Gk (X:Objs) (n:Nat) (a b c d e:Option GObj) (l':List (Option GObj)):Zu (Zu X n [a,b,c,d,e]) (n+5) l'=Zu X n (a::b::c::d::e::l'):=Xt X n [a,b,c,d,e] l' rfl
end
theorem V8 (i:Nat):Yt i=none:=rfl
theorem Zno {α:Type} {O O':Objs} {n':Nat} (f:α→List G):∀ k:Nat,Q4 O O' n' (List.replicate k [G.val (.slice none 0 0)]).flatten (fl (eL f) (List.replicate k []))
 | 0=>by simp [Q4,fl]
 | k+1=>by
  rw [List.replicate_succ,List.replicate_succ,List.flatten_cons,Q0]
  simp only [eL,Vm,List.length_nil,List.cons_append,List.nil_append,Vl]
  exact ⟨by simp [Ux],Zno f k⟩
theorem Zoc {α:Type} {xs:List α} {i:Nat} {x:α} (h:xs[i]? = some x):Zv xs (i:Int)=some x:=by
 unfold Zv;rw [if_pos (Int.natCast_nonneg _),Int.toNat_natCast,h]
theorem Zqn {α:Type} {b:Nat} {xs ys:List α} (h1:(xs.length+ys.length) * b≤140737488355328) (h2:xs.length+ys.length≤140737488355328):Zlj b xs ys=some (xs++ys):=by
 unfold Zlj;rw [if_pos ⟨h1,h2⟩]
theorem Zpw {α:Type} {b:Nat} {i:Int} {x:α} (h0:0≤i) (h1:(b:Int) * i≤140737488355328) (h2:i≤140737488355328):Zhc b i x=some (List.replicate i.toNat x):=by
 unfold Zhc;rw [if_pos ⟨h0,h1,h2⟩]
end Go.Proofs.Ytpggbianhdebmaa
