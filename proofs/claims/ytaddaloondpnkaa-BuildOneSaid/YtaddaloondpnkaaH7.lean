/- Part H7 of the ghost memory: lemmas and contracts used by the proofs of this seat's laws; each theorem bears its own conditions. -/
import Derived.Test.YtaddaloondpnkaaH6
namespace Go.Proofs.Ytaddaloondpnkaa
open Go.RowKit
set_option linter.unusedVariables false
set_option linter.unusedSimpArgs false
section
variable {α β ρ:Type} {xs ys:List α} {i lo hi:Int} {f:α→List G} {T:Ql} {t e:TypeId} {ti:TyI} {r:ρ}
theorem bC {o:Option α} {K:α→Option ρ} (h:o.bind K=some r):∃ x,o=some x∧K x=some r:=Option.bind_eq_some_iff.1 h
theorem bE {K:α→Option ρ} (ht:T t=some ti) (hf:∀ x,(f x).length=ti.size) (h0:0 < ti.size) (h:(Zx xs i).bind K=some r) :
  ∃ x,Zx xs i=some x∧0≤i∧i < (xs.length:Int)∧Zgf T t (fl f xs) (i.toNat * ti.size)=(if ti.k.isAgg then some (.agg (f x)) else (f x)[0]?)∧K x=some r:=by
 obtain ⟨x,hx,h⟩:=Option.bind_eq_some_iff.1 h
 exact ⟨x,hx,Zzg hx,Z3e hx,Z1n ht hf h0 hx,h⟩
theorem bS3 {K:List α→Option ρ} {lo:Option KI} {hi:KI} {a b:Int} (hlo:Gd lo=a) (hhi:hi.2=b) (ht:Z7 T t=some (.slice e)) (he:T e=some ti) (hf:∀ x,(f x).length=ti.size) (h:(Zlo xs a b).bind K=some r) :
  ∃ ys,0≤a∧a≤b∧b≤xs.length∧Zh4 T t (.sl xs.length (fl f xs)) lo (some hi) (some hi)=some (True,.sl ys.length (fl f ys))∧K ys=some r:=by
 subst hlo hhi
 obtain ⟨ys,hy,h⟩:=Option.bind_eq_some_iff.1 h
 have h1:=Zz8 hy
 have h2:=Zz7 hy
 have h3:=Zz6 hy
 refine ⟨ys,h1,h2,h3,?_,h⟩
 rw [Zyh ht he hf hy]
 simp only [h1,h2,h3,Int.le_refl,and_self]
theorem bA {b k:Nat} {K:List α→Option ρ} (hk:ys.length=k) (h:(Zkp b xs ys).bind K=some r):∃ zs,(xs.length+k) * b≤140737488355328∧xs.length+k≤140737488355328∧zs=xs++ys∧K zs=some r:=by
 obtain ⟨zs,hz,h⟩:=Option.bind_eq_some_iff.1 h
 subst hk
 exact ⟨zs,Zx4 hz,Z1d hz,Zuz hz,h⟩
theorem bG {c:Prop} [Decidable c] {K:Unit→Option ρ} (h:(Q9 c).bind K=some r):c∧K ()=some r:=by
 obtain ⟨u,hu,h⟩:=Option.bind_eq_some_iff.1 h
 exact ⟨Z1o hu,h⟩
theorem bM {b:Nat} {x:α} {K:List α→Option ρ} (h:(Zdw b i x).bind K=some r):∃ zs,0≤i∧(b:Int) * i≤140737488355328∧i≤140737488355328∧zs=List.replicate i.toNat x∧K zs=some r:=by
 obtain ⟨zs,hz,h⟩:=Option.bind_eq_some_iff.1 h
 have:=Z3s hz
 exact ⟨zs,this.1,this.2.1,this.2.2,Z1z hz,h⟩
theorem Zop (k:Nat) (x:α):fl f (List.replicate k x)=(List.replicate k (f x)).flatten:=by simp [fl]
end
section
variable {P:Program} {T:Ql} {O O' X X':Objs} {n n' n0:Nat} {E E':Env} {Q:GQ} {c x y:Code}
theorem Zve (l:List (Nat×G)):∀ k:List Nat,leL l (Zgh l k)
 | []=>trivial
 | _::k=>⟨rfl,Zve l k⟩
theorem Zl {ba:Nat} (keep:List Nat) (h:W P ba x (Zj (fun E O n=>W P ba y Q ⟨E.n,[],Zgh E.l keep⟩ O n) Q) E O n):W P ba (.seq x y) Q E O n:=by
 refine Zk fun hb w m a hM hE => ?_
 refine wp_mono (h hb w m a hM hE) fun e a' w' ⟨E2,O2,n2,m2,h1,h2,h3,h4⟩=>⟨E2,O2,n2,m2,?_,h2,h3,h4⟩
 cases e with
 | normal=>exact fun hb3 w3 m3 a3 hM3 hE3=>(h1:W P ba y Q _ O2 n2) hb3 w3 m3 a3 hM3 (hE3.le ⟨rfl,Zve _ _⟩)
 | exit id=>exact h1
 | goto l=>exact h1
 | ret=>exact h1
 | panic ch=>exact h1
 | outgrown=>exact h1
theorem Zuf {ba:Nat} (hb:ba≤n):Fit2 ba E O n E O n:=fun w m a hM hE=>⟨m,hM,hE,(Ext.refl w O m n).base hb⟩
theorem Zp {l l':List (Option GObj)} {k:Nat} (hU:Und X n) (hk:l'.length=k) (hn:E'.n=E.n) (h:Zkq (Zu X n l) (Zu X n l') (n+k) l l'∧Zmb (Zu X n l) (Zu X n l') (n+k) E.l E'.l):Fit E (Zu X n l) E' (Zu X n l') (n+k) :=
 ⟨hn,Zk7 hk (OutLe.refl hU (Nat.le_add_right _ _)) h.1,h.2⟩
theorem Qa {i:Nat} {q q':GObj} {l l':List (Option GObj)} {k:Nat} (hU:Und X n) (hk:l'.length=k) (hn:E'.n=E.n)
  (h:Zhg q q'∧Kt (Zu (X.upd i (some q)) n l) (Zu (X.upd i (some q')) n l') (n+k) q.cells q'.cells∧Zkq (Zu (X.upd i (some q)) n l) (Zu (X.upd i (some q')) n l') (n+k) l l'∧Zmb (Zu (X.upd i (some q)) n l) (Zu (X.upd i (some q')) n l') (n+k) E.l E'.l) :
  Fit E (Zu (X.upd i (some q)) n l) E' (Zu (X.upd i (some q')) n l') (n+k) :=
 ⟨hn,Zk7 hk (OutLe.upd hU (Nat.le_add_right _ _) h.1 h.2.1) h.2.2.1,h.2.2.2⟩
theorem Zt {ba:Nat} {r:G} {rs:List ResultVar} {l:List (Option GObj)} {e:Exit} (he:e = .normal∨e = .ret) (hU:Und X n) (gs:List G) (hb:ba≤n') (h:Zem T (Zu X n l) E rs=some gs∧wk (Zu X n l) X n (Zkr gs) r):Fin T rs r ba X n e E (Zu X n l) n' :=
 ⟨he,E,_,n',gs,Zuf hb,h.1,Zw3 hU.fresh (OutLe.refl hU (Nat.le_refl _)),h.2⟩
end
end Go.Proofs.Ytaddaloondpnkaa
