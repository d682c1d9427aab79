/- Part H7 of the ghost memory: lemmas and contracts used by the proofs of this seat's laws; each theorem bears its own conditions. -/
import Derived.Test.YtmjjjfamipncdaaGreatH6
namespace Go.Proofs.YtmjjjfamipncdaaGreat
open Go.RowKit
set_option linter.unusedVariables false
set_option linter.unusedSimpArgs false
section
variable {α β ρ:Type} {xs ys:List α} {i lo hi:Int} {f:α→List G} {T:J0} {t e:TypeId} {ti:TyI} {r:ρ}
theorem bC {o:Option α} {K:α→Option ρ} (h:o.bind K=some r):∃ x,o=some x∧K x=some r:=Option.bind_eq_some_iff.1 h
theorem bE {K:α→Option ρ} (ht:T t=some ti) (hf:∀ x,(f x).length=ti.size) (h0:0 < ti.size) (h:(Z5 xs i).bind K=some r) :
  ∃ x,Z5 xs i=some x∧0≤i∧i < (xs.length:Int)∧Zc2 T t (fl f xs) (i.toNat * ti.size)=(if ti.k.isAgg then some (.agg (f x)) else (f x)[0]?)∧K x=some r:=by
 obtain ⟨x,hx,h⟩:=Option.bind_eq_some_iff.1 h
 exact ⟨x,hx,Z31 hx,Ya2 hx,Z77 ht hf h0 hx,h⟩
theorem bS {K:List α→Option ρ} {lo hi:Option KI} {a b:Int} (hlo:bLo lo=a) (hhi:bHi hi xs.length=b) (ht:Z9 T t=some (.slice e)) (he:T e=some ti) (hf:∀ x,(f x).length=ti.size) (h:(Zg9 xs a b).bind K=some r) :
  ∃ ys,0≤a∧a≤b∧b≤xs.length∧Znx T t (.sl xs.length (fl f xs)) lo hi none=some (True,.sl ys.length (fl f ys))∧K ys=some r:=by
 subst hlo hhi
 obtain ⟨ys,hy,h⟩:=Option.bind_eq_some_iff.1 h
 have h1:=Z4v hy
 have h2:=Z4u hy
 have h3:=Z4t hy
 refine ⟨ys,h1,h2,h3,?_,h⟩
 rw [Z5w ht he hf hy]
 simp only [h1,h2,h3,bMx,Int.le_refl,and_self]
theorem bA {b k:Nat} {K:List α→Option ρ} (hk:ys.length=k) (h:(Zf5 b xs ys).bind K=some r):∃ zs,(xs.length+k) * b≤140737488355328∧xs.length+k≤140737488355328∧zs=xs++ys∧K zs=some r:=by
 obtain ⟨zs,hz,h⟩:=Option.bind_eq_some_iff.1 h
 subst hk
 exact ⟨zs,Zxr hz,Zxs hz,Zsw hz,h⟩
theorem bA0 {b k:Nat} {K:List α→Option ρ} (hk:ys.length=k) (h:(Zf5 b ([]:List α) ys).bind K=some r):∃ zs,k * b≤140737488355328∧k≤140737488355328∧zs=ys∧K zs=some r:=by
 obtain ⟨zs,hz,h⟩:=Option.bind_eq_some_iff.1 h
 subst hk
 have h1:=Zxr hz
 have h2:=Zxs hz
 simp only [List.length_nil,Nat.zero_add] at h1 h2
 exact ⟨zs,h1,h2,Zsw hz,h⟩
theorem bG {c:Prop} [Decidable c] {K:Unit→Option ρ} (h:(Xz c).bind K=some r):c∧K ()=some r:=by
 obtain ⟨u,hu,h⟩:=Option.bind_eq_some_iff.1 h
 exact ⟨Z78 hu,h⟩
theorem bM {b:Nat} {x:α} {K:List α→Option ρ} (h:(Znf b i x).bind K=some r):∃ zs,0≤i∧(b:Int) * i≤140737488355328∧i≤140737488355328∧zs=List.replicate i.toNat x∧K zs=some r:=by
 obtain ⟨zs,hz,h⟩:=Option.bind_eq_some_iff.1 h
 have:=Ybb hz
 exact ⟨zs,this.1,this.2.1,this.2.2,Z8p hz,h⟩
theorem Zx0 (k:Nat) (x:α):fl f (List.replicate k x)=(List.replicate k (f x)).flatten:=by simp [fl]
end
section
variable {P:Program} {T:J0} {O O' X X':Objs} {n n' n0:Nat} {E E':Env} {Q:GQ} {c x y:Code}
theorem Zyd (l:List (Nat×G)):∀ k:List Nat,leL l (Zge l k)
 | []=>trivial
 | _::k=>⟨rfl,Zyd l k⟩
theorem Zk {ba:Nat} (keep:List Nat) (h:W P ba x (Zh (fun E O n=>W P ba y Q ⟨E.n,[],Zge E.l keep⟩ O n) Q) E O n):W P ba (.seq x y) Q E O n:=by
 refine Zf fun hb w m a hM hE => ?_
 refine wp_mono (h hb w m a hM hE) fun e a' w' ⟨E2,O2,n2,m2,h1,h2,h3,h4⟩=>⟨E2,O2,n2,m2,?_,h2,h3,h4⟩
 cases e with
 | normal=>exact fun hb3 w3 m3 a3 hM3 hE3=>(h1:W P ba y Q _ O2 n2) hb3 w3 m3 a3 hM3 (hE3.le ⟨rfl,Zyd _ _⟩)
 | exit id=>exact h1
 | goto l=>exact h1
 | ret=>exact h1
 | panic ch=>exact h1
 | outgrown=>exact h1
theorem Zvs {ba:Nat} (hb:ba≤n):Fit2 ba E O n E O n:=fun w m a hM hE=>⟨m,hM,hE,(Ext.refl w O m n).base hb⟩
theorem Zm {l l':List (Option GObj)} {k:Nat} (hU:Und X n) (hk:l'.length=k) (hn:E'.n=E.n) (h:Ziz (Z3 X n l) (Z3 X n l') (n+k) l l'∧Zoo (Z3 X n l) (Z3 X n l') (n+k) E.l E'.l):Fit E (Z3 X n l) E' (Z3 X n l') (n+k) :=
 ⟨hn,Zgg hk (OutLe.refl hU (Nat.le_add_right _ _)) h.1,h.2⟩
theorem Xq {i:Nat} {q q':GObj} {l l':List (Option GObj)} {k:Nat} (hU:Und X n) (hk:l'.length=k) (hn:E'.n=E.n)
  (h:Ziw q q'∧wkl (Z3 (X.upd i (some q)) n l) (Z3 (X.upd i (some q')) n l') (n+k) q.cells q'.cells∧Ziz (Z3 (X.upd i (some q)) n l) (Z3 (X.upd i (some q')) n l') (n+k) l l'∧Zoo (Z3 (X.upd i (some q)) n l) (Z3 (X.upd i (some q')) n l') (n+k) E.l E'.l) :
  Fit E (Z3 (X.upd i (some q)) n l) E' (Z3 (X.upd i (some q')) n l') (n+k) :=
 ⟨hn,Zgg hk (OutLe.upd hU (Nat.le_add_right _ _) h.1 h.2.1) h.2.2.1,h.2.2.2⟩
theorem Zl {ba:Nat} {r:G} {rs:List ResultVar} {l:List (Option GObj)} {e:Exit} (he:e = .normal∨e = .ret) (hU:Und X n) (gs:List G) (hb:ba≤n') (h:Zfs T (Z3 X n l) E rs=some gs∧wk (Z3 X n l) X n (Zmz gs) r):Fin T rs r ba X n e E (Z3 X n l) n' :=
 ⟨he,E,_,n',gs,Zvs hb,h.1,Z0m hU.fresh (OutLe.refl hU (Nat.le_refl _)),h.2⟩
end
end Go.Proofs.YtmjjjfamipncdaaGreat
