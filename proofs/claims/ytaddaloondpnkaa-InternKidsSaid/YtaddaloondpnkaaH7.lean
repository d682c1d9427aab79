/- Part H7 of the ghost memory: lemmas and contracts used by the proofs of this seat's laws; each theorem bears its own conditions. -/
import Derived.Test.YtaddaloondpnkaaH6
namespace Go.Proofs.Ytaddaloondpnkaa
open Go.RowKit
set_option linter.unusedVariables false
set_option linter.unusedSimpArgs false
section
variable {α β ρ:Type} {xs ys:List α} {i lo hi:Int} {f:α→List G} {T:Kf} {t e:TypeId} {ti:TyI} {r:ρ}
theorem bC {o:Option α} {K:α→Option ρ} (h:o.bind K=some r):∃ x,o=some x∧K x=some r:=Option.bind_eq_some_iff.1 h
theorem bE {K:α→Option ρ} (ht:T t=some ti) (hf:∀ x,(f x).length=ti.size) (h0:0 < ti.size) (h:(Z9 xs i).bind K=some r) :
  ∃ x,Z9 xs i=some x∧0≤i∧i < (xs.length:Int)∧Ze1 T t (fl f xs) (i.toNat * ti.size)=(if ti.k.isAgg then some (.agg (f x)) else (f x)[0]?)∧K x=some r:=by
 obtain ⟨x,hx,h⟩:=Option.bind_eq_some_iff.1 h
 exact ⟨x,hx,Z2u hx,Z8n hx,Z6d ht hf h0 hx,h⟩
theorem bS {K:List α→Option ρ} {lo hi:Option KI} {a b:Int} (hlo:bLo lo=a) (hhi:bHi hi xs.length=b) (ht:Yf T t=some (.slice e)) (he:T e=some ti) (hf:∀ x,(f x).length=ti.size) (h:(Zhj xs a b).bind K=some r) :
  ∃ ys,0≤a∧a≤b∧b≤xs.length∧Zn1 T t (.sl xs.length (fl f xs)) lo hi none=some (True,.sl ys.length (fl f ys))∧K ys=some r:=by
 subst hlo hhi
 obtain ⟨ys,hy,h⟩:=Option.bind_eq_some_iff.1 h
 have h1:=Z3k hy
 have h2:=Z3j hy
 have h3:=Z3i hy
 refine ⟨ys,h1,h2,h3,?_,h⟩
 rw [Z39 ht he hf hy]
 simp only [h1,h2,h3,bMx,Int.le_refl,and_self]
theorem bA {b k:Nat} {K:List α→Option ρ} (hk:ys.length=k) (h:(Zeu b xs ys).bind K=some r):∃ zs,(xs.length+k) * b≤140737488355328∧xs.length+k≤140737488355328∧zs=xs++ys∧K zs=some r:=by
 obtain ⟨zs,hz,h⟩:=Option.bind_eq_some_iff.1 h
 subst hk
 exact ⟨zs,Z1b hz,Z1c hz,Zxb hz,h⟩
theorem bA0 {b k:Nat} {K:List α→Option ρ} (hk:ys.length=k) (h:(Zeu b ([]:List α) ys).bind K=some r):∃ zs,k * b≤140737488355328∧k≤140737488355328∧zs=ys∧K zs=some r:=by
 obtain ⟨zs,hz,h⟩:=Option.bind_eq_some_iff.1 h
 subst hk
 have h1:=Z1b hz
 have h2:=Z1c hz
 simp only [List.length_nil,Nat.zero_add] at h1 h2
 exact ⟨zs,h1,h2,Zxb hz,h⟩
theorem bG {c:Prop} [Decidable c] {K:Unit→Option ρ} (h:(Y7 c).bind K=some r):c∧K ()=some r:=by
 obtain ⟨u,hu,h⟩:=Option.bind_eq_some_iff.1 h
 exact ⟨Z6f hu,h⟩
theorem bM {b:Nat} {x:α} {K:List α→Option ρ} (h:(Zix b i x).bind K=some r):∃ zs,0≤i∧(b:Int) * i≤140737488355328∧i≤140737488355328∧zs=List.replicate i.toNat x∧K zs=some r:=by
 obtain ⟨zs,hz,h⟩:=Option.bind_eq_some_iff.1 h
 have:=Z8x hz
 exact ⟨zs,this.1,this.2.1,this.2.2,Z6q hz,h⟩
theorem Zow (k:Nat) (x:α):fl f (List.replicate k x)=(List.replicate k (f x)).flatten:=by simp [fl]
end
section
variable {P:Program} {T:Kf} {O O' X X':Objs} {n n' n0:Nat} {E E':Env} {Q:GQ} {c x y:Code}
theorem Zxw (l:List (Nat×G)):∀ k:List Nat,leL l (Zgo l k)
 | []=>trivial
 | _::k=>⟨rfl,Zxw l k⟩
theorem Zn {ba:Nat} (keep:List Nat) (h:W P ba x (Zh (fun E O n=>W P ba y Q ⟨E.n,[],Zgo E.l keep⟩ O n) Q) E O n):W P ba (.seq x y) Q E O n:=by
 refine Zf fun hb w m a hM hE => ?_
 refine wp_mono (h hb w m a hM hE) fun e a' w' ⟨E2,O2,n2,m2,h1,h2,h3,h4⟩=>⟨E2,O2,n2,m2,?_,h2,h3,h4⟩
 cases e with
 | normal=>exact fun hb3 w3 m3 a3 hM3 hE3=>(h1:W P ba y Q _ O2 n2) hb3 w3 m3 a3 hM3 (hE3.le ⟨rfl,Zxw _ _⟩)
 | exit id=>exact h1
 | goto l=>exact h1
 | ret=>exact h1
 | panic ch=>exact h1
 | outgrown=>exact h1
theorem Zvh {ba:Nat} (hb:ba≤n):Fit2 ba E O n E O n:=fun w m a hM hE=>⟨m,hM,hE,(Ext.refl w O m n).base hb⟩
theorem Zp {l l':List (Option GObj)} {k:Nat} (hU:Und X n) (hk:l'.length=k) (hn:E'.n=E.n) (h:Zi2 (Z4 X n l) (Z4 X n l') (n+k) l l'∧Zou (Z4 X n l) (Z4 X n l') (n+k) E.l E'.l):Fit E (Z4 X n l) E' (Z4 X n l') (n+k) :=
 ⟨hn,Zgp hk (OutLe.refl hU (Nat.le_add_right _ _)) h.1,h.2⟩
theorem Yc {i:Nat} {q q':GObj} {l l':List (Option GObj)} {k:Nat} (hU:Und X n) (hk:l'.length=k) (hn:E'.n=E.n)
  (h:Ziz q q'∧wkl (Z4 (X.upd i (some q)) n l) (Z4 (X.upd i (some q')) n l') (n+k) q.cells q'.cells∧Zi2 (Z4 (X.upd i (some q)) n l) (Z4 (X.upd i (some q')) n l') (n+k) l l'∧Zou (Z4 (X.upd i (some q)) n l) (Z4 (X.upd i (some q')) n l') (n+k) E.l E'.l) :
  Fit E (Z4 (X.upd i (some q)) n l) E' (Z4 (X.upd i (some q')) n l') (n+k) :=
 ⟨hn,Zgp hk (OutLe.upd hU (Nat.le_add_right _ _) h.1 h.2.1) h.2.2.1,h.2.2.2⟩
theorem Zo {ba:Nat} {r:G} {rs:List ResultVar} {l:List (Option GObj)} {e:Exit} (he:e = .normal∨e = .ret) (hU:Und X n) (gs:List G) (hb:ba≤n') (h:Zf6 T (Z4 X n l) E rs=some gs∧wk (Z4 X n l) X n (Zm1 gs) r):Fin T rs r ba X n e E (Z4 X n l) n' :=
 ⟨he,E,_,n',gs,Zvh hb,h.1,Zzw hU.fresh (OutLe.refl hU (Nat.le_refl _)),h.2⟩
end
end Go.Proofs.Ytaddaloondpnkaa
