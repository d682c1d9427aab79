/- Part H22 of the ghost memory: lemmas and contracts used by the proofs of this seat's laws; each theorem bears its own conditions. -/
import Derived.Test.YtmlcnhambfkjaaaGreatH21
namespace Go.Proofs.YtmlcnhambfkjaaaGreat
open Go.RowKit
set_option linter.unusedVariables false
set_option linter.unusedSimpArgs false
section
variable {P:Program} {O X:Objs} {n n2:Nat} {f:FuncId} {gs:List G} {r r3:G} {rows:List (Option GObj)}
theorem GTo.freeze (h:GTo P f gs O n r (Zx O n rows) n2) (hw:Und O n→wk (Zx O n rows) O n r r3):GTo P f gs O n r3 O n:=by
 refine ⟨h.1,fun w m vs hM hr => ?_⟩
 have hU:Und O n:=⟨hM.fresh,fun i o hi=>by obtain ⟨vs,hv,_⟩:=hM.obj i o hi;exact Zag _ _ hv⟩
 have hL:LessO (Zx O n rows) O n:=Z4n hU.fresh (OutLe.refl hU (Nat.le_refl _))
 refine (h.2 w m vs hM hr).mono fun e w' ⟨v,g,O',n',m',h1,h2,h3,h4,h5,h6,h7⟩ => ?_
 subst h5 h6 h7
 exact ⟨v,r3,O,n,m',h1,h2.weak hL,h3.weak hL (Nat.le_refl _),Zsb h2 hL _ v h4 _ (hw hU),rfl,rfl,rfl⟩
end
section
variable {α:Type} {xs:List α} {f:α→List G} {sz:Nat} {ph cs:List G}
theorem Z4g (hf:∀ x,(f x).length=sz) (hp:ph.length=sz) (hc:cs.length=sz):Ga (fl f xs++ph) cs (xs.length * sz)=some (fl f xs++cs):=by
 unfold Ga
 have hl:=Zac hf xs
 rw [if_pos (by rw [List.length_append,hl];omega),List.take_left' hl,List.drop_eq_nil_of_le (by rw [List.length_append,hl];omega),List.append_nil]
end
theorem Z5e (ρ:Nat→Nat):∀ a b:List G,G.rens ρ (a++b)=G.rens ρ a++G.rens ρ b
 | [],b=>by simp [G.rens]
 | x::a,b=>by simp [G.rens,Z5e ρ a b]
theorem Ybu (X:Objs) (n:Nat) (x0 x1 x2 x3 x4 x5 x6:Option GObj) (l':List (Option GObj)):Zx (Zx X n [x0,x1,x2,x3,x4,x5,x6]) (n+7) l'=Zx X n (x0::x1::x2::x3::x4::x5::x6::l'):=Zor X n [x0,x1,x2,x3,x4,x5,x6] l' rfl
theorem Ybv (X:Objs) (n:Nat) (x0 x1 x2 x3 x4 x5 x6 x7:Option GObj) (l':List (Option GObj)):Zx (Zx X n [x0,x1,x2,x3,x4,x5,x6,x7]) (n+8) l'=Zx X n (x0::x1::x2::x3::x4::x5::x6::x7::l'):=Zor X n [x0,x1,x2,x3,x4,x5,x6,x7] l' rfl
section
variable {P:Program} {T:V6} {O:Objs} {n ba:Nat} {E:Env} {Q:GQ} {x y:Code}
theorem Yi7 (s k:Nat) (cs:List G) (hs:Kv E.l s = .sl k cs) (hk:s < E.n) (hp:G.pures cs=true)
  (h:∀ A c,(A=none→k=0)→W P ba x (Yv (fun E1 O1 n1=>Kv E1.l s = .val (.slice A k c)∧s < E1.n∧W P ba y Q ⟨E1.n,E1.keep,(s,.sl k cs)::E1.l⟩ O1 n1) Q) ⟨E.n,E.keep,(s,.val (.slice A k c))::E.l⟩ O n):W P ba (.seq x y) Q E O n:=fun hb w m a hM hE=>by
 have hlt:s < a.tmps.size:=by rw [hE.size];exact hk
 have hv:=hE.at_ s _ (Array.getElem?_eq_getElem hlt)
 rw [hs] at hv
 have hv':=hv
 simp only [G.rep] at hv
 obtain ⟨A,c,e,hc,vs,hr,ha⟩:=hv
 have hA:A=none→k=0:=fun h0=>by
  rcases Nat.eq_zero_or_pos k with h1 | h1
  ·exact h1
  obtain ⟨g,off,q,_⟩:=ha (by omega)
  rw [h0] at q;cases q
 have hput:∀ (E:Env) (O:Objs) (m:Hands) (n:Nat) (w:World) (a:Act) (g:G),Holds w O m n E a→s < E.n→(∀ v,a.tmps[s]? = some v→g.rep w O m n v)→Holds w O m n ⟨E.n,E.keep,(s,g)::E.l⟩ a:=fun E O m n w a g hE hs hg=>by
  refine ⟨hE.size,fun t v hv => ?_,fun t ht => ?_,hE.defers⟩
  ·simp only [Kv]
   split
   ·rename_i e;subst e;exact hg v hv
   exact hE.at_ t v hv
  simp only [Kv]
  split
  ·rename_i e;subst e;simp only at ht;omega
  exact hE.out t ht
 refine wp_seq (wp_mono (h A c hA hb w m a hM (hput E O m n w a _ hE hk fun v hv=>by
  rw [Array.getElem?_eq_getElem hlt] at hv;injection hv with hv;subst hv;simp only [G.rep];exact e)) fun e' a' w' ⟨E2,O2,n2,m2,h1,h2,h3,h4⟩ => ?_)
 cases e' with
 | normal =>
  obtain ⟨g1,g2,g3⟩:=h1
  refine g3.then h2 (hput E2 O2 m2 n2 w' a' _ h3 g2 fun v hv => ?_) h4
  have hq:=h3.at_ s v hv
  rw [g1] at hq
  simp only [G.rep] at hq
  rw [hq,← e]
  have h0:=Zxo (n':=0) (fun _ q=>q) _ _ (show (G.sl k cs).pure=true from hp) hv'
  exact G.rep_ext (h4.base (Nat.zero_le _)) _ _ h0
 | exit id=>exact ⟨E2,O2,n2,m2,h1,h2,h3,h4⟩
 | goto l=>exact ⟨E2,O2,n2,m2,h1,h2,h3,h4⟩
 | ret=>exact ⟨E2,O2,n2,m2,h1,h2,h3,h4⟩
 | panic ch=>exact ⟨E2,O2,n2,m2,h1,h2,h3,h4⟩
 | outgrown=>exact ⟨E2,O2,n2,m2,h1,h2,h3,h4⟩
end
def Zgk:List Bool→List (Option GObj)→List (Option GObj)
 | b::ms,o::l=>(bif b then o else none)::Zgk ms l
 | _,l=>l
theorem Z32:∀ (ms:List Bool) (l:List (Option GObj)) (k:Nat) (o:GObj),((Zgk ms l)[k]?).join=some o→(l[k]?).join=some o
 | [],l,k,o,h=>by simpa [Zgk] using h
 | b::ms,[],k,o,h=>by simp [Zgk] at h
 | b::ms,x::l,0,o,h=>by
  cases b with
  | true=>simpa [Zgk] using h
  | false=>simp [Zgk] at h
 | b::ms,x::l,k+1,o,h=>by
  simp only [Zgk,List.getElem?_cons_succ] at h ⊢
  exact Z32 ms l k o h
section
variable {P:Program} {X:Objs} {n n' ba:Nat} {E:Env} {Q:GQ} {c:Code}
theorem Zsd (ks:List Nat) (ms:List Bool) {l:List (Option GObj)} (k:W P ba c Q ⟨E.n,E.keep,Zl2 E.l ks⟩ (Zx X n (Zgk ms l)) n'):W P ba c Q E (Zx X n l) n':=fun hb w m a hM hE=>by
 have hO:∀ i o',Zx X n (Zgk ms l) i=some o'→Zx X n l i=some o':=fun i o' h=>by
  unfold Zx at h ⊢
  split
  ·rename_i hi;rw [if_pos hi] at h;exact h
  rename_i hi;rw [if_neg hi] at h;exact Z32 ms l _ o' h
 have hf:∀ i,n'≤i→Zx X n (Zgk ms l) i=none:=fun i hi=>by
  cases h:Zx X n (Zgk ms l) i with
  | none=>rfl
  | some o' =>
   have h2:=hM.fresh i hi
   rw [hO i o' h] at h2
   cases h2
 have hL:LessO (Zx X n l) (Zx X n (Zgk ms l)) n':=⟨hf,fun i o' h=>by
   obtain ⟨vs,hr,_⟩:=hM.obj i o' (hO i o' h)
   exact ⟨o',hO i o' h,rfl,rfl,rfl,rfl,Zc7 _ (Zag _ _ hr)⟩⟩
 have hE2:Holds w (Zx X n l) m n' ⟨E.n,E.keep,Zl2 E.l ks⟩ a:=hE.le ⟨rfl,Zz7 _ _⟩
 refine k.then (hM.weak hL) ⟨hE2.size,fun t v hv => ?_,hE2.out,hE2.defers⟩ ((Ext.refl w _ m ba).weak hL hb)
 have:=hE2.at_ t v hv
 exact Zm4 hL.mini _ _ this (Zxz _ _ this)
end
end Go.Proofs.YtmlcnhambfkjaaaGreat
