/- Part H22 of the ghost memory: lemmas and contracts used by the proofs of this seat's laws; each theorem bears its own conditions. -/
import Derived.Test.YtmjjjfamipncdaaGreatH21
namespace Go.Proofs.YtmjjjfamipncdaaGreat
open Go.RowKit
set_option linter.unusedVariables false
set_option linter.unusedSimpArgs false
section
variable {P:Program} {O X:Objs} {n n2:Nat} {f:FuncId} {gs:List G} {r r3:G} {rows:List (Option GObj)}
theorem GTo.freeze (h:GTo P f gs O n r (Z3 O n rows) n2) (hw:Und O n→wk (Z3 O n rows) O n r r3):GTo P f gs O n r3 O n:=by
 refine ⟨h.1,fun w m vs hM hr => ?_⟩
 have hU:Und O n:=⟨hM.fresh,fun i o hi=>by obtain ⟨vs,hv,_⟩:=hM.obj i o hi;exact Jv _ _ hv⟩
 have hL:LessO (Z3 O n rows) O n:=Z0m hU.fresh (OutLe.refl hU (Nat.le_refl _))
 refine (h.2 w m vs hM hr).mono fun e w' ⟨v,g,O',n',m',h1,h2,h3,h4,h5,h6,h7⟩ => ?_
 subst h5 h6 h7
 exact ⟨v,r3,O,n,m',h1,h2.weak hL,h3.weak hL (Nat.le_refl _),Zh2 h2 hL _ v h4 _ (hw hU),rfl,rfl,rfl⟩
end
section
variable {P:Program} {T:J0} {O:Objs} {n ba:Nat} {E:Env} {Q:GQ} {x y:Code}
theorem Z7b (s k:Nat) (cs:List G) (hs:Qy E.l s = .sl k cs) (hk:s < E.n) (hp:G.pures cs=true)
  (h:∀ A c,(A=none→k=0)→W P ba x (Zh (fun E1 O1 n1=>Qy E1.l s = .val (.slice A k c)∧s < E1.n∧W P ba y Q ⟨E1.n,E1.keep,(s,.sl k cs)::E1.l⟩ O1 n1) Q) ⟨E.n,E.keep,(s,.val (.slice A k c))::E.l⟩ O n):W P ba (.seq x y) Q E O n:=fun hb w m a hM hE=>by
 have hlt:s < a.tmps.size:=by rw [hE.size];exact hk
 have hv:=hE.at_ s _ (Array.getElem?_eq_getElem hlt)
 rw [hs] at hv
 have hv':=hv
 simp only [G.rep] at hv
 obtain ⟨A,c,e,hc,vs,hr,ha⟩:=hv
 have hA:A=none→k=0:=fun h0=>by
  rcases Nat.eq_zero_or_pos k with h1 | h1
  ·exact h1
  obtain ⟨g,off,q,_⟩:=ha (by omega)
  rw [h0] at q;cases q
 have hput:∀ (E:Env) (O:Objs) (m:Hands) (n:Nat) (w:World) (a:Act) (g:G),Holds w O m n E a→s < E.n→(∀ v,a.tmps[s]? = some v→g.rep w O m n v)→Holds w O m n ⟨E.n,E.keep,(s,g)::E.l⟩ a:=fun E O m n w a g hE hs hg=>by
  refine ⟨hE.size,fun t v hv => ?_,fun t ht => ?_,hE.defers⟩
  ·simp only [Qy]
   split
   ·rename_i e;subst e;exact hg v hv
   exact hE.at_ t v hv
  simp only [Qy]
  split
  ·rename_i e;subst e;simp only at ht;omega
  exact hE.out t ht
 refine wp_seq (wp_mono (h A c hA hb w m a hM (hput E O m n w a _ hE hk fun v hv=>by
  rw [Array.getElem?_eq_getElem hlt] at hv;injection hv with hv;subst hv;simp only [G.rep];exact e)) fun e' a' w' ⟨E2,O2,n2,m2,h1,h2,h3,h4⟩ => ?_)
 cases e' with
 | normal =>
  obtain ⟨g1,g2,g3⟩:=h1
  refine g3.then h2 (hput E2 O2 m2 n2 w' a' _ h3 g2 fun v hv => ?_) h4
  have hq:=h3.at_ s v hv
  rw [g1] at hq
  simp only [G.rep] at hq
  rw [hq,← e]
  have h0:=Zui (n':=0) (fun _ q=>q) _ _ (show (G.sl k cs).pure=true from hp) hv'
  exact G.rep_ext (h4.base (Nat.zero_le _)) _ _ h0
 | exit id=>exact ⟨E2,O2,n2,m2,h1,h2,h3,h4⟩
 | goto l=>exact ⟨E2,O2,n2,m2,h1,h2,h3,h4⟩
 | ret=>exact ⟨E2,O2,n2,m2,h1,h2,h3,h4⟩
 | panic ch=>exact ⟨E2,O2,n2,m2,h1,h2,h3,h4⟩
 | outgrown=>exact ⟨E2,O2,n2,m2,h1,h2,h3,h4⟩
end
def Zca:List Bool→List (Option GObj)→List (Option GObj)
 | b::ms,o::l=>(bif b then o else none)::Zca ms l
 | _,l=>l
theorem Zzz:∀ (ms:List Bool) (l:List (Option GObj)) (k:Nat) (o:GObj),((Zca ms l)[k]?).join=some o→(l[k]?).join=some o
 | [],l,k,o,h=>by simpa [Zca] using h
 | b::ms,[],k,o,h=>by simp [Zca] at h
 | b::ms,x::l,0,o,h=>by
  cases b with
  | true=>simpa [Zca] using h
  | false=>simp [Zca] at h
 | b::ms,x::l,k+1,o,h=>by
  simp only [Zca,List.getElem?_cons_succ] at h ⊢
  exact Zzz ms l k o h
section
variable {P:Program} {X:Objs} {n n' ba:Nat} {E:Env} {Q:GQ} {c:Code}
theorem Zg (ks:List Nat) (ms:List Bool) {l:List (Option GObj)} (k:W P ba c Q ⟨E.n,E.keep,Zge E.l ks⟩ (Z3 X n (Zca ms l)) n'):W P ba c Q E (Z3 X n l) n':=fun hb w m a hM hE=>by
 have hO:∀ i o',Z3 X n (Zca ms l) i=some o'→Z3 X n l i=some o':=fun i o' h=>by
  unfold Z3 at h ⊢
  split
  ·rename_i hi;rw [if_pos hi] at h;exact h
  rename_i hi;rw [if_neg hi] at h;exact Zzz ms l _ o' h
 have hf:∀ i,n'≤i→Z3 X n (Zca ms l) i=none:=fun i hi=>by
  cases h:Z3 X n (Zca ms l) i with
  | none=>rfl
  | some o' =>
   have h2:=hM.fresh i hi
   rw [hO i o' h] at h2
   cases h2
 have hL:LessO (Z3 X n l) (Z3 X n (Zca ms l)) n':=⟨hf,fun i o' h=>by
   obtain ⟨vs,hr,_⟩:=hM.obj i o' (hO i o' h)
   exact ⟨o',hO i o' h,rfl,rfl,rfl,rfl,Uw _ (Jv _ _ hr)⟩⟩
 have hE2:Holds w (Z3 X n l) m n' ⟨E.n,E.keep,Zge E.l ks⟩ a:=hE.le ⟨rfl,Zyd _ _⟩
 refine k.then (hM.weak hL) ⟨hE2.size,fun t v hv => ?_,hE2.out,hE2.defers⟩ ((Ext.refl w _ m ba).weak hL hb)
 have:=hE2.at_ t v hv
 exact Zlm hL.mini _ _ this (Zuv _ _ this)
end
end Go.Proofs.YtmjjjfamipncdaaGreat
