/- Part H22 of the ghost memory: lemmas and contracts used by the proofs of this seat's laws; each theorem bears its own conditions. -/
import Derived.Test.YtocpndlnbmjpmaaH21
namespace Go.Proofs.Ytocpndlnbmjpmaa
open Go.RowKit
set_option linter.unusedVariables false
set_option linter.unusedSimpArgs false
section
variable {α:Type} {xs:List α} {f:α→List G} {sz:Nat} {ph cs:List G}
theorem Zbr (hf:∀ x,(f x).length=sz) (hp:ph.length=sz) (hc:cs.length=sz):J5 (fl f xs++ph) cs (xs.length * sz)=some (fl f xs++cs):=by
 unfold J5
 have hl:=Gz hf xs
 rw [if_pos (by rw [List.length_append,hl];omega),List.take_left' hl,List.drop_eq_nil_of_le (by rw [List.length_append,hl];omega),List.append_nil]
end
theorem Zvz (ρ:Nat→Nat):∀ a b:List G,G.rens ρ (a++b)=G.rens ρ a++G.rens ρ b
 | [],b=>by simp [G.rens]
 | x::a,b=>by simp [G.rens,Zvz ρ a b]
theorem Zuh (X:Objs) (n:Nat) (x0 x1 x2 x3 x4 x5:Option GObj) (l':List (Option GObj)):Zx (Zx X n [x0,x1,x2,x3,x4,x5]) (n+6) l'=Zx X n (x0::x1::x2::x3::x4::x5::l'):=Uc X n [x0,x1,x2,x3,x4,x5] l' rfl
theorem Z51 (X:Objs) (n:Nat) (x0 x1 x2 x3 x4 x5 x6:Option GObj) (l':List (Option GObj)):Zx (Zx X n [x0,x1,x2,x3,x4,x5,x6]) (n+7) l'=Zx X n (x0::x1::x2::x3::x4::x5::x6::l'):=Uc X n [x0,x1,x2,x3,x4,x5,x6] l' rfl
theorem Z52 (X:Objs) (n:Nat) (x0 x1 x2 x3 x4 x5 x6 x7:Option GObj) (l':List (Option GObj)):Zx (Zx X n [x0,x1,x2,x3,x4,x5,x6,x7]) (n+8) l'=Zx X n (x0::x1::x2::x3::x4::x5::x6::x7::l'):=Uc X n [x0,x1,x2,x3,x4,x5,x6,x7] l' rfl
theorem Zzo (X:Objs) (n:Nat) (x0 x1 x2 x3 x4 x5 x6 x7 x8:Option GObj) (l':List (Option GObj)):Zx (Zx X n [x0,x1,x2,x3,x4,x5,x6,x7,x8]) (n+9) l'=Zx X n (x0::x1::x2::x3::x4::x5::x6::x7::x8::l'):=Uc X n [x0,x1,x2,x3,x4,x5,x6,x7,x8] l' rfl
theorem Z4o (X:Objs) (n:Nat) (x0 x1 x2 x3 x4 x5 x6 x7 x8 x9:Option GObj) (l':List (Option GObj)):Zx (Zx X n [x0,x1,x2,x3,x4,x5,x6,x7,x8,x9]) (n+10) l'=Zx X n (x0::x1::x2::x3::x4::x5::x6::x7::x8::x9::l'):=Uc X n [x0,x1,x2,x3,x4,x5,x6,x7,x8,x9] l' rfl
theorem Z4p (X:Objs) (n:Nat) (x0 x1 x2 x3 x4 x5 x6 x7 x8 x9 x10:Option GObj) (l':List (Option GObj)):Zx (Zx X n [x0,x1,x2,x3,x4,x5,x6,x7,x8,x9,x10]) (n+11) l'=Zx X n (x0::x1::x2::x3::x4::x5::x6::x7::x8::x9::x10::l'):=Uc X n [x0,x1,x2,x3,x4,x5,x6,x7,x8,x9,x10] l' rfl
theorem Z4q (X:Objs) (n:Nat) (x0 x1 x2 x3 x4 x5 x6 x7 x8 x9 x10 x11:Option GObj) (l':List (Option GObj)):Zx (Zx X n [x0,x1,x2,x3,x4,x5,x6,x7,x8,x9,x10,x11]) (n+12) l'=Zx X n (x0::x1::x2::x3::x4::x5::x6::x7::x8::x9::x10::x11::l'):=Uc X n [x0,x1,x2,x3,x4,x5,x6,x7,x8,x9,x10,x11] l' rfl
theorem Z4r (X:Objs) (n:Nat) (x0 x1 x2 x3 x4 x5 x6 x7 x8 x9 x10 x11 x12 x13:Option GObj) (l':List (Option GObj)):Zx (Zx X n [x0,x1,x2,x3,x4,x5,x6,x7,x8,x9,x10,x11,x12,x13]) (n+14) l'=Zx X n (x0::x1::x2::x3::x4::x5::x6::x7::x8::x9::x10::x11::x12::x13::l'):=Uc X n [x0,x1,x2,x3,x4,x5,x6,x7,x8,x9,x10,x11,x12,x13] l' rfl
theorem Z4s (X:Objs) (n:Nat) (x0 x1 x2 x3 x4 x5 x6 x7 x8 x9 x10 x11 x12 x13 x14 x15:Option GObj) (l':List (Option GObj)):Zx (Zx X n [x0,x1,x2,x3,x4,x5,x6,x7,x8,x9,x10,x11,x12,x13,x14,x15]) (n+16) l'=Zx X n (x0::x1::x2::x3::x4::x5::x6::x7::x8::x9::x10::x11::x12::x13::x14::x15::l'):=Uc X n [x0,x1,x2,x3,x4,x5,x6,x7,x8,x9,x10,x11,x12,x13,x14,x15] l' rfl
theorem Z4t (X:Objs) (n:Nat) (x0 x1 x2 x3 x4 x5 x6 x7 x8 x9 x10 x11 x12 x13 x14 x15 x16:Option GObj) (l':List (Option GObj)):Zx (Zx X n [x0,x1,x2,x3,x4,x5,x6,x7,x8,x9,x10,x11,x12,x13,x14,x15,x16]) (n+17) l'=Zx X n (x0::x1::x2::x3::x4::x5::x6::x7::x8::x9::x10::x11::x12::x13::x14::x15::x16::l'):=Uc X n [x0,x1,x2,x3,x4,x5,x6,x7,x8,x9,x10,x11,x12,x13,x14,x15,x16] l' rfl
theorem Z4u (X:Objs) (n:Nat) (x0 x1 x2 x3 x4 x5 x6 x7 x8 x9 x10 x11 x12 x13 x14 x15 x16 x17:Option GObj) (l':List (Option GObj)):Zx (Zx X n [x0,x1,x2,x3,x4,x5,x6,x7,x8,x9,x10,x11,x12,x13,x14,x15,x16,x17]) (n+18) l'=Zx X n (x0::x1::x2::x3::x4::x5::x6::x7::x8::x9::x10::x11::x12::x13::x14::x15::x16::x17::l'):=Uc X n [x0,x1,x2,x3,x4,x5,x6,x7,x8,x9,x10,x11,x12,x13,x14,x15,x16,x17] l' rfl
theorem Z4v (X:Objs) (n:Nat) (x0 x1 x2 x3 x4 x5 x6 x7 x8 x9 x10 x11 x12 x13 x14 x15 x16 x17 x18 x19 x20 x21:Option GObj) (l':List (Option GObj)):Zx (Zx X n [x0,x1,x2,x3,x4,x5,x6,x7,x8,x9,x10,x11,x12,x13,x14,x15,x16,x17,x18,x19,x20,x21]) (n+22) l'=Zx X n (x0::x1::x2::x3::x4::x5::x6::x7::x8::x9::x10::x11::x12::x13::x14::x15::x16::x17::x18::x19::x20::x21::l'):=Uc X n [x0,x1,x2,x3,x4,x5,x6,x7,x8,x9,x10,x11,x12,x13,x14,x15,x16,x17,x18,x19,x20,x21] l' rfl
section
variable {P:Program} {T:V3} {O:Objs} {n ba:Nat} {E:Env} {Q:GQ} {x y:Code}
theorem Yaw (s k:Nat) (cs:List G) (hs:K1 E.l s = .sl k cs) (hk:s < E.n) (hp:G.pures cs=true)
  (h:∀ A c,(A=none→k=0)→W P ba x (Xh (fun E1 O1 n1=>K1 E1.l s = .val (.slice A k c)∧s < E1.n∧W P ba y Q ⟨E1.n,E1.keep,(s,.sl k cs)::E1.l⟩ O1 n1) Q) ⟨E.n,E.keep,(s,.val (.slice A k c))::E.l⟩ O n):W P ba (.seq x y) Q E O n:=fun hb w m a hM hE=>by
 have hlt:s < a.tmps.size:=by rw [hE.size];exact hk
 have hv:=hE.at_ s _ (Array.getElem?_eq_getElem hlt)
 rw [hs] at hv
 have hv':=hv
 simp only [G.rep] at hv
 obtain ⟨A,c,e,hc,vs,hr,ha⟩:=hv
 have hA:A=none→k=0:=fun h0=>by
  rcases Nat.eq_zero_or_pos k with h1 | h1
  ·exact h1
  obtain ⟨g,off,q,_⟩:=ha (by omega)
  rw [h0] at q;cases q
 have hput:∀ (E:Env) (O:Objs) (m:Hands) (n:Nat) (w:World) (a:Act) (g:G),Holds w O m n E a→s < E.n→(∀ v,a.tmps[s]? = some v→g.rep w O m n v)→Holds w O m n ⟨E.n,E.keep,(s,g)::E.l⟩ a:=fun E O m n w a g hE hs hg=>by
  refine ⟨hE.size,fun t v hv => ?_,fun t ht => ?_,hE.defers⟩
  ·simp only [K1]
   split
   ·rename_i e;subst e;exact hg v hv
   exact hE.at_ t v hv
  simp only [K1]
  split
  ·rename_i e;subst e;simp only at ht;omega
  exact hE.out t ht
 refine wp_seq (wp_mono (h A c hA hb w m a hM (hput E O m n w a _ hE hk fun v hv=>by
  rw [Array.getElem?_eq_getElem hlt] at hv;injection hv with hv;subst hv;simp only [G.rep];exact e)) fun e' a' w' ⟨E2,O2,n2,m2,h1,h2,h3,h4⟩ => ?_)
 cases e' with
 | normal =>
  obtain ⟨g1,g2,g3⟩:=h1
  refine g3.then h2 (hput E2 O2 m2 n2 w' a' _ h3 g2 fun v hv => ?_) h4
  have hq:=h3.at_ s v hv
  rw [g1] at hq
  simp only [G.rep] at hq
  rw [hq,← e]
  have h0:=Zv0 (n':=0) (fun _ q=>q) _ _ (show (G.sl k cs).pure=true from hp) hv'
  exact G.rep_ext (h4.base (Nat.zero_le _)) _ _ h0
 | exit id=>exact ⟨E2,O2,n2,m2,h1,h2,h3,h4⟩
 | goto l=>exact ⟨E2,O2,n2,m2,h1,h2,h3,h4⟩
 | ret=>exact ⟨E2,O2,n2,m2,h1,h2,h3,h4⟩
 | panic ch=>exact ⟨E2,O2,n2,m2,h1,h2,h3,h4⟩
 | outgrown=>exact ⟨E2,O2,n2,m2,h1,h2,h3,h4⟩
end
def Zgv:List Bool→List (Option GObj)→List (Option GObj)
 | b::ms,o::l=>(bif b then o else none)::Zgv ms l
 | _,l=>l
theorem Zzy:∀ (ms:List Bool) (l:List (Option GObj)) (k:Nat) (o:GObj),((Zgv ms l)[k]?).join=some o→(l[k]?).join=some o
 | [],l,k,o,h=>by simpa [Zgv] using h
 | b::ms,[],k,o,h=>by simp [Zgv] at h
 | b::ms,x::l,0,o,h=>by
  cases b with
  | true=>simpa [Zgv] using h
  | false=>simp [Zgv] at h
 | b::ms,x::l,k+1,o,h=>by
  simp only [Zgv,List.getElem?_cons_succ] at h ⊢
  exact Zzy ms l k o h
section
variable {P:Program} {X:Objs} {n n' ba:Nat} {E:Env} {Q:GQ} {c:Code}
theorem Zsx (ks:List Nat) (ms:List Bool) {l:List (Option GObj)} (k:W P ba c Q ⟨E.n,E.keep,Zmf E.l ks⟩ (Zx X n (Zgv ms l)) n'):W P ba c Q E (Zx X n l) n':=fun hb w m a hM hE=>by
 have hO:∀ i o',Zx X n (Zgv ms l) i=some o'→Zx X n l i=some o':=fun i o' h=>by
  unfold Zx at h ⊢
  split
  ·rename_i hi;rw [if_pos hi] at h;exact h
  rename_i hi;rw [if_neg hi] at h;exact Zzy ms l _ o' h
 have hf:∀ i,n'≤i→Zx X n (Zgv ms l) i=none:=fun i hi=>by
  cases h:Zx X n (Zgv ms l) i with
  | none=>rfl
  | some o' =>
   have h2:=hM.fresh i hi
   rw [hO i o' h] at h2
   cases h2
 have hL:LessO (Zx X n l) (Zx X n (Zgv ms l)) n':=⟨hf,fun i o' h=>by
   obtain ⟨vs,hr,_⟩:=hM.obj i o' (hO i o' h)
   exact ⟨o',hO i o' h,rfl,rfl,rfl,rfl,Zd3 _ (Zcp _ _ hr)⟩⟩
 have hE2:Holds w (Zx X n l) m n' ⟨E.n,E.keep,Zmf E.l ks⟩ a:=hE.le ⟨rfl,Zyz _ _⟩
 refine k.then (hM.weak hL) ⟨hE2.size,fun t v hv => ?_,hE2.out,hE2.defers⟩ ((Ext.refl w _ m ba).weak hL hb)
 have:=hE2.at_ t v hv
 exact Zoo hL.mini _ _ this (Zw1 _ _ this)
end
end Go.Proofs.Ytocpndlnbmjpmaa
