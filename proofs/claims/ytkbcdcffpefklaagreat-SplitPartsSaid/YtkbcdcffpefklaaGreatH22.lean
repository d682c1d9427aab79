/- Part H22 of the ghost memory: lemmas and contracts used by the proofs of this seat's laws; each theorem bears its own conditions. -/
import Derived.Test.YtkbcdcffpefklaaGreatH21
namespace Go.Proofs.YtkbcdcffpefklaaGreat
open Go.RowKit
set_option linter.unusedVariables false
set_option linter.unusedSimpArgs false
section
variable {α:Type} {xs:List α} {f:α→List G} {sz:Nat} {ph cs:List G}
theorem Zf8 (hf:∀ x,(f x).length=sz) (hp:ph.length=sz) (hc:cs.length=sz):Ke (fl f xs++ph) cs (xs.length * sz)=some (fl f xs++cs):=by
 unfold Ke
 have hl:=Qu hf xs
 rw [if_pos (by rw [List.length_append,hl];omega),List.take_left' hl,List.drop_eq_nil_of_le (by rw [List.length_append,hl];omega),List.append_nil]
end
theorem Zou (ρ:Nat→Nat):∀ a b:List G,G.rens ρ (a++b)=G.rens ρ a++G.rens ρ b
 | [],b=>by simp [G.rens]
 | x::a,b=>by simp [G.rens,Zou ρ a b]
theorem Zrz (X:Objs) (n:Nat) (x0 x1 x2 x3 x4 x5:Option GObj) (l':List (Option GObj)):Zr (Zr X n [x0,x1,x2,x3,x4,x5]) (n+6) l'=Zr X n (x0::x1::x2::x3::x4::x5::l'):=Xk X n [x0,x1,x2,x3,x4,x5] l' rfl
theorem Zr0 (X:Objs) (n:Nat) (x0 x1 x2 x3 x4 x5 x6:Option GObj) (l':List (Option GObj)):Zr (Zr X n [x0,x1,x2,x3,x4,x5,x6]) (n+7) l'=Zr X n (x0::x1::x2::x3::x4::x5::x6::l'):=Xk X n [x0,x1,x2,x3,x4,x5,x6] l' rfl
theorem Zr1 (X:Objs) (n:Nat) (x0 x1 x2 x3 x4 x5 x6 x7:Option GObj) (l':List (Option GObj)):Zr (Zr X n [x0,x1,x2,x3,x4,x5,x6,x7]) (n+8) l'=Zr X n (x0::x1::x2::x3::x4::x5::x6::x7::l'):=Xk X n [x0,x1,x2,x3,x4,x5,x6,x7] l' rfl
theorem Zr2 (X:Objs) (n:Nat) (x0 x1 x2 x3 x4 x5 x6 x7 x8:Option GObj) (l':List (Option GObj)):Zr (Zr X n [x0,x1,x2,x3,x4,x5,x6,x7,x8]) (n+9) l'=Zr X n (x0::x1::x2::x3::x4::x5::x6::x7::x8::l'):=Xk X n [x0,x1,x2,x3,x4,x5,x6,x7,x8] l' rfl
theorem Zo0 (X:Objs) (n:Nat) (x0 x1 x2 x3 x4 x5 x6 x7 x8 x9:Option GObj) (l':List (Option GObj)):Zr (Zr X n [x0,x1,x2,x3,x4,x5,x6,x7,x8,x9]) (n+10) l'=Zr X n (x0::x1::x2::x3::x4::x5::x6::x7::x8::x9::l'):=Xk X n [x0,x1,x2,x3,x4,x5,x6,x7,x8,x9] l' rfl
theorem Zo1 (X:Objs) (n:Nat) (x0 x1 x2 x3 x4 x5 x6 x7 x8 x9 x10:Option GObj) (l':List (Option GObj)):Zr (Zr X n [x0,x1,x2,x3,x4,x5,x6,x7,x8,x9,x10]) (n+11) l'=Zr X n (x0::x1::x2::x3::x4::x5::x6::x7::x8::x9::x10::l'):=Xk X n [x0,x1,x2,x3,x4,x5,x6,x7,x8,x9,x10] l' rfl
theorem Zo2 (X:Objs) (n:Nat) (x0 x1 x2 x3 x4 x5 x6 x7 x8 x9 x10 x11:Option GObj) (l':List (Option GObj)):Zr (Zr X n [x0,x1,x2,x3,x4,x5,x6,x7,x8,x9,x10,x11]) (n+12) l'=Zr X n (x0::x1::x2::x3::x4::x5::x6::x7::x8::x9::x10::x11::l'):=Xk X n [x0,x1,x2,x3,x4,x5,x6,x7,x8,x9,x10,x11] l' rfl
theorem Zo3 (X:Objs) (n:Nat) (x0 x1 x2 x3 x4 x5 x6 x7 x8 x9 x10 x11 x12:Option GObj) (l':List (Option GObj)):Zr (Zr X n [x0,x1,x2,x3,x4,x5,x6,x7,x8,x9,x10,x11,x12]) (n+13) l'=Zr X n (x0::x1::x2::x3::x4::x5::x6::x7::x8::x9::x10::x11::x12::l'):=Xk X n [x0,x1,x2,x3,x4,x5,x6,x7,x8,x9,x10,x11,x12] l' rfl
theorem Zo4 (X:Objs) (n:Nat) (x0 x1 x2 x3 x4 x5 x6 x7 x8 x9 x10 x11 x12 x13:Option GObj) (l':List (Option GObj)):Zr (Zr X n [x0,x1,x2,x3,x4,x5,x6,x7,x8,x9,x10,x11,x12,x13]) (n+14) l'=Zr X n (x0::x1::x2::x3::x4::x5::x6::x7::x8::x9::x10::x11::x12::x13::l'):=Xk X n [x0,x1,x2,x3,x4,x5,x6,x7,x8,x9,x10,x11,x12,x13] l' rfl
theorem Zo5 (X:Objs) (n:Nat) (x0 x1 x2 x3 x4 x5 x6 x7 x8 x9 x10 x11 x12 x13 x14:Option GObj) (l':List (Option GObj)):Zr (Zr X n [x0,x1,x2,x3,x4,x5,x6,x7,x8,x9,x10,x11,x12,x13,x14]) (n+15) l'=Zr X n (x0::x1::x2::x3::x4::x5::x6::x7::x8::x9::x10::x11::x12::x13::x14::l'):=Xk X n [x0,x1,x2,x3,x4,x5,x6,x7,x8,x9,x10,x11,x12,x13,x14] l' rfl
theorem Zo6 (X:Objs) (n:Nat) (x0 x1 x2 x3 x4 x5 x6 x7 x8 x9 x10 x11 x12 x13 x14 x15:Option GObj) (l':List (Option GObj)):Zr (Zr X n [x0,x1,x2,x3,x4,x5,x6,x7,x8,x9,x10,x11,x12,x13,x14,x15]) (n+16) l'=Zr X n (x0::x1::x2::x3::x4::x5::x6::x7::x8::x9::x10::x11::x12::x13::x14::x15::l'):=Xk X n [x0,x1,x2,x3,x4,x5,x6,x7,x8,x9,x10,x11,x12,x13,x14,x15] l' rfl
theorem Zo7 (X:Objs) (n:Nat) (x0 x1 x2 x3 x4 x5 x6 x7 x8 x9 x10 x11 x12 x13 x14 x15 x16:Option GObj) (l':List (Option GObj)):Zr (Zr X n [x0,x1,x2,x3,x4,x5,x6,x7,x8,x9,x10,x11,x12,x13,x14,x15,x16]) (n+17) l'=Zr X n (x0::x1::x2::x3::x4::x5::x6::x7::x8::x9::x10::x11::x12::x13::x14::x15::x16::l'):=Xk X n [x0,x1,x2,x3,x4,x5,x6,x7,x8,x9,x10,x11,x12,x13,x14,x15,x16] l' rfl
theorem Zo8 (X:Objs) (n:Nat) (x0 x1 x2 x3 x4 x5 x6 x7 x8 x9 x10 x11 x12 x13 x14 x15 x16 x17:Option GObj) (l':List (Option GObj)):Zr (Zr X n [x0,x1,x2,x3,x4,x5,x6,x7,x8,x9,x10,x11,x12,x13,x14,x15,x16,x17]) (n+18) l'=Zr X n (x0::x1::x2::x3::x4::x5::x6::x7::x8::x9::x10::x11::x12::x13::x14::x15::x16::x17::l'):=Xk X n [x0,x1,x2,x3,x4,x5,x6,x7,x8,x9,x10,x11,x12,x13,x14,x15,x16,x17] l' rfl
theorem Zo9 (X:Objs) (n:Nat) (x0 x1 x2 x3 x4 x5 x6 x7 x8 x9 x10 x11 x12 x13 x14 x15 x16 x17 x18:Option GObj) (l':List (Option GObj)):Zr (Zr X n [x0,x1,x2,x3,x4,x5,x6,x7,x8,x9,x10,x11,x12,x13,x14,x15,x16,x17,x18]) (n+19) l'=Zr X n (x0::x1::x2::x3::x4::x5::x6::x7::x8::x9::x10::x11::x12::x13::x14::x15::x16::x17::x18::l'):=Xk X n [x0,x1,x2,x3,x4,x5,x6,x7,x8,x9,x10,x11,x12,x13,x14,x15,x16,x17,x18] l' rfl
theorem Zpa (X:Objs) (n:Nat) (x0 x1 x2 x3 x4 x5 x6 x7 x8 x9 x10 x11 x12 x13 x14 x15 x16 x17 x18 x19:Option GObj) (l':List (Option GObj)):Zr (Zr X n [x0,x1,x2,x3,x4,x5,x6,x7,x8,x9,x10,x11,x12,x13,x14,x15,x16,x17,x18,x19]) (n+20) l'=Zr X n (x0::x1::x2::x3::x4::x5::x6::x7::x8::x9::x10::x11::x12::x13::x14::x15::x16::x17::x18::x19::l'):=Xk X n [x0,x1,x2,x3,x4,x5,x6,x7,x8,x9,x10,x11,x12,x13,x14,x15,x16,x17,x18,x19] l' rfl
theorem Zpb (X:Objs) (n:Nat) (x0 x1 x2 x3 x4 x5 x6 x7 x8 x9 x10 x11 x12 x13 x14 x15 x16 x17 x18 x19 x20:Option GObj) (l':List (Option GObj)):Zr (Zr X n [x0,x1,x2,x3,x4,x5,x6,x7,x8,x9,x10,x11,x12,x13,x14,x15,x16,x17,x18,x19,x20]) (n+21) l'=Zr X n (x0::x1::x2::x3::x4::x5::x6::x7::x8::x9::x10::x11::x12::x13::x14::x15::x16::x17::x18::x19::x20::l'):=Xk X n [x0,x1,x2,x3,x4,x5,x6,x7,x8,x9,x10,x11,x12,x13,x14,x15,x16,x17,x18,x19,x20] l' rfl
theorem Zpc (X:Objs) (n:Nat) (x0 x1 x2 x3 x4 x5 x6 x7 x8 x9 x10 x11 x12 x13 x14 x15 x16 x17 x18 x19 x20 x21:Option GObj) (l':List (Option GObj)):Zr (Zr X n [x0,x1,x2,x3,x4,x5,x6,x7,x8,x9,x10,x11,x12,x13,x14,x15,x16,x17,x18,x19,x20,x21]) (n+22) l'=Zr X n (x0::x1::x2::x3::x4::x5::x6::x7::x8::x9::x10::x11::x12::x13::x14::x15::x16::x17::x18::x19::x20::x21::l'):=Xk X n [x0,x1,x2,x3,x4,x5,x6,x7,x8,x9,x10,x11,x12,x13,x14,x15,x16,x17,x18,x19,x20,x21] l' rfl
section
variable {P:Program} {T:K4} {O:Objs} {n ba:Nat} {E:Env} {Q:GQ} {x y:Code}
theorem Yf1 (s k:Nat) (cs:List G) (hs:Js E.l s = .sl k cs) (hk:s < E.n) (hp:G.pures cs=true)
  (h:∀ A c,(A=none→k=0)→W P ba x (Yg (fun E1 O1 n1=>Js E1.l s = .val (.slice A k c)∧s < E1.n∧W P ba y Q ⟨E1.n,E1.keep,(s,.sl k cs)::E1.l⟩ O1 n1) Q) ⟨E.n,E.keep,(s,.val (.slice A k c))::E.l⟩ O n):W P ba (.seq x y) Q E O n:=fun hb w m a hM hE=>by
 have hlt:s < a.tmps.size:=by rw [hE.size];exact hk
 have hv:=hE.at_ s _ (Array.getElem?_eq_getElem hlt)
 rw [hs] at hv
 have hv':=hv
 simp only [G.rep] at hv
 obtain ⟨A,c,e,hc,vs,hr,ha⟩:=hv
 have hA:A=none→k=0:=fun h0=>by
  rcases Nat.eq_zero_or_pos k with h1 | h1
  ·exact h1
  obtain ⟨g,off,q,_⟩:=ha (by omega)
  rw [h0] at q;cases q
 have hput:∀ (E:Env) (O:Objs) (m:Hands) (n:Nat) (w:World) (a:Act) (g:G),Holds w O m n E a→s < E.n→(∀ v,a.tmps[s]? = some v→g.rep w O m n v)→Holds w O m n ⟨E.n,E.keep,(s,g)::E.l⟩ a:=fun E O m n w a g hE hs hg=>by
  refine ⟨hE.size,fun t v hv => ?_,fun t ht => ?_,hE.defers⟩
  ·simp only [Js]
   split
   ·rename_i e;subst e;exact hg v hv
   exact hE.at_ t v hv
  simp only [Js]
  split
  ·rename_i e;subst e;simp only at ht;omega
  exact hE.out t ht
 refine wp_seq (wp_mono (h A c hA hb w m a hM (hput E O m n w a _ hE hk fun v hv=>by
  rw [Array.getElem?_eq_getElem hlt] at hv;injection hv with hv;subst hv;simp only [G.rep];exact e)) fun e' a' w' ⟨E2,O2,n2,m2,h1,h2,h3,h4⟩ => ?_)
 cases e' with
 | normal =>
  obtain ⟨g1,g2,g3⟩:=h1
  refine g3.then h2 (hput E2 O2 m2 n2 w' a' _ h3 g2 fun v hv => ?_) h4
  have hq:=h3.at_ s v hv
  rw [g1] at hq
  simp only [G.rep] at hq
  rw [hq,← e]
  have h0:=Zz2 (n':=0) (fun _ q=>q) _ _ (show (G.sl k cs).pure=true from hp) hv'
  exact G.rep_ext (h4.base (Nat.zero_le _)) _ _ h0
 | exit id=>exact ⟨E2,O2,n2,m2,h1,h2,h3,h4⟩
 | goto l=>exact ⟨E2,O2,n2,m2,h1,h2,h3,h4⟩
 | ret=>exact ⟨E2,O2,n2,m2,h1,h2,h3,h4⟩
 | panic ch=>exact ⟨E2,O2,n2,m2,h1,h2,h3,h4⟩
 | outgrown=>exact ⟨E2,O2,n2,m2,h1,h2,h3,h4⟩
end
def Ziu:List Bool→List (Option GObj)→List (Option GObj)
 | b::ms,o::l=>(bif b then o else none)::Ziu ms l
 | _,l=>l
theorem Z4s:∀ (ms:List Bool) (l:List (Option GObj)) (k:Nat) (o:GObj),((Ziu ms l)[k]?).join=some o→(l[k]?).join=some o
 | [],l,k,o,h=>by simpa [Ziu] using h
 | b::ms,[],k,o,h=>by simp [Ziu] at h
 | b::ms,x::l,0,o,h=>by
  cases b with
  | true=>simpa [Ziu] using h
  | false=>simp [Ziu] at h
 | b::ms,x::l,k+1,o,h=>by
  simp only [Ziu,List.getElem?_cons_succ] at h ⊢
  exact Z4s ms l k o h
section
variable {P:Program} {X:Objs} {n n' ba:Nat} {E:Env} {Q:GQ} {c:Code}
theorem Zue (ks:List Nat) (ms:List Bool) {l:List (Option GObj)} (k:W P ba c Q ⟨E.n,E.keep,Zog E.l ks⟩ (Zr X n (Ziu ms l)) n'):W P ba c Q E (Zr X n l) n':=fun hb w m a hM hE=>by
 have hO:∀ i o',Zr X n (Ziu ms l) i=some o'→Zr X n l i=some o':=fun i o' h=>by
  unfold Zr at h ⊢
  split
  ·rename_i hi;rw [if_pos hi] at h;exact h
  rename_i hi;rw [if_neg hi] at h;exact Z4s ms l _ o' h
 have hf:∀ i,n'≤i→Zr X n (Ziu ms l) i=none:=fun i hi=>by
  cases h:Zr X n (Ziu ms l) i with
  | none=>rfl
  | some o' =>
   have h2:=hM.fresh i hi
   rw [hO i o' h] at h2
   cases h2
 have hL:LessO (Zr X n l) (Zr X n (Ziu ms l)) n':=⟨hf,fun i o' h=>by
   obtain ⟨vs,hr,_⟩:=hM.obj i o' (hO i o' h)
   exact ⟨o',hO i o' h,rfl,rfl,rfl,rfl,Zer _ (Zcr _ _ hr)⟩⟩
 have hE2:Holds w (Zr X n l) m n' ⟨E.n,E.keep,Zog E.l ks⟩ a:=hE.le ⟨rfl,Z2c _ _⟩
 refine k.then (hM.weak hL) ⟨hE2.size,fun t v hv => ?_,hE2.out,hE2.defers⟩ ((Ext.refl w _ m ba).weak hL hb)
 have:=hE2.at_ t v hv
 exact Zqb hL.mini _ _ this (Z0e _ _ this)
end
end Go.Proofs.YtkbcdcffpefklaaGreat
