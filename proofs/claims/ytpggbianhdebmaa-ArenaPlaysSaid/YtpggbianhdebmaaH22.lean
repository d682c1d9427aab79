/- Part H22 of the ghost memory: lemmas and contracts used by the proofs of this seat's laws; each theorem bears its own conditions. -/
import Derived.Test.YtpggbianhdebmaaH21
namespace Go.Proofs.Ytpggbianhdebmaa
open Go.RowKit
set_option linter.unusedVariables false
set_option linter.unusedSimpArgs false
section
variable {P:Program} {O X:Objs} {n n2:Nat} {f:FuncId} {gs:List G} {r r3:G} {rows:List (Option GObj)}
theorem GTo.freeze (h:GTo P f gs O n r (Zu O n rows) n2) (hw:Und O n→wk (Zu O n rows) O n r r3):GTo P f gs O n r3 O n:=by
 refine ⟨h.1,fun w m vs hM hr => ?_⟩
 have hU:Und O n:=⟨hM.fresh,fun i o hi=>by obtain ⟨vs,hv,_⟩:=hM.obj i o hi;exact Qy _ _ hv⟩
 have hL:LessO (Zu O n rows) O n:=Zmw hU.fresh (OutLe.refl hU (Nat.le_refl _))
 refine (h.2 w m vs hM hr).mono fun e w' ⟨v,g,O',n',m',h1,h2,h3,h4,h5,h6,h7⟩ => ?_
 subst h5 h6 h7
 exact ⟨v,r3,O,n,m',h1,h2.weak hL,h3.weak hL (Nat.le_refl _),Zhq h2 hL _ v h4 _ (hw hU),rfl,rfl,rfl⟩
end
theorem Ur (ρ:Nat→Nat):∀ a b:List G,G.rens ρ (a++b)=G.rens ρ a++G.rens ρ b
 | [],b=>by simp [G.rens]
 | x::a,b=>by simp [G.rens,Ur ρ a b]
theorem Gl (X:Objs) (n:Nat) (x0 x1 x2 x3 x4 x5:Option GObj) (l':List (Option GObj)):Zu (Zu X n [x0,x1,x2,x3,x4,x5]) (n+6) l'=Zu X n (x0::x1::x2::x3::x4::x5::l'):=Xt X n [x0,x1,x2,x3,x4,x5] l' rfl
theorem Gm (X:Objs) (n:Nat) (x0 x1 x2 x3 x4 x5 x6:Option GObj) (l':List (Option GObj)):Zu (Zu X n [x0,x1,x2,x3,x4,x5,x6]) (n+7) l'=Zu X n (x0::x1::x2::x3::x4::x5::x6::l'):=Xt X n [x0,x1,x2,x3,x4,x5,x6] l' rfl
theorem Gn (X:Objs) (n:Nat) (x0 x1 x2 x3 x4 x5 x6 x7:Option GObj) (l':List (Option GObj)):Zu (Zu X n [x0,x1,x2,x3,x4,x5,x6,x7]) (n+8) l'=Zu X n (x0::x1::x2::x3::x4::x5::x6::x7::l'):=Xt X n [x0,x1,x2,x3,x4,x5,x6,x7] l' rfl
theorem Gp (X:Objs) (n:Nat) (x0 x1 x2 x3 x4 x5 x6 x7 x8:Option GObj) (l':List (Option GObj)):Zu (Zu X n [x0,x1,x2,x3,x4,x5,x6,x7,x8]) (n+9) l'=Zu X n (x0::x1::x2::x3::x4::x5::x6::x7::x8::l'):=Xt X n [x0,x1,x2,x3,x4,x5,x6,x7,x8] l' rfl
theorem Vq (X:Objs) (n:Nat) (x0 x1 x2 x3 x4 x5 x6 x7 x8 x9:Option GObj) (l':List (Option GObj)):Zu (Zu X n [x0,x1,x2,x3,x4,x5,x6,x7,x8,x9]) (n+10) l'=Zu X n (x0::x1::x2::x3::x4::x5::x6::x7::x8::x9::l'):=Xt X n [x0,x1,x2,x3,x4,x5,x6,x7,x8,x9] l' rfl
theorem Vr (X:Objs) (n:Nat) (x0 x1 x2 x3 x4 x5 x6 x7 x8 x9 x10:Option GObj) (l':List (Option GObj)):Zu (Zu X n [x0,x1,x2,x3,x4,x5,x6,x7,x8,x9,x10]) (n+11) l'=Zu X n (x0::x1::x2::x3::x4::x5::x6::x7::x8::x9::x10::l'):=Xt X n [x0,x1,x2,x3,x4,x5,x6,x7,x8,x9,x10] l' rfl
theorem Vs (X:Objs) (n:Nat) (x0 x1 x2 x3 x4 x5 x6 x7 x8 x9 x10 x11:Option GObj) (l':List (Option GObj)):Zu (Zu X n [x0,x1,x2,x3,x4,x5,x6,x7,x8,x9,x10,x11]) (n+12) l'=Zu X n (x0::x1::x2::x3::x4::x5::x6::x7::x8::x9::x10::x11::l'):=Xt X n [x0,x1,x2,x3,x4,x5,x6,x7,x8,x9,x10,x11] l' rfl
theorem Vt (X:Objs) (n:Nat) (x0 x1 x2 x3 x4 x5 x6 x7 x8 x9 x10 x11 x12:Option GObj) (l':List (Option GObj)):Zu (Zu X n [x0,x1,x2,x3,x4,x5,x6,x7,x8,x9,x10,x11,x12]) (n+13) l'=Zu X n (x0::x1::x2::x3::x4::x5::x6::x7::x8::x9::x10::x11::x12::l'):=Xt X n [x0,x1,x2,x3,x4,x5,x6,x7,x8,x9,x10,x11,x12] l' rfl
theorem Vu (X:Objs) (n:Nat) (x0 x1 x2 x3 x4 x5 x6 x7 x8 x9 x10 x11 x12 x13:Option GObj) (l':List (Option GObj)):Zu (Zu X n [x0,x1,x2,x3,x4,x5,x6,x7,x8,x9,x10,x11,x12,x13]) (n+14) l'=Zu X n (x0::x1::x2::x3::x4::x5::x6::x7::x8::x9::x10::x11::x12::x13::l'):=Xt X n [x0,x1,x2,x3,x4,x5,x6,x7,x8,x9,x10,x11,x12,x13] l' rfl
theorem Vv (X:Objs) (n:Nat) (x0 x1 x2 x3 x4 x5 x6 x7 x8 x9 x10 x11 x12 x13 x14:Option GObj) (l':List (Option GObj)):Zu (Zu X n [x0,x1,x2,x3,x4,x5,x6,x7,x8,x9,x10,x11,x12,x13,x14]) (n+15) l'=Zu X n (x0::x1::x2::x3::x4::x5::x6::x7::x8::x9::x10::x11::x12::x13::x14::l'):=Xt X n [x0,x1,x2,x3,x4,x5,x6,x7,x8,x9,x10,x11,x12,x13,x14] l' rfl
theorem Vw (X:Objs) (n:Nat) (x0 x1 x2 x3 x4 x5 x6 x7 x8 x9 x10 x11 x12 x13 x14 x15:Option GObj) (l':List (Option GObj)):Zu (Zu X n [x0,x1,x2,x3,x4,x5,x6,x7,x8,x9,x10,x11,x12,x13,x14,x15]) (n+16) l'=Zu X n (x0::x1::x2::x3::x4::x5::x6::x7::x8::x9::x10::x11::x12::x13::x14::x15::l'):=Xt X n [x0,x1,x2,x3,x4,x5,x6,x7,x8,x9,x10,x11,x12,x13,x14,x15] l' rfl
theorem Vx (X:Objs) (n:Nat) (x0 x1 x2 x3 x4 x5 x6 x7 x8 x9 x10 x11 x12 x13 x14 x15 x16:Option GObj) (l':List (Option GObj)):Zu (Zu X n [x0,x1,x2,x3,x4,x5,x6,x7,x8,x9,x10,x11,x12,x13,x14,x15,x16]) (n+17) l'=Zu X n (x0::x1::x2::x3::x4::x5::x6::x7::x8::x9::x10::x11::x12::x13::x14::x15::x16::l'):=Xt X n [x0,x1,x2,x3,x4,x5,x6,x7,x8,x9,x10,x11,x12,x13,x14,x15,x16] l' rfl
theorem Vy (X:Objs) (n:Nat) (x0 x1 x2 x3 x4 x5 x6 x7 x8 x9 x10 x11 x12 x13 x14 x15 x16 x17:Option GObj) (l':List (Option GObj)):Zu (Zu X n [x0,x1,x2,x3,x4,x5,x6,x7,x8,x9,x10,x11,x12,x13,x14,x15,x16,x17]) (n+18) l'=Zu X n (x0::x1::x2::x3::x4::x5::x6::x7::x8::x9::x10::x11::x12::x13::x14::x15::x16::x17::l'):=Xt X n [x0,x1,x2,x3,x4,x5,x6,x7,x8,x9,x10,x11,x12,x13,x14,x15,x16,x17] l' rfl
theorem Vz (X:Objs) (n:Nat) (x0 x1 x2 x3 x4 x5 x6 x7 x8 x9 x10 x11 x12 x13 x14 x15 x16 x17 x18:Option GObj) (l':List (Option GObj)):Zu (Zu X n [x0,x1,x2,x3,x4,x5,x6,x7,x8,x9,x10,x11,x12,x13,x14,x15,x16,x17,x18]) (n+19) l'=Zu X n (x0::x1::x2::x3::x4::x5::x6::x7::x8::x9::x10::x11::x12::x13::x14::x15::x16::x17::x18::l'):=Xt X n [x0,x1,x2,x3,x4,x5,x6,x7,x8,x9,x10,x11,x12,x13,x14,x15,x16,x17,x18] l' rfl
theorem V0 (X:Objs) (n:Nat) (x0 x1 x2 x3 x4 x5 x6 x7 x8 x9 x10 x11 x12 x13 x14 x15 x16 x17 x18 x19:Option GObj) (l':List (Option GObj)):Zu (Zu X n [x0,x1,x2,x3,x4,x5,x6,x7,x8,x9,x10,x11,x12,x13,x14,x15,x16,x17,x18,x19]) (n+20) l'=Zu X n (x0::x1::x2::x3::x4::x5::x6::x7::x8::x9::x10::x11::x12::x13::x14::x15::x16::x17::x18::x19::l'):=Xt X n [x0,x1,x2,x3,x4,x5,x6,x7,x8,x9,x10,x11,x12,x13,x14,x15,x16,x17,x18,x19] l' rfl
theorem V1 (X:Objs) (n:Nat) (x0 x1 x2 x3 x4 x5 x6 x7 x8 x9 x10 x11 x12 x13 x14 x15 x16 x17 x18 x19 x20:Option GObj) (l':List (Option GObj)):Zu (Zu X n [x0,x1,x2,x3,x4,x5,x6,x7,x8,x9,x10,x11,x12,x13,x14,x15,x16,x17,x18,x19,x20]) (n+21) l'=Zu X n (x0::x1::x2::x3::x4::x5::x6::x7::x8::x9::x10::x11::x12::x13::x14::x15::x16::x17::x18::x19::x20::l'):=Xt X n [x0,x1,x2,x3,x4,x5,x6,x7,x8,x9,x10,x11,x12,x13,x14,x15,x16,x17,x18,x19,x20] l' rfl
theorem V2 (X:Objs) (n:Nat) (x0 x1 x2 x3 x4 x5 x6 x7 x8 x9 x10 x11 x12 x13 x14 x15 x16 x17 x18 x19 x20 x21:Option GObj) (l':List (Option GObj)):Zu (Zu X n [x0,x1,x2,x3,x4,x5,x6,x7,x8,x9,x10,x11,x12,x13,x14,x15,x16,x17,x18,x19,x20,x21]) (n+22) l'=Zu X n (x0::x1::x2::x3::x4::x5::x6::x7::x8::x9::x10::x11::x12::x13::x14::x15::x16::x17::x18::x19::x20::x21::l'):=Xt X n [x0,x1,x2,x3,x4,x5,x6,x7,x8,x9,x10,x11,x12,x13,x14,x15,x16,x17,x18,x19,x20,x21] l' rfl
section
variable {P:Program} {T:X0} {O:Objs} {n ba:Nat} {E:Env} {Q:GQ} {x y:Code}
theorem Zru (s k:Nat) (cs:List G) (hs:Xo E.l s = .sl k cs) (hk:s < E.n) (hp:G.pures cs=true)
  (h:∀ A c,(A=none→k=0)→W P ba x (Zn (fun E1 O1 n1=>Xo E1.l s = .val (.slice A k c)∧s < E1.n∧W P ba y Q ⟨E1.n,E1.keep,(s,.sl k cs)::E1.l⟩ O1 n1) Q) ⟨E.n,E.keep,(s,.val (.slice A k c))::E.l⟩ O n):W P ba (.seq x y) Q E O n:=fun hb w m a hM hE=>by
 have hlt:s < a.tmps.size:=by rw [hE.size];exact hk
 have hv:=hE.at_ s _ (Array.getElem?_eq_getElem hlt)
 rw [hs] at hv
 have hv':=hv
 simp only [G.rep] at hv
 obtain ⟨A,c,e,hc,vs,hr,ha⟩:=hv
 have hA:A=none→k=0:=fun h0=>by
  rcases Nat.eq_zero_or_pos k with h1 | h1
  ·exact h1
  obtain ⟨g,off,q,_⟩:=ha (by omega)
  rw [h0] at q;cases q
 have hput:∀ (E:Env) (O:Objs) (m:Hands) (n:Nat) (w:World) (a:Act) (g:G),Holds w O m n E a→s < E.n→(∀ v,a.tmps[s]? = some v→g.rep w O m n v)→Holds w O m n ⟨E.n,E.keep,(s,g)::E.l⟩ a:=fun E O m n w a g hE hs hg=>by
  refine ⟨hE.size,fun t v hv => ?_,fun t ht => ?_,hE.defers⟩
  ·simp only [Xo]
   split
   ·rename_i e;subst e;exact hg v hv
   exact hE.at_ t v hv
  simp only [Xo]
  split
  ·rename_i e;subst e;simp only at ht;omega
  exact hE.out t ht
 refine wp_seq (wp_mono (h A c hA hb w m a hM (hput E O m n w a _ hE hk fun v hv=>by
  rw [Array.getElem?_eq_getElem hlt] at hv;injection hv with hv;subst hv;simp only [G.rep];exact e)) fun e' a' w' ⟨E2,O2,n2,m2,h1,h2,h3,h4⟩ => ?_)
 cases e' with
 | normal =>
  obtain ⟨g1,g2,g3⟩:=h1
  refine g3.then h2 (hput E2 O2 m2 n2 w' a' _ h3 g2 fun v hv => ?_) h4
  have hq:=h3.at_ s v hv
  rw [g1] at hq
  simp only [G.rep] at hq
  rw [hq,← e]
  have h0:=Zkp (n':=0) (fun _ q=>q) _ _ (show (G.sl k cs).pure=true from hp) hv'
  exact G.rep_ext (h4.base (Nat.zero_le _)) _ _ h0
 | exit id=>exact ⟨E2,O2,n2,m2,h1,h2,h3,h4⟩
 | goto l=>exact ⟨E2,O2,n2,m2,h1,h2,h3,h4⟩
 | ret=>exact ⟨E2,O2,n2,m2,h1,h2,h3,h4⟩
 | panic ch=>exact ⟨E2,O2,n2,m2,h1,h2,h3,h4⟩
 | outgrown=>exact ⟨E2,O2,n2,m2,h1,h2,h3,h4⟩
end
def V4:List Bool→List (Option GObj)→List (Option GObj)
 | b::ms,o::l=>(bif b then o else none)::V4 ms l
 | _,l=>l
theorem Zml:∀ (ms:List Bool) (l:List (Option GObj)) (k:Nat) (o:GObj),((V4 ms l)[k]?).join=some o→(l[k]?).join=some o
 | [],l,k,o,h=>by simpa [V4] using h
 | b::ms,[],k,o,h=>by simp [V4] at h
 | b::ms,x::l,0,o,h=>by
  cases b with
  | true=>simpa [V4] using h
  | false=>simp [V4] at h
 | b::ms,x::l,k+1,o,h=>by
  simp only [V4,List.getElem?_cons_succ] at h ⊢
  exact Zml ms l k o h
section
variable {P:Program} {X:Objs} {n n' ba:Nat} {E:Env} {Q:GQ} {c:Code}
theorem Xl (ks:List Nat) (ms:List Bool) {l:List (Option GObj)} (k:W P ba c Q ⟨E.n,E.keep,Za6 E.l ks⟩ (Zu X n (V4 ms l)) n'):W P ba c Q E (Zu X n l) n':=fun hb w m a hM hE=>by
 have hO:∀ i o',Zu X n (V4 ms l) i=some o'→Zu X n l i=some o':=fun i o' h=>by
  unfold Zu at h ⊢
  split
  ·rename_i hi;rw [if_pos hi] at h;exact h
  rename_i hi;rw [if_neg hi] at h;exact Zml ms l _ o' h
 have hf:∀ i,n'≤i→Zu X n (V4 ms l) i=none:=fun i hi=>by
  cases h:Zu X n (V4 ms l) i with
  | none=>rfl
  | some o' =>
   have h2:=hM.fresh i hi
   rw [hO i o' h] at h2
   cases h2
 have hL:LessO (Zu X n l) (Zu X n (V4 ms l)) n':=⟨hf,fun i o' h=>by
   obtain ⟨vs,hr,_⟩:=hM.obj i o' (hO i o' h)
   exact ⟨o',hO i o' h,rfl,rfl,rfl,rfl,X9 _ (Qy _ _ hr)⟩⟩
 have hE2:Holds w (Zu X n l) m n' ⟨E.n,E.keep,Za6 E.l ks⟩ a:=hE.le ⟨rfl,Zlx _ _⟩
 refine k.then (hM.weak hL) ⟨hE2.size,fun t v hv => ?_,hE2.out,hE2.defers⟩ ((Ext.refl w _ m ba).weak hL hb)
 have:=hE2.at_ t v hv
 exact Zf4 hL.mini _ _ this (Zkr _ _ this)
end
end Go.Proofs.Ytpggbianhdebmaa
