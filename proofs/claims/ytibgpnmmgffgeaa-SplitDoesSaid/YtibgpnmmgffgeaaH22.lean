/- Part H22 of the ghost memory: lemmas and contracts used by the proofs of this seat's laws; each theorem bears its own conditions. -/
import Derived.Test.YtibgpnmmgffgeaaH21
namespace Go.Proofs.Ytibgpnmmgffgeaa
open Go.RowKit
set_option linter.unusedVariables false
set_option linter.unusedSimpArgs false
section
variable {α:Type} {xs:List α} {f:α→List G} {sz:Nat} {ph cs:List G}
theorem Zay (hf:∀ x,(f x).length=sz) (hp:ph.length=sz) (hc:cs.length=sz):Jq (fl f xs++ph) cs (xs.length * sz)=some (fl f xs++cs):=by
 unfold Jq
 have hl:=Q7 hf xs
 rw [if_pos (by rw [List.length_append,hl];omega),List.take_left' hl,List.drop_eq_nil_of_le (by rw [List.length_append,hl];omega),List.append_nil]
end
theorem Zp1 (ρ:Nat→Nat):∀ a b:List G,G.rens ρ (a++b)=G.rens ρ a++G.rens ρ b
 | [],b=>by simp [G.rens]
 | x::a,b=>by simp [G.rens,Zp1 ρ a b]
theorem Zt1 (X:Objs) (n:Nat) (x0 x1 x2 x3 x4 x5:Option GObj) (l':List (Option GObj)):Zq (Zq X n [x0,x1,x2,x3,x4,x5]) (n+6) l'=Zq X n (x0::x1::x2::x3::x4::x5::l'):=Xg X n [x0,x1,x2,x3,x4,x5] l' rfl
theorem Zt2 (X:Objs) (n:Nat) (x0 x1 x2 x3 x4 x5 x6:Option GObj) (l':List (Option GObj)):Zq (Zq X n [x0,x1,x2,x3,x4,x5,x6]) (n+7) l'=Zq X n (x0::x1::x2::x3::x4::x5::x6::l'):=Xg X n [x0,x1,x2,x3,x4,x5,x6] l' rfl
theorem Zt3 (X:Objs) (n:Nat) (x0 x1 x2 x3 x4 x5 x6 x7:Option GObj) (l':List (Option GObj)):Zq (Zq X n [x0,x1,x2,x3,x4,x5,x6,x7]) (n+8) l'=Zq X n (x0::x1::x2::x3::x4::x5::x6::x7::l'):=Xg X n [x0,x1,x2,x3,x4,x5,x6,x7] l' rfl
theorem Zt4 (X:Objs) (n:Nat) (x0 x1 x2 x3 x4 x5 x6 x7 x8:Option GObj) (l':List (Option GObj)):Zq (Zq X n [x0,x1,x2,x3,x4,x5,x6,x7,x8]) (n+9) l'=Zq X n (x0::x1::x2::x3::x4::x5::x6::x7::x8::l'):=Xg X n [x0,x1,x2,x3,x4,x5,x6,x7,x8] l' rfl
theorem Zqc (X:Objs) (n:Nat) (x0 x1 x2 x3 x4 x5 x6 x7 x8 x9:Option GObj) (l':List (Option GObj)):Zq (Zq X n [x0,x1,x2,x3,x4,x5,x6,x7,x8,x9]) (n+10) l'=Zq X n (x0::x1::x2::x3::x4::x5::x6::x7::x8::x9::l'):=Xg X n [x0,x1,x2,x3,x4,x5,x6,x7,x8,x9] l' rfl
theorem Zqd (X:Objs) (n:Nat) (x0 x1 x2 x3 x4 x5 x6 x7 x8 x9 x10:Option GObj) (l':List (Option GObj)):Zq (Zq X n [x0,x1,x2,x3,x4,x5,x6,x7,x8,x9,x10]) (n+11) l'=Zq X n (x0::x1::x2::x3::x4::x5::x6::x7::x8::x9::x10::l'):=Xg X n [x0,x1,x2,x3,x4,x5,x6,x7,x8,x9,x10] l' rfl
theorem Zqe (X:Objs) (n:Nat) (x0 x1 x2 x3 x4 x5 x6 x7 x8 x9 x10 x11:Option GObj) (l':List (Option GObj)):Zq (Zq X n [x0,x1,x2,x3,x4,x5,x6,x7,x8,x9,x10,x11]) (n+12) l'=Zq X n (x0::x1::x2::x3::x4::x5::x6::x7::x8::x9::x10::x11::l'):=Xg X n [x0,x1,x2,x3,x4,x5,x6,x7,x8,x9,x10,x11] l' rfl
theorem Zqf (X:Objs) (n:Nat) (x0 x1 x2 x3 x4 x5 x6 x7 x8 x9 x10 x11 x12:Option GObj) (l':List (Option GObj)):Zq (Zq X n [x0,x1,x2,x3,x4,x5,x6,x7,x8,x9,x10,x11,x12]) (n+13) l'=Zq X n (x0::x1::x2::x3::x4::x5::x6::x7::x8::x9::x10::x11::x12::l'):=Xg X n [x0,x1,x2,x3,x4,x5,x6,x7,x8,x9,x10,x11,x12] l' rfl
theorem Zqg (X:Objs) (n:Nat) (x0 x1 x2 x3 x4 x5 x6 x7 x8 x9 x10 x11 x12 x13:Option GObj) (l':List (Option GObj)):Zq (Zq X n [x0,x1,x2,x3,x4,x5,x6,x7,x8,x9,x10,x11,x12,x13]) (n+14) l'=Zq X n (x0::x1::x2::x3::x4::x5::x6::x7::x8::x9::x10::x11::x12::x13::l'):=Xg X n [x0,x1,x2,x3,x4,x5,x6,x7,x8,x9,x10,x11,x12,x13] l' rfl
theorem Zqh (X:Objs) (n:Nat) (x0 x1 x2 x3 x4 x5 x6 x7 x8 x9 x10 x11 x12 x13 x14:Option GObj) (l':List (Option GObj)):Zq (Zq X n [x0,x1,x2,x3,x4,x5,x6,x7,x8,x9,x10,x11,x12,x13,x14]) (n+15) l'=Zq X n (x0::x1::x2::x3::x4::x5::x6::x7::x8::x9::x10::x11::x12::x13::x14::l'):=Xg X n [x0,x1,x2,x3,x4,x5,x6,x7,x8,x9,x10,x11,x12,x13,x14] l' rfl
theorem Zqi (X:Objs) (n:Nat) (x0 x1 x2 x3 x4 x5 x6 x7 x8 x9 x10 x11 x12 x13 x14 x15:Option GObj) (l':List (Option GObj)):Zq (Zq X n [x0,x1,x2,x3,x4,x5,x6,x7,x8,x9,x10,x11,x12,x13,x14,x15]) (n+16) l'=Zq X n (x0::x1::x2::x3::x4::x5::x6::x7::x8::x9::x10::x11::x12::x13::x14::x15::l'):=Xg X n [x0,x1,x2,x3,x4,x5,x6,x7,x8,x9,x10,x11,x12,x13,x14,x15] l' rfl
theorem Zqj (X:Objs) (n:Nat) (x0 x1 x2 x3 x4 x5 x6 x7 x8 x9 x10 x11 x12 x13 x14 x15 x16:Option GObj) (l':List (Option GObj)):Zq (Zq X n [x0,x1,x2,x3,x4,x5,x6,x7,x8,x9,x10,x11,x12,x13,x14,x15,x16]) (n+17) l'=Zq X n (x0::x1::x2::x3::x4::x5::x6::x7::x8::x9::x10::x11::x12::x13::x14::x15::x16::l'):=Xg X n [x0,x1,x2,x3,x4,x5,x6,x7,x8,x9,x10,x11,x12,x13,x14,x15,x16] l' rfl
theorem Zqk (X:Objs) (n:Nat) (x0 x1 x2 x3 x4 x5 x6 x7 x8 x9 x10 x11 x12 x13 x14 x15 x16 x17:Option GObj) (l':List (Option GObj)):Zq (Zq X n [x0,x1,x2,x3,x4,x5,x6,x7,x8,x9,x10,x11,x12,x13,x14,x15,x16,x17]) (n+18) l'=Zq X n (x0::x1::x2::x3::x4::x5::x6::x7::x8::x9::x10::x11::x12::x13::x14::x15::x16::x17::l'):=Xg X n [x0,x1,x2,x3,x4,x5,x6,x7,x8,x9,x10,x11,x12,x13,x14,x15,x16,x17] l' rfl
theorem Zql (X:Objs) (n:Nat) (x0 x1 x2 x3 x4 x5 x6 x7 x8 x9 x10 x11 x12 x13 x14 x15 x16 x17 x18:Option GObj) (l':List (Option GObj)):Zq (Zq X n [x0,x1,x2,x3,x4,x5,x6,x7,x8,x9,x10,x11,x12,x13,x14,x15,x16,x17,x18]) (n+19) l'=Zq X n (x0::x1::x2::x3::x4::x5::x6::x7::x8::x9::x10::x11::x12::x13::x14::x15::x16::x17::x18::l'):=Xg X n [x0,x1,x2,x3,x4,x5,x6,x7,x8,x9,x10,x11,x12,x13,x14,x15,x16,x17,x18] l' rfl
theorem Zqm (X:Objs) (n:Nat) (x0 x1 x2 x3 x4 x5 x6 x7 x8 x9 x10 x11 x12 x13 x14 x15 x16 x17 x18 x19:Option GObj) (l':List (Option GObj)):Zq (Zq X n [x0,x1,x2,x3,x4,x5,x6,x7,x8,x9,x10,x11,x12,x13,x14,x15,x16,x17,x18,x19]) (n+20) l'=Zq X n (x0::x1::x2::x3::x4::x5::x6::x7::x8::x9::x10::x11::x12::x13::x14::x15::x16::x17::x18::x19::l'):=Xg X n [x0,x1,x2,x3,x4,x5,x6,x7,x8,x9,x10,x11,x12,x13,x14,x15,x16,x17,x18,x19] l' rfl
theorem Zqn (X:Objs) (n:Nat) (x0 x1 x2 x3 x4 x5 x6 x7 x8 x9 x10 x11 x12 x13 x14 x15 x16 x17 x18 x19 x20:Option GObj) (l':List (Option GObj)):Zq (Zq X n [x0,x1,x2,x3,x4,x5,x6,x7,x8,x9,x10,x11,x12,x13,x14,x15,x16,x17,x18,x19,x20]) (n+21) l'=Zq X n (x0::x1::x2::x3::x4::x5::x6::x7::x8::x9::x10::x11::x12::x13::x14::x15::x16::x17::x18::x19::x20::l'):=Xg X n [x0,x1,x2,x3,x4,x5,x6,x7,x8,x9,x10,x11,x12,x13,x14,x15,x16,x17,x18,x19,x20] l' rfl
theorem Zqo (X:Objs) (n:Nat) (x0 x1 x2 x3 x4 x5 x6 x7 x8 x9 x10 x11 x12 x13 x14 x15 x16 x17 x18 x19 x20 x21:Option GObj) (l':List (Option GObj)):Zq (Zq X n [x0,x1,x2,x3,x4,x5,x6,x7,x8,x9,x10,x11,x12,x13,x14,x15,x16,x17,x18,x19,x20,x21]) (n+22) l'=Zq X n (x0::x1::x2::x3::x4::x5::x6::x7::x8::x9::x10::x11::x12::x13::x14::x15::x16::x17::x18::x19::x20::x21::l'):=Xg X n [x0,x1,x2,x3,x4,x5,x6,x7,x8,x9,x10,x11,x12,x13,x14,x15,x16,x17,x18,x19,x20,x21] l' rfl
section
variable {P:Program} {T:Kv} {O:Objs} {n ba:Nat} {E:Env} {Q:GQ} {x y:Code}
theorem Z37 (s k:Nat) (cs:List G) (hs:Jw E.l s = .sl k cs) (hk:s < E.n) (hp:G.pures cs=true)
  (h:∀ A c,(A=none→k=0)→W P ba x (Y1 (fun E1 O1 n1=>Jw E1.l s = .val (.slice A k c)∧s < E1.n∧W P ba y Q ⟨E1.n,E1.keep,(s,.sl k cs)::E1.l⟩ O1 n1) Q) ⟨E.n,E.keep,(s,.val (.slice A k c))::E.l⟩ O n):W P ba (.seq x y) Q E O n:=fun hb w m a hM hE=>by
 have hlt:s < a.tmps.size:=by rw [hE.size];exact hk
 have hv:=hE.at_ s _ (Array.getElem?_eq_getElem hlt)
 rw [hs] at hv
 have hv':=hv
 simp only [G.rep] at hv
 obtain ⟨A,c,e,hc,vs,hr,ha⟩:=hv
 have hA:A=none→k=0:=fun h0=>by
  rcases Nat.eq_zero_or_pos k with h1 | h1
  ·exact h1
  obtain ⟨g,off,q,_⟩:=ha (by omega)
  rw [h0] at q;cases q
 have hput:∀ (E:Env) (O:Objs) (m:Hands) (n:Nat) (w:World) (a:Act) (g:G),Holds w O m n E a→s < E.n→(∀ v,a.tmps[s]? = some v→g.rep w O m n v)→Holds w O m n ⟨E.n,E.keep,(s,g)::E.l⟩ a:=fun E O m n w a g hE hs hg=>by
  refine ⟨hE.size,fun t v hv => ?_,fun t ht => ?_,hE.defers⟩
  ·simp only [Jw]
   split
   ·rename_i e;subst e;exact hg v hv
   exact hE.at_ t v hv
  simp only [Jw]
  split
  ·rename_i e;subst e;simp only at ht;omega
  exact hE.out t ht
 refine wp_seq (wp_mono (h A c hA hb w m a hM (hput E O m n w a _ hE hk fun v hv=>by
  rw [Array.getElem?_eq_getElem hlt] at hv;injection hv with hv;subst hv;simp only [G.rep];exact e)) fun e' a' w' ⟨E2,O2,n2,m2,h1,h2,h3,h4⟩ => ?_)
 cases e' with
 | normal =>
  obtain ⟨g1,g2,g3⟩:=h1
  refine g3.then h2 (hput E2 O2 m2 n2 w' a' _ h3 g2 fun v hv => ?_) h4
  have hq:=h3.at_ s v hv
  rw [g1] at hq
  simp only [G.rep] at hq
  rw [hq,← e]
  have h0:=Zvy (n':=0) (fun _ q=>q) _ _ (show (G.sl k cs).pure=true from hp) hv'
  exact G.rep_ext (h4.base (Nat.zero_le _)) _ _ h0
 | exit id=>exact ⟨E2,O2,n2,m2,h1,h2,h3,h4⟩
 | goto l=>exact ⟨E2,O2,n2,m2,h1,h2,h3,h4⟩
 | ret=>exact ⟨E2,O2,n2,m2,h1,h2,h3,h4⟩
 | panic ch=>exact ⟨E2,O2,n2,m2,h1,h2,h3,h4⟩
 | outgrown=>exact ⟨E2,O2,n2,m2,h1,h2,h3,h4⟩
end
def Zh8:List Bool→List (Option GObj)→List (Option GObj)
 | b::ms,o::l=>(bif b then o else none)::Zh8 ms l
 | _,l=>l
theorem Z2e:∀ (ms:List Bool) (l:List (Option GObj)) (k:Nat) (o:GObj),((Zh8 ms l)[k]?).join=some o→(l[k]?).join=some o
 | [],l,k,o,h=>by simpa [Zh8] using h
 | b::ms,[],k,o,h=>by simp [Zh8] at h
 | b::ms,x::l,0,o,h=>by
  cases b with
  | true=>simpa [Zh8] using h
  | false=>simp [Zh8] at h
 | b::ms,x::l,k+1,o,h=>by
  simp only [Zh8,List.getElem?_cons_succ] at h ⊢
  exact Z2e ms l k o h
section
variable {P:Program} {X:Objs} {n n' ba:Nat} {E:Env} {Q:GQ} {c:Code}
theorem Zq8 (ks:List Nat) (ms:List Bool) {l:List (Option GObj)} (k:W P ba c Q ⟨E.n,E.keep,Zno E.l ks⟩ (Zq X n (Zh8 ms l)) n'):W P ba c Q E (Zq X n l) n':=fun hb w m a hM hE=>by
 have hO:∀ i o',Zq X n (Zh8 ms l) i=some o'→Zq X n l i=some o':=fun i o' h=>by
  unfold Zq at h ⊢
  split
  ·rename_i hi;rw [if_pos hi] at h;exact h
  rename_i hi;rw [if_neg hi] at h;exact Z2e ms l _ o' h
 have hf:∀ i,n'≤i→Zq X n (Zh8 ms l) i=none:=fun i hi=>by
  cases h:Zq X n (Zh8 ms l) i with
  | none=>rfl
  | some o' =>
   have h2:=hM.fresh i hi
   rw [hO i o' h] at h2
   cases h2
 have hL:LessO (Zq X n l) (Zq X n (Zh8 ms l)) n':=⟨hf,fun i o' h=>by
   obtain ⟨vs,hr,_⟩:=hM.obj i o' (hO i o' h)
   exact ⟨o',hO i o' h,rfl,rfl,rfl,rfl,Zdj _ (Zaw _ _ hr)⟩⟩
 have hE2:Holds w (Zq X n l) m n' ⟨E.n,E.keep,Zno E.l ks⟩ a:=hE.le ⟨rfl,Zzc _ _⟩
 refine k.then (hM.weak hL) ⟨hE2.size,fun t v hv => ?_,hE2.out,hE2.defers⟩ ((Ext.refl w _ m ba).weak hL hb)
 have:=hE2.at_ t v hv
 exact Zm4 hL.mini _ _ this (Zwy _ _ this)
end
end Go.Proofs.Ytibgpnmmgffgeaa
