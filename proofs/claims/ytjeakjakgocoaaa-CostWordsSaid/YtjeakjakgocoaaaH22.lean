/- Part H22 of the ghost memory: lemmas and contracts used by the proofs of this seat's laws; each theorem bears its own conditions. -/
import Derived.Test.YtjeakjakgocoaaaH21
import Derived.WalkKit
import Derived.WalkSpells
import Derived.WalkLawsBesides
import Derived.Lib.Hide
import Derived.BigQuiet
import Derived.StillTailTactics
import Derived.Deep.RegionHeld3
import Derived.Deep.AppendLies
import Derived.Laws.CopyOwn
import Derived.Deep.DeepCutAuto
import Derived.Deep.QuietTactic
import Derived.Maps.AppendAt
import Derived.Great.BuildSlice
import Derived.Laws.StructEq
import Derived.IntWalk
import Derived.ProofKit
import Derived.OpenShut
import Derived.SizedLaws
import Derived.Deep.Slices
namespace Go.Proofs.Ytjeakjakgocoaaa
open Go.RowKit
set_option linter.unusedVariables false
set_option linter.unusedSimpArgs false
theorem Zku (ρ:Nat→Nat):∀ a b:List G,G.rens ρ (a++b)=G.rens ρ a++G.rens ρ b
 | [],b=>by simp [G.rens]
 | x::a,b=>by simp [G.rens,Zku ρ a b]
theorem Zoj (X:Objs) (n:Nat) (x0 x1 x2 x3 x4 x5:Option GObj) (l':List (Option GObj)):Zt (Zt X n [x0,x1,x2,x3,x4,x5]) (n+6) l'=Zt X n (x0::x1::x2::x3::x4::x5::l'):=Jz X n [x0,x1,x2,x3,x4,x5] l' rfl
theorem Zok (X:Objs) (n:Nat) (x0 x1 x2 x3 x4 x5 x6:Option GObj) (l':List (Option GObj)):Zt (Zt X n [x0,x1,x2,x3,x4,x5,x6]) (n+7) l'=Zt X n (x0::x1::x2::x3::x4::x5::x6::l'):=Jz X n [x0,x1,x2,x3,x4,x5,x6] l' rfl
theorem Zol (X:Objs) (n:Nat) (x0 x1 x2 x3 x4 x5 x6 x7:Option GObj) (l':List (Option GObj)):Zt (Zt X n [x0,x1,x2,x3,x4,x5,x6,x7]) (n+8) l'=Zt X n (x0::x1::x2::x3::x4::x5::x6::x7::l'):=Jz X n [x0,x1,x2,x3,x4,x5,x6,x7] l' rfl
theorem Zom (X:Objs) (n:Nat) (x0 x1 x2 x3 x4 x5 x6 x7 x8:Option GObj) (l':List (Option GObj)):Zt (Zt X n [x0,x1,x2,x3,x4,x5,x6,x7,x8]) (n+9) l'=Zt X n (x0::x1::x2::x3::x4::x5::x6::x7::x8::l'):=Jz X n [x0,x1,x2,x3,x4,x5,x6,x7,x8] l' rfl
theorem Zlv (X:Objs) (n:Nat) (x0 x1 x2 x3 x4 x5 x6 x7 x8 x9:Option GObj) (l':List (Option GObj)):Zt (Zt X n [x0,x1,x2,x3,x4,x5,x6,x7,x8,x9]) (n+10) l'=Zt X n (x0::x1::x2::x3::x4::x5::x6::x7::x8::x9::l'):=Jz X n [x0,x1,x2,x3,x4,x5,x6,x7,x8,x9] l' rfl
theorem Zlw (X:Objs) (n:Nat) (x0 x1 x2 x3 x4 x5 x6 x7 x8 x9 x10:Option GObj) (l':List (Option GObj)):Zt (Zt X n [x0,x1,x2,x3,x4,x5,x6,x7,x8,x9,x10]) (n+11) l'=Zt X n (x0::x1::x2::x3::x4::x5::x6::x7::x8::x9::x10::l'):=Jz X n [x0,x1,x2,x3,x4,x5,x6,x7,x8,x9,x10] l' rfl
theorem Zlx (X:Objs) (n:Nat) (x0 x1 x2 x3 x4 x5 x6 x7 x8 x9 x10 x11:Option GObj) (l':List (Option GObj)):Zt (Zt X n [x0,x1,x2,x3,x4,x5,x6,x7,x8,x9,x10,x11]) (n+12) l'=Zt X n (x0::x1::x2::x3::x4::x5::x6::x7::x8::x9::x10::x11::l'):=Jz X n [x0,x1,x2,x3,x4,x5,x6,x7,x8,x9,x10,x11] l' rfl
theorem Zly (X:Objs) (n:Nat) (x0 x1 x2 x3 x4 x5 x6 x7 x8 x9 x10 x11 x12:Option GObj) (l':List (Option GObj)):Zt (Zt X n [x0,x1,x2,x3,x4,x5,x6,x7,x8,x9,x10,x11,x12]) (n+13) l'=Zt X n (x0::x1::x2::x3::x4::x5::x6::x7::x8::x9::x10::x11::x12::l'):=Jz X n [x0,x1,x2,x3,x4,x5,x6,x7,x8,x9,x10,x11,x12] l' rfl
theorem Zlz (X:Objs) (n:Nat) (x0 x1 x2 x3 x4 x5 x6 x7 x8 x9 x10 x11 x12 x13:Option GObj) (l':List (Option GObj)):Zt (Zt X n [x0,x1,x2,x3,x4,x5,x6,x7,x8,x9,x10,x11,x12,x13]) (n+14) l'=Zt X n (x0::x1::x2::x3::x4::x5::x6::x7::x8::x9::x10::x11::x12::x13::l'):=Jz X n [x0,x1,x2,x3,x4,x5,x6,x7,x8,x9,x10,x11,x12,x13] l' rfl
theorem Zl0 (X:Objs) (n:Nat) (x0 x1 x2 x3 x4 x5 x6 x7 x8 x9 x10 x11 x12 x13 x14:Option GObj) (l':List (Option GObj)):Zt (Zt X n [x0,x1,x2,x3,x4,x5,x6,x7,x8,x9,x10,x11,x12,x13,x14]) (n+15) l'=Zt X n (x0::x1::x2::x3::x4::x5::x6::x7::x8::x9::x10::x11::x12::x13::x14::l'):=Jz X n [x0,x1,x2,x3,x4,x5,x6,x7,x8,x9,x10,x11,x12,x13,x14] l' rfl
theorem Zl1 (X:Objs) (n:Nat) (x0 x1 x2 x3 x4 x5 x6 x7 x8 x9 x10 x11 x12 x13 x14 x15:Option GObj) (l':List (Option GObj)):Zt (Zt X n [x0,x1,x2,x3,x4,x5,x6,x7,x8,x9,x10,x11,x12,x13,x14,x15]) (n+16) l'=Zt X n (x0::x1::x2::x3::x4::x5::x6::x7::x8::x9::x10::x11::x12::x13::x14::x15::l'):=Jz X n [x0,x1,x2,x3,x4,x5,x6,x7,x8,x9,x10,x11,x12,x13,x14,x15] l' rfl
def Zcg:List Bool→List (Option GObj)→List (Option GObj)
 | b::ms,o::l=>(bif b then o else none)::Zcg ms l
 | _,l=>l
theorem Zov:∀ (ms:List Bool) (l:List (Option GObj)) (k:Nat) (o:GObj),((Zcg ms l)[k]?).join=some o→(l[k]?).join=some o
 | [],l,k,o,h=>by simpa [Zcg] using h
 | b::ms,[],k,o,h=>by simp [Zcg] at h
 | b::ms,x::l,0,o,h=>by
  cases b with
  | true=>simpa [Zcg] using h
  | false=>simp [Zcg] at h
 | b::ms,x::l,k+1,o,h=>by
  simp only [Zcg,List.getElem?_cons_succ] at h ⊢
  exact Zov ms l k o h
section
variable {P:Program} {X:Objs} {n n' ba:Nat} {E:Env} {Q:GQ} {c:Code}
theorem Zhh (ks:List Nat) (ms:List Bool) {l:List (Option GObj)} (k:W P ba c Q ⟨E.n,E.keep,Zgv E.l ks⟩ (Zt X n (Zcg ms l)) n'):W P ba c Q E (Zt X n l) n':=fun hb w m a hM hE=>by
 have hO:∀ i o',Zt X n (Zcg ms l) i=some o'→Zt X n l i=some o':=fun i o' h=>by
  unfold Zt at h ⊢
  split
  ·rename_i hi;rw [if_pos hi] at h;exact h
  rename_i hi;rw [if_neg hi] at h;exact Zov ms l _ o' h
 have hf:∀ i,n'≤i→Zt X n (Zcg ms l) i=none:=fun i hi=>by
  cases h:Zt X n (Zcg ms l) i with
  | none=>rfl
  | some o' =>
   have h2:=hM.fresh i hi
   rw [hO i o' h] at h2
   cases h2
 have hL:LessO (Zt X n l) (Zt X n (Zcg ms l)) n':=⟨hf,fun i o' h=>by
   obtain ⟨vs,hr,_⟩:=hM.obj i o' (hO i o' h)
   exact ⟨o',hO i o' h,rfl,rfl,rfl,rfl,Vm _ (K6 _ _ hr)⟩⟩
 have hE2:Holds w (Zt X n l) m n' ⟨E.n,E.keep,Zgv E.l ks⟩ a:=hE.le ⟨rfl,Znm _ _⟩
 refine k.then (hM.weak hL) ⟨hE2.size,fun t v hv => ?_,hE2.out,hE2.defers⟩ ((Ext.refl w _ m ba).weak hL hb)
 have:=hE2.at_ t v hv
 exact Zfe hL.mini _ _ this (Zla _ _ this)
end
end Go.Proofs.Ytjeakjakgocoaaa
