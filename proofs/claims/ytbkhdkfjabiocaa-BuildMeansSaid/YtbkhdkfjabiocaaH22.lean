/- Part H22 of the ghost memory: lemmas and contracts used by the proofs of this seat's laws; each theorem bears its own conditions. -/
import Derived.Test.YtbkhdkfjabiocaaH21
namespace Go.Proofs.Ytbkhdkfjabiocaa
open Go.RowKit
set_option linter.unusedVariables false
set_option linter.unusedSimpArgs false
section
variable {P:Program} {O X:Objs} {n n2:Nat} {f:FuncId} {gs:List G} {r r3:G} {rows:List (Option GObj)}
theorem GTo.freeze (h:GTo P f gs O n r (Zy O n rows) n2) (hw:Und O n→wk (Zy O n rows) O n r r3):GTo P f gs O n r3 O n:=by
 refine ⟨h.1,fun w m vs hM hr => ?_⟩
 have hU:Und O n:=⟨hM.fresh,fun i o hi=>by obtain ⟨vs,hv,_⟩:=hM.obj i o hi;exact Kh _ _ hv⟩
 have hL:LessO (Zy O n rows) O n:=Z1a hU.fresh (OutLe.refl hU (Nat.le_refl _))
 refine (h.2 w m vs hM hr).mono fun e w' ⟨v,g,O',n',m',h1,h2,h3,h4,h5,h6,h7⟩ => ?_
 subst h5 h6 h7
 exact ⟨v,r3,O,n,m',h1,h2.weak hL,h3.weak hL (Nat.le_refl _),Zka h2 hL _ v h4 _ (hw hU),rfl,rfl,rfl⟩
end
theorem Zhb (ρ:Nat→Nat):∀ a b:List G,G.rens ρ (a++b)=G.rens ρ a++G.rens ρ b
 | [],b=>by simp [G.rens]
 | x::a,b=>by simp [G.rens,Zhb ρ a b]
theorem Zih (X:Objs) (n:Nat) (x0 x1 x2 x3 x4 x5:Option GObj) (l':List (Option GObj)):Zy (Zy X n [x0,x1,x2,x3,x4,x5]) (n+6) l'=Zy X n (x0::x1::x2::x3::x4::x5::l'):=Js X n [x0,x1,x2,x3,x4,x5] l' rfl
theorem Zii (X:Objs) (n:Nat) (x0 x1 x2 x3 x4 x5 x6:Option GObj) (l':List (Option GObj)):Zy (Zy X n [x0,x1,x2,x3,x4,x5,x6]) (n+7) l'=Zy X n (x0::x1::x2::x3::x4::x5::x6::l'):=Js X n [x0,x1,x2,x3,x4,x5,x6] l' rfl
theorem Zij (X:Objs) (n:Nat) (x0 x1 x2 x3 x4 x5 x6 x7:Option GObj) (l':List (Option GObj)):Zy (Zy X n [x0,x1,x2,x3,x4,x5,x6,x7]) (n+8) l'=Zy X n (x0::x1::x2::x3::x4::x5::x6::x7::l'):=Js X n [x0,x1,x2,x3,x4,x5,x6,x7] l' rfl
theorem Zik (X:Objs) (n:Nat) (x0 x1 x2 x3 x4 x5 x6 x7 x8:Option GObj) (l':List (Option GObj)):Zy (Zy X n [x0,x1,x2,x3,x4,x5,x6,x7,x8]) (n+9) l'=Zy X n (x0::x1::x2::x3::x4::x5::x6::x7::x8::l'):=Js X n [x0,x1,x2,x3,x4,x5,x6,x7,x8] l' rfl
theorem Zfs (X:Objs) (n:Nat) (x0 x1 x2 x3 x4 x5 x6 x7 x8 x9:Option GObj) (l':List (Option GObj)):Zy (Zy X n [x0,x1,x2,x3,x4,x5,x6,x7,x8,x9]) (n+10) l'=Zy X n (x0::x1::x2::x3::x4::x5::x6::x7::x8::x9::l'):=Js X n [x0,x1,x2,x3,x4,x5,x6,x7,x8,x9] l' rfl
theorem Zft (X:Objs) (n:Nat) (x0 x1 x2 x3 x4 x5 x6 x7 x8 x9 x10:Option GObj) (l':List (Option GObj)):Zy (Zy X n [x0,x1,x2,x3,x4,x5,x6,x7,x8,x9,x10]) (n+11) l'=Zy X n (x0::x1::x2::x3::x4::x5::x6::x7::x8::x9::x10::l'):=Js X n [x0,x1,x2,x3,x4,x5,x6,x7,x8,x9,x10] l' rfl
theorem Zfu (X:Objs) (n:Nat) (x0 x1 x2 x3 x4 x5 x6 x7 x8 x9 x10 x11:Option GObj) (l':List (Option GObj)):Zy (Zy X n [x0,x1,x2,x3,x4,x5,x6,x7,x8,x9,x10,x11]) (n+12) l'=Zy X n (x0::x1::x2::x3::x4::x5::x6::x7::x8::x9::x10::x11::l'):=Js X n [x0,x1,x2,x3,x4,x5,x6,x7,x8,x9,x10,x11] l' rfl
theorem Zfv (X:Objs) (n:Nat) (x0 x1 x2 x3 x4 x5 x6 x7 x8 x9 x10 x11 x12:Option GObj) (l':List (Option GObj)):Zy (Zy X n [x0,x1,x2,x3,x4,x5,x6,x7,x8,x9,x10,x11,x12]) (n+13) l'=Zy X n (x0::x1::x2::x3::x4::x5::x6::x7::x8::x9::x10::x11::x12::l'):=Js X n [x0,x1,x2,x3,x4,x5,x6,x7,x8,x9,x10,x11,x12] l' rfl
theorem Zfw (X:Objs) (n:Nat) (x0 x1 x2 x3 x4 x5 x6 x7 x8 x9 x10 x11 x12 x13:Option GObj) (l':List (Option GObj)):Zy (Zy X n [x0,x1,x2,x3,x4,x5,x6,x7,x8,x9,x10,x11,x12,x13]) (n+14) l'=Zy X n (x0::x1::x2::x3::x4::x5::x6::x7::x8::x9::x10::x11::x12::x13::l'):=Js X n [x0,x1,x2,x3,x4,x5,x6,x7,x8,x9,x10,x11,x12,x13] l' rfl
theorem Zfx (X:Objs) (n:Nat) (x0 x1 x2 x3 x4 x5 x6 x7 x8 x9 x10 x11 x12 x13 x14:Option GObj) (l':List (Option GObj)):Zy (Zy X n [x0,x1,x2,x3,x4,x5,x6,x7,x8,x9,x10,x11,x12,x13,x14]) (n+15) l'=Zy X n (x0::x1::x2::x3::x4::x5::x6::x7::x8::x9::x10::x11::x12::x13::x14::l'):=Js X n [x0,x1,x2,x3,x4,x5,x6,x7,x8,x9,x10,x11,x12,x13,x14] l' rfl
theorem Zfy (X:Objs) (n:Nat) (x0 x1 x2 x3 x4 x5 x6 x7 x8 x9 x10 x11 x12 x13 x14 x15:Option GObj) (l':List (Option GObj)):Zy (Zy X n [x0,x1,x2,x3,x4,x5,x6,x7,x8,x9,x10,x11,x12,x13,x14,x15]) (n+16) l'=Zy X n (x0::x1::x2::x3::x4::x5::x6::x7::x8::x9::x10::x11::x12::x13::x14::x15::l'):=Js X n [x0,x1,x2,x3,x4,x5,x6,x7,x8,x9,x10,x11,x12,x13,x14,x15] l' rfl
theorem Zfz (X:Objs) (n:Nat) (x0 x1 x2 x3 x4 x5 x6 x7 x8 x9 x10 x11 x12 x13 x14 x15 x16:Option GObj) (l':List (Option GObj)):Zy (Zy X n [x0,x1,x2,x3,x4,x5,x6,x7,x8,x9,x10,x11,x12,x13,x14,x15,x16]) (n+17) l'=Zy X n (x0::x1::x2::x3::x4::x5::x6::x7::x8::x9::x10::x11::x12::x13::x14::x15::x16::l'):=Js X n [x0,x1,x2,x3,x4,x5,x6,x7,x8,x9,x10,x11,x12,x13,x14,x15,x16] l' rfl
theorem Zf0 (X:Objs) (n:Nat) (x0 x1 x2 x3 x4 x5 x6 x7 x8 x9 x10 x11 x12 x13 x14 x15 x16 x17:Option GObj) (l':List (Option GObj)):Zy (Zy X n [x0,x1,x2,x3,x4,x5,x6,x7,x8,x9,x10,x11,x12,x13,x14,x15,x16,x17]) (n+18) l'=Zy X n (x0::x1::x2::x3::x4::x5::x6::x7::x8::x9::x10::x11::x12::x13::x14::x15::x16::x17::l'):=Js X n [x0,x1,x2,x3,x4,x5,x6,x7,x8,x9,x10,x11,x12,x13,x14,x15,x16,x17] l' rfl
theorem Zf1 (X:Objs) (n:Nat) (x0 x1 x2 x3 x4 x5 x6 x7 x8 x9 x10 x11 x12 x13 x14 x15 x16 x17 x18:Option GObj) (l':List (Option GObj)):Zy (Zy X n [x0,x1,x2,x3,x4,x5,x6,x7,x8,x9,x10,x11,x12,x13,x14,x15,x16,x17,x18]) (n+19) l'=Zy X n (x0::x1::x2::x3::x4::x5::x6::x7::x8::x9::x10::x11::x12::x13::x14::x15::x16::x17::x18::l'):=Js X n [x0,x1,x2,x3,x4,x5,x6,x7,x8,x9,x10,x11,x12,x13,x14,x15,x16,x17,x18] l' rfl
theorem Zf2 (X:Objs) (n:Nat) (x0 x1 x2 x3 x4 x5 x6 x7 x8 x9 x10 x11 x12 x13 x14 x15 x16 x17 x18 x19:Option GObj) (l':List (Option GObj)):Zy (Zy X n [x0,x1,x2,x3,x4,x5,x6,x7,x8,x9,x10,x11,x12,x13,x14,x15,x16,x17,x18,x19]) (n+20) l'=Zy X n (x0::x1::x2::x3::x4::x5::x6::x7::x8::x9::x10::x11::x12::x13::x14::x15::x16::x17::x18::x19::l'):=Js X n [x0,x1,x2,x3,x4,x5,x6,x7,x8,x9,x10,x11,x12,x13,x14,x15,x16,x17,x18,x19] l' rfl
theorem Zf3 (X:Objs) (n:Nat) (x0 x1 x2 x3 x4 x5 x6 x7 x8 x9 x10 x11 x12 x13 x14 x15 x16 x17 x18 x19 x20:Option GObj) (l':List (Option GObj)):Zy (Zy X n [x0,x1,x2,x3,x4,x5,x6,x7,x8,x9,x10,x11,x12,x13,x14,x15,x16,x17,x18,x19,x20]) (n+21) l'=Zy X n (x0::x1::x2::x3::x4::x5::x6::x7::x8::x9::x10::x11::x12::x13::x14::x15::x16::x17::x18::x19::x20::l'):=Js X n [x0,x1,x2,x3,x4,x5,x6,x7,x8,x9,x10,x11,x12,x13,x14,x15,x16,x17,x18,x19,x20] l' rfl
theorem Zf4 (X:Objs) (n:Nat) (x0 x1 x2 x3 x4 x5 x6 x7 x8 x9 x10 x11 x12 x13 x14 x15 x16 x17 x18 x19 x20 x21:Option GObj) (l':List (Option GObj)):Zy (Zy X n [x0,x1,x2,x3,x4,x5,x6,x7,x8,x9,x10,x11,x12,x13,x14,x15,x16,x17,x18,x19,x20,x21]) (n+22) l'=Zy X n (x0::x1::x2::x3::x4::x5::x6::x7::x8::x9::x10::x11::x12::x13::x14::x15::x16::x17::x18::x19::x20::x21::l'):=Js X n [x0,x1,x2,x3,x4,x5,x6,x7,x8,x9,x10,x11,x12,x13,x14,x15,x16,x17,x18,x19,x20,x21] l' rfl
end Go.Proofs.Ytbkhdkfjabiocaa
