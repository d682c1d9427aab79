/- Part H22 of the ghost memory: lemmas and contracts used by the proofs of this seat's laws; each theorem bears its own conditions. -/
import Derived.Test.YtaddaloondpnkaaH21
namespace Go.Proofs.Ytaddaloondpnkaa
open Go.RowKit
set_option linter.unusedVariables false
set_option linter.unusedSimpArgs false
section
variable {P:Program} {O X:Objs} {n n2:Nat} {f:FuncId} {gs:List G} {r r3:G} {rows:List (Option GObj)}
theorem GTo.freeze (h:GTo P f gs O n r (Zu O n rows) n2) (hw:Und O n→wk (Zu O n rows) O n r r3):GTo P f gs O n r3 O n:=by
 refine ⟨h.1,fun w m vs hM hr => ?_⟩
 have hU:Und O n:=⟨hM.fresh,fun i o hi=>by obtain ⟨vs,hv,_⟩:=hM.obj i o hi;exact Qw _ _ hv⟩
 have hL:LessO (Zu O n rows) O n:=Zw3 hU.fresh (OutLe.refl hU (Nat.le_refl _))
 refine (h.2 w m vs hM hr).mono fun e w' ⟨v,g,O',n',m',h1,h2,h3,h4,h5,h6,h7⟩ => ?_
 subst h5 h6 h7
 exact ⟨v,r3,O,n,m',h1,h2.weak hL,h3.weak hL (Nat.le_refl _),Zlq h2 hL _ v h4 _ (hw hU),rfl,rfl,rfl⟩
end
theorem Zdl (ρ:Nat→Nat):∀ a b:List G,G.rens ρ (a++b)=G.rens ρ a++G.rens ρ b
 | [],b=>by simp [G.rens]
 | x::a,b=>by simp [G.rens,Zdl ρ a b]
theorem Zeb (X:Objs) (n:Nat) (x0 x1 x2 x3 x4 x5:Option GObj) (l':List (Option GObj)):Zu (Zu X n [x0,x1,x2,x3,x4,x5]) (n+6) l'=Zu X n (x0::x1::x2::x3::x4::x5::l'):=Qe X n [x0,x1,x2,x3,x4,x5] l' rfl
theorem Zec (X:Objs) (n:Nat) (x0 x1 x2 x3 x4 x5 x6:Option GObj) (l':List (Option GObj)):Zu (Zu X n [x0,x1,x2,x3,x4,x5,x6]) (n+7) l'=Zu X n (x0::x1::x2::x3::x4::x5::x6::l'):=Qe X n [x0,x1,x2,x3,x4,x5,x6] l' rfl
theorem Zed (X:Objs) (n:Nat) (x0 x1 x2 x3 x4 x5 x6 x7:Option GObj) (l':List (Option GObj)):Zu (Zu X n [x0,x1,x2,x3,x4,x5,x6,x7]) (n+8) l'=Zu X n (x0::x1::x2::x3::x4::x5::x6::x7::l'):=Qe X n [x0,x1,x2,x3,x4,x5,x6,x7] l' rfl
theorem Zee (X:Objs) (n:Nat) (x0 x1 x2 x3 x4 x5 x6 x7 x8:Option GObj) (l':List (Option GObj)):Zu (Zu X n [x0,x1,x2,x3,x4,x5,x6,x7,x8]) (n+9) l'=Zu X n (x0::x1::x2::x3::x4::x5::x6::x7::x8::l'):=Qe X n [x0,x1,x2,x3,x4,x5,x6,x7,x8] l' rfl
theorem Zb1 (X:Objs) (n:Nat) (x0 x1 x2 x3 x4 x5 x6 x7 x8 x9:Option GObj) (l':List (Option GObj)):Zu (Zu X n [x0,x1,x2,x3,x4,x5,x6,x7,x8,x9]) (n+10) l'=Zu X n (x0::x1::x2::x3::x4::x5::x6::x7::x8::x9::l'):=Qe X n [x0,x1,x2,x3,x4,x5,x6,x7,x8,x9] l' rfl
theorem Zb2 (X:Objs) (n:Nat) (x0 x1 x2 x3 x4 x5 x6 x7 x8 x9 x10:Option GObj) (l':List (Option GObj)):Zu (Zu X n [x0,x1,x2,x3,x4,x5,x6,x7,x8,x9,x10]) (n+11) l'=Zu X n (x0::x1::x2::x3::x4::x5::x6::x7::x8::x9::x10::l'):=Qe X n [x0,x1,x2,x3,x4,x5,x6,x7,x8,x9,x10] l' rfl
theorem Zb3 (X:Objs) (n:Nat) (x0 x1 x2 x3 x4 x5 x6 x7 x8 x9 x10 x11:Option GObj) (l':List (Option GObj)):Zu (Zu X n [x0,x1,x2,x3,x4,x5,x6,x7,x8,x9,x10,x11]) (n+12) l'=Zu X n (x0::x1::x2::x3::x4::x5::x6::x7::x8::x9::x10::x11::l'):=Qe X n [x0,x1,x2,x3,x4,x5,x6,x7,x8,x9,x10,x11] l' rfl
theorem Zb4 (X:Objs) (n:Nat) (x0 x1 x2 x3 x4 x5 x6 x7 x8 x9 x10 x11 x12:Option GObj) (l':List (Option GObj)):Zu (Zu X n [x0,x1,x2,x3,x4,x5,x6,x7,x8,x9,x10,x11,x12]) (n+13) l'=Zu X n (x0::x1::x2::x3::x4::x5::x6::x7::x8::x9::x10::x11::x12::l'):=Qe X n [x0,x1,x2,x3,x4,x5,x6,x7,x8,x9,x10,x11,x12] l' rfl
theorem Zb5 (X:Objs) (n:Nat) (x0 x1 x2 x3 x4 x5 x6 x7 x8 x9 x10 x11 x12 x13:Option GObj) (l':List (Option GObj)):Zu (Zu X n [x0,x1,x2,x3,x4,x5,x6,x7,x8,x9,x10,x11,x12,x13]) (n+14) l'=Zu X n (x0::x1::x2::x3::x4::x5::x6::x7::x8::x9::x10::x11::x12::x13::l'):=Qe X n [x0,x1,x2,x3,x4,x5,x6,x7,x8,x9,x10,x11,x12,x13] l' rfl
theorem Zb6 (X:Objs) (n:Nat) (x0 x1 x2 x3 x4 x5 x6 x7 x8 x9 x10 x11 x12 x13 x14:Option GObj) (l':List (Option GObj)):Zu (Zu X n [x0,x1,x2,x3,x4,x5,x6,x7,x8,x9,x10,x11,x12,x13,x14]) (n+15) l'=Zu X n (x0::x1::x2::x3::x4::x5::x6::x7::x8::x9::x10::x11::x12::x13::x14::l'):=Qe X n [x0,x1,x2,x3,x4,x5,x6,x7,x8,x9,x10,x11,x12,x13,x14] l' rfl
theorem Zb7 (X:Objs) (n:Nat) (x0 x1 x2 x3 x4 x5 x6 x7 x8 x9 x10 x11 x12 x13 x14 x15:Option GObj) (l':List (Option GObj)):Zu (Zu X n [x0,x1,x2,x3,x4,x5,x6,x7,x8,x9,x10,x11,x12,x13,x14,x15]) (n+16) l'=Zu X n (x0::x1::x2::x3::x4::x5::x6::x7::x8::x9::x10::x11::x12::x13::x14::x15::l'):=Qe X n [x0,x1,x2,x3,x4,x5,x6,x7,x8,x9,x10,x11,x12,x13,x14,x15] l' rfl
theorem Zb8 (X:Objs) (n:Nat) (x0 x1 x2 x3 x4 x5 x6 x7 x8 x9 x10 x11 x12 x13 x14 x15 x16:Option GObj) (l':List (Option GObj)):Zu (Zu X n [x0,x1,x2,x3,x4,x5,x6,x7,x8,x9,x10,x11,x12,x13,x14,x15,x16]) (n+17) l'=Zu X n (x0::x1::x2::x3::x4::x5::x6::x7::x8::x9::x10::x11::x12::x13::x14::x15::x16::l'):=Qe X n [x0,x1,x2,x3,x4,x5,x6,x7,x8,x9,x10,x11,x12,x13,x14,x15,x16] l' rfl
theorem Zb9 (X:Objs) (n:Nat) (x0 x1 x2 x3 x4 x5 x6 x7 x8 x9 x10 x11 x12 x13 x14 x15 x16 x17:Option GObj) (l':List (Option GObj)):Zu (Zu X n [x0,x1,x2,x3,x4,x5,x6,x7,x8,x9,x10,x11,x12,x13,x14,x15,x16,x17]) (n+18) l'=Zu X n (x0::x1::x2::x3::x4::x5::x6::x7::x8::x9::x10::x11::x12::x13::x14::x15::x16::x17::l'):=Qe X n [x0,x1,x2,x3,x4,x5,x6,x7,x8,x9,x10,x11,x12,x13,x14,x15,x16,x17] l' rfl
theorem Zca (X:Objs) (n:Nat) (x0 x1 x2 x3 x4 x5 x6 x7 x8 x9 x10 x11 x12 x13 x14 x15 x16 x17 x18:Option GObj) (l':List (Option GObj)):Zu (Zu X n [x0,x1,x2,x3,x4,x5,x6,x7,x8,x9,x10,x11,x12,x13,x14,x15,x16,x17,x18]) (n+19) l'=Zu X n (x0::x1::x2::x3::x4::x5::x6::x7::x8::x9::x10::x11::x12::x13::x14::x15::x16::x17::x18::l'):=Qe X n [x0,x1,x2,x3,x4,x5,x6,x7,x8,x9,x10,x11,x12,x13,x14,x15,x16,x17,x18] l' rfl
theorem Zcb (X:Objs) (n:Nat) (x0 x1 x2 x3 x4 x5 x6 x7 x8 x9 x10 x11 x12 x13 x14 x15 x16 x17 x18 x19:Option GObj) (l':List (Option GObj)):Zu (Zu X n [x0,x1,x2,x3,x4,x5,x6,x7,x8,x9,x10,x11,x12,x13,x14,x15,x16,x17,x18,x19]) (n+20) l'=Zu X n (x0::x1::x2::x3::x4::x5::x6::x7::x8::x9::x10::x11::x12::x13::x14::x15::x16::x17::x18::x19::l'):=Qe X n [x0,x1,x2,x3,x4,x5,x6,x7,x8,x9,x10,x11,x12,x13,x14,x15,x16,x17,x18,x19] l' rfl
theorem Zcc (X:Objs) (n:Nat) (x0 x1 x2 x3 x4 x5 x6 x7 x8 x9 x10 x11 x12 x13 x14 x15 x16 x17 x18 x19 x20:Option GObj) (l':List (Option GObj)):Zu (Zu X n [x0,x1,x2,x3,x4,x5,x6,x7,x8,x9,x10,x11,x12,x13,x14,x15,x16,x17,x18,x19,x20]) (n+21) l'=Zu X n (x0::x1::x2::x3::x4::x5::x6::x7::x8::x9::x10::x11::x12::x13::x14::x15::x16::x17::x18::x19::x20::l'):=Qe X n [x0,x1,x2,x3,x4,x5,x6,x7,x8,x9,x10,x11,x12,x13,x14,x15,x16,x17,x18,x19,x20] l' rfl
theorem Zcd (X:Objs) (n:Nat) (x0 x1 x2 x3 x4 x5 x6 x7 x8 x9 x10 x11 x12 x13 x14 x15 x16 x17 x18 x19 x20 x21:Option GObj) (l':List (Option GObj)):Zu (Zu X n [x0,x1,x2,x3,x4,x5,x6,x7,x8,x9,x10,x11,x12,x13,x14,x15,x16,x17,x18,x19,x20,x21]) (n+22) l'=Zu X n (x0::x1::x2::x3::x4::x5::x6::x7::x8::x9::x10::x11::x12::x13::x14::x15::x16::x17::x18::x19::x20::x21::l'):=Qe X n [x0,x1,x2,x3,x4,x5,x6,x7,x8,x9,x10,x11,x12,x13,x14,x15,x16,x17,x18,x19,x20,x21] l' rfl
end Go.Proofs.Ytaddaloondpnkaa
