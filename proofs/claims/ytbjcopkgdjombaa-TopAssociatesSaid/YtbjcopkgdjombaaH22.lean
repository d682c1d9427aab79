/- Part H22 of the ghost memory: lemmas and contracts used by the proofs of this seat's laws; each theorem bears its own conditions. -/
import Derived.Test.YtbjcopkgdjombaaH21
import Derived.WalkKit
import Derived.WalkSpells
import Derived.WalkLawsBesides
import Derived.Lib.Hide
import Derived.BigQuiet
import Derived.StillTailTactics
import Derived.Deep.RegionHeld3
import Derived.Deep.AppendLies
import Derived.Laws.CopyOwn
import Derived.Deep.DeepCutAuto
import Derived.Deep.QuietTactic
import Derived.Maps.AppendAt
import Derived.Great.BuildSlice
import Derived.Laws.StructEq
import Derived.IntWalk
import Derived.ProofKit
import Derived.OpenShut
import Derived.SizedLaws
import Derived.Deep.Slices
namespace Go.Proofs.Ytbjcopkgdjombaa
open Go.RowKit
set_option linter.unusedVariables false
set_option linter.unusedSimpArgs false
section
variable {α:Type} {xs:List α} {f:α→List G} {sz:Nat} {ph cs:List G}
theorem Zc7 (hf:∀ x,(f x).length=sz) (hp:ph.length=sz) (hc:cs.length=sz):U1 (fl f xs++ph) cs (xs.length * sz)=some (fl f xs++cs):=by
 unfold U1
 have hl:=V2 hf xs
 rw [if_pos (by rw [List.length_append,hl];omega),List.take_left' hl,List.drop_eq_nil_of_le (by rw [List.length_append,hl];omega),List.append_nil]
end
theorem Ziq (ρ:Nat→Nat):∀ a b:List G,G.rens ρ (a++b)=G.rens ρ a++G.rens ρ b
 | [],b=>by simp [G.rens]
 | x::a,b=>by simp [G.rens,Ziq ρ a b]
theorem Zjo (X:Objs) (n:Nat) (x0 x1 x2 x3 x4 x5:Option GObj) (l':List (Option GObj)):Zu (Zu X n [x0,x1,x2,x3,x4,x5]) (n+6) l'=Zu X n (x0::x1::x2::x3::x4::x5::l'):=Zb2 X n [x0,x1,x2,x3,x4,x5] l' rfl
theorem Zjp (X:Objs) (n:Nat) (x0 x1 x2 x3 x4 x5 x6:Option GObj) (l':List (Option GObj)):Zu (Zu X n [x0,x1,x2,x3,x4,x5,x6]) (n+7) l'=Zu X n (x0::x1::x2::x3::x4::x5::x6::l'):=Zb2 X n [x0,x1,x2,x3,x4,x5,x6] l' rfl
theorem Zjq (X:Objs) (n:Nat) (x0 x1 x2 x3 x4 x5 x6 x7:Option GObj) (l':List (Option GObj)):Zu (Zu X n [x0,x1,x2,x3,x4,x5,x6,x7]) (n+8) l'=Zu X n (x0::x1::x2::x3::x4::x5::x6::x7::l'):=Zb2 X n [x0,x1,x2,x3,x4,x5,x6,x7] l' rfl
theorem Zjr (X:Objs) (n:Nat) (x0 x1 x2 x3 x4 x5 x6 x7 x8:Option GObj) (l':List (Option GObj)):Zu (Zu X n [x0,x1,x2,x3,x4,x5,x6,x7,x8]) (n+9) l'=Zu X n (x0::x1::x2::x3::x4::x5::x6::x7::x8::l'):=Zb2 X n [x0,x1,x2,x3,x4,x5,x6,x7,x8] l' rfl
theorem Zg9 (X:Objs) (n:Nat) (x0 x1 x2 x3 x4 x5 x6 x7 x8 x9:Option GObj) (l':List (Option GObj)):Zu (Zu X n [x0,x1,x2,x3,x4,x5,x6,x7,x8,x9]) (n+10) l'=Zu X n (x0::x1::x2::x3::x4::x5::x6::x7::x8::x9::l'):=Zb2 X n [x0,x1,x2,x3,x4,x5,x6,x7,x8,x9] l' rfl
theorem Zha (X:Objs) (n:Nat) (x0 x1 x2 x3 x4 x5 x6 x7 x8 x9 x10:Option GObj) (l':List (Option GObj)):Zu (Zu X n [x0,x1,x2,x3,x4,x5,x6,x7,x8,x9,x10]) (n+11) l'=Zu X n (x0::x1::x2::x3::x4::x5::x6::x7::x8::x9::x10::l'):=Zb2 X n [x0,x1,x2,x3,x4,x5,x6,x7,x8,x9,x10] l' rfl
theorem Zhb (X:Objs) (n:Nat) (x0 x1 x2 x3 x4 x5 x6 x7 x8 x9 x10 x11:Option GObj) (l':List (Option GObj)):Zu (Zu X n [x0,x1,x2,x3,x4,x5,x6,x7,x8,x9,x10,x11]) (n+12) l'=Zu X n (x0::x1::x2::x3::x4::x5::x6::x7::x8::x9::x10::x11::l'):=Zb2 X n [x0,x1,x2,x3,x4,x5,x6,x7,x8,x9,x10,x11] l' rfl
theorem Zhc (X:Objs) (n:Nat) (x0 x1 x2 x3 x4 x5 x6 x7 x8 x9 x10 x11 x12:Option GObj) (l':List (Option GObj)):Zu (Zu X n [x0,x1,x2,x3,x4,x5,x6,x7,x8,x9,x10,x11,x12]) (n+13) l'=Zu X n (x0::x1::x2::x3::x4::x5::x6::x7::x8::x9::x10::x11::x12::l'):=Zb2 X n [x0,x1,x2,x3,x4,x5,x6,x7,x8,x9,x10,x11,x12] l' rfl
theorem Zhd (X:Objs) (n:Nat) (x0 x1 x2 x3 x4 x5 x6 x7 x8 x9 x10 x11 x12 x13:Option GObj) (l':List (Option GObj)):Zu (Zu X n [x0,x1,x2,x3,x4,x5,x6,x7,x8,x9,x10,x11,x12,x13]) (n+14) l'=Zu X n (x0::x1::x2::x3::x4::x5::x6::x7::x8::x9::x10::x11::x12::x13::l'):=Zb2 X n [x0,x1,x2,x3,x4,x5,x6,x7,x8,x9,x10,x11,x12,x13] l' rfl
theorem Zhe (X:Objs) (n:Nat) (x0 x1 x2 x3 x4 x5 x6 x7 x8 x9 x10 x11 x12 x13 x14:Option GObj) (l':List (Option GObj)):Zu (Zu X n [x0,x1,x2,x3,x4,x5,x6,x7,x8,x9,x10,x11,x12,x13,x14]) (n+15) l'=Zu X n (x0::x1::x2::x3::x4::x5::x6::x7::x8::x9::x10::x11::x12::x13::x14::l'):=Zb2 X n [x0,x1,x2,x3,x4,x5,x6,x7,x8,x9,x10,x11,x12,x13,x14] l' rfl
theorem Zhf (X:Objs) (n:Nat) (x0 x1 x2 x3 x4 x5 x6 x7 x8 x9 x10 x11 x12 x13 x14 x15:Option GObj) (l':List (Option GObj)):Zu (Zu X n [x0,x1,x2,x3,x4,x5,x6,x7,x8,x9,x10,x11,x12,x13,x14,x15]) (n+16) l'=Zu X n (x0::x1::x2::x3::x4::x5::x6::x7::x8::x9::x10::x11::x12::x13::x14::x15::l'):=Zb2 X n [x0,x1,x2,x3,x4,x5,x6,x7,x8,x9,x10,x11,x12,x13,x14,x15] l' rfl
end Go.Proofs.Ytbjcopkgdjombaa
