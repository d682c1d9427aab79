/- Part H22 of the ghost memory: lemmas and contracts used by the proofs of this seat's laws; each theorem bears its own conditions. -/
import Derived.Test.YtmpkfolcikhofaaH21
import Derived.WalkKit
import Derived.WalkSpells
import Derived.WalkLawsBesides
import Derived.Lib.Hide
import Derived.BigQuiet
import Derived.StillTailTactics
import Derived.Deep.RegionHeld3
import Derived.Deep.AppendLies
import Derived.Laws.CopyOwn
import Derived.Deep.DeepCutAuto
import Derived.Deep.QuietTactic
import Derived.Maps.AppendAt
import Derived.Great.BuildSlice
import Derived.Laws.StructEq
import Derived.IntWalk
import Derived.ProofKit
import Derived.OpenShut
import Derived.SizedLaws
import Derived.Deep.Slices
namespace Go.Proofs.Ytmpkfolcikhofaa
open Go.RowKit
set_option linter.unusedVariables false
set_option linter.unusedSimpArgs false
section
variable {α:Type} {xs:List α} {f:α→List G} {sz:Nat} {ph cs:List G}
theorem Zoo (hf:∀ x,(f x).length=sz) (hp:ph.length=sz) (hc:cs.length=sz):Vt (fl f xs++ph) cs (xs.length * sz)=some (fl f xs++cs):=by
 unfold Vt
 have hl:=Jp hf xs
 rw [if_pos (by rw [List.length_append,hl];omega),List.take_left' hl,List.drop_eq_nil_of_le (by rw [List.length_append,hl];omega),List.append_nil]
end
theorem Zgx (ρ:Nat→Nat):∀ a b:List G,G.rens ρ (a++b)=G.rens ρ a++G.rens ρ b
 | [],b=>by simp [G.rens]
 | x::a,b=>by simp [G.rens,Zgx ρ a b]
theorem Zii (X:Objs) (n:Nat) (x0 x1 x2 x3 x4 x5:Option GObj) (l':List (Option GObj)):Zx (Zx X n [x0,x1,x2,x3,x4,x5]) (n+6) l'=Zx X n (x0::x1::x2::x3::x4::x5::l'):=V6 X n [x0,x1,x2,x3,x4,x5] l' rfl
theorem Zij (X:Objs) (n:Nat) (x0 x1 x2 x3 x4 x5 x6:Option GObj) (l':List (Option GObj)):Zx (Zx X n [x0,x1,x2,x3,x4,x5,x6]) (n+7) l'=Zx X n (x0::x1::x2::x3::x4::x5::x6::l'):=V6 X n [x0,x1,x2,x3,x4,x5,x6] l' rfl
theorem Zik (X:Objs) (n:Nat) (x0 x1 x2 x3 x4 x5 x6 x7:Option GObj) (l':List (Option GObj)):Zx (Zx X n [x0,x1,x2,x3,x4,x5,x6,x7]) (n+8) l'=Zx X n (x0::x1::x2::x3::x4::x5::x6::x7::l'):=V6 X n [x0,x1,x2,x3,x4,x5,x6,x7] l' rfl
theorem Zil (X:Objs) (n:Nat) (x0 x1 x2 x3 x4 x5 x6 x7 x8:Option GObj) (l':List (Option GObj)):Zx (Zx X n [x0,x1,x2,x3,x4,x5,x6,x7,x8]) (n+9) l'=Zx X n (x0::x1::x2::x3::x4::x5::x6::x7::x8::l'):=V6 X n [x0,x1,x2,x3,x4,x5,x6,x7,x8] l' rfl
theorem Zf6 (X:Objs) (n:Nat) (x0 x1 x2 x3 x4 x5 x6 x7 x8 x9:Option GObj) (l':List (Option GObj)):Zx (Zx X n [x0,x1,x2,x3,x4,x5,x6,x7,x8,x9]) (n+10) l'=Zx X n (x0::x1::x2::x3::x4::x5::x6::x7::x8::x9::l'):=V6 X n [x0,x1,x2,x3,x4,x5,x6,x7,x8,x9] l' rfl
theorem Zf7 (X:Objs) (n:Nat) (x0 x1 x2 x3 x4 x5 x6 x7 x8 x9 x10:Option GObj) (l':List (Option GObj)):Zx (Zx X n [x0,x1,x2,x3,x4,x5,x6,x7,x8,x9,x10]) (n+11) l'=Zx X n (x0::x1::x2::x3::x4::x5::x6::x7::x8::x9::x10::l'):=V6 X n [x0,x1,x2,x3,x4,x5,x6,x7,x8,x9,x10] l' rfl
theorem Zf8 (X:Objs) (n:Nat) (x0 x1 x2 x3 x4 x5 x6 x7 x8 x9 x10 x11:Option GObj) (l':List (Option GObj)):Zx (Zx X n [x0,x1,x2,x3,x4,x5,x6,x7,x8,x9,x10,x11]) (n+12) l'=Zx X n (x0::x1::x2::x3::x4::x5::x6::x7::x8::x9::x10::x11::l'):=V6 X n [x0,x1,x2,x3,x4,x5,x6,x7,x8,x9,x10,x11] l' rfl
theorem Zf9 (X:Objs) (n:Nat) (x0 x1 x2 x3 x4 x5 x6 x7 x8 x9 x10 x11 x12:Option GObj) (l':List (Option GObj)):Zx (Zx X n [x0,x1,x2,x3,x4,x5,x6,x7,x8,x9,x10,x11,x12]) (n+13) l'=Zx X n (x0::x1::x2::x3::x4::x5::x6::x7::x8::x9::x10::x11::x12::l'):=V6 X n [x0,x1,x2,x3,x4,x5,x6,x7,x8,x9,x10,x11,x12] l' rfl
theorem Zga (X:Objs) (n:Nat) (x0 x1 x2 x3 x4 x5 x6 x7 x8 x9 x10 x11 x12 x13:Option GObj) (l':List (Option GObj)):Zx (Zx X n [x0,x1,x2,x3,x4,x5,x6,x7,x8,x9,x10,x11,x12,x13]) (n+14) l'=Zx X n (x0::x1::x2::x3::x4::x5::x6::x7::x8::x9::x10::x11::x12::x13::l'):=V6 X n [x0,x1,x2,x3,x4,x5,x6,x7,x8,x9,x10,x11,x12,x13] l' rfl
theorem Zgb (X:Objs) (n:Nat) (x0 x1 x2 x3 x4 x5 x6 x7 x8 x9 x10 x11 x12 x13 x14:Option GObj) (l':List (Option GObj)):Zx (Zx X n [x0,x1,x2,x3,x4,x5,x6,x7,x8,x9,x10,x11,x12,x13,x14]) (n+15) l'=Zx X n (x0::x1::x2::x3::x4::x5::x6::x7::x8::x9::x10::x11::x12::x13::x14::l'):=V6 X n [x0,x1,x2,x3,x4,x5,x6,x7,x8,x9,x10,x11,x12,x13,x14] l' rfl
theorem Zgc (X:Objs) (n:Nat) (x0 x1 x2 x3 x4 x5 x6 x7 x8 x9 x10 x11 x12 x13 x14 x15:Option GObj) (l':List (Option GObj)):Zx (Zx X n [x0,x1,x2,x3,x4,x5,x6,x7,x8,x9,x10,x11,x12,x13,x14,x15]) (n+16) l'=Zx X n (x0::x1::x2::x3::x4::x5::x6::x7::x8::x9::x10::x11::x12::x13::x14::x15::l'):=V6 X n [x0,x1,x2,x3,x4,x5,x6,x7,x8,x9,x10,x11,x12,x13,x14,x15] l' rfl
end Go.Proofs.Ytmpkfolcikhofaa
