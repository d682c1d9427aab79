/- The types of this seat's program, as its dump has them, in the ghost memory's words; no condition. -/
import Derived.Test.YtgpaglmhkklneaaGreatRows
import Derived.Test.YtgpaglmhkklneaaGreatG16
namespace Go.Proofs.YtgpaglmhkklneaaGreat
open Go.RowKit
set_option linter.unusedVariables false
set_option linter.unusedSimpArgs false
theorem TyOk.of {P : Program} {t : TypeId} (k : TK) (size bytes : Nat) (zero : List Value) (z : Value) (h : (P.info? t).map (fun i => (i.zero, i.size, i.bytes)) = some (some z, size, bytes)) (hz : z.cells.toList = zero) (hu : k.ok P t) (hl : zero.length = size) (h1 : zero.all Value.oneCell' = true) (eq : Bool) (he : eq = true → EqTy P t) : TyOk P t ⟨k, size, bytes, zero, eq⟩ := by
 refine ⟨?_, hu, hl, fun v hv => List.all_eq_true.1 h1 v hv, he⟩
 cases hi : P.info? t with
 | none => rw [hi] at h; cases h
 | some i =>
  rw [hi] at h
  simp only [Option.map_some, Option.some.injEq, Prod.mk.injEq] at h
  exact ⟨i, z, rfl, h.2.1, h.2.2, h.1, hz⟩
theorem TyOk.g {P : Program} {t : TypeId} {k : TK} {size bytes : Nat} {zero : List Value} {eq : Bool} (h : (P.info? t).map (fun i => (i.zero, i.size, i.bytes)) = some (some (.agg zero.toArray), size, bytes)) (hu : k.ok P t) (he : eq = true → EqTy P t := by intro h; cases h) (hz : (Value.agg zero.toArray).cells.toList = zero := by rfl) (hl : zero.length = size := by rfl) (h1 : zero.all Value.oneCell' = true := by rfl) : TyOk P t ⟨k, size, bytes, zero, eq⟩ := .of k size bytes zero _ h hz hu hl h1 eq he
theorem TyOk.s {P : Program} {t : TypeId} {k : TK} {size bytes : Nat} {z : Value} {eq : Bool} (h : (P.info? t).map (fun i => (i.zero, i.size, i.bytes)) = some (some z, size, bytes)) (hu : k.ok P t) (he : eq = true → EqTy P t := by intro h; cases h) (hz : z.cells.toList = [z] := by rfl) (hl : [z].length = size := by rfl) (h1 : [z].all Value.oneCell' = true := by rfl) : TyOk P t ⟨k, size, bytes, [z], eq⟩ := .of k size bytes [z] _ h hz hu hl h1 eq he
theorem EqTy.m {P : Program} {t : TypeId} (h : EqTy P t) : true = true → EqTy P t := fun _ => h
theorem Zst {α : Type} {t : Nat} {i : α} : ∀ (l : List (Nat × α)), l.lookup t = some i → (t, i) ∈ l
 | [], h => by simp at h
 | (a, b) :: l, h => by
  rw [List.lookup_cons] at h
  split at h
  ·rename_i he
   injection h with h
   have : t = a := by simpa using he
   subst h this
   exact .head _
  exact .tail _ (Zst l h)
def tE2 : TyI := ⟨.int .i64, 1, 8, [.int .i64 0], false⟩
theorem ty2 : TyOk Tryz.prog 2 tE2 := .s (by kernel_rfl) Tryz.underlying2
theorem ty3 : TyOk Tryz.prog 3 tE2 := .s (by kernel_rfl) Tryz.underlying3
def tE4 : TyI := ⟨.bool, 1, 1, [.bool false], false⟩
theorem ty4 : TyOk Tryz.prog 4 tE4 := .s (by kernel_rfl) Tryz.underlying4
def tE5 : TyI := ⟨.int .u8, 1, 1, [.int .u8 0], false⟩
theorem ty5 : TyOk Tryz.prog 5 tE5 := .s (by kernel_rfl) Tryz.underlying5
theorem ty6 : TyOk Tryz.prog 6 tE5 := .s (by kernel_rfl) Tryz.underlying6
def tE7 : TyI := ⟨.struct [(0, 2), (1, 3), (2, 4), (3, 6)], 4, 24, [.int .i64 0, .int .i64 0, .bool false, .int .u8 0], false⟩
theorem ty7 : TyOk Tryz.prog 7 tE7 := .g (by kernel_rfl) ⟨_, Tryz.underlying7, rfl⟩
theorem ty8 : TyOk Tryz.prog 8 tE7 := .g (by kernel_rfl) ⟨_, Tryz.underlying8, rfl⟩
def tE9 : TyI := ⟨.str, 1, 16, [.string ByteArray.empty], false⟩
theorem ty9 : TyOk Tryz.prog 9 tE9 := .s (by kernel_rfl) Tryz.underlying9
theorem Ydt : TyOk Tryz.prog 10 tE9 := .s (by kernel_rfl) Tryz.underlying10
theorem Ydu : TyOk Tryz.prog 11 tE9 := .s (by kernel_rfl) Tryz.underlying11
def Z9l : TyI := ⟨.int .u64, 1, 8, [.int .u64 0], false⟩
theorem Ydv : TyOk Tryz.prog 12 Z9l := .s (by kernel_rfl) Tryz.underlying12
def Z9m : TyI := ⟨.struct [(0, 9), (1, 12)], 2, 24, [.string ByteArray.empty, .int .u64 0], false⟩
theorem Ydw : TyOk Tryz.prog 13 Z9m := .g (by kernel_rfl) ⟨_, Tryz.underlying13, rfl⟩
theorem Ydx : TyOk Tryz.prog 14 Z9m := .g (by kernel_rfl) ⟨_, Tryz.underlying14, rfl⟩
def Ycb : TyI := ⟨.ptr 154, 1, 8, [.pointer none], false⟩
theorem Ydy : TyOk Tryz.prog 15 Ycb := .s (by kernel_rfl) Tryz.underlying15
def Ycc : TyI := ⟨.ptr 157, 1, 8, [.pointer none], false⟩
theorem Ydz : TyOk Tryz.prog 16 Ycc := .s (by kernel_rfl) Tryz.underlying16
def Ycd : TyI := ⟨.ptr 167, 1, 8, [.pointer none], false⟩
theorem Yd0 : TyOk Tryz.prog 17 Ycd := .s (by kernel_rfl) Tryz.underlying17
def Z9n : TyI := ⟨.struct [(0, 17)], 1, 8, [.pointer none], false⟩
theorem Yd1 : TyOk Tryz.prog 18 Z9n := .g (by kernel_rfl) ⟨_, Tryz.underlying18, rfl⟩
theorem Yd2 : TyOk Tryz.prog 19 Z9n := .g (by kernel_rfl) ⟨_, Tryz.underlying19, rfl⟩
def Z45 : TyI := ⟨.int .i32, 1, 4, [.int .i32 0], false⟩
theorem Yd3 : TyOk Tryz.prog 21 Z45 := .s (by kernel_rfl) Tryz.underlying21
def Yce : TyI := ⟨.slice 46, 1, 24, [.slice none 0 0], false⟩
theorem Yd4 : TyOk Tryz.prog 22 Yce := .s (by kernel_rfl) Tryz.underlying22
def Ycf : TyI := ⟨.slice 25, 1, 24, [.slice none 0 0], false⟩
theorem Yd5 : TyOk Tryz.prog 23 Ycf := .s (by kernel_rfl) Tryz.underlying23
def Z9o : TyI := ⟨.struct [(0, 3), (1, 22), (2, 23)], 3, 56, [.int .i64 0, .slice none 0 0, .slice none 0 0], false⟩
theorem Yd6 : TyOk Tryz.prog 24 Z9o := .g (by kernel_rfl) ⟨_, Tryz.underlying24, rfl⟩
theorem Yd7 : TyOk Tryz.prog 25 Z9o := .g (by kernel_rfl) ⟨_, Tryz.underlying25, rfl⟩
def Ycg : TyI := ⟨.slice 48, 1, 24, [.slice none 0 0], false⟩
theorem Yd8 : TyOk Tryz.prog 26 Ycg := .s (by kernel_rfl) Tryz.underlying26
def Ych : TyI := ⟨.slice 59, 1, 24, [.slice none 0 0], false⟩
theorem Yd9 : TyOk Tryz.prog 27 Ych := .s (by kernel_rfl) Tryz.underlying27
def Yci : TyI := ⟨.slice 61, 1, 24, [.slice none 0 0], false⟩
theorem Yea : TyOk Tryz.prog 28 Yci := .s (by kernel_rfl) Tryz.underlying28
def Z9p : TyI := ⟨.struct [(0, 3), (1, 25), (4, 25), (7, 26), (8, 27), (9, 3), (10, 28)], 11, 200, [.int .i64 0, .int .i64 0, .slice none 0 0, .slice none 0 0, .int .i64 0, .slice none 0 0, .slice none 0 0, .slice none 0 0, .slice none 0 0, .int .i64 0, .slice none 0 0], false⟩
theorem Yeb : TyOk Tryz.prog 29 Z9p := .g (by kernel_rfl) ⟨_, Tryz.underlying29, rfl⟩
theorem Yec : TyOk Tryz.prog 30 Z9p := .g (by kernel_rfl) ⟨_, Tryz.underlying30, rfl⟩
def Z9q : TyI := ⟨.struct [(0, 3), (1, 3), (2, 30)], 13, 216, [.int .i64 0, .int .i64 0, .int .i64 0, .int .i64 0, .slice none 0 0, .slice none 0 0, .int .i64 0, .slice none 0 0, .slice none 0 0, .slice none 0 0, .slice none 0 0, .int .i64 0, .slice none 0 0], false⟩
theorem Yed : TyOk Tryz.prog 31 Z9q := .g (by kernel_rfl) ⟨_, Tryz.underlying31, rfl⟩
theorem Yee : TyOk Tryz.prog 32 Z9q := .g (by kernel_rfl) ⟨_, Tryz.underlying32, rfl⟩
def Ycj : TyI := ⟨.ptr 51, 1, 8, [.pointer none], false⟩
theorem Yef : TyOk Tryz.prog 35 Ycj := .s (by kernel_rfl) Tryz.underlying35
theorem Yeg : TyOk Tryz.prog 40 tE2 := .s (by kernel_rfl) Tryz.underlying40
theorem Yeh : TyOk Tryz.prog 46 Z9l := .s (by kernel_rfl) Tryz.underlying46
def Ycl : TyI := ⟨.struct [(0, 3), (1, 5), (2, 46), (3, 46)], 4, 32, [.int .i64 0, .int .u8 0, .int .u64 0, .int .u64 0], false⟩
theorem Yei : TyOk Tryz.prog 47 Ycl := .g (by kernel_rfl) ⟨_, Tryz.underlying47, rfl⟩
def Ycm : TyI := ⟨.struct [(0, 3), (1, 5), (2, 46), (3, 46)], 4, 32, [.int .i64 0, .int .u8 0, .int .u64 0, .int .u64 0], true⟩
theorem Yej : TyOk Tryz.prog 48 Ycm := .g (by kernel_rfl) ⟨_, Tryz.underlying48, rfl⟩ (fun _ => by unfold EqTy; exact ⟨by kernel_rfl, by kernel_rfl, by kernel_rfl⟩)
def Ycn : TyI := ⟨.slice 30, 1, 24, [.slice none 0 0], false⟩
theorem Yek : TyOk Tryz.prog 49 Ycn := .s (by kernel_rfl) Tryz.underlying49
def Z9r : TyI := ⟨.struct [(0, 25), (3, 49), (4, 49)], 5, 104, [.int .i64 0, .slice none 0 0, .slice none 0 0, .slice none 0 0, .slice none 0 0], false⟩
theorem Yel : TyOk Tryz.prog 50 Z9r := .g (by kernel_rfl) ⟨_, Tryz.underlying50, rfl⟩
theorem Yem : TyOk Tryz.prog 51 Z9r := .g (by kernel_rfl) ⟨_, Tryz.underlying51, rfl⟩
def Z9s : TyI := ⟨.struct [(0, 3), (1, 30)], 12, 208, [.int .i64 0, .int .i64 0, .int .i64 0, .slice none 0 0, .slice none 0 0, .int .i64 0, .slice none 0 0, .slice none 0 0, .slice none 0 0, .slice none 0 0, .int .i64 0, .slice none 0 0], false⟩
theorem Yen : TyOk Tryz.prog 58 Z9s := .g (by kernel_rfl) ⟨_, Tryz.underlying58, rfl⟩
theorem Yeo : TyOk Tryz.prog 59 Z9s := .g (by kernel_rfl) ⟨_, Tryz.underlying59, rfl⟩
def Z9t : TyI := ⟨.struct [(0, 3), (1, 3), (2, 23), (3, 30)], 14, 240, [.int .i64 0, .int .i64 0, .slice none 0 0, .int .i64 0, .int .i64 0, .slice none 0 0, .slice none 0 0, .int .i64 0, .slice none 0 0, .slice none 0 0, .slice none 0 0, .slice none 0 0, .int .i64 0, .slice none 0 0], false⟩
theorem Yep : TyOk Tryz.prog 60 Z9t := .g (by kernel_rfl) ⟨_, Tryz.underlying60, rfl⟩
theorem Yeq : TyOk Tryz.prog 61 Z9t := .g (by kernel_rfl) ⟨_, Tryz.underlying61, rfl⟩
def Yco : TyI := ⟨.struct [(0, 4), (1, 4)], 2, 2, [.bool false, .bool false], false⟩
theorem Yer : TyOk Tryz.prog 70 Yco := .g (by kernel_rfl) ⟨_, Tryz.underlying70, rfl⟩
def Ycp : TyI := ⟨.struct [(0, 4), (1, 4)], 2, 2, [.bool false, .bool false], true⟩
theorem Yes : TyOk Tryz.prog 71 Ycp := .g (by kernel_rfl) ⟨_, Tryz.underlying71, rfl⟩ (fun _ => by unfold EqTy; exact ⟨by kernel_rfl, by kernel_rfl, by kernel_rfl⟩)
def Z9u : TyI := ⟨.struct [(0, 28), (1, 3), (2, 23), (3, 23)], 4, 80, [.slice none 0 0, .int .i64 0, .slice none 0 0, .slice none 0 0], false⟩
theorem Yet : TyOk Tryz.prog 80 Z9u := .g (by kernel_rfl) ⟨_, Tryz.underlying80, rfl⟩
theorem Yeu : TyOk Tryz.prog 81 Z9u := .g (by kernel_rfl) ⟨_, Tryz.underlying81, rfl⟩
def Ycq : TyI := ⟨.ptr 23, 1, 8, [.pointer none], false⟩
theorem Yev : TyOk Tryz.prog 84 Ycq := .s (by kernel_rfl) Tryz.underlying84
def Ycr : TyI := ⟨.ptr 71, 1, 8, [.pointer none], false⟩
theorem Yew : TyOk Tryz.prog 87 Ycr := .s (by kernel_rfl) Tryz.underlying87
def Ycs : TyI := ⟨.ptr 81, 1, 8, [.pointer none], false⟩
theorem Yex : TyOk Tryz.prog 96 Ycs := .s (by kernel_rfl) Tryz.underlying96
def Yct : TyI := ⟨.ptr 108, 1, 8, [.pointer none], false⟩
theorem Yey : TyOk Tryz.prog 98 Yct := .s (by kernel_rfl) Tryz.underlying98
def Z99 : TyI := ⟨.slice 106, 1, 24, [.slice none 0 0], false⟩
theorem Ycv : TyOk Tryz.prog 102 Z99 := .s (by kernel_rfl) Tryz.underlying102
def Z30 : TyI := ⟨.struct [(0, 3), (1, 61), (15, 61)], 29, 488, [.int .i64 0, .int .i64 0, .int .i64 0, .slice none 0 0, .int .i64 0, .int .i64 0, .slice none 0 0, .slice none 0 0, .int .i64 0, .slice none 0 0, .slice none 0 0, .slice none 0 0, .slice none 0 0, .int .i64 0, .slice none 0 0, .int .i64 0, .int .i64 0, .slice none 0 0, .int .i64 0, .int .i64 0, .slice none 0 0, .slice none 0 0, .int .i64 0, .slice none 0 0, .slice none 0 0, .slice none 0 0, .slice none 0 0, .int .i64 0, .slice none 0 0], false⟩
theorem Ycw : TyOk Tryz.prog 105 Z30 := .g (by kernel_rfl) ⟨_, Tryz.underlying105, rfl⟩
theorem Ycx : TyOk Tryz.prog 106 Z30 := .g (by kernel_rfl) ⟨_, Tryz.underlying106, rfl⟩
def Z31 : TyI := ⟨.struct [(0, 87), (1, 30), (12, 23)], 13, 232, [.pointer none, .int .i64 0, .int .i64 0, .slice none 0 0, .slice none 0 0, .int .i64 0, .slice none 0 0, .slice none 0 0, .slice none 0 0, .slice none 0 0, .int .i64 0, .slice none 0 0, .slice none 0 0], false⟩
theorem Ycy : TyOk Tryz.prog 107 Z31 := .g (by kernel_rfl) ⟨_, Tryz.underlying107, rfl⟩
theorem Ycz : TyOk Tryz.prog 108 Z31 := .g (by kernel_rfl) ⟨_, Tryz.underlying108, rfl⟩
def Yaa : TyI := ⟨.ptr 25, 1, 8, [.pointer none], false⟩
theorem Yc0 : TyOk Tryz.prog 127 Yaa := .s (by kernel_rfl) Tryz.underlying127
def Z32 : TyI := ⟨.struct [(0, 23), (1, 23)], 2, 48, [.slice none 0 0, .slice none 0 0], false⟩
theorem Yc1 : TyOk Tryz.prog 131 Z32 := .g (by kernel_rfl) ⟨_, Tryz.underlying131, rfl⟩
theorem Yc2 : TyOk Tryz.prog 132 Z32 := .g (by kernel_rfl) ⟨_, Tryz.underlying132, rfl⟩
def Yab : TyI := ⟨.ptr 132, 1, 8, [.pointer none], false⟩
theorem Yc3 : TyOk Tryz.prog 144 Yab := .s (by kernel_rfl) Tryz.underlying144
def Z33 : TyI := ⟨.struct [(0, 28), (1, 3)], 2, 32, [.slice none 0 0, .int .i64 0], false⟩
theorem Yc4 : TyOk Tryz.prog 146 Z33 := .g (by kernel_rfl) ⟨_, Tryz.underlying146, rfl⟩
theorem Yc5 : TyOk Tryz.prog 147 Z33 := .g (by kernel_rfl) ⟨_, Tryz.underlying147, rfl⟩
def Yac : TyI := ⟨.arr 6 3, 6, 48, [.int .i64 0, .int .i64 0, .int .i64 0, .int .i64 0, .int .i64 0, .int .i64 0], true⟩
theorem Yc6 : TyOk Tryz.prog 150 Yac := .g (by kernel_rfl) Tryz.underlying150 (fun _ => by unfold EqTy; exact ⟨by kernel_rfl, by kernel_rfl, by kernel_rfl⟩)
def Yad : TyI := ⟨.ptr 147, 1, 8, [.pointer none], false⟩
theorem Yc7 : TyOk Tryz.prog 151 Yad := .s (by kernel_rfl) Tryz.underlying151
def Z34 : TyI := ⟨.struct [(0, 17), (1, 17), (2, 17), (3, 9)], 4, 40, [.pointer none, .pointer none, .pointer none, .string ByteArray.empty], false⟩
theorem Yc8 : TyOk Tryz.prog 153 Z34 := .g (by kernel_rfl) ⟨_, Tryz.underlying153, rfl⟩
theorem Yc9 : TyOk Tryz.prog 154 Z34 := .g (by kernel_rfl) ⟨_, Tryz.underlying154, rfl⟩
def Yae : TyI := ⟨.int .u32, 1, 4, [.int .u32 0], false⟩
theorem Yda : TyOk Tryz.prog 159 Yae := .s (by kernel_rfl) Tryz.underlying159
theorem Ydb : TyOk Tryz.prog 160 tE5 := .s (by kernel_rfl) Tryz.underlying160
theorem Ydc : TyOk Tryz.prog 161 tE5 := .s (by kernel_rfl) Tryz.underlying161
def Yaf : TyI := ⟨.ptr 5, 1, 8, [.pointer none], false⟩
theorem Ydd : TyOk Tryz.prog 163 Yaf := .s (by kernel_rfl) Tryz.underlying163
theorem Yde : TyOk Tryz.prog 164 Z45 := .s (by kernel_rfl) Tryz.underlying164
theorem Ydf : TyOk Tryz.prog 165 Z45 := .s (by kernel_rfl) Tryz.underlying165
def tabL : List (Nat × TyI) := [(2, tE2), (3, tE2), (4, tE4), (5, tE5), (6, tE5), (7, tE7), (8, tE7), (9, tE9), (10, tE9), (11, tE9), (12, Z9l), (13, Z9m), (14, Z9m), (15, Ycb), (16, Ycc), (17, Ycd), (18, Z9n), (19, Z9n), (21, Z45), (22, Yce), (23, Ycf), (24, Z9o), (25, Z9o), (26, Ycg), (27, Ych), (28, Yci), (29, Z9p), (30, Z9p), (31, Z9q), (32, Z9q), (35, Ycj), (40, tE2), (46, Z9l), (47, Ycl), (48, Ycm), (49, Ycn), (50, Z9r), (51, Z9r), (58, Z9s), (59, Z9s), (60, Z9t), (61, Z9t), (70, Yco), (71, Ycp), (80, Z9u), (81, Z9u), (84, Ycq), (87, Ycr), (96, Ycs), (98, Yct), (102, Z99), (105, Z30), (106, Z30), (107, Z31), (108, Z31), (127, Yaa), (131, Z32), (132, Z32), (144, Yab), (146, Z33), (147, Z33), (150, Yac), (151, Yad), (153, Z34), (154, Z34), (159, Yae), (160, tE5), (161, tE5), (163, Yaf), (164, Z45), (165, Z45)]
def Jk : K3 := fun t => tabL.lookup t
theorem Zu : Jd Tryz.prog Jk := fun t i h => by
 have hm := Zst _ h
 unfold tabL at hm
 simp only [List.mem_cons, Prod.mk.injEq, List.not_mem_nil, or_false] at hm
 rcases hm with ⟨rfl, rfl⟩ | ⟨rfl, rfl⟩ | ⟨rfl, rfl⟩ | ⟨rfl, rfl⟩ | ⟨rfl, rfl⟩ | ⟨rfl, rfl⟩ | ⟨rfl, rfl⟩ | ⟨rfl, rfl⟩ | ⟨rfl, rfl⟩ | ⟨rfl, rfl⟩ | ⟨rfl, rfl⟩ | ⟨rfl, rfl⟩ | ⟨rfl, rfl⟩ | ⟨rfl, rfl⟩ | ⟨rfl, rfl⟩ | ⟨rfl, rfl⟩ | ⟨rfl, rfl⟩ | ⟨rfl, rfl⟩ | ⟨rfl, rfl⟩ | ⟨rfl, rfl⟩ | ⟨rfl, rfl⟩ | ⟨rfl, rfl⟩ | ⟨rfl, rfl⟩ | ⟨rfl, rfl⟩ | ⟨rfl, rfl⟩ | ⟨rfl, rfl⟩ | ⟨rfl, rfl⟩ | ⟨rfl, rfl⟩ | ⟨rfl, rfl⟩ | ⟨rfl, rfl⟩ | ⟨rfl, rfl⟩ | ⟨rfl, rfl⟩ | ⟨rfl, rfl⟩ | ⟨rfl, rfl⟩ | ⟨rfl, rfl⟩ | ⟨rfl, rfl⟩ | ⟨rfl, rfl⟩ | ⟨rfl, rfl⟩ | ⟨rfl, rfl⟩ | ⟨rfl, rfl⟩ | ⟨rfl, rfl⟩ | ⟨rfl, rfl⟩ | ⟨rfl, rfl⟩ | ⟨rfl, rfl⟩ | ⟨rfl, rfl⟩ | ⟨rfl, rfl⟩ | ⟨rfl, rfl⟩ | ⟨rfl, rfl⟩ | ⟨rfl, rfl⟩ | ⟨rfl, rfl⟩ | ⟨rfl, rfl⟩ | ⟨rfl, rfl⟩ | ⟨rfl, rfl⟩ | ⟨rfl, rfl⟩ | ⟨rfl, rfl⟩ | ⟨rfl, rfl⟩ | ⟨rfl, rfl⟩ | ⟨rfl, rfl⟩ | ⟨rfl, rfl⟩ | ⟨rfl, rfl⟩ | ⟨rfl, rfl⟩ | ⟨rfl, rfl⟩ | ⟨rfl, rfl⟩ | ⟨rfl, rfl⟩ | ⟨rfl, rfl⟩ | ⟨rfl, rfl⟩ | ⟨rfl, rfl⟩ | ⟨rfl, rfl⟩ | ⟨rfl, rfl⟩ | ⟨rfl, rfl⟩ | ⟨rfl, rfl⟩
 ·exact ty2
 ·exact ty3
 ·exact ty4
 ·exact ty5
 ·exact ty6
 ·exact ty7
 ·exact ty8
 ·exact ty9
 ·exact Ydt
 ·exact Ydu
 ·exact Ydv
 ·exact Ydw
 ·exact Ydx
 ·exact Ydy
 ·exact Ydz
 ·exact Yd0
 ·exact Yd1
 ·exact Yd2
 ·exact Yd3
 ·exact Yd4
 ·exact Yd5
 ·exact Yd6
 ·exact Yd7
 ·exact Yd8
 ·exact Yd9
 ·exact Yea
 ·exact Yeb
 ·exact Yec
 ·exact Yed
 ·exact Yee
 ·exact Yef
 ·exact Yeg
 ·exact Yeh
 ·exact Yei
 ·exact Yej
 ·exact Yek
 ·exact Yel
 ·exact Yem
 ·exact Yen
 ·exact Yeo
 ·exact Yep
 ·exact Yeq
 ·exact Yer
 ·exact Yes
 ·exact Yet
 ·exact Yeu
 ·exact Yev
 ·exact Yew
 ·exact Yex
 ·exact Yey
 ·exact Ycv
 ·exact Ycw
 ·exact Ycx
 ·exact Ycy
 ·exact Ycz
 ·exact Yc0
 ·exact Yc1
 ·exact Yc2
 ·exact Yc3
 ·exact Yc4
 ·exact Yc5
 ·exact Yc6
 ·exact Yc7
 ·exact Yc8
 ·exact Yc9
 ·exact Yda
 ·exact Ydb
 ·exact Ydc
 ·exact Ydd
 ·exact Yde
 exact Ydf
theorem Ya7 : Jk 2 = some ⟨.int .i64, 1, 8, [.int .i64 0], false⟩ := rfl
theorem Z7p : Jk 3 = some ⟨.int .i64, 1, 8, [.int .i64 0], false⟩ := rfl
theorem Ya8 : Jk 4 = some ⟨.bool, 1, 1, [.bool false], false⟩ := rfl
theorem Ya9 : Jk 5 = some ⟨.int .u8, 1, 1, [.int .u8 0], false⟩ := rfl
theorem Yba : Jk 6 = some ⟨.int .u8, 1, 1, [.int .u8 0], false⟩ := rfl
theorem Ybb : Jk 7 = some ⟨.struct [(0, 2), (1, 3), (2, 4), (3, 6)], 4, 24, [.int .i64 0, .int .i64 0, .bool false, .int .u8 0], false⟩ := rfl
theorem Ybc : Jk 8 = some ⟨.struct [(0, 2), (1, 3), (2, 4), (3, 6)], 4, 24, [.int .i64 0, .int .i64 0, .bool false, .int .u8 0], false⟩ := rfl
theorem Ybd : Jk 9 = some ⟨.str, 1, 16, [.string ByteArray.empty], false⟩ := rfl
theorem Z68 : Jk 10 = some ⟨.str, 1, 16, [.string ByteArray.empty], false⟩ := rfl
theorem Z69 : Jk 11 = some ⟨.str, 1, 16, [.string ByteArray.empty], false⟩ := rfl
theorem Z7a : Jk 12 = some ⟨.int .u64, 1, 8, [.int .u64 0], false⟩ := rfl
theorem Z7b : Jk 13 = some ⟨.struct [(0, 9), (1, 12)], 2, 24, [.string ByteArray.empty, .int .u64 0], false⟩ := rfl
theorem Z7c : Jk 14 = some ⟨.struct [(0, 9), (1, 12)], 2, 24, [.string ByteArray.empty, .int .u64 0], false⟩ := rfl
theorem Z7d : Jk 15 = some ⟨.ptr 154, 1, 8, [.pointer none], false⟩ := rfl
theorem Z7e : Jk 16 = some ⟨.ptr 157, 1, 8, [.pointer none], false⟩ := rfl
theorem Z7f : Jk 17 = some ⟨.ptr 167, 1, 8, [.pointer none], false⟩ := rfl
theorem Z7g : Jk 18 = some ⟨.struct [(0, 17)], 1, 8, [.pointer none], false⟩ := rfl
theorem Z7h : Jk 19 = some ⟨.struct [(0, 17)], 1, 8, [.pointer none], false⟩ := rfl
theorem Z7i : Jk 21 = some ⟨.int .i32, 1, 4, [.int .i32 0], false⟩ := rfl
theorem Z7j : Jk 22 = some ⟨.slice 46, 1, 24, [.slice none 0 0], false⟩ := rfl
theorem Z0t : Jk 23 = some ⟨.slice 25, 1, 24, [.slice none 0 0], false⟩ := rfl
theorem Z7k : Jk 24 = some ⟨.struct [(0, 3), (1, 22), (2, 23)], 3, 56, [.int .i64 0, .slice none 0 0, .slice none 0 0], false⟩ := rfl
theorem Gt : Jk 25 = some ⟨.struct [(0, 3), (1, 22), (2, 23)], 3, 56, [.int .i64 0, .slice none 0 0, .slice none 0 0], false⟩ := rfl
theorem Z7l : Jk 26 = some ⟨.slice 48, 1, 24, [.slice none 0 0], false⟩ := rfl
theorem Z7m : Jk 27 = some ⟨.slice 59, 1, 24, [.slice none 0 0], false⟩ := rfl
theorem Z7n : Jk 28 = some ⟨.slice 61, 1, 24, [.slice none 0 0], false⟩ := rfl
theorem Z7o : Jk 29 = some ⟨.struct [(0, 3), (1, 25), (4, 25), (7, 26), (8, 27), (9, 3), (10, 28)], 11, 200, [.int .i64 0, .int .i64 0, .slice none 0 0, .slice none 0 0, .int .i64 0, .slice none 0 0, .slice none 0 0, .slice none 0 0, .slice none 0 0, .int .i64 0, .slice none 0 0], false⟩ := rfl
theorem Zlu : Jk 30 = some ⟨.struct [(0, 3), (1, 25), (4, 25), (7, 26), (8, 27), (9, 3), (10, 28)], 11, 200, [.int .i64 0, .int .i64 0, .slice none 0 0, .slice none 0 0, .int .i64 0, .slice none 0 0, .slice none 0 0, .slice none 0 0, .slice none 0 0, .int .i64 0, .slice none 0 0], false⟩ := rfl
theorem Z7q : Jk 31 = some ⟨.struct [(0, 3), (1, 3), (2, 30)], 13, 216, [.int .i64 0, .int .i64 0, .int .i64 0, .int .i64 0, .slice none 0 0, .slice none 0 0, .int .i64 0, .slice none 0 0, .slice none 0 0, .slice none 0 0, .slice none 0 0, .int .i64 0, .slice none 0 0], false⟩ := rfl
theorem Z7r : Jk 32 = some ⟨.struct [(0, 3), (1, 3), (2, 30)], 13, 216, [.int .i64 0, .int .i64 0, .int .i64 0, .int .i64 0, .slice none 0 0, .slice none 0 0, .int .i64 0, .slice none 0 0, .slice none 0 0, .slice none 0 0, .slice none 0 0, .int .i64 0, .slice none 0 0], false⟩ := rfl
theorem Z7s : Jk 35 = some ⟨.ptr 51, 1, 8, [.pointer none], false⟩ := rfl
theorem Z7t : Jk 40 = some ⟨.int .i64, 1, 8, [.int .i64 0], false⟩ := rfl
theorem Zkx : Jk 46 = some ⟨.int .u64, 1, 8, [.int .u64 0], false⟩ := rfl
theorem Z7u : Jk 47 = some ⟨.struct [(0, 3), (1, 5), (2, 46), (3, 46)], 4, 32, [.int .i64 0, .int .u8 0, .int .u64 0, .int .u64 0], false⟩ := rfl
theorem Zvw : Jk 48 = some ⟨.struct [(0, 3), (1, 5), (2, 46), (3, 46)], 4, 32, [.int .i64 0, .int .u8 0, .int .u64 0, .int .u64 0], true⟩ := rfl
theorem Z7v : Jk 49 = some ⟨.slice 30, 1, 24, [.slice none 0 0], false⟩ := rfl
theorem Z7w : Jk 50 = some ⟨.struct [(0, 25), (3, 49), (4, 49)], 5, 104, [.int .i64 0, .slice none 0 0, .slice none 0 0, .slice none 0 0, .slice none 0 0], false⟩ := rfl
theorem Z7x : Jk 51 = some ⟨.struct [(0, 25), (3, 49), (4, 49)], 5, 104, [.int .i64 0, .slice none 0 0, .slice none 0 0, .slice none 0 0, .slice none 0 0], false⟩ := rfl
theorem Z7y : Jk 58 = some ⟨.struct [(0, 3), (1, 30)], 12, 208, [.int .i64 0, .int .i64 0, .int .i64 0, .slice none 0 0, .slice none 0 0, .int .i64 0, .slice none 0 0, .slice none 0 0, .slice none 0 0, .slice none 0 0, .int .i64 0, .slice none 0 0], false⟩ := rfl
theorem Zqw : Jk 59 = some ⟨.struct [(0, 3), (1, 30)], 12, 208, [.int .i64 0, .int .i64 0, .int .i64 0, .slice none 0 0, .slice none 0 0, .int .i64 0, .slice none 0 0, .slice none 0 0, .slice none 0 0, .slice none 0 0, .int .i64 0, .slice none 0 0], false⟩ := rfl
theorem Z7z : Jk 60 = some ⟨.struct [(0, 3), (1, 3), (2, 23), (3, 30)], 14, 240, [.int .i64 0, .int .i64 0, .slice none 0 0, .int .i64 0, .int .i64 0, .slice none 0 0, .slice none 0 0, .int .i64 0, .slice none 0 0, .slice none 0 0, .slice none 0 0, .slice none 0 0, .int .i64 0, .slice none 0 0], false⟩ := rfl
theorem Zij : Jk 61 = some ⟨.struct [(0, 3), (1, 3), (2, 23), (3, 30)], 14, 240, [.int .i64 0, .int .i64 0, .slice none 0 0, .int .i64 0, .int .i64 0, .slice none 0 0, .slice none 0 0, .int .i64 0, .slice none 0 0, .slice none 0 0, .slice none 0 0, .slice none 0 0, .int .i64 0, .slice none 0 0], false⟩ := rfl
theorem Z70 : Jk 70 = some ⟨.struct [(0, 4), (1, 4)], 2, 2, [.bool false, .bool false], false⟩ := rfl
theorem Z71 : Jk 71 = some ⟨.struct [(0, 4), (1, 4)], 2, 2, [.bool false, .bool false], true⟩ := rfl
theorem Z72 : Jk 80 = some ⟨.struct [(0, 28), (1, 3), (2, 23), (3, 23)], 4, 80, [.slice none 0 0, .int .i64 0, .slice none 0 0, .slice none 0 0], false⟩ := rfl
theorem Z73 : Jk 81 = some ⟨.struct [(0, 28), (1, 3), (2, 23), (3, 23)], 4, 80, [.slice none 0 0, .int .i64 0, .slice none 0 0, .slice none 0 0], false⟩ := rfl
theorem Z74 : Jk 84 = some ⟨.ptr 23, 1, 8, [.pointer none], false⟩ := rfl
theorem Z75 : Jk 87 = some ⟨.ptr 71, 1, 8, [.pointer none], false⟩ := rfl
theorem Z76 : Jk 96 = some ⟨.ptr 81, 1, 8, [.pointer none], false⟩ := rfl
theorem Z77 : Jk 98 = some ⟨.ptr 108, 1, 8, [.pointer none], false⟩ := rfl
theorem Z17 : Jk 102 = some ⟨.slice 106, 1, 24, [.slice none 0 0], false⟩ := rfl
theorem Z18 : Jk 105 = some ⟨.struct [(0, 3), (1, 61), (15, 61)], 29, 488, [.int .i64 0, .int .i64 0, .int .i64 0, .slice none 0 0, .int .i64 0, .int .i64 0, .slice none 0 0, .slice none 0 0, .int .i64 0, .slice none 0 0, .slice none 0 0, .slice none 0 0, .slice none 0 0, .int .i64 0, .slice none 0 0, .int .i64 0, .int .i64 0, .slice none 0 0, .int .i64 0, .int .i64 0, .slice none 0 0, .slice none 0 0, .int .i64 0, .slice none 0 0, .slice none 0 0, .slice none 0 0, .slice none 0 0, .int .i64 0, .slice none 0 0], false⟩ := rfl
theorem Z19 : Jk 106 = some ⟨.struct [(0, 3), (1, 61), (15, 61)], 29, 488, [.int .i64 0, .int .i64 0, .int .i64 0, .slice none 0 0, .int .i64 0, .int .i64 0, .slice none 0 0, .slice none 0 0, .int .i64 0, .slice none 0 0, .slice none 0 0, .slice none 0 0, .slice none 0 0, .int .i64 0, .slice none 0 0, .int .i64 0, .int .i64 0, .slice none 0 0, .int .i64 0, .int .i64 0, .slice none 0 0, .slice none 0 0, .int .i64 0, .slice none 0 0, .slice none 0 0, .slice none 0 0, .slice none 0 0, .int .i64 0, .slice none 0 0], false⟩ := rfl
theorem Z2a : Jk 107 = some ⟨.struct [(0, 87), (1, 30), (12, 23)], 13, 232, [.pointer none, .int .i64 0, .int .i64 0, .slice none 0 0, .slice none 0 0, .int .i64 0, .slice none 0 0, .slice none 0 0, .slice none 0 0, .slice none 0 0, .int .i64 0, .slice none 0 0, .slice none 0 0], false⟩ := rfl
theorem Z2b : Jk 108 = some ⟨.struct [(0, 87), (1, 30), (12, 23)], 13, 232, [.pointer none, .int .i64 0, .int .i64 0, .slice none 0 0, .slice none 0 0, .int .i64 0, .slice none 0 0, .slice none 0 0, .slice none 0 0, .slice none 0 0, .int .i64 0, .slice none 0 0, .slice none 0 0], false⟩ := rfl
theorem Z2c : Jk 127 = some ⟨.ptr 25, 1, 8, [.pointer none], false⟩ := rfl
theorem Z2d : Jk 131 = some ⟨.struct [(0, 23), (1, 23)], 2, 48, [.slice none 0 0, .slice none 0 0], false⟩ := rfl
theorem Z2e : Jk 132 = some ⟨.struct [(0, 23), (1, 23)], 2, 48, [.slice none 0 0, .slice none 0 0], false⟩ := rfl
theorem Z2f : Jk 144 = some ⟨.ptr 132, 1, 8, [.pointer none], false⟩ := rfl
theorem Z2g : Jk 146 = some ⟨.struct [(0, 28), (1, 3)], 2, 32, [.slice none 0 0, .int .i64 0], false⟩ := rfl
theorem Z2h : Jk 147 = some ⟨.struct [(0, 28), (1, 3)], 2, 32, [.slice none 0 0, .int .i64 0], false⟩ := rfl
theorem Z2i : Jk 150 = some ⟨.arr 6 3, 6, 48, [.int .i64 0, .int .i64 0, .int .i64 0, .int .i64 0, .int .i64 0, .int .i64 0], true⟩ := rfl
theorem Z2j : Jk 151 = some ⟨.ptr 147, 1, 8, [.pointer none], false⟩ := rfl
theorem Z2k : Jk 159 = some ⟨.int .u32, 1, 4, [.int .u32 0], false⟩ := rfl
theorem Z2l : Jk 160 = some ⟨.int .u8, 1, 1, [.int .u8 0], false⟩ := rfl
theorem Z2m : Jk 161 = some ⟨.int .u8, 1, 1, [.int .u8 0], false⟩ := rfl
theorem Z2n : Jk 163 = some ⟨.ptr 5, 1, 8, [.pointer none], false⟩ := rfl
theorem Z2o : Jk 164 = some ⟨.int .i32, 1, 4, [.int .i32 0], false⟩ := rfl
theorem Z2p : Jk 165 = some ⟨.int .i32, 1, 4, [.int .i32 0], false⟩ := rfl
theorem Z2q : Yt Jk 2 = some (.int .i64) := rfl
theorem Z2r : Yt Jk 3 = some (.int .i64) := rfl
theorem Z2s : Yt Jk 4 = some (.bool) := rfl
theorem Z2t : Yt Jk 5 = some (.int .u8) := rfl
theorem Z2u : Yt Jk 6 = some (.int .u8) := rfl
theorem Z2v : Yt Jk 7 = some (.struct [(0, 2), (1, 3), (2, 4), (3, 6)]) := rfl
theorem Z2w : Yt Jk 8 = some (.struct [(0, 2), (1, 3), (2, 4), (3, 6)]) := rfl
theorem Z2x : Yt Jk 9 = some (.str) := rfl
theorem Zyc : Yt Jk 10 = some (.str) := rfl
theorem Zyd : Yt Jk 11 = some (.str) := rfl
theorem Zye : Yt Jk 12 = some (.int .u64) := rfl
theorem Zyf : Yt Jk 13 = some (.struct [(0, 9), (1, 12)]) := rfl
theorem Zyg : Yt Jk 14 = some (.struct [(0, 9), (1, 12)]) := rfl
theorem Zyh : Yt Jk 15 = some (.ptr 154) := rfl
theorem Zyi : Yt Jk 16 = some (.ptr 157) := rfl
theorem Zyj : Yt Jk 17 = some (.ptr 167) := rfl
theorem Zyk : Yt Jk 18 = some (.struct [(0, 17)]) := rfl
theorem Zyl : Yt Jk 19 = some (.struct [(0, 17)]) := rfl
theorem Zym : Yt Jk 21 = some (.int .i32) := rfl
theorem Zrk : Yt Jk 22 = some (.slice 46) := rfl
theorem Zhn : Yt Jk 23 = some (.slice 25) := rfl
theorem Zyn : Yt Jk 24 = some (.struct [(0, 3), (1, 22), (2, 23)]) := rfl
theorem Zyo : Yt Jk 25 = some (.struct [(0, 3), (1, 22), (2, 23)]) := rfl
theorem Zyp : Yt Jk 26 = some (.slice 48) := rfl
theorem Zyq : Yt Jk 27 = some (.slice 59) := rfl
theorem Zyr : Yt Jk 28 = some (.slice 61) := rfl
theorem Zys : Yt Jk 29 = some (.struct [(0, 3), (1, 25), (4, 25), (7, 26), (8, 27), (9, 3), (10, 28)]) := rfl
theorem Zyt : Yt Jk 30 = some (.struct [(0, 3), (1, 25), (4, 25), (7, 26), (8, 27), (9, 3), (10, 28)]) := rfl
theorem Zyu : Yt Jk 31 = some (.struct [(0, 3), (1, 3), (2, 30)]) := rfl
theorem Zyv : Yt Jk 32 = some (.struct [(0, 3), (1, 3), (2, 30)]) := rfl
theorem Zyw : Yt Jk 35 = some (.ptr 51) := rfl
theorem Zyx : Yt Jk 40 = some (.int .i64) := rfl
theorem Zyy : Yt Jk 46 = some (.int .u64) := rfl
theorem Zyz : Yt Jk 47 = some (.struct [(0, 3), (1, 5), (2, 46), (3, 46)]) := rfl
theorem Zy0 : Yt Jk 48 = some (.struct [(0, 3), (1, 5), (2, 46), (3, 46)]) := rfl
theorem Zo4 : Yt Jk 49 = some (.slice 30) := rfl
theorem Zy1 : Yt Jk 50 = some (.struct [(0, 25), (3, 49), (4, 49)]) := rfl
theorem Zy2 : Yt Jk 51 = some (.struct [(0, 25), (3, 49), (4, 49)]) := rfl
theorem Zy3 : Yt Jk 58 = some (.struct [(0, 3), (1, 30)]) := rfl
theorem Zy4 : Yt Jk 59 = some (.struct [(0, 3), (1, 30)]) := rfl
theorem Zy5 : Yt Jk 60 = some (.struct [(0, 3), (1, 3), (2, 23), (3, 30)]) := rfl
theorem Zy6 : Yt Jk 61 = some (.struct [(0, 3), (1, 3), (2, 23), (3, 30)]) := rfl
theorem Zy7 : Yt Jk 70 = some (.struct [(0, 4), (1, 4)]) := rfl
theorem Zy8 : Yt Jk 71 = some (.struct [(0, 4), (1, 4)]) := rfl
theorem Zy9 : Yt Jk 80 = some (.struct [(0, 28), (1, 3), (2, 23), (3, 23)]) := rfl
theorem Zza : Yt Jk 81 = some (.struct [(0, 28), (1, 3), (2, 23), (3, 23)]) := rfl
theorem Zzb : Yt Jk 84 = some (.ptr 23) := rfl
theorem Zzc : Yt Jk 87 = some (.ptr 71) := rfl
theorem Zzd : Yt Jk 96 = some (.ptr 81) := rfl
theorem Zze : Yt Jk 98 = some (.ptr 108) := rfl
theorem Zt3 : Yt Jk 102 = some (.slice 106) := rfl
theorem Zt4 : Yt Jk 105 = some (.struct [(0, 3), (1, 61), (15, 61)]) := rfl
theorem Zt5 : Yt Jk 106 = some (.struct [(0, 3), (1, 61), (15, 61)]) := rfl
theorem Zt6 : Yt Jk 107 = some (.struct [(0, 87), (1, 30), (12, 23)]) := rfl
theorem Zt7 : Yt Jk 108 = some (.struct [(0, 87), (1, 30), (12, 23)]) := rfl
theorem Zt8 : Yt Jk 127 = some (.ptr 25) := rfl
theorem Zt9 : Yt Jk 131 = some (.struct [(0, 23), (1, 23)]) := rfl
theorem Zua : Yt Jk 132 = some (.struct [(0, 23), (1, 23)]) := rfl
theorem Zub : Yt Jk 144 = some (.ptr 132) := rfl
theorem Zuc : Yt Jk 146 = some (.struct [(0, 28), (1, 3)]) := rfl
theorem Zud : Yt Jk 147 = some (.struct [(0, 28), (1, 3)]) := rfl
theorem Zue : Yt Jk 150 = some (.arr 6 3) := rfl
theorem Zuf : Yt Jk 151 = some (.ptr 147) := rfl
theorem Zug : Yt Jk 159 = some (.int .u32) := rfl
theorem Zuh : Yt Jk 160 = some (.int .u8) := rfl
theorem Zui : Yt Jk 161 = some (.int .u8) := rfl
theorem Zuj : Yt Jk 163 = some (.ptr 5) := rfl
theorem Zuk : Yt Jk 164 = some (.int .i32) := rfl
theorem Zul : Yt Jk 165 = some (.int .i32) := rfl
end Go.Proofs.YtgpaglmhkklneaaGreat
