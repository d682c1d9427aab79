/- The types of this seat's program, as its dump has them, in the ghost memory's words; no condition. -/
import Derived.Test.YtgffgbdnbjbmoaaRows
import Derived.Test.YtgffgbdnbjbmoaaG16
namespace Go.Proofs.Ytgffgbdnbjbmoaa
open Go.RowKit
set_option linter.unusedVariables false
set_option linter.unusedSimpArgs false
theorem TyOk.of {P : Program} {t : TypeId} (k : TK) (size bytes : Nat) (zero : List Value) (z : Value) (h : (P.info? t).map (fun i => (i.zero, i.size, i.bytes)) = some (some z, size, bytes)) (hz : z.cells.toList = zero) (hu : k.ok P t) (hl : zero.length = size) (h1 : zero.all Value.oneCell' = true) (eq : Bool) (he : eq = true → EqTy P t) : TyOk P t ⟨k, size, bytes, zero, eq⟩ := by
 refine ⟨?_, hu, hl, fun v hv => List.all_eq_true.1 h1 v hv, he⟩
 cases hi : P.info? t with
 | none => rw [hi] at h; cases h
 | some i =>
  rw [hi] at h
  simp only [Option.map_some, Option.some.injEq, Prod.mk.injEq] at h
  exact ⟨i, z, rfl, h.2.1, h.2.2, h.1, hz⟩
theorem TyOk.g {P : Program} {t : TypeId} {k : TK} {size bytes : Nat} {zero : List Value} {eq : Bool} (h : (P.info? t).map (fun i => (i.zero, i.size, i.bytes)) = some (some (.agg zero.toArray), size, bytes)) (hu : k.ok P t) (he : eq = true → EqTy P t := by intro h; cases h) (hz : (Value.agg zero.toArray).cells.toList = zero := by rfl) (hl : zero.length = size := by rfl) (h1 : zero.all Value.oneCell' = true := by rfl) : TyOk P t ⟨k, size, bytes, zero, eq⟩ := .of k size bytes zero _ h hz hu hl h1 eq he
theorem TyOk.s {P : Program} {t : TypeId} {k : TK} {size bytes : Nat} {z : Value} {eq : Bool} (h : (P.info? t).map (fun i => (i.zero, i.size, i.bytes)) = some (some z, size, bytes)) (hu : k.ok P t) (he : eq = true → EqTy P t := by intro h; cases h) (hz : z.cells.toList = [z] := by rfl) (hl : [z].length = size := by rfl) (h1 : [z].all Value.oneCell' = true := by rfl) : TyOk P t ⟨k, size, bytes, [z], eq⟩ := .of k size bytes [z] _ h hz hu hl h1 eq he
theorem EqTy.m {P : Program} {t : TypeId} (h : EqTy P t) : true = true → EqTy P t := fun _ => h
theorem Zmi {α : Type} {t : Nat} {i : α} : ∀ (l : List (Nat × α)), l.lookup t = some i → (t, i) ∈ l
 | [], h => by simp at h
 | (a, b) :: l, h => by
  rw [List.lookup_cons] at h
  split at h
  ·rename_i he
   injection h with h
   have : t = a := by simpa using he
   subst h this
   exact .head _
  exact .tail _ (Zmi l h)
def tE2 : TyI := ⟨.int .i64, 1, 8, [.int .i64 0], false⟩
theorem ty2 : TyOk Try.prog 2 tE2 := .s (by kernel_rfl) Try.underlying2
theorem ty3 : TyOk Try.prog 3 tE2 := .s (by kernel_rfl) Try.underlying3
def tE4 : TyI := ⟨.bool, 1, 1, [.bool false], false⟩
theorem ty4 : TyOk Try.prog 4 tE4 := .s (by kernel_rfl) Try.underlying4
def tE5 : TyI := ⟨.int .u8, 1, 1, [.int .u8 0], false⟩
theorem ty5 : TyOk Try.prog 5 tE5 := .s (by kernel_rfl) Try.underlying5
theorem ty6 : TyOk Try.prog 6 tE5 := .s (by kernel_rfl) Try.underlying6
def tE7 : TyI := ⟨.struct [(0, 2), (1, 3), (2, 4), (3, 6)], 4, 24, [.int .i64 0, .int .i64 0, .bool false, .int .u8 0], false⟩
theorem ty7 : TyOk Try.prog 7 tE7 := .g (by kernel_rfl) ⟨_, Try.underlying7, rfl⟩
theorem ty8 : TyOk Try.prog 8 tE7 := .g (by kernel_rfl) ⟨_, Try.underlying8, rfl⟩
def tE9 : TyI := ⟨.str, 1, 16, [.string ByteArray.empty], false⟩
theorem ty9 : TyOk Try.prog 9 tE9 := .s (by kernel_rfl) Try.underlying9
theorem Z74 : TyOk Try.prog 10 tE9 := .s (by kernel_rfl) Try.underlying10
theorem Z75 : TyOk Try.prog 11 tE9 := .s (by kernel_rfl) Try.underlying11
def Zys : TyI := ⟨.int .u64, 1, 8, [.int .u64 0], false⟩
theorem Z76 : TyOk Try.prog 12 Zys := .s (by kernel_rfl) Try.underlying12
def Z2u : TyI := ⟨.struct [(0, 9), (1, 12)], 2, 24, [.string ByteArray.empty, .int .u64 0], false⟩
theorem Z77 : TyOk Try.prog 13 Z2u := .g (by kernel_rfl) ⟨_, Try.underlying13, rfl⟩
theorem Z78 : TyOk Try.prog 14 Z2u := .g (by kernel_rfl) ⟨_, Try.underlying14, rfl⟩
def Z6f : TyI := ⟨.ptr 141, 1, 8, [.pointer none], false⟩
theorem Z79 : TyOk Try.prog 15 Z6f := .s (by kernel_rfl) Try.underlying15
def Z6g : TyI := ⟨.ptr 144, 1, 8, [.pointer none], false⟩
theorem Z8a : TyOk Try.prog 16 Z6g := .s (by kernel_rfl) Try.underlying16
def Z6h : TyI := ⟨.ptr 152, 1, 8, [.pointer none], false⟩
theorem Z8b : TyOk Try.prog 17 Z6h := .s (by kernel_rfl) Try.underlying17
def Z2v : TyI := ⟨.struct [(0, 17)], 1, 8, [.pointer none], false⟩
theorem Z8c : TyOk Try.prog 18 Z2v := .g (by kernel_rfl) ⟨_, Try.underlying18, rfl⟩
theorem Z8d : TyOk Try.prog 19 Z2v := .g (by kernel_rfl) ⟨_, Try.underlying19, rfl⟩
def Zyt : TyI := ⟨.int .i32, 1, 4, [.int .i32 0], false⟩
theorem Z8e : TyOk Try.prog 21 Zyt := .s (by kernel_rfl) Try.underlying21
def Z6i : TyI := ⟨.slice 26, 1, 24, [.slice none 0 0], false⟩
theorem Z8f : TyOk Try.prog 22 Z6i := .s (by kernel_rfl) Try.underlying22
def Z6j : TyI := ⟨.struct [(0, 3), (1, 3), (2, 3), (3, 3)], 4, 32, [.int .i64 0, .int .i64 0, .int .i64 0, .int .i64 0], false⟩
theorem Z8g : TyOk Try.prog 23 Z6j := .g (by kernel_rfl) ⟨_, Try.underlying23, rfl⟩
def Z6k : TyI := ⟨.struct [(0, 3), (1, 3), (2, 3), (3, 3)], 4, 32, [.int .i64 0, .int .i64 0, .int .i64 0, .int .i64 0], true⟩
theorem Z8h : TyOk Try.prog 24 Z6k := .g (by kernel_rfl) ⟨_, Try.underlying24, rfl⟩ (fun _ => by unfold EqTy; exact ⟨by kernel_rfl, by kernel_rfl, by kernel_rfl⟩)
def Z6l : TyI := ⟨.slice 40, 1, 24, [.slice none 0 0], false⟩
theorem Z8i : TyOk Try.prog 26 Z6l := .s (by kernel_rfl) Try.underlying26
def Z6m : TyI := ⟨.slice 29, 1, 24, [.slice none 0 0], false⟩
theorem Z8j : TyOk Try.prog 27 Z6m := .s (by kernel_rfl) Try.underlying27
def Z2w : TyI := ⟨.struct [(0, 3), (1, 26), (2, 27)], 3, 56, [.int .i64 0, .slice none 0 0, .slice none 0 0], false⟩
theorem Z8k : TyOk Try.prog 28 Z2w := .g (by kernel_rfl) ⟨_, Try.underlying28, rfl⟩
theorem Z8l : TyOk Try.prog 29 Z2w := .g (by kernel_rfl) ⟨_, Try.underlying29, rfl⟩
def Z6n : TyI := ⟨.ptr 97, 1, 8, [.pointer none], false⟩
theorem Z8m : TyOk Try.prog 33 Z6n := .s (by kernel_rfl) Try.underlying33
def Z2x : TyI := ⟨.struct [(0, 33), (1, 3), (2, 3), (3, 3), (4, 3), (5, 3), (6, 3), (7, 3), (8, 3)], 9, 72, [.pointer none, .int .i64 0, .int .i64 0, .int .i64 0, .int .i64 0, .int .i64 0, .int .i64 0, .int .i64 0, .int .i64 0], false⟩
theorem Z8n : TyOk Try.prog 34 Z2x := .g (by kernel_rfl) ⟨_, Try.underlying34, rfl⟩
theorem Z8o : TyOk Try.prog 35 Z2x := .g (by kernel_rfl) ⟨_, Try.underlying35, rfl⟩
theorem Z8p : TyOk Try.prog 37 tE2 := .s (by kernel_rfl) Try.underlying37
theorem Z8q : TyOk Try.prog 40 Zys := .s (by kernel_rfl) Try.underlying40
def Z6o : TyI := ⟨.slice 22, 1, 24, [.slice none 0 0], false⟩
theorem Z8r : TyOk Try.prog 45 Z6o := .s (by kernel_rfl) Try.underlying45
def Z6p : TyI := ⟨.ptr 79, 1, 8, [.pointer none], false⟩
theorem Z8s : TyOk Try.prog 46 Z6p := .s (by kernel_rfl) Try.underlying46
theorem Z8t : TyOk Try.prog 54 Zys := .s (by kernel_rfl) Try.underlying54
def Z6q : TyI := ⟨.slice 3, 1, 24, [.slice none 0 0], false⟩
theorem Z8u : TyOk Try.prog 55 Z6q := .s (by kernel_rfl) Try.underlying55
def Z6r : TyI := ⟨.struct [(0, 3), (1, 3), (2, 3), (3, 3), (4, 3), (5, 3), (6, 40)], 7, 56, [.int .i64 0, .int .i64 0, .int .i64 0, .int .i64 0, .int .i64 0, .int .i64 0, .int .u64 0], false⟩
theorem Z8v : TyOk Try.prog 63 Z6r := .g (by kernel_rfl) ⟨_, Try.underlying63, rfl⟩
def Z6s : TyI := ⟨.struct [(0, 3), (1, 3), (2, 3), (3, 3), (4, 3), (5, 3), (6, 40)], 7, 56, [.int .i64 0, .int .i64 0, .int .i64 0, .int .i64 0, .int .i64 0, .int .i64 0, .int .u64 0], true⟩
theorem Z8w : TyOk Try.prog 64 Z6s := .g (by kernel_rfl) ⟨_, Try.underlying64, rfl⟩ (fun _ => by unfold EqTy; exact ⟨by kernel_rfl, by kernel_rfl, by kernel_rfl⟩)
def Z6t : TyI := ⟨.struct [(0, 3)], 1, 8, [.int .i64 0], false⟩
theorem Z8x : TyOk Try.prog 71 Z6t := .g (by kernel_rfl) ⟨_, Try.underlying71, rfl⟩
def Z6u : TyI := ⟨.struct [(0, 3)], 1, 8, [.int .i64 0], true⟩
theorem Z8y : TyOk Try.prog 72 Z6u := .g (by kernel_rfl) ⟨_, Try.underlying72, rfl⟩ (fun _ => by unfold EqTy; exact ⟨by kernel_rfl, by kernel_rfl, by kernel_rfl⟩)
def Z6v : TyI := ⟨.struct [(0, 40), (1, 3)], 2, 16, [.int .u64 0, .int .i64 0], false⟩
theorem Z8z : TyOk Try.prog 73 Z6v := .g (by kernel_rfl) ⟨_, Try.underlying73, rfl⟩
def Z6w : TyI := ⟨.struct [(0, 40), (1, 3)], 2, 16, [.int .u64 0, .int .i64 0], true⟩
theorem Z80 : TyOk Try.prog 74 Z6w := .g (by kernel_rfl) ⟨_, Try.underlying74, rfl⟩ (fun _ => by unfold EqTy; exact ⟨by kernel_rfl, by kernel_rfl, by kernel_rfl⟩)
def Z6x : TyI := ⟨.slice 82, 1, 24, [.slice none 0 0], false⟩
theorem Z81 : TyOk Try.prog 77 Z6x := .s (by kernel_rfl) Try.underlying77
def Z2y : TyI := ⟨.struct [(0, 77), (1, 55)], 2, 48, [.slice none 0 0, .slice none 0 0], false⟩
theorem Z82 : TyOk Try.prog 78 Z2y := .g (by kernel_rfl) ⟨_, Try.underlying78, rfl⟩
theorem Z83 : TyOk Try.prog 79 Z2y := .g (by kernel_rfl) ⟨_, Try.underlying79, rfl⟩
def Z2z : TyI := ⟨.struct [(0, 40), (1, 35)], 10, 80, [.int .u64 0, .pointer none, .int .i64 0, .int .i64 0, .int .i64 0, .int .i64 0, .int .i64 0, .int .i64 0, .int .i64 0, .int .i64 0], false⟩
theorem Z84 : TyOk Try.prog 81 Z2z := .g (by kernel_rfl) ⟨_, Try.underlying81, rfl⟩
theorem Z85 : TyOk Try.prog 82 Z2z := .g (by kernel_rfl) ⟨_, Try.underlying82, rfl⟩
def Z6y : TyI := ⟨.struct [(0, 3), (1, 3), (2, 3), (3, 3), (4, 3), (5, 3), (6, 3), (7, 4)], 8, 64, [.int .i64 0, .int .i64 0, .int .i64 0, .int .i64 0, .int .i64 0, .int .i64 0, .int .i64 0, .bool false], false⟩
theorem Z86 : TyOk Try.prog 85 Z6y := .g (by kernel_rfl) ⟨_, Try.underlying85, rfl⟩
def Z20 : TyI := ⟨.struct [(0, 3), (1, 3), (2, 3), (3, 3), (4, 3), (5, 3), (6, 3), (7, 4)], 8, 64, [.int .i64 0, .int .i64 0, .int .i64 0, .int .i64 0, .int .i64 0, .int .i64 0, .int .i64 0, .bool false], true⟩
theorem Z87 : TyOk Try.prog 86 Z20 := .g (by kernel_rfl) ⟨_, Try.underlying86, rfl⟩ (fun _ => by unfold EqTy; exact ⟨by kernel_rfl, by kernel_rfl, by kernel_rfl⟩)
def Z6z : TyI := ⟨.struct [(0, 86), (8, 3), (9, 3)], 10, 80, [.int .i64 0, .int .i64 0, .int .i64 0, .int .i64 0, .int .i64 0, .int .i64 0, .int .i64 0, .bool false, .int .i64 0, .int .i64 0], false⟩
theorem Z88 : TyOk Try.prog 87 Z6z := .g (by kernel_rfl) ⟨_, Try.underlying87, rfl⟩
def Z60 : TyI := ⟨.struct [(0, 86), (8, 3), (9, 3)], 10, 80, [.int .i64 0, .int .i64 0, .int .i64 0, .int .i64 0, .int .i64 0, .int .i64 0, .int .i64 0, .bool false, .int .i64 0, .int .i64 0], true⟩
theorem Z89 : TyOk Try.prog 88 Z60 := .g (by kernel_rfl) ⟨_, Try.underlying88, rfl⟩ (fun _ => by unfold EqTy; exact ⟨by kernel_rfl, by kernel_rfl, by kernel_rfl⟩)
def Z21 : TyI := ⟨.struct [(0, 22), (1, 3), (2, 3)], 3, 40, [.slice none 0 0, .int .i64 0, .int .i64 0], false⟩
theorem Z9a : TyOk Try.prog 96 Z21 := .g (by kernel_rfl) ⟨_, Try.underlying96, rfl⟩
theorem Z9b : TyOk Try.prog 97 Z21 := .g (by kernel_rfl) ⟨_, Try.underlying97, rfl⟩
def Z61 : TyI := ⟨.ptr 72, 1, 8, [.pointer none], false⟩
theorem Z9c : TyOk Try.prog 98 Z61 := .s (by kernel_rfl) Try.underlying98
def Z3j : TyI := ⟨.ptr 74, 1, 8, [.pointer none], false⟩
theorem Z7b : TyOk Try.prog 101 Z3j := .s (by kernel_rfl) Try.underlying101
theorem Z7c : TyOk Try.prog 116 Z20 := .g (by kernel_rfl) ⟨_, Try.underlying116, rfl⟩ (fun _ => by unfold EqTy; exact ⟨by kernel_rfl, by kernel_rfl, by kernel_rfl⟩)
def Z3k : TyI := ⟨.struct [(0, 116), (8, 3), (9, 3)], 10, 80, [.int .i64 0, .int .i64 0, .int .i64 0, .int .i64 0, .int .i64 0, .int .i64 0, .int .i64 0, .bool false, .int .i64 0, .int .i64 0], false⟩
theorem Z7d : TyOk Try.prog 117 Z3k := .g (by kernel_rfl) ⟨_, Try.underlying117, rfl⟩
def Z3l : TyI := ⟨.struct [(0, 116), (8, 3), (9, 3)], 10, 80, [.int .i64 0, .int .i64 0, .int .i64 0, .int .i64 0, .int .i64 0, .int .i64 0, .int .i64 0, .bool false, .int .i64 0, .int .i64 0], true⟩
theorem Z7e : TyOk Try.prog 118 Z3l := .g (by kernel_rfl) ⟨_, Try.underlying118, rfl⟩ (fun _ => by unfold EqTy; exact ⟨by kernel_rfl, by kernel_rfl, by kernel_rfl⟩)
def Z3m : TyI := ⟨.arr 6 3, 6, 48, [.int .i64 0, .int .i64 0, .int .i64 0, .int .i64 0, .int .i64 0, .int .i64 0], true⟩
theorem Z7f : TyOk Try.prog 135 Z3m := .g (by kernel_rfl) Try.underlying135 (fun _ => by unfold EqTy; exact ⟨by kernel_rfl, by kernel_rfl, by kernel_rfl⟩)
def Z3n : TyI := ⟨.int .u32, 1, 4, [.int .u32 0], false⟩
theorem Z7g : TyOk Try.prog 137 Z3n := .s (by kernel_rfl) Try.underlying137
def Z3o : TyI := ⟨.arr 7 3, 7, 56, [.int .i64 0, .int .i64 0, .int .i64 0, .int .i64 0, .int .i64 0, .int .i64 0, .int .i64 0], true⟩
theorem Z7h : TyOk Try.prog 138 Z3o := .g (by kernel_rfl) Try.underlying138 (fun _ => by unfold EqTy; exact ⟨by kernel_rfl, by kernel_rfl, by kernel_rfl⟩)
def Zwj : TyI := ⟨.struct [(0, 17), (1, 17), (2, 17), (3, 9)], 4, 40, [.pointer none, .pointer none, .pointer none, .string ByteArray.empty], false⟩
theorem Z7i : TyOk Try.prog 140 Zwj := .g (by kernel_rfl) ⟨_, Try.underlying140, rfl⟩
theorem Z7j : TyOk Try.prog 141 Zwj := .g (by kernel_rfl) ⟨_, Try.underlying141, rfl⟩
theorem Z7k : TyOk Try.prog 145 tE5 := .s (by kernel_rfl) Try.underlying145
theorem Z7l : TyOk Try.prog 146 tE5 := .s (by kernel_rfl) Try.underlying146
def Z3p : TyI := ⟨.ptr 5, 1, 8, [.pointer none], false⟩
theorem Z7m : TyOk Try.prog 148 Z3p := .s (by kernel_rfl) Try.underlying148
theorem Z7n : TyOk Try.prog 149 Zyt := .s (by kernel_rfl) Try.underlying149
theorem Z7o : TyOk Try.prog 150 Zyt := .s (by kernel_rfl) Try.underlying150
def tabL : List (Nat × TyI) := [(2, tE2), (3, tE2), (4, tE4), (5, tE5), (6, tE5), (7, tE7), (8, tE7), (9, tE9), (10, tE9), (11, tE9), (12, Zys), (13, Z2u), (14, Z2u), (15, Z6f), (16, Z6g), (17, Z6h), (18, Z2v), (19, Z2v), (21, Zyt), (22, Z6i), (23, Z6j), (24, Z6k), (26, Z6l), (27, Z6m), (28, Z2w), (29, Z2w), (33, Z6n), (34, Z2x), (35, Z2x), (37, tE2), (40, Zys), (45, Z6o), (46, Z6p), (54, Zys), (55, Z6q), (63, Z6r), (64, Z6s), (71, Z6t), (72, Z6u), (73, Z6v), (74, Z6w), (77, Z6x), (78, Z2y), (79, Z2y), (81, Z2z), (82, Z2z), (85, Z6y), (86, Z20), (87, Z6z), (88, Z60), (96, Z21), (97, Z21), (98, Z61), (101, Z3j), (116, Z20), (117, Z3k), (118, Z3l), (135, Z3m), (137, Z3n), (138, Z3o), (140, Zwj), (141, Zwj), (145, tE5), (146, tE5), (148, Z3p), (149, Zyt), (150, Zyt)]
def Qf : Jo := fun t => tabL.lookup t
theorem Zz : Xz Try.prog Qf := fun t i h => by
 have hm := Zmi _ h
 unfold tabL at hm
 simp only [List.mem_cons, Prod.mk.injEq, List.not_mem_nil, or_false] at hm
 rcases hm with ⟨rfl, rfl⟩ | ⟨rfl, rfl⟩ | ⟨rfl, rfl⟩ | ⟨rfl, rfl⟩ | ⟨rfl, rfl⟩ | ⟨rfl, rfl⟩ | ⟨rfl, rfl⟩ | ⟨rfl, rfl⟩ | ⟨rfl, rfl⟩ | ⟨rfl, rfl⟩ | ⟨rfl, rfl⟩ | ⟨rfl, rfl⟩ | ⟨rfl, rfl⟩ | ⟨rfl, rfl⟩ | ⟨rfl, rfl⟩ | ⟨rfl, rfl⟩ | ⟨rfl, rfl⟩ | ⟨rfl, rfl⟩ | ⟨rfl, rfl⟩ | ⟨rfl, rfl⟩ | ⟨rfl, rfl⟩ | ⟨rfl, rfl⟩ | ⟨rfl, rfl⟩ | ⟨rfl, rfl⟩ | ⟨rfl, rfl⟩ | ⟨rfl, rfl⟩ | ⟨rfl, rfl⟩ | ⟨rfl, rfl⟩ | ⟨rfl, rfl⟩ | ⟨rfl, rfl⟩ | ⟨rfl, rfl⟩ | ⟨rfl, rfl⟩ | ⟨rfl, rfl⟩ | ⟨rfl, rfl⟩ | ⟨rfl, rfl⟩ | ⟨rfl, rfl⟩ | ⟨rfl, rfl⟩ | ⟨rfl, rfl⟩ | ⟨rfl, rfl⟩ | ⟨rfl, rfl⟩ | ⟨rfl, rfl⟩ | ⟨rfl, rfl⟩ | ⟨rfl, rfl⟩ | ⟨rfl, rfl⟩ | ⟨rfl, rfl⟩ | ⟨rfl, rfl⟩ | ⟨rfl, rfl⟩ | ⟨rfl, rfl⟩ | ⟨rfl, rfl⟩ | ⟨rfl, rfl⟩ | ⟨rfl, rfl⟩ | ⟨rfl, rfl⟩ | ⟨rfl, rfl⟩ | ⟨rfl, rfl⟩ | ⟨rfl, rfl⟩ | ⟨rfl, rfl⟩ | ⟨rfl, rfl⟩ | ⟨rfl, rfl⟩ | ⟨rfl, rfl⟩ | ⟨rfl, rfl⟩ | ⟨rfl, rfl⟩ | ⟨rfl, rfl⟩ | ⟨rfl, rfl⟩ | ⟨rfl, rfl⟩ | ⟨rfl, rfl⟩ | ⟨rfl, rfl⟩ | ⟨rfl, rfl⟩
 ·exact ty2
 ·exact ty3
 ·exact ty4
 ·exact ty5
 ·exact ty6
 ·exact ty7
 ·exact ty8
 ·exact ty9
 ·exact Z74
 ·exact Z75
 ·exact Z76
 ·exact Z77
 ·exact Z78
 ·exact Z79
 ·exact Z8a
 ·exact Z8b
 ·exact Z8c
 ·exact Z8d
 ·exact Z8e
 ·exact Z8f
 ·exact Z8g
 ·exact Z8h
 ·exact Z8i
 ·exact Z8j
 ·exact Z8k
 ·exact Z8l
 ·exact Z8m
 ·exact Z8n
 ·exact Z8o
 ·exact Z8p
 ·exact Z8q
 ·exact Z8r
 ·exact Z8s
 ·exact Z8t
 ·exact Z8u
 ·exact Z8v
 ·exact Z8w
 ·exact Z8x
 ·exact Z8y
 ·exact Z8z
 ·exact Z80
 ·exact Z81
 ·exact Z82
 ·exact Z83
 ·exact Z84
 ·exact Z85
 ·exact Z86
 ·exact Z87
 ·exact Z88
 ·exact Z89
 ·exact Z9a
 ·exact Z9b
 ·exact Z9c
 ·exact Z7b
 ·exact Z7c
 ·exact Z7d
 ·exact Z7e
 ·exact Z7f
 ·exact Z7g
 ·exact Z7h
 ·exact Z7i
 ·exact Z7j
 ·exact Z7k
 ·exact Z7l
 ·exact Z7m
 ·exact Z7n
 exact Z7o
theorem Z62 : Qf 2 = some ⟨.int .i64, 1, 8, [.int .i64 0], false⟩ := rfl
theorem Zm5 : Qf 3 = some ⟨.int .i64, 1, 8, [.int .i64 0], false⟩ := rfl
theorem Z63 : Qf 4 = some ⟨.bool, 1, 1, [.bool false], false⟩ := rfl
theorem Z64 : Qf 5 = some ⟨.int .u8, 1, 1, [.int .u8 0], false⟩ := rfl
theorem Z65 : Qf 6 = some ⟨.int .u8, 1, 1, [.int .u8 0], false⟩ := rfl
theorem Z66 : Qf 7 = some ⟨.struct [(0, 2), (1, 3), (2, 4), (3, 6)], 4, 24, [.int .i64 0, .int .i64 0, .bool false, .int .u8 0], false⟩ := rfl
theorem Z67 : Qf 8 = some ⟨.struct [(0, 2), (1, 3), (2, 4), (3, 6)], 4, 24, [.int .i64 0, .int .i64 0, .bool false, .int .u8 0], false⟩ := rfl
theorem Z68 : Qf 9 = some ⟨.str, 1, 16, [.string ByteArray.empty], false⟩ := rfl
theorem Z3q : Qf 10 = some ⟨.str, 1, 16, [.string ByteArray.empty], false⟩ := rfl
theorem Z3r : Qf 11 = some ⟨.str, 1, 16, [.string ByteArray.empty], false⟩ := rfl
theorem Z3s : Qf 12 = some ⟨.int .u64, 1, 8, [.int .u64 0], false⟩ := rfl
theorem Z3t : Qf 13 = some ⟨.struct [(0, 9), (1, 12)], 2, 24, [.string ByteArray.empty, .int .u64 0], false⟩ := rfl
theorem Z3u : Qf 14 = some ⟨.struct [(0, 9), (1, 12)], 2, 24, [.string ByteArray.empty, .int .u64 0], false⟩ := rfl
theorem Z3v : Qf 15 = some ⟨.ptr 141, 1, 8, [.pointer none], false⟩ := rfl
theorem Z3w : Qf 16 = some ⟨.ptr 144, 1, 8, [.pointer none], false⟩ := rfl
theorem Z3x : Qf 17 = some ⟨.ptr 152, 1, 8, [.pointer none], false⟩ := rfl
theorem Z3y : Qf 18 = some ⟨.struct [(0, 17)], 1, 8, [.pointer none], false⟩ := rfl
theorem Z3z : Qf 19 = some ⟨.struct [(0, 17)], 1, 8, [.pointer none], false⟩ := rfl
theorem Z30 : Qf 21 = some ⟨.int .i32, 1, 4, [.int .i32 0], false⟩ := rfl
theorem Zwk : Qf 22 = some ⟨.slice 26, 1, 24, [.slice none 0 0], false⟩ := rfl
theorem Z31 : Qf 23 = some ⟨.struct [(0, 3), (1, 3), (2, 3), (3, 3)], 4, 32, [.int .i64 0, .int .i64 0, .int .i64 0, .int .i64 0], false⟩ := rfl
theorem Z32 : Qf 24 = some ⟨.struct [(0, 3), (1, 3), (2, 3), (3, 3)], 4, 32, [.int .i64 0, .int .i64 0, .int .i64 0, .int .i64 0], true⟩ := rfl
theorem Zdo : Qf 26 = some ⟨.slice 40, 1, 24, [.slice none 0 0], false⟩ := rfl
theorem Z33 : Qf 27 = some ⟨.slice 29, 1, 24, [.slice none 0 0], false⟩ := rfl
theorem Z34 : Qf 28 = some ⟨.struct [(0, 3), (1, 26), (2, 27)], 3, 56, [.int .i64 0, .slice none 0 0, .slice none 0 0], false⟩ := rfl
theorem Zm4 : Qf 29 = some ⟨.struct [(0, 3), (1, 26), (2, 27)], 3, 56, [.int .i64 0, .slice none 0 0, .slice none 0 0], false⟩ := rfl
theorem Z35 : Qf 33 = some ⟨.ptr 97, 1, 8, [.pointer none], false⟩ := rfl
theorem Z36 : Qf 34 = some ⟨.struct [(0, 33), (1, 3), (2, 3), (3, 3), (4, 3), (5, 3), (6, 3), (7, 3), (8, 3)], 9, 72, [.pointer none, .int .i64 0, .int .i64 0, .int .i64 0, .int .i64 0, .int .i64 0, .int .i64 0, .int .i64 0, .int .i64 0], false⟩ := rfl
theorem Z37 : Qf 35 = some ⟨.struct [(0, 33), (1, 3), (2, 3), (3, 3), (4, 3), (5, 3), (6, 3), (7, 3), (8, 3)], 9, 72, [.pointer none, .int .i64 0, .int .i64 0, .int .i64 0, .int .i64 0, .int .i64 0, .int .i64 0, .int .i64 0, .int .i64 0], false⟩ := rfl
theorem Z38 : Qf 37 = some ⟨.int .i64, 1, 8, [.int .i64 0], false⟩ := rfl
theorem Zaj : Qf 40 = some ⟨.int .u64, 1, 8, [.int .u64 0], false⟩ := rfl
theorem Z39 : Qf 45 = some ⟨.slice 22, 1, 24, [.slice none 0 0], false⟩ := rfl
theorem Z4a : Qf 46 = some ⟨.ptr 79, 1, 8, [.pointer none], false⟩ := rfl
theorem Z4b : Qf 54 = some ⟨.int .u64, 1, 8, [.int .u64 0], false⟩ := rfl
theorem Z4c : Qf 55 = some ⟨.slice 3, 1, 24, [.slice none 0 0], false⟩ := rfl
theorem Z4d : Qf 63 = some ⟨.struct [(0, 3), (1, 3), (2, 3), (3, 3), (4, 3), (5, 3), (6, 40)], 7, 56, [.int .i64 0, .int .i64 0, .int .i64 0, .int .i64 0, .int .i64 0, .int .i64 0, .int .u64 0], false⟩ := rfl
theorem Z4e : Qf 64 = some ⟨.struct [(0, 3), (1, 3), (2, 3), (3, 3), (4, 3), (5, 3), (6, 40)], 7, 56, [.int .i64 0, .int .i64 0, .int .i64 0, .int .i64 0, .int .i64 0, .int .i64 0, .int .u64 0], true⟩ := rfl
theorem Z4f : Qf 71 = some ⟨.struct [(0, 3)], 1, 8, [.int .i64 0], false⟩ := rfl
theorem Z4g : Qf 72 = some ⟨.struct [(0, 3)], 1, 8, [.int .i64 0], true⟩ := rfl
theorem Z4h : Qf 73 = some ⟨.struct [(0, 40), (1, 3)], 2, 16, [.int .u64 0, .int .i64 0], false⟩ := rfl
theorem Z4i : Qf 74 = some ⟨.struct [(0, 40), (1, 3)], 2, 16, [.int .u64 0, .int .i64 0], true⟩ := rfl
theorem Z4j : Qf 77 = some ⟨.slice 82, 1, 24, [.slice none 0 0], false⟩ := rfl
theorem Z4k : Qf 78 = some ⟨.struct [(0, 77), (1, 55)], 2, 48, [.slice none 0 0, .slice none 0 0], false⟩ := rfl
theorem Z4l : Qf 79 = some ⟨.struct [(0, 77), (1, 55)], 2, 48, [.slice none 0 0, .slice none 0 0], false⟩ := rfl
theorem Z4m : Qf 81 = some ⟨.struct [(0, 40), (1, 35)], 10, 80, [.int .u64 0, .pointer none, .int .i64 0, .int .i64 0, .int .i64 0, .int .i64 0, .int .i64 0, .int .i64 0, .int .i64 0, .int .i64 0], false⟩ := rfl
theorem Zs3 : Qf 82 = some ⟨.struct [(0, 40), (1, 35)], 10, 80, [.int .u64 0, .pointer none, .int .i64 0, .int .i64 0, .int .i64 0, .int .i64 0, .int .i64 0, .int .i64 0, .int .i64 0, .int .i64 0], false⟩ := rfl
theorem Z4n : Qf 85 = some ⟨.struct [(0, 3), (1, 3), (2, 3), (3, 3), (4, 3), (5, 3), (6, 3), (7, 4)], 8, 64, [.int .i64 0, .int .i64 0, .int .i64 0, .int .i64 0, .int .i64 0, .int .i64 0, .int .i64 0, .bool false], false⟩ := rfl
theorem Z4o : Qf 86 = some ⟨.struct [(0, 3), (1, 3), (2, 3), (3, 3), (4, 3), (5, 3), (6, 3), (7, 4)], 8, 64, [.int .i64 0, .int .i64 0, .int .i64 0, .int .i64 0, .int .i64 0, .int .i64 0, .int .i64 0, .bool false], true⟩ := rfl
theorem Z4p : Qf 87 = some ⟨.struct [(0, 86), (8, 3), (9, 3)], 10, 80, [.int .i64 0, .int .i64 0, .int .i64 0, .int .i64 0, .int .i64 0, .int .i64 0, .int .i64 0, .bool false, .int .i64 0, .int .i64 0], false⟩ := rfl
theorem Z4q : Qf 88 = some ⟨.struct [(0, 86), (8, 3), (9, 3)], 10, 80, [.int .i64 0, .int .i64 0, .int .i64 0, .int .i64 0, .int .i64 0, .int .i64 0, .int .i64 0, .bool false, .int .i64 0, .int .i64 0], true⟩ := rfl
theorem Z4r : Qf 96 = some ⟨.struct [(0, 22), (1, 3), (2, 3)], 3, 40, [.slice none 0 0, .int .i64 0, .int .i64 0], false⟩ := rfl
theorem Z4s : Qf 97 = some ⟨.struct [(0, 22), (1, 3), (2, 3)], 3, 40, [.slice none 0 0, .int .i64 0, .int .i64 0], false⟩ := rfl
theorem Z4t : Qf 98 = some ⟨.ptr 72, 1, 8, [.pointer none], false⟩ := rfl
theorem Z0z : Qf 101 = some ⟨.ptr 74, 1, 8, [.pointer none], false⟩ := rfl
theorem Z00 : Qf 116 = some ⟨.struct [(0, 3), (1, 3), (2, 3), (3, 3), (4, 3), (5, 3), (6, 3), (7, 4)], 8, 64, [.int .i64 0, .int .i64 0, .int .i64 0, .int .i64 0, .int .i64 0, .int .i64 0, .int .i64 0, .bool false], true⟩ := rfl
theorem Z01 : Qf 117 = some ⟨.struct [(0, 116), (8, 3), (9, 3)], 10, 80, [.int .i64 0, .int .i64 0, .int .i64 0, .int .i64 0, .int .i64 0, .int .i64 0, .int .i64 0, .bool false, .int .i64 0, .int .i64 0], false⟩ := rfl
theorem Z02 : Qf 118 = some ⟨.struct [(0, 116), (8, 3), (9, 3)], 10, 80, [.int .i64 0, .int .i64 0, .int .i64 0, .int .i64 0, .int .i64 0, .int .i64 0, .int .i64 0, .bool false, .int .i64 0, .int .i64 0], true⟩ := rfl
theorem Z03 : Qf 135 = some ⟨.arr 6 3, 6, 48, [.int .i64 0, .int .i64 0, .int .i64 0, .int .i64 0, .int .i64 0, .int .i64 0], true⟩ := rfl
theorem Z04 : Qf 137 = some ⟨.int .u32, 1, 4, [.int .u32 0], false⟩ := rfl
theorem Z05 : Qf 138 = some ⟨.arr 7 3, 7, 56, [.int .i64 0, .int .i64 0, .int .i64 0, .int .i64 0, .int .i64 0, .int .i64 0, .int .i64 0], true⟩ := rfl
theorem Z06 : Qf 140 = some ⟨.struct [(0, 17), (1, 17), (2, 17), (3, 9)], 4, 40, [.pointer none, .pointer none, .pointer none, .string ByteArray.empty], false⟩ := rfl
theorem Z07 : Qf 141 = some ⟨.struct [(0, 17), (1, 17), (2, 17), (3, 9)], 4, 40, [.pointer none, .pointer none, .pointer none, .string ByteArray.empty], false⟩ := rfl
theorem Z08 : Qf 145 = some ⟨.int .u8, 1, 1, [.int .u8 0], false⟩ := rfl
theorem Z09 : Qf 146 = some ⟨.int .u8, 1, 1, [.int .u8 0], false⟩ := rfl
theorem Z1a : Qf 148 = some ⟨.ptr 5, 1, 8, [.pointer none], false⟩ := rfl
theorem Z1b : Qf 149 = some ⟨.int .i32, 1, 4, [.int .i32 0], false⟩ := rfl
theorem Z1c : Ya Qf 2 = some (.int .i64) := rfl
theorem Z1d : Ya Qf 3 = some (.int .i64) := rfl
theorem Z1e : Ya Qf 4 = some (.bool) := rfl
theorem Z1f : Ya Qf 5 = some (.int .u8) := rfl
theorem Z1g : Ya Qf 6 = some (.int .u8) := rfl
theorem Z1h : Ya Qf 7 = some (.struct [(0, 2), (1, 3), (2, 4), (3, 6)]) := rfl
theorem Z1i : Ya Qf 8 = some (.struct [(0, 2), (1, 3), (2, 4), (3, 6)]) := rfl
theorem Z1j : Ya Qf 9 = some (.str) := rfl
theorem Zwl : Ya Qf 10 = some (.str) := rfl
theorem Zwm : Ya Qf 11 = some (.str) := rfl
theorem Zwn : Ya Qf 12 = some (.int .u64) := rfl
theorem Zwo : Ya Qf 13 = some (.struct [(0, 9), (1, 12)]) := rfl
theorem Zwp : Ya Qf 14 = some (.struct [(0, 9), (1, 12)]) := rfl
theorem Zwq : Ya Qf 15 = some (.ptr 141) := rfl
theorem Zwr : Ya Qf 16 = some (.ptr 144) := rfl
theorem Zws : Ya Qf 17 = some (.ptr 152) := rfl
theorem Zwt : Ya Qf 18 = some (.struct [(0, 17)]) := rfl
theorem Zwu : Ya Qf 19 = some (.struct [(0, 17)]) := rfl
theorem Zwv : Ya Qf 21 = some (.int .i32) := rfl
theorem Zww : Ya Qf 22 = some (.slice 26) := rfl
theorem Zwx : Ya Qf 23 = some (.struct [(0, 3), (1, 3), (2, 3), (3, 3)]) := rfl
theorem Zwy : Ya Qf 24 = some (.struct [(0, 3), (1, 3), (2, 3), (3, 3)]) := rfl
theorem Zg5 : Ya Qf 26 = some (.slice 40) := rfl
theorem Zqe : Ya Qf 27 = some (.slice 29) := rfl
theorem Zwz : Ya Qf 28 = some (.struct [(0, 3), (1, 26), (2, 27)]) := rfl
theorem Zw0 : Ya Qf 29 = some (.struct [(0, 3), (1, 26), (2, 27)]) := rfl
theorem Zqf : Ya Qf 33 = some (.ptr 97) := rfl
theorem Zw1 : Ya Qf 34 = some (.struct [(0, 33), (1, 3), (2, 3), (3, 3), (4, 3), (5, 3), (6, 3), (7, 3), (8, 3)]) := rfl
theorem Zw2 : Ya Qf 35 = some (.struct [(0, 33), (1, 3), (2, 3), (3, 3), (4, 3), (5, 3), (6, 3), (7, 3), (8, 3)]) := rfl
theorem Zw3 : Ya Qf 37 = some (.int .i64) := rfl
theorem Zw4 : Ya Qf 40 = some (.int .u64) := rfl
theorem Zw5 : Ya Qf 45 = some (.slice 22) := rfl
theorem Zqg : Ya Qf 46 = some (.ptr 79) := rfl
theorem Zw6 : Ya Qf 54 = some (.int .u64) := rfl
theorem Zw7 : Ya Qf 55 = some (.slice 3) := rfl
theorem Zw8 : Ya Qf 63 = some (.struct [(0, 3), (1, 3), (2, 3), (3, 3), (4, 3), (5, 3), (6, 40)]) := rfl
theorem Zw9 : Ya Qf 64 = some (.struct [(0, 3), (1, 3), (2, 3), (3, 3), (4, 3), (5, 3), (6, 40)]) := rfl
theorem Zxa : Ya Qf 71 = some (.struct [(0, 3)]) := rfl
theorem Zxb : Ya Qf 72 = some (.struct [(0, 3)]) := rfl
theorem Zxc : Ya Qf 73 = some (.struct [(0, 40), (1, 3)]) := rfl
theorem Zxd : Ya Qf 74 = some (.struct [(0, 40), (1, 3)]) := rfl
theorem Zxe : Ya Qf 77 = some (.slice 82) := rfl
theorem Zxf : Ya Qf 78 = some (.struct [(0, 77), (1, 55)]) := rfl
theorem Zxg : Ya Qf 79 = some (.struct [(0, 77), (1, 55)]) := rfl
theorem Zxh : Ya Qf 81 = some (.struct [(0, 40), (1, 35)]) := rfl
theorem Zxi : Ya Qf 82 = some (.struct [(0, 40), (1, 35)]) := rfl
theorem Zxj : Ya Qf 85 = some (.struct [(0, 3), (1, 3), (2, 3), (3, 3), (4, 3), (5, 3), (6, 3), (7, 4)]) := rfl
theorem Zxk : Ya Qf 86 = some (.struct [(0, 3), (1, 3), (2, 3), (3, 3), (4, 3), (5, 3), (6, 3), (7, 4)]) := rfl
theorem Zxl : Ya Qf 87 = some (.struct [(0, 86), (8, 3), (9, 3)]) := rfl
theorem Zxm : Ya Qf 88 = some (.struct [(0, 86), (8, 3), (9, 3)]) := rfl
theorem Zxn : Ya Qf 96 = some (.struct [(0, 22), (1, 3), (2, 3)]) := rfl
theorem Zxo : Ya Qf 97 = some (.struct [(0, 22), (1, 3), (2, 3)]) := rfl
theorem Zxp : Ya Qf 98 = some (.ptr 72) := rfl
theorem Zs5 : Ya Qf 101 = some (.ptr 74) := rfl
theorem Zs6 : Ya Qf 116 = some (.struct [(0, 3), (1, 3), (2, 3), (3, 3), (4, 3), (5, 3), (6, 3), (7, 4)]) := rfl
theorem Zs7 : Ya Qf 117 = some (.struct [(0, 116), (8, 3), (9, 3)]) := rfl
theorem Zs8 : Ya Qf 118 = some (.struct [(0, 116), (8, 3), (9, 3)]) := rfl
theorem Zs9 : Ya Qf 135 = some (.arr 6 3) := rfl
theorem Zta : Ya Qf 137 = some (.int .u32) := rfl
theorem Ztb : Ya Qf 138 = some (.arr 7 3) := rfl
theorem Ztc : Ya Qf 140 = some (.struct [(0, 17), (1, 17), (2, 17), (3, 9)]) := rfl
theorem Ztd : Ya Qf 141 = some (.struct [(0, 17), (1, 17), (2, 17), (3, 9)]) := rfl
theorem Zte : Ya Qf 145 = some (.int .u8) := rfl
theorem Ztf : Ya Qf 146 = some (.int .u8) := rfl
theorem Ztg : Ya Qf 148 = some (.ptr 5) := rfl
theorem Zth : Ya Qf 149 = some (.int .i32) := rfl
end Go.Proofs.Ytgffgbdnbjbmoaa
