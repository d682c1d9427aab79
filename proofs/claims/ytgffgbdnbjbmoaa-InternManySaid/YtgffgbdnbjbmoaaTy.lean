/- The types of this seat's program, as its dump has them, in the ghost memory's words; no condition. -/
import Derived.Test.YtgffgbdnbjbmoaaRows
import Derived.Test.YtgffgbdnbjbmoaaG16
namespace Go.Proofs.Ytgffgbdnbjbmoaa
open Go.RowKit
set_option linter.unusedVariables false
set_option linter.unusedSimpArgs false
theorem TyOk.of {P : Program} {t : TypeId} (k : TK) (size bytes : Nat) (zero : List Value) (z : Value) (h : (P.info? t).map (fun i => (i.zero, i.size, i.bytes)) = some (some z, size, bytes)) (hz : z.cells.toList = zero) (hu : k.ok P t) (hl : zero.length = size) (h1 : zero.all Value.oneCell' = true) (eq : Bool) (he : eq = true → EqTy P t) : TyOk P t ⟨k, size, bytes, zero, eq⟩ := by
 refine ⟨?_, hu, hl, fun v hv => List.all_eq_true.1 h1 v hv, he⟩
 cases hi : P.info? t with
 | none => rw [hi] at h; cases h
 | some i =>
  rw [hi] at h
  simp only [Option.map_some, Option.some.injEq, Prod.mk.injEq] at h
  exact ⟨i, z, rfl, h.2.1, h.2.2, h.1, hz⟩
theorem TyOk.g {P : Program} {t : TypeId} {k : TK} {size bytes : Nat} {zero : List Value} {eq : Bool} (h : (P.info? t).map (fun i => (i.zero, i.size, i.bytes)) = some (some (.agg zero.toArray), size, bytes)) (hu : k.ok P t) (he : eq = true → EqTy P t := by intro h; cases h) (hz : (Value.agg zero.toArray).cells.toList = zero := by rfl) (hl : zero.length = size := by rfl) (h1 : zero.all Value.oneCell' = true := by rfl) : TyOk P t ⟨k, size, bytes, zero, eq⟩ := .of k size bytes zero _ h hz hu hl h1 eq he
theorem TyOk.s {P : Program} {t : TypeId} {k : TK} {size bytes : Nat} {z : Value} {eq : Bool} (h : (P.info? t).map (fun i => (i.zero, i.size, i.bytes)) = some (some z, size, bytes)) (hu : k.ok P t) (he : eq = true → EqTy P t := by intro h; cases h) (hz : z.cells.toList = [z] := by rfl) (hl : [z].length = size := by rfl) (h1 : [z].all Value.oneCell' = true := by rfl) : TyOk P t ⟨k, size, bytes, [z], eq⟩ := .of k size bytes [z] _ h hz hu hl h1 eq he
theorem EqTy.m {P : Program} {t : TypeId} (h : EqTy P t) : true = true → EqTy P t := fun _ => h
theorem Zj9 {α : Type} {t : Nat} {i : α} : ∀ (l : List (Nat × α)), l.lookup t = some i → (t, i) ∈ l
 | [], h => by simp at h
 | (a, b) :: l, h => by
  rw [List.lookup_cons] at h
  split at h
  ·rename_i he
   injection h with h
   have : t = a := by simpa using he
   subst h this
   exact .head _
  exact .tail _ (Zj9 l h)
def tE2 : TyI := ⟨.int .i64, 1, 8, [.int .i64 0], false⟩
theorem ty2 : TyOk Try.prog 2 tE2 := .s (by kernel_rfl) Try.underlying2
theorem ty3 : TyOk Try.prog 3 tE2 := .s (by kernel_rfl) Try.underlying3
def tE4 : TyI := ⟨.bool, 1, 1, [.bool false], false⟩
theorem ty4 : TyOk Try.prog 4 tE4 := .s (by kernel_rfl) Try.underlying4
def tE5 : TyI := ⟨.int .u8, 1, 1, [.int .u8 0], false⟩
theorem ty5 : TyOk Try.prog 5 tE5 := .s (by kernel_rfl) Try.underlying5
theorem ty6 : TyOk Try.prog 6 tE5 := .s (by kernel_rfl) Try.underlying6
def tE7 : TyI := ⟨.struct [(0, 2), (1, 3), (2, 4), (3, 6)], 4, 24, [.int .i64 0, .int .i64 0, .bool false, .int .u8 0], false⟩
theorem ty7 : TyOk Try.prog 7 tE7 := .g (by kernel_rfl) ⟨_, Try.underlying7, rfl⟩
theorem ty8 : TyOk Try.prog 8 tE7 := .g (by kernel_rfl) ⟨_, Try.underlying8, rfl⟩
def tE9 : TyI := ⟨.str, 1, 16, [.string ByteArray.empty], false⟩
theorem ty9 : TyOk Try.prog 9 tE9 := .s (by kernel_rfl) Try.underlying9
theorem Z42 : TyOk Try.prog 10 tE9 := .s (by kernel_rfl) Try.underlying10
theorem Z43 : TyOk Try.prog 11 tE9 := .s (by kernel_rfl) Try.underlying11
def Zvr : TyI := ⟨.int .u64, 1, 8, [.int .u64 0], false⟩
theorem Z44 : TyOk Try.prog 12 Zvr := .s (by kernel_rfl) Try.underlying12
def Zzu : TyI := ⟨.struct [(0, 9), (1, 12)], 2, 24, [.string ByteArray.empty, .int .u64 0], false⟩
theorem Z45 : TyOk Try.prog 13 Zzu := .g (by kernel_rfl) ⟨_, Try.underlying13, rfl⟩
theorem Z46 : TyOk Try.prog 14 Zzu := .g (by kernel_rfl) ⟨_, Try.underlying14, rfl⟩
def Z3g : TyI := ⟨.ptr 141, 1, 8, [.pointer none], false⟩
theorem Z47 : TyOk Try.prog 15 Z3g := .s (by kernel_rfl) Try.underlying15
def Z3h : TyI := ⟨.ptr 144, 1, 8, [.pointer none], false⟩
theorem Z48 : TyOk Try.prog 16 Z3h := .s (by kernel_rfl) Try.underlying16
def Z3i : TyI := ⟨.ptr 152, 1, 8, [.pointer none], false⟩
theorem Z49 : TyOk Try.prog 17 Z3i := .s (by kernel_rfl) Try.underlying17
def Zzv : TyI := ⟨.struct [(0, 17)], 1, 8, [.pointer none], false⟩
theorem Z5a : TyOk Try.prog 18 Zzv := .g (by kernel_rfl) ⟨_, Try.underlying18, rfl⟩
theorem Z5b : TyOk Try.prog 19 Zzv := .g (by kernel_rfl) ⟨_, Try.underlying19, rfl⟩
def Zvs : TyI := ⟨.int .i32, 1, 4, [.int .i32 0], false⟩
theorem Z5c : TyOk Try.prog 21 Zvs := .s (by kernel_rfl) Try.underlying21
def Z3j : TyI := ⟨.slice 26, 1, 24, [.slice none 0 0], false⟩
theorem Z5d : TyOk Try.prog 22 Z3j := .s (by kernel_rfl) Try.underlying22
def Z3k : TyI := ⟨.struct [(0, 3), (1, 3), (2, 3), (3, 3)], 4, 32, [.int .i64 0, .int .i64 0, .int .i64 0, .int .i64 0], false⟩
theorem Z5e : TyOk Try.prog 23 Z3k := .g (by kernel_rfl) ⟨_, Try.underlying23, rfl⟩
def Z3l : TyI := ⟨.struct [(0, 3), (1, 3), (2, 3), (3, 3)], 4, 32, [.int .i64 0, .int .i64 0, .int .i64 0, .int .i64 0], true⟩
theorem Z5f : TyOk Try.prog 24 Z3l := .g (by kernel_rfl) ⟨_, Try.underlying24, rfl⟩ (fun _ => by unfold EqTy; exact ⟨by kernel_rfl, by kernel_rfl, by kernel_rfl⟩)
def Z3m : TyI := ⟨.slice 40, 1, 24, [.slice none 0 0], false⟩
theorem Z5g : TyOk Try.prog 26 Z3m := .s (by kernel_rfl) Try.underlying26
def Z3n : TyI := ⟨.slice 29, 1, 24, [.slice none 0 0], false⟩
theorem Z5h : TyOk Try.prog 27 Z3n := .s (by kernel_rfl) Try.underlying27
def Zzw : TyI := ⟨.struct [(0, 3), (1, 26), (2, 27)], 3, 56, [.int .i64 0, .slice none 0 0, .slice none 0 0], false⟩
theorem Z5i : TyOk Try.prog 28 Zzw := .g (by kernel_rfl) ⟨_, Try.underlying28, rfl⟩
theorem Z5j : TyOk Try.prog 29 Zzw := .g (by kernel_rfl) ⟨_, Try.underlying29, rfl⟩
def Z3o : TyI := ⟨.ptr 97, 1, 8, [.pointer none], false⟩
theorem Z5k : TyOk Try.prog 33 Z3o := .s (by kernel_rfl) Try.underlying33
def Zzx : TyI := ⟨.struct [(0, 33), (1, 3), (2, 3), (3, 3), (4, 3), (5, 3), (6, 3), (7, 3), (8, 3)], 9, 72, [.pointer none, .int .i64 0, .int .i64 0, .int .i64 0, .int .i64 0, .int .i64 0, .int .i64 0, .int .i64 0, .int .i64 0], false⟩
theorem Z5l : TyOk Try.prog 34 Zzx := .g (by kernel_rfl) ⟨_, Try.underlying34, rfl⟩
theorem Z5m : TyOk Try.prog 35 Zzx := .g (by kernel_rfl) ⟨_, Try.underlying35, rfl⟩
theorem Z5n : TyOk Try.prog 37 tE2 := .s (by kernel_rfl) Try.underlying37
theorem Z5o : TyOk Try.prog 40 Zvr := .s (by kernel_rfl) Try.underlying40
def Z3p : TyI := ⟨.slice 22, 1, 24, [.slice none 0 0], false⟩
theorem Z5p : TyOk Try.prog 45 Z3p := .s (by kernel_rfl) Try.underlying45
def Z3q : TyI := ⟨.ptr 79, 1, 8, [.pointer none], false⟩
theorem Z5q : TyOk Try.prog 46 Z3q := .s (by kernel_rfl) Try.underlying46
theorem Z5r : TyOk Try.prog 54 Zvr := .s (by kernel_rfl) Try.underlying54
def Z3r : TyI := ⟨.slice 3, 1, 24, [.slice none 0 0], false⟩
theorem Z5s : TyOk Try.prog 55 Z3r := .s (by kernel_rfl) Try.underlying55
def Z3s : TyI := ⟨.struct [(0, 3), (1, 3), (2, 3), (3, 3), (4, 3), (5, 3), (6, 40)], 7, 56, [.int .i64 0, .int .i64 0, .int .i64 0, .int .i64 0, .int .i64 0, .int .i64 0, .int .u64 0], false⟩
theorem Z5t : TyOk Try.prog 63 Z3s := .g (by kernel_rfl) ⟨_, Try.underlying63, rfl⟩
def Z3t : TyI := ⟨.struct [(0, 3), (1, 3), (2, 3), (3, 3), (4, 3), (5, 3), (6, 40)], 7, 56, [.int .i64 0, .int .i64 0, .int .i64 0, .int .i64 0, .int .i64 0, .int .i64 0, .int .u64 0], true⟩
theorem Z5u : TyOk Try.prog 64 Z3t := .g (by kernel_rfl) ⟨_, Try.underlying64, rfl⟩ (fun _ => by unfold EqTy; exact ⟨by kernel_rfl, by kernel_rfl, by kernel_rfl⟩)
def Z3u : TyI := ⟨.struct [(0, 3)], 1, 8, [.int .i64 0], false⟩
theorem Z5v : TyOk Try.prog 71 Z3u := .g (by kernel_rfl) ⟨_, Try.underlying71, rfl⟩
def Z3v : TyI := ⟨.struct [(0, 3)], 1, 8, [.int .i64 0], true⟩
theorem Z5w : TyOk Try.prog 72 Z3v := .g (by kernel_rfl) ⟨_, Try.underlying72, rfl⟩ (fun _ => by unfold EqTy; exact ⟨by kernel_rfl, by kernel_rfl, by kernel_rfl⟩)
def Z3w : TyI := ⟨.struct [(0, 40), (1, 3)], 2, 16, [.int .u64 0, .int .i64 0], false⟩
theorem Z5x : TyOk Try.prog 73 Z3w := .g (by kernel_rfl) ⟨_, Try.underlying73, rfl⟩
def Z3x : TyI := ⟨.struct [(0, 40), (1, 3)], 2, 16, [.int .u64 0, .int .i64 0], true⟩
theorem Z5y : TyOk Try.prog 74 Z3x := .g (by kernel_rfl) ⟨_, Try.underlying74, rfl⟩ (fun _ => by unfold EqTy; exact ⟨by kernel_rfl, by kernel_rfl, by kernel_rfl⟩)
def Z3y : TyI := ⟨.slice 82, 1, 24, [.slice none 0 0], false⟩
theorem Z5z : TyOk Try.prog 77 Z3y := .s (by kernel_rfl) Try.underlying77
def Zzy : TyI := ⟨.struct [(0, 77), (1, 55)], 2, 48, [.slice none 0 0, .slice none 0 0], false⟩
theorem Z50 : TyOk Try.prog 78 Zzy := .g (by kernel_rfl) ⟨_, Try.underlying78, rfl⟩
theorem Z51 : TyOk Try.prog 79 Zzy := .g (by kernel_rfl) ⟨_, Try.underlying79, rfl⟩
def Zzz : TyI := ⟨.struct [(0, 40), (1, 35)], 10, 80, [.int .u64 0, .pointer none, .int .i64 0, .int .i64 0, .int .i64 0, .int .i64 0, .int .i64 0, .int .i64 0, .int .i64 0, .int .i64 0], false⟩
theorem Z52 : TyOk Try.prog 81 Zzz := .g (by kernel_rfl) ⟨_, Try.underlying81, rfl⟩
theorem Z53 : TyOk Try.prog 82 Zzz := .g (by kernel_rfl) ⟨_, Try.underlying82, rfl⟩
def Z3z : TyI := ⟨.struct [(0, 3), (1, 3), (2, 3), (3, 3), (4, 3), (5, 3), (6, 3), (7, 4)], 8, 64, [.int .i64 0, .int .i64 0, .int .i64 0, .int .i64 0, .int .i64 0, .int .i64 0, .int .i64 0, .bool false], false⟩
theorem Z54 : TyOk Try.prog 85 Z3z := .g (by kernel_rfl) ⟨_, Try.underlying85, rfl⟩
def Zz0 : TyI := ⟨.struct [(0, 3), (1, 3), (2, 3), (3, 3), (4, 3), (5, 3), (6, 3), (7, 4)], 8, 64, [.int .i64 0, .int .i64 0, .int .i64 0, .int .i64 0, .int .i64 0, .int .i64 0, .int .i64 0, .bool false], true⟩
theorem Z55 : TyOk Try.prog 86 Zz0 := .g (by kernel_rfl) ⟨_, Try.underlying86, rfl⟩ (fun _ => by unfold EqTy; exact ⟨by kernel_rfl, by kernel_rfl, by kernel_rfl⟩)
def Z30 : TyI := ⟨.struct [(0, 86), (8, 3), (9, 3)], 10, 80, [.int .i64 0, .int .i64 0, .int .i64 0, .int .i64 0, .int .i64 0, .int .i64 0, .int .i64 0, .bool false, .int .i64 0, .int .i64 0], false⟩
theorem Z56 : TyOk Try.prog 87 Z30 := .g (by kernel_rfl) ⟨_, Try.underlying87, rfl⟩
def Z31 : TyI := ⟨.struct [(0, 86), (8, 3), (9, 3)], 10, 80, [.int .i64 0, .int .i64 0, .int .i64 0, .int .i64 0, .int .i64 0, .int .i64 0, .int .i64 0, .bool false, .int .i64 0, .int .i64 0], true⟩
theorem Z57 : TyOk Try.prog 88 Z31 := .g (by kernel_rfl) ⟨_, Try.underlying88, rfl⟩ (fun _ => by unfold EqTy; exact ⟨by kernel_rfl, by kernel_rfl, by kernel_rfl⟩)
def Zz1 : TyI := ⟨.struct [(0, 22), (1, 3), (2, 3)], 3, 40, [.slice none 0 0, .int .i64 0, .int .i64 0], false⟩
theorem Z58 : TyOk Try.prog 96 Zz1 := .g (by kernel_rfl) ⟨_, Try.underlying96, rfl⟩
theorem Z59 : TyOk Try.prog 97 Zz1 := .g (by kernel_rfl) ⟨_, Try.underlying97, rfl⟩
def Z32 : TyI := ⟨.ptr 72, 1, 8, [.pointer none], false⟩
theorem Z6a : TyOk Try.prog 98 Z32 := .s (by kernel_rfl) Try.underlying98
def Z0g : TyI := ⟨.ptr 74, 1, 8, [.pointer none], false⟩
theorem Z4b : TyOk Try.prog 101 Z0g := .s (by kernel_rfl) Try.underlying101
theorem Z4c : TyOk Try.prog 116 Zz0 := .g (by kernel_rfl) ⟨_, Try.underlying116, rfl⟩ (fun _ => by unfold EqTy; exact ⟨by kernel_rfl, by kernel_rfl, by kernel_rfl⟩)
def Z0h : TyI := ⟨.struct [(0, 116), (8, 3), (9, 3)], 10, 80, [.int .i64 0, .int .i64 0, .int .i64 0, .int .i64 0, .int .i64 0, .int .i64 0, .int .i64 0, .bool false, .int .i64 0, .int .i64 0], false⟩
theorem Z4d : TyOk Try.prog 117 Z0h := .g (by kernel_rfl) ⟨_, Try.underlying117, rfl⟩
def Z0i : TyI := ⟨.struct [(0, 116), (8, 3), (9, 3)], 10, 80, [.int .i64 0, .int .i64 0, .int .i64 0, .int .i64 0, .int .i64 0, .int .i64 0, .int .i64 0, .bool false, .int .i64 0, .int .i64 0], true⟩
theorem Z4e : TyOk Try.prog 118 Z0i := .g (by kernel_rfl) ⟨_, Try.underlying118, rfl⟩ (fun _ => by unfold EqTy; exact ⟨by kernel_rfl, by kernel_rfl, by kernel_rfl⟩)
def Z0j : TyI := ⟨.arr 6 3, 6, 48, [.int .i64 0, .int .i64 0, .int .i64 0, .int .i64 0, .int .i64 0, .int .i64 0], true⟩
theorem Z4f : TyOk Try.prog 135 Z0j := .g (by kernel_rfl) Try.underlying135 (fun _ => by unfold EqTy; exact ⟨by kernel_rfl, by kernel_rfl, by kernel_rfl⟩)
def Z0k : TyI := ⟨.int .u32, 1, 4, [.int .u32 0], false⟩
theorem Z4g : TyOk Try.prog 137 Z0k := .s (by kernel_rfl) Try.underlying137
def Z0l : TyI := ⟨.arr 7 3, 7, 56, [.int .i64 0, .int .i64 0, .int .i64 0, .int .i64 0, .int .i64 0, .int .i64 0, .int .i64 0], true⟩
theorem Z4h : TyOk Try.prog 138 Z0l := .g (by kernel_rfl) Try.underlying138 (fun _ => by unfold EqTy; exact ⟨by kernel_rfl, by kernel_rfl, by kernel_rfl⟩)
def Zto : TyI := ⟨.struct [(0, 17), (1, 17), (2, 17), (3, 9)], 4, 40, [.pointer none, .pointer none, .pointer none, .string ByteArray.empty], false⟩
theorem Z4i : TyOk Try.prog 140 Zto := .g (by kernel_rfl) ⟨_, Try.underlying140, rfl⟩
theorem Z4j : TyOk Try.prog 141 Zto := .g (by kernel_rfl) ⟨_, Try.underlying141, rfl⟩
theorem Z4k : TyOk Try.prog 145 tE5 := .s (by kernel_rfl) Try.underlying145
theorem Z4l : TyOk Try.prog 146 tE5 := .s (by kernel_rfl) Try.underlying146
def Z0m : TyI := ⟨.ptr 5, 1, 8, [.pointer none], false⟩
theorem Z4m : TyOk Try.prog 148 Z0m := .s (by kernel_rfl) Try.underlying148
theorem Z4n : TyOk Try.prog 149 Zvs := .s (by kernel_rfl) Try.underlying149
theorem Z4o : TyOk Try.prog 150 Zvs := .s (by kernel_rfl) Try.underlying150
def tabL : List (Nat × TyI) := [(2, tE2), (3, tE2), (4, tE4), (5, tE5), (6, tE5), (7, tE7), (8, tE7), (9, tE9), (10, tE9), (11, tE9), (12, Zvr), (13, Zzu), (14, Zzu), (15, Z3g), (16, Z3h), (17, Z3i), (18, Zzv), (19, Zzv), (21, Zvs), (22, Z3j), (23, Z3k), (24, Z3l), (26, Z3m), (27, Z3n), (28, Zzw), (29, Zzw), (33, Z3o), (34, Zzx), (35, Zzx), (37, tE2), (40, Zvr), (45, Z3p), (46, Z3q), (54, Zvr), (55, Z3r), (63, Z3s), (64, Z3t), (71, Z3u), (72, Z3v), (73, Z3w), (74, Z3x), (77, Z3y), (78, Zzy), (79, Zzy), (81, Zzz), (82, Zzz), (85, Z3z), (86, Zz0), (87, Z30), (88, Z31), (96, Zz1), (97, Zz1), (98, Z32), (101, Z0g), (116, Zz0), (117, Z0h), (118, Z0i), (135, Z0j), (137, Z0k), (138, Z0l), (140, Zto), (141, Zto), (145, tE5), (146, tE5), (148, Z0m), (149, Zvs), (150, Zvs)]
def Xx : Qr := fun t => tabL.lookup t
theorem Zy : Xh Try.prog Xx := fun t i h => by
 have hm := Zj9 _ h
 unfold tabL at hm
 simp only [List.mem_cons, Prod.mk.injEq, List.not_mem_nil, or_false] at hm
 rcases hm with ⟨rfl, rfl⟩ | ⟨rfl, rfl⟩ | ⟨rfl, rfl⟩ | ⟨rfl, rfl⟩ | ⟨rfl, rfl⟩ | ⟨rfl, rfl⟩ | ⟨rfl, rfl⟩ | ⟨rfl, rfl⟩ | ⟨rfl, rfl⟩ | ⟨rfl, rfl⟩ | ⟨rfl, rfl⟩ | ⟨rfl, rfl⟩ | ⟨rfl, rfl⟩ | ⟨rfl, rfl⟩ | ⟨rfl, rfl⟩ | ⟨rfl, rfl⟩ | ⟨rfl, rfl⟩ | ⟨rfl, rfl⟩ | ⟨rfl, rfl⟩ | ⟨rfl, rfl⟩ | ⟨rfl, rfl⟩ | ⟨rfl, rfl⟩ | ⟨rfl, rfl⟩ | ⟨rfl, rfl⟩ | ⟨rfl, rfl⟩ | ⟨rfl, rfl⟩ | ⟨rfl, rfl⟩ | ⟨rfl, rfl⟩ | ⟨rfl, rfl⟩ | ⟨rfl, rfl⟩ | ⟨rfl, rfl⟩ | ⟨rfl, rfl⟩ | ⟨rfl, rfl⟩ | ⟨rfl, rfl⟩ | ⟨rfl, rfl⟩ | ⟨rfl, rfl⟩ | ⟨rfl, rfl⟩ | ⟨rfl, rfl⟩ | ⟨rfl, rfl⟩ | ⟨rfl, rfl⟩ | ⟨rfl, rfl⟩ | ⟨rfl, rfl⟩ | ⟨rfl, rfl⟩ | ⟨rfl, rfl⟩ | ⟨rfl, rfl⟩ | ⟨rfl, rfl⟩ | ⟨rfl, rfl⟩ | ⟨rfl, rfl⟩ | ⟨rfl, rfl⟩ | ⟨rfl, rfl⟩ | ⟨rfl, rfl⟩ | ⟨rfl, rfl⟩ | ⟨rfl, rfl⟩ | ⟨rfl, rfl⟩ | ⟨rfl, rfl⟩ | ⟨rfl, rfl⟩ | ⟨rfl, rfl⟩ | ⟨rfl, rfl⟩ | ⟨rfl, rfl⟩ | ⟨rfl, rfl⟩ | ⟨rfl, rfl⟩ | ⟨rfl, rfl⟩ | ⟨rfl, rfl⟩ | ⟨rfl, rfl⟩ | ⟨rfl, rfl⟩ | ⟨rfl, rfl⟩ | ⟨rfl, rfl⟩
 ·exact ty2
 ·exact ty3
 ·exact ty4
 ·exact ty5
 ·exact ty6
 ·exact ty7
 ·exact ty8
 ·exact ty9
 ·exact Z42
 ·exact Z43
 ·exact Z44
 ·exact Z45
 ·exact Z46
 ·exact Z47
 ·exact Z48
 ·exact Z49
 ·exact Z5a
 ·exact Z5b
 ·exact Z5c
 ·exact Z5d
 ·exact Z5e
 ·exact Z5f
 ·exact Z5g
 ·exact Z5h
 ·exact Z5i
 ·exact Z5j
 ·exact Z5k
 ·exact Z5l
 ·exact Z5m
 ·exact Z5n
 ·exact Z5o
 ·exact Z5p
 ·exact Z5q
 ·exact Z5r
 ·exact Z5s
 ·exact Z5t
 ·exact Z5u
 ·exact Z5v
 ·exact Z5w
 ·exact Z5x
 ·exact Z5y
 ·exact Z5z
 ·exact Z50
 ·exact Z51
 ·exact Z52
 ·exact Z53
 ·exact Z54
 ·exact Z55
 ·exact Z56
 ·exact Z57
 ·exact Z58
 ·exact Z59
 ·exact Z6a
 ·exact Z4b
 ·exact Z4c
 ·exact Z4d
 ·exact Z4e
 ·exact Z4f
 ·exact Z4g
 ·exact Z4h
 ·exact Z4i
 ·exact Z4j
 ·exact Z4k
 ·exact Z4l
 ·exact Z4m
 ·exact Z4n
 exact Z4o
theorem Z33 : Xx 2 = some ⟨.int .i64, 1, 8, [.int .i64 0], false⟩ := rfl
theorem Zkv : Xx 3 = some ⟨.int .i64, 1, 8, [.int .i64 0], false⟩ := rfl
theorem Z34 : Xx 4 = some ⟨.bool, 1, 1, [.bool false], false⟩ := rfl
theorem Z35 : Xx 5 = some ⟨.int .u8, 1, 1, [.int .u8 0], false⟩ := rfl
theorem Z36 : Xx 6 = some ⟨.int .u8, 1, 1, [.int .u8 0], false⟩ := rfl
theorem Z37 : Xx 7 = some ⟨.struct [(0, 2), (1, 3), (2, 4), (3, 6)], 4, 24, [.int .i64 0, .int .i64 0, .bool false, .int .u8 0], false⟩ := rfl
theorem Z38 : Xx 8 = some ⟨.struct [(0, 2), (1, 3), (2, 4), (3, 6)], 4, 24, [.int .i64 0, .int .i64 0, .bool false, .int .u8 0], false⟩ := rfl
theorem Z39 : Xx 9 = some ⟨.str, 1, 16, [.string ByteArray.empty], false⟩ := rfl
theorem Z0n : Xx 10 = some ⟨.str, 1, 16, [.string ByteArray.empty], false⟩ := rfl
theorem Z0o : Xx 11 = some ⟨.str, 1, 16, [.string ByteArray.empty], false⟩ := rfl
theorem Z0p : Xx 12 = some ⟨.int .u64, 1, 8, [.int .u64 0], false⟩ := rfl
theorem Z0q : Xx 13 = some ⟨.struct [(0, 9), (1, 12)], 2, 24, [.string ByteArray.empty, .int .u64 0], false⟩ := rfl
theorem Z0r : Xx 14 = some ⟨.struct [(0, 9), (1, 12)], 2, 24, [.string ByteArray.empty, .int .u64 0], false⟩ := rfl
theorem Z0s : Xx 15 = some ⟨.ptr 141, 1, 8, [.pointer none], false⟩ := rfl
theorem Z0t : Xx 16 = some ⟨.ptr 144, 1, 8, [.pointer none], false⟩ := rfl
theorem Z0u : Xx 17 = some ⟨.ptr 152, 1, 8, [.pointer none], false⟩ := rfl
theorem Z0v : Xx 18 = some ⟨.struct [(0, 17)], 1, 8, [.pointer none], false⟩ := rfl
theorem Z0w : Xx 19 = some ⟨.struct [(0, 17)], 1, 8, [.pointer none], false⟩ := rfl
theorem Z0x : Xx 21 = some ⟨.int .i32, 1, 4, [.int .i32 0], false⟩ := rfl
theorem Z0y : Xx 22 = some ⟨.slice 26, 1, 24, [.slice none 0 0], false⟩ := rfl
theorem Z0z : Xx 23 = some ⟨.struct [(0, 3), (1, 3), (2, 3), (3, 3)], 4, 32, [.int .i64 0, .int .i64 0, .int .i64 0, .int .i64 0], false⟩ := rfl
theorem Z00 : Xx 24 = some ⟨.struct [(0, 3), (1, 3), (2, 3), (3, 3)], 4, 32, [.int .i64 0, .int .i64 0, .int .i64 0, .int .i64 0], true⟩ := rfl
theorem Zku : Xx 26 = some ⟨.slice 40, 1, 24, [.slice none 0 0], false⟩ := rfl
theorem Z01 : Xx 27 = some ⟨.slice 29, 1, 24, [.slice none 0 0], false⟩ := rfl
theorem Z02 : Xx 28 = some ⟨.struct [(0, 3), (1, 26), (2, 27)], 3, 56, [.int .i64 0, .slice none 0 0, .slice none 0 0], false⟩ := rfl
theorem Zii : Xx 29 = some ⟨.struct [(0, 3), (1, 26), (2, 27)], 3, 56, [.int .i64 0, .slice none 0 0, .slice none 0 0], false⟩ := rfl
theorem Z03 : Xx 33 = some ⟨.ptr 97, 1, 8, [.pointer none], false⟩ := rfl
theorem Z04 : Xx 34 = some ⟨.struct [(0, 33), (1, 3), (2, 3), (3, 3), (4, 3), (5, 3), (6, 3), (7, 3), (8, 3)], 9, 72, [.pointer none, .int .i64 0, .int .i64 0, .int .i64 0, .int .i64 0, .int .i64 0, .int .i64 0, .int .i64 0, .int .i64 0], false⟩ := rfl
theorem Z05 : Xx 35 = some ⟨.struct [(0, 33), (1, 3), (2, 3), (3, 3), (4, 3), (5, 3), (6, 3), (7, 3), (8, 3)], 9, 72, [.pointer none, .int .i64 0, .int .i64 0, .int .i64 0, .int .i64 0, .int .i64 0, .int .i64 0, .int .i64 0, .int .i64 0], false⟩ := rfl
theorem Z06 : Xx 37 = some ⟨.int .i64, 1, 8, [.int .i64 0], false⟩ := rfl
theorem Zdo : Xx 40 = some ⟨.int .u64, 1, 8, [.int .u64 0], false⟩ := rfl
theorem Z07 : Xx 45 = some ⟨.slice 22, 1, 24, [.slice none 0 0], false⟩ := rfl
theorem Z08 : Xx 46 = some ⟨.ptr 79, 1, 8, [.pointer none], false⟩ := rfl
theorem Z09 : Xx 54 = some ⟨.int .u64, 1, 8, [.int .u64 0], false⟩ := rfl
theorem Z1a : Xx 55 = some ⟨.slice 3, 1, 24, [.slice none 0 0], false⟩ := rfl
theorem Z1b : Xx 63 = some ⟨.struct [(0, 3), (1, 3), (2, 3), (3, 3), (4, 3), (5, 3), (6, 40)], 7, 56, [.int .i64 0, .int .i64 0, .int .i64 0, .int .i64 0, .int .i64 0, .int .i64 0, .int .u64 0], false⟩ := rfl
theorem Z1c : Xx 64 = some ⟨.struct [(0, 3), (1, 3), (2, 3), (3, 3), (4, 3), (5, 3), (6, 40)], 7, 56, [.int .i64 0, .int .i64 0, .int .i64 0, .int .i64 0, .int .i64 0, .int .i64 0, .int .u64 0], true⟩ := rfl
theorem Z1d : Xx 71 = some ⟨.struct [(0, 3)], 1, 8, [.int .i64 0], false⟩ := rfl
theorem Z1e : Xx 72 = some ⟨.struct [(0, 3)], 1, 8, [.int .i64 0], true⟩ := rfl
theorem Z1f : Xx 73 = some ⟨.struct [(0, 40), (1, 3)], 2, 16, [.int .u64 0, .int .i64 0], false⟩ := rfl
theorem Z1g : Xx 74 = some ⟨.struct [(0, 40), (1, 3)], 2, 16, [.int .u64 0, .int .i64 0], true⟩ := rfl
theorem Z1h : Xx 77 = some ⟨.slice 82, 1, 24, [.slice none 0 0], false⟩ := rfl
theorem Z1i : Xx 78 = some ⟨.struct [(0, 77), (1, 55)], 2, 48, [.slice none 0 0, .slice none 0 0], false⟩ := rfl
theorem Z1j : Xx 79 = some ⟨.struct [(0, 77), (1, 55)], 2, 48, [.slice none 0 0, .slice none 0 0], false⟩ := rfl
theorem Z1k : Xx 81 = some ⟨.struct [(0, 40), (1, 35)], 10, 80, [.int .u64 0, .pointer none, .int .i64 0, .int .i64 0, .int .i64 0, .int .i64 0, .int .i64 0, .int .i64 0, .int .i64 0, .int .i64 0], false⟩ := rfl
theorem Zqj : Xx 82 = some ⟨.struct [(0, 40), (1, 35)], 10, 80, [.int .u64 0, .pointer none, .int .i64 0, .int .i64 0, .int .i64 0, .int .i64 0, .int .i64 0, .int .i64 0, .int .i64 0, .int .i64 0], false⟩ := rfl
theorem Z1l : Xx 85 = some ⟨.struct [(0, 3), (1, 3), (2, 3), (3, 3), (4, 3), (5, 3), (6, 3), (7, 4)], 8, 64, [.int .i64 0, .int .i64 0, .int .i64 0, .int .i64 0, .int .i64 0, .int .i64 0, .int .i64 0, .bool false], false⟩ := rfl
theorem Z1m : Xx 86 = some ⟨.struct [(0, 3), (1, 3), (2, 3), (3, 3), (4, 3), (5, 3), (6, 3), (7, 4)], 8, 64, [.int .i64 0, .int .i64 0, .int .i64 0, .int .i64 0, .int .i64 0, .int .i64 0, .int .i64 0, .bool false], true⟩ := rfl
theorem Z1n : Xx 87 = some ⟨.struct [(0, 86), (8, 3), (9, 3)], 10, 80, [.int .i64 0, .int .i64 0, .int .i64 0, .int .i64 0, .int .i64 0, .int .i64 0, .int .i64 0, .bool false, .int .i64 0, .int .i64 0], false⟩ := rfl
theorem Z1o : Xx 88 = some ⟨.struct [(0, 86), (8, 3), (9, 3)], 10, 80, [.int .i64 0, .int .i64 0, .int .i64 0, .int .i64 0, .int .i64 0, .int .i64 0, .int .i64 0, .bool false, .int .i64 0, .int .i64 0], true⟩ := rfl
theorem Z1p : Xx 96 = some ⟨.struct [(0, 22), (1, 3), (2, 3)], 3, 40, [.slice none 0 0, .int .i64 0, .int .i64 0], false⟩ := rfl
theorem Z1q : Xx 97 = some ⟨.struct [(0, 22), (1, 3), (2, 3)], 3, 40, [.slice none 0 0, .int .i64 0, .int .i64 0], false⟩ := rfl
theorem Z1r : Xx 98 = some ⟨.ptr 72, 1, 8, [.pointer none], false⟩ := rfl
theorem Zxu : Xx 101 = some ⟨.ptr 74, 1, 8, [.pointer none], false⟩ := rfl
theorem Zxv : Xx 116 = some ⟨.struct [(0, 3), (1, 3), (2, 3), (3, 3), (4, 3), (5, 3), (6, 3), (7, 4)], 8, 64, [.int .i64 0, .int .i64 0, .int .i64 0, .int .i64 0, .int .i64 0, .int .i64 0, .int .i64 0, .bool false], true⟩ := rfl
theorem Zxw : Xx 117 = some ⟨.struct [(0, 116), (8, 3), (9, 3)], 10, 80, [.int .i64 0, .int .i64 0, .int .i64 0, .int .i64 0, .int .i64 0, .int .i64 0, .int .i64 0, .bool false, .int .i64 0, .int .i64 0], false⟩ := rfl
theorem Zxx : Xx 118 = some ⟨.struct [(0, 116), (8, 3), (9, 3)], 10, 80, [.int .i64 0, .int .i64 0, .int .i64 0, .int .i64 0, .int .i64 0, .int .i64 0, .int .i64 0, .bool false, .int .i64 0, .int .i64 0], true⟩ := rfl
theorem Zxy : Xx 135 = some ⟨.arr 6 3, 6, 48, [.int .i64 0, .int .i64 0, .int .i64 0, .int .i64 0, .int .i64 0, .int .i64 0], true⟩ := rfl
theorem Zxz : Xx 137 = some ⟨.int .u32, 1, 4, [.int .u32 0], false⟩ := rfl
theorem Zx0 : Xx 138 = some ⟨.arr 7 3, 7, 56, [.int .i64 0, .int .i64 0, .int .i64 0, .int .i64 0, .int .i64 0, .int .i64 0, .int .i64 0], true⟩ := rfl
theorem Zx1 : Xx 140 = some ⟨.struct [(0, 17), (1, 17), (2, 17), (3, 9)], 4, 40, [.pointer none, .pointer none, .pointer none, .string ByteArray.empty], false⟩ := rfl
theorem Zx2 : Xx 141 = some ⟨.struct [(0, 17), (1, 17), (2, 17), (3, 9)], 4, 40, [.pointer none, .pointer none, .pointer none, .string ByteArray.empty], false⟩ := rfl
theorem Zx3 : Xx 145 = some ⟨.int .u8, 1, 1, [.int .u8 0], false⟩ := rfl
theorem Zx4 : Xx 146 = some ⟨.int .u8, 1, 1, [.int .u8 0], false⟩ := rfl
theorem Zx5 : Xx 148 = some ⟨.ptr 5, 1, 8, [.pointer none], false⟩ := rfl
theorem Zx6 : Xx 149 = some ⟨.int .i32, 1, 4, [.int .i32 0], false⟩ := rfl
theorem Zx8 : Z0 Xx 2 = some (.int .i64) := rfl
theorem Zx9 : Z0 Xx 3 = some (.int .i64) := rfl
theorem Zya : Z0 Xx 4 = some (.bool) := rfl
theorem Zyb : Z0 Xx 5 = some (.int .u8) := rfl
theorem Zyc : Z0 Xx 6 = some (.int .u8) := rfl
theorem Zyd : Z0 Xx 7 = some (.struct [(0, 2), (1, 3), (2, 4), (3, 6)]) := rfl
theorem Zye : Z0 Xx 8 = some (.struct [(0, 2), (1, 3), (2, 4), (3, 6)]) := rfl
theorem Zyf : Z0 Xx 9 = some (.str) := rfl
theorem Ztp : Z0 Xx 10 = some (.str) := rfl
theorem Ztq : Z0 Xx 11 = some (.str) := rfl
theorem Ztr : Z0 Xx 12 = some (.int .u64) := rfl
theorem Zts : Z0 Xx 13 = some (.struct [(0, 9), (1, 12)]) := rfl
theorem Ztt : Z0 Xx 14 = some (.struct [(0, 9), (1, 12)]) := rfl
theorem Ztu : Z0 Xx 15 = some (.ptr 141) := rfl
theorem Ztv : Z0 Xx 16 = some (.ptr 144) := rfl
theorem Ztw : Z0 Xx 17 = some (.ptr 152) := rfl
theorem Ztx : Z0 Xx 18 = some (.struct [(0, 17)]) := rfl
theorem Zty : Z0 Xx 19 = some (.struct [(0, 17)]) := rfl
theorem Ztz : Z0 Xx 21 = some (.int .i32) := rfl
theorem Zt0 : Z0 Xx 22 = some (.slice 26) := rfl
theorem Zt1 : Z0 Xx 23 = some (.struct [(0, 3), (1, 3), (2, 3), (3, 3)]) := rfl
theorem Zt2 : Z0 Xx 24 = some (.struct [(0, 3), (1, 3), (2, 3), (3, 3)]) := rfl
theorem Zi1 : Z0 Xx 26 = some (.slice 40) := rfl
theorem Zn2 : Z0 Xx 27 = some (.slice 29) := rfl
theorem Zt3 : Z0 Xx 28 = some (.struct [(0, 3), (1, 26), (2, 27)]) := rfl
theorem Zt4 : Z0 Xx 29 = some (.struct [(0, 3), (1, 26), (2, 27)]) := rfl
theorem Zn3 : Z0 Xx 33 = some (.ptr 97) := rfl
theorem Zt5 : Z0 Xx 34 = some (.struct [(0, 33), (1, 3), (2, 3), (3, 3), (4, 3), (5, 3), (6, 3), (7, 3), (8, 3)]) := rfl
theorem Zt6 : Z0 Xx 35 = some (.struct [(0, 33), (1, 3), (2, 3), (3, 3), (4, 3), (5, 3), (6, 3), (7, 3), (8, 3)]) := rfl
theorem Zt7 : Z0 Xx 37 = some (.int .i64) := rfl
theorem Zt8 : Z0 Xx 40 = some (.int .u64) := rfl
theorem Zt9 : Z0 Xx 45 = some (.slice 22) := rfl
theorem Zn4 : Z0 Xx 46 = some (.ptr 79) := rfl
theorem Zua : Z0 Xx 54 = some (.int .u64) := rfl
theorem Zub : Z0 Xx 55 = some (.slice 3) := rfl
theorem Zuc : Z0 Xx 63 = some (.struct [(0, 3), (1, 3), (2, 3), (3, 3), (4, 3), (5, 3), (6, 40)]) := rfl
theorem Zud : Z0 Xx 64 = some (.struct [(0, 3), (1, 3), (2, 3), (3, 3), (4, 3), (5, 3), (6, 40)]) := rfl
theorem Zue : Z0 Xx 71 = some (.struct [(0, 3)]) := rfl
theorem Zuf : Z0 Xx 72 = some (.struct [(0, 3)]) := rfl
theorem Zug : Z0 Xx 73 = some (.struct [(0, 40), (1, 3)]) := rfl
theorem Zuh : Z0 Xx 74 = some (.struct [(0, 40), (1, 3)]) := rfl
theorem Zui : Z0 Xx 77 = some (.slice 82) := rfl
theorem Zuj : Z0 Xx 78 = some (.struct [(0, 77), (1, 55)]) := rfl
theorem Zuk : Z0 Xx 79 = some (.struct [(0, 77), (1, 55)]) := rfl
theorem Zul : Z0 Xx 81 = some (.struct [(0, 40), (1, 35)]) := rfl
theorem Zum : Z0 Xx 82 = some (.struct [(0, 40), (1, 35)]) := rfl
theorem Zun : Z0 Xx 85 = some (.struct [(0, 3), (1, 3), (2, 3), (3, 3), (4, 3), (5, 3), (6, 3), (7, 4)]) := rfl
theorem Zuo : Z0 Xx 86 = some (.struct [(0, 3), (1, 3), (2, 3), (3, 3), (4, 3), (5, 3), (6, 3), (7, 4)]) := rfl
theorem Zup : Z0 Xx 87 = some (.struct [(0, 86), (8, 3), (9, 3)]) := rfl
theorem Zuq : Z0 Xx 88 = some (.struct [(0, 86), (8, 3), (9, 3)]) := rfl
theorem Zur : Z0 Xx 96 = some (.struct [(0, 22), (1, 3), (2, 3)]) := rfl
theorem Zus : Z0 Xx 97 = some (.struct [(0, 22), (1, 3), (2, 3)]) := rfl
theorem Zut : Z0 Xx 98 = some (.ptr 72) := rfl
theorem Zql : Z0 Xx 101 = some (.ptr 74) := rfl
theorem Zqm : Z0 Xx 116 = some (.struct [(0, 3), (1, 3), (2, 3), (3, 3), (4, 3), (5, 3), (6, 3), (7, 4)]) := rfl
theorem Zqn : Z0 Xx 117 = some (.struct [(0, 116), (8, 3), (9, 3)]) := rfl
theorem Zqo : Z0 Xx 118 = some (.struct [(0, 116), (8, 3), (9, 3)]) := rfl
theorem Zqp : Z0 Xx 135 = some (.arr 6 3) := rfl
theorem Zqq : Z0 Xx 137 = some (.int .u32) := rfl
theorem Zqr : Z0 Xx 138 = some (.arr 7 3) := rfl
theorem Zqs : Z0 Xx 140 = some (.struct [(0, 17), (1, 17), (2, 17), (3, 9)]) := rfl
theorem Zqt : Z0 Xx 141 = some (.struct [(0, 17), (1, 17), (2, 17), (3, 9)]) := rfl
theorem Zqu : Z0 Xx 145 = some (.int .u8) := rfl
theorem Zqv : Z0 Xx 146 = some (.int .u8) := rfl
theorem Zqw : Z0 Xx 148 = some (.ptr 5) := rfl
theorem Zqx : Z0 Xx 149 = some (.int .i32) := rfl
end Go.Proofs.Ytgffgbdnbjbmoaa
