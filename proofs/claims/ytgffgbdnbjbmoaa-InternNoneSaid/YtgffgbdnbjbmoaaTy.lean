/- The types of this seat's program, as its dump has them, in the ghost memory's words; no condition. -/
import Derived.Test.YtgffgbdnbjbmoaaRows
import Derived.Test.YtgffgbdnbjbmoaaG16
namespace Go.Proofs.Ytgffgbdnbjbmoaa
open Go.RowKit
set_option linter.unusedVariables false
set_option linter.unusedSimpArgs false
theorem TyOk.of {P : Program} {t : TypeId} (k : TK) (size bytes : Nat) (zero : List Value) (z : Value) (h : (P.info? t).map (fun i => (i.zero, i.size, i.bytes)) = some (some z, size, bytes)) (hz : z.cells.toList = zero) (hu : k.ok P t) (hl : zero.length = size) (h1 : zero.all Value.oneCell' = true) (eq : Bool) (he : eq = true → EqTy P t) : TyOk P t ⟨k, size, bytes, zero, eq⟩ := by
 refine ⟨?_, hu, hl, fun v hv => List.all_eq_true.1 h1 v hv, he⟩
 cases hi : P.info? t with
 | none => rw [hi] at h; cases h
 | some i =>
  rw [hi] at h
  simp only [Option.map_some, Option.some.injEq, Prod.mk.injEq] at h
  exact ⟨i, z, rfl, h.2.1, h.2.2, h.1, hz⟩
theorem TyOk.g {P : Program} {t : TypeId} {k : TK} {size bytes : Nat} {zero : List Value} {eq : Bool} (h : (P.info? t).map (fun i => (i.zero, i.size, i.bytes)) = some (some (.agg zero.toArray), size, bytes)) (hu : k.ok P t) (he : eq = true → EqTy P t := by intro h; cases h) (hz : (Value.agg zero.toArray).cells.toList = zero := by rfl) (hl : zero.length = size := by rfl) (h1 : zero.all Value.oneCell' = true := by rfl) : TyOk P t ⟨k, size, bytes, zero, eq⟩ := .of k size bytes zero _ h hz hu hl h1 eq he
theorem TyOk.s {P : Program} {t : TypeId} {k : TK} {size bytes : Nat} {z : Value} {eq : Bool} (h : (P.info? t).map (fun i => (i.zero, i.size, i.bytes)) = some (some z, size, bytes)) (hu : k.ok P t) (he : eq = true → EqTy P t := by intro h; cases h) (hz : z.cells.toList = [z] := by rfl) (hl : [z].length = size := by rfl) (h1 : [z].all Value.oneCell' = true := by rfl) : TyOk P t ⟨k, size, bytes, [z], eq⟩ := .of k size bytes [z] _ h hz hu hl h1 eq he
theorem EqTy.m {P : Program} {t : TypeId} (h : EqTy P t) : true = true → EqTy P t := fun _ => h
theorem Zkk {α : Type} {t : Nat} {i : α} : ∀ (l : List (Nat × α)), l.lookup t = some i → (t, i) ∈ l
 | [], h => by simp at h
 | (a, b) :: l, h => by
  rw [List.lookup_cons] at h
  split at h
  ·rename_i he
   injection h with h
   have : t = a := by simpa using he
   subst h this
   exact .head _
  exact .tail _ (Zkk l h)
def tE2 : TyI := ⟨.int .i64, 1, 8, [.int .i64 0], false⟩
theorem ty2 : TyOk Try.prog 2 tE2 := .s (by kernel_rfl) Try.underlying2
theorem ty3 : TyOk Try.prog 3 tE2 := .s (by kernel_rfl) Try.underlying3
def tE4 : TyI := ⟨.bool, 1, 1, [.bool false], false⟩
theorem ty4 : TyOk Try.prog 4 tE4 := .s (by kernel_rfl) Try.underlying4
def tE5 : TyI := ⟨.int .u8, 1, 1, [.int .u8 0], false⟩
theorem ty5 : TyOk Try.prog 5 tE5 := .s (by kernel_rfl) Try.underlying5
theorem ty6 : TyOk Try.prog 6 tE5 := .s (by kernel_rfl) Try.underlying6
def tE7 : TyI := ⟨.struct [(0, 2), (1, 3), (2, 4), (3, 6)], 4, 24, [.int .i64 0, .int .i64 0, .bool false, .int .u8 0], false⟩
theorem ty7 : TyOk Try.prog 7 tE7 := .g (by kernel_rfl) ⟨_, Try.underlying7, rfl⟩
theorem ty8 : TyOk Try.prog 8 tE7 := .g (by kernel_rfl) ⟨_, Try.underlying8, rfl⟩
def tE9 : TyI := ⟨.str, 1, 16, [.string ByteArray.empty], false⟩
theorem ty9 : TyOk Try.prog 9 tE9 := .s (by kernel_rfl) Try.underlying9
theorem Z2u : TyOk Try.prog 10 tE9 := .s (by kernel_rfl) Try.underlying10
theorem Z2v : TyOk Try.prog 11 tE9 := .s (by kernel_rfl) Try.underlying11
def Zuy : TyI := ⟨.int .u64, 1, 8, [.int .u64 0], false⟩
theorem Z2w : TyOk Try.prog 12 Zuy := .s (by kernel_rfl) Try.underlying12
def Zy0 : TyI := ⟨.struct [(0, 9), (1, 12)], 2, 24, [.string ByteArray.empty, .int .u64 0], false⟩
theorem Z2x : TyOk Try.prog 13 Zy0 := .g (by kernel_rfl) ⟨_, Try.underlying13, rfl⟩
theorem Z2y : TyOk Try.prog 14 Zy0 := .g (by kernel_rfl) ⟨_, Try.underlying14, rfl⟩
def Z1g : TyI := ⟨.ptr 141, 1, 8, [.pointer none], false⟩
theorem Z2z : TyOk Try.prog 15 Z1g := .s (by kernel_rfl) Try.underlying15
def Z1h : TyI := ⟨.ptr 144, 1, 8, [.pointer none], false⟩
theorem Z20 : TyOk Try.prog 16 Z1h := .s (by kernel_rfl) Try.underlying16
def Z1i : TyI := ⟨.ptr 152, 1, 8, [.pointer none], false⟩
theorem Z21 : TyOk Try.prog 17 Z1i := .s (by kernel_rfl) Try.underlying17
def Zy1 : TyI := ⟨.struct [(0, 17)], 1, 8, [.pointer none], false⟩
theorem Z22 : TyOk Try.prog 18 Zy1 := .g (by kernel_rfl) ⟨_, Try.underlying18, rfl⟩
theorem Z23 : TyOk Try.prog 19 Zy1 := .g (by kernel_rfl) ⟨_, Try.underlying19, rfl⟩
def Zuz : TyI := ⟨.int .i32, 1, 4, [.int .i32 0], false⟩
theorem Z24 : TyOk Try.prog 21 Zuz := .s (by kernel_rfl) Try.underlying21
def Z1j : TyI := ⟨.slice 26, 1, 24, [.slice none 0 0], false⟩
theorem Z25 : TyOk Try.prog 22 Z1j := .s (by kernel_rfl) Try.underlying22
def Z1k : TyI := ⟨.struct [(0, 3), (1, 3), (2, 3), (3, 3)], 4, 32, [.int .i64 0, .int .i64 0, .int .i64 0, .int .i64 0], false⟩
theorem Z26 : TyOk Try.prog 23 Z1k := .g (by kernel_rfl) ⟨_, Try.underlying23, rfl⟩
def Z1l : TyI := ⟨.struct [(0, 3), (1, 3), (2, 3), (3, 3)], 4, 32, [.int .i64 0, .int .i64 0, .int .i64 0, .int .i64 0], true⟩
theorem Z27 : TyOk Try.prog 24 Z1l := .g (by kernel_rfl) ⟨_, Try.underlying24, rfl⟩ (fun _ => by unfold EqTy; exact ⟨by kernel_rfl, by kernel_rfl, by kernel_rfl⟩)
def Z1m : TyI := ⟨.slice 40, 1, 24, [.slice none 0 0], false⟩
theorem Z28 : TyOk Try.prog 26 Z1m := .s (by kernel_rfl) Try.underlying26
def Z1n : TyI := ⟨.slice 29, 1, 24, [.slice none 0 0], false⟩
theorem Z29 : TyOk Try.prog 27 Z1n := .s (by kernel_rfl) Try.underlying27
def Zy2 : TyI := ⟨.struct [(0, 3), (1, 26), (2, 27)], 3, 56, [.int .i64 0, .slice none 0 0, .slice none 0 0], false⟩
theorem Z3a : TyOk Try.prog 28 Zy2 := .g (by kernel_rfl) ⟨_, Try.underlying28, rfl⟩
theorem Z3b : TyOk Try.prog 29 Zy2 := .g (by kernel_rfl) ⟨_, Try.underlying29, rfl⟩
def Z1o : TyI := ⟨.ptr 97, 1, 8, [.pointer none], false⟩
theorem Z3c : TyOk Try.prog 33 Z1o := .s (by kernel_rfl) Try.underlying33
def Zy3 : TyI := ⟨.struct [(0, 33), (1, 3), (2, 3), (3, 3), (4, 3), (5, 3), (6, 3), (7, 3), (8, 3)], 9, 72, [.pointer none, .int .i64 0, .int .i64 0, .int .i64 0, .int .i64 0, .int .i64 0, .int .i64 0, .int .i64 0, .int .i64 0], false⟩
theorem Z3d : TyOk Try.prog 34 Zy3 := .g (by kernel_rfl) ⟨_, Try.underlying34, rfl⟩
theorem Z3e : TyOk Try.prog 35 Zy3 := .g (by kernel_rfl) ⟨_, Try.underlying35, rfl⟩
theorem Z3f : TyOk Try.prog 37 tE2 := .s (by kernel_rfl) Try.underlying37
theorem Z3g : TyOk Try.prog 40 Zuy := .s (by kernel_rfl) Try.underlying40
def Z1p : TyI := ⟨.slice 22, 1, 24, [.slice none 0 0], false⟩
theorem Z3h : TyOk Try.prog 45 Z1p := .s (by kernel_rfl) Try.underlying45
def Z1q : TyI := ⟨.ptr 79, 1, 8, [.pointer none], false⟩
theorem Z3i : TyOk Try.prog 46 Z1q := .s (by kernel_rfl) Try.underlying46
theorem Z3j : TyOk Try.prog 54 Zuy := .s (by kernel_rfl) Try.underlying54
def Z1r : TyI := ⟨.slice 3, 1, 24, [.slice none 0 0], false⟩
theorem Z3k : TyOk Try.prog 55 Z1r := .s (by kernel_rfl) Try.underlying55
def Z1s : TyI := ⟨.struct [(0, 3), (1, 3), (2, 3), (3, 3), (4, 3), (5, 3), (6, 40)], 7, 56, [.int .i64 0, .int .i64 0, .int .i64 0, .int .i64 0, .int .i64 0, .int .i64 0, .int .u64 0], false⟩
theorem Z3l : TyOk Try.prog 63 Z1s := .g (by kernel_rfl) ⟨_, Try.underlying63, rfl⟩
def Z1t : TyI := ⟨.struct [(0, 3), (1, 3), (2, 3), (3, 3), (4, 3), (5, 3), (6, 40)], 7, 56, [.int .i64 0, .int .i64 0, .int .i64 0, .int .i64 0, .int .i64 0, .int .i64 0, .int .u64 0], true⟩
theorem Z3m : TyOk Try.prog 64 Z1t := .g (by kernel_rfl) ⟨_, Try.underlying64, rfl⟩ (fun _ => by unfold EqTy; exact ⟨by kernel_rfl, by kernel_rfl, by kernel_rfl⟩)
def Z1u : TyI := ⟨.struct [(0, 3)], 1, 8, [.int .i64 0], false⟩
theorem Z3n : TyOk Try.prog 71 Z1u := .g (by kernel_rfl) ⟨_, Try.underlying71, rfl⟩
def Z1v : TyI := ⟨.struct [(0, 3)], 1, 8, [.int .i64 0], true⟩
theorem Z3o : TyOk Try.prog 72 Z1v := .g (by kernel_rfl) ⟨_, Try.underlying72, rfl⟩ (fun _ => by unfold EqTy; exact ⟨by kernel_rfl, by kernel_rfl, by kernel_rfl⟩)
def Z1w : TyI := ⟨.struct [(0, 40), (1, 3)], 2, 16, [.int .u64 0, .int .i64 0], false⟩
theorem Z3p : TyOk Try.prog 73 Z1w := .g (by kernel_rfl) ⟨_, Try.underlying73, rfl⟩
def Z1x : TyI := ⟨.struct [(0, 40), (1, 3)], 2, 16, [.int .u64 0, .int .i64 0], true⟩
theorem Z3q : TyOk Try.prog 74 Z1x := .g (by kernel_rfl) ⟨_, Try.underlying74, rfl⟩ (fun _ => by unfold EqTy; exact ⟨by kernel_rfl, by kernel_rfl, by kernel_rfl⟩)
def Z1y : TyI := ⟨.slice 82, 1, 24, [.slice none 0 0], false⟩
theorem Z3r : TyOk Try.prog 77 Z1y := .s (by kernel_rfl) Try.underlying77
def Zy4 : TyI := ⟨.struct [(0, 77), (1, 55)], 2, 48, [.slice none 0 0, .slice none 0 0], false⟩
theorem Z3s : TyOk Try.prog 78 Zy4 := .g (by kernel_rfl) ⟨_, Try.underlying78, rfl⟩
theorem Z3t : TyOk Try.prog 79 Zy4 := .g (by kernel_rfl) ⟨_, Try.underlying79, rfl⟩
def Zy5 : TyI := ⟨.struct [(0, 40), (1, 35)], 10, 80, [.int .u64 0, .pointer none, .int .i64 0, .int .i64 0, .int .i64 0, .int .i64 0, .int .i64 0, .int .i64 0, .int .i64 0, .int .i64 0], false⟩
theorem Z3u : TyOk Try.prog 81 Zy5 := .g (by kernel_rfl) ⟨_, Try.underlying81, rfl⟩
theorem Z3v : TyOk Try.prog 82 Zy5 := .g (by kernel_rfl) ⟨_, Try.underlying82, rfl⟩
def Z1z : TyI := ⟨.struct [(0, 3), (1, 3), (2, 3), (3, 3), (4, 3), (5, 3), (6, 3), (7, 4)], 8, 64, [.int .i64 0, .int .i64 0, .int .i64 0, .int .i64 0, .int .i64 0, .int .i64 0, .int .i64 0, .bool false], false⟩
theorem Z3w : TyOk Try.prog 85 Z1z := .g (by kernel_rfl) ⟨_, Try.underlying85, rfl⟩
def Zy6 : TyI := ⟨.struct [(0, 3), (1, 3), (2, 3), (3, 3), (4, 3), (5, 3), (6, 3), (7, 4)], 8, 64, [.int .i64 0, .int .i64 0, .int .i64 0, .int .i64 0, .int .i64 0, .int .i64 0, .int .i64 0, .bool false], true⟩
theorem Z3x : TyOk Try.prog 86 Zy6 := .g (by kernel_rfl) ⟨_, Try.underlying86, rfl⟩ (fun _ => by unfold EqTy; exact ⟨by kernel_rfl, by kernel_rfl, by kernel_rfl⟩)
def Z10 : TyI := ⟨.struct [(0, 86), (8, 3), (9, 3)], 10, 80, [.int .i64 0, .int .i64 0, .int .i64 0, .int .i64 0, .int .i64 0, .int .i64 0, .int .i64 0, .bool false, .int .i64 0, .int .i64 0], false⟩
theorem Z3y : TyOk Try.prog 87 Z10 := .g (by kernel_rfl) ⟨_, Try.underlying87, rfl⟩
def Z11 : TyI := ⟨.struct [(0, 86), (8, 3), (9, 3)], 10, 80, [.int .i64 0, .int .i64 0, .int .i64 0, .int .i64 0, .int .i64 0, .int .i64 0, .int .i64 0, .bool false, .int .i64 0, .int .i64 0], true⟩
theorem Z3z : TyOk Try.prog 88 Z11 := .g (by kernel_rfl) ⟨_, Try.underlying88, rfl⟩ (fun _ => by unfold EqTy; exact ⟨by kernel_rfl, by kernel_rfl, by kernel_rfl⟩)
def Zy7 : TyI := ⟨.struct [(0, 22), (1, 3), (2, 3)], 3, 40, [.slice none 0 0, .int .i64 0, .int .i64 0], false⟩
theorem Z30 : TyOk Try.prog 96 Zy7 := .g (by kernel_rfl) ⟨_, Try.underlying96, rfl⟩
theorem Z31 : TyOk Try.prog 97 Zy7 := .g (by kernel_rfl) ⟨_, Try.underlying97, rfl⟩
def Z12 : TyI := ⟨.ptr 72, 1, 8, [.pointer none], false⟩
theorem Z32 : TyOk Try.prog 98 Z12 := .s (by kernel_rfl) Try.underlying98
def Zzn : TyI := ⟨.ptr 74, 1, 8, [.pointer none], false⟩
theorem Z14 : TyOk Try.prog 101 Zzn := .s (by kernel_rfl) Try.underlying101
theorem Z15 : TyOk Try.prog 116 Zy6 := .g (by kernel_rfl) ⟨_, Try.underlying116, rfl⟩ (fun _ => by unfold EqTy; exact ⟨by kernel_rfl, by kernel_rfl, by kernel_rfl⟩)
def Zzo : TyI := ⟨.struct [(0, 116), (8, 3), (9, 3)], 10, 80, [.int .i64 0, .int .i64 0, .int .i64 0, .int .i64 0, .int .i64 0, .int .i64 0, .int .i64 0, .bool false, .int .i64 0, .int .i64 0], false⟩
theorem Z16 : TyOk Try.prog 117 Zzo := .g (by kernel_rfl) ⟨_, Try.underlying117, rfl⟩
def Zzp : TyI := ⟨.struct [(0, 116), (8, 3), (9, 3)], 10, 80, [.int .i64 0, .int .i64 0, .int .i64 0, .int .i64 0, .int .i64 0, .int .i64 0, .int .i64 0, .bool false, .int .i64 0, .int .i64 0], true⟩
theorem Z17 : TyOk Try.prog 118 Zzp := .g (by kernel_rfl) ⟨_, Try.underlying118, rfl⟩ (fun _ => by unfold EqTy; exact ⟨by kernel_rfl, by kernel_rfl, by kernel_rfl⟩)
def Zzq : TyI := ⟨.arr 6 3, 6, 48, [.int .i64 0, .int .i64 0, .int .i64 0, .int .i64 0, .int .i64 0, .int .i64 0], true⟩
theorem Z18 : TyOk Try.prog 135 Zzq := .g (by kernel_rfl) Try.underlying135 (fun _ => by unfold EqTy; exact ⟨by kernel_rfl, by kernel_rfl, by kernel_rfl⟩)
def Zzr : TyI := ⟨.int .u32, 1, 4, [.int .u32 0], false⟩
theorem Z19 : TyOk Try.prog 137 Zzr := .s (by kernel_rfl) Try.underlying137
def Zzs : TyI := ⟨.arr 7 3, 7, 56, [.int .i64 0, .int .i64 0, .int .i64 0, .int .i64 0, .int .i64 0, .int .i64 0, .int .i64 0], true⟩
theorem Z2a : TyOk Try.prog 138 Zzs := .g (by kernel_rfl) Try.underlying138 (fun _ => by unfold EqTy; exact ⟨by kernel_rfl, by kernel_rfl, by kernel_rfl⟩)
def Zt1 : TyI := ⟨.struct [(0, 17), (1, 17), (2, 17), (3, 9)], 4, 40, [.pointer none, .pointer none, .pointer none, .string ByteArray.empty], false⟩
theorem Z2b : TyOk Try.prog 140 Zt1 := .g (by kernel_rfl) ⟨_, Try.underlying140, rfl⟩
theorem Z2c : TyOk Try.prog 141 Zt1 := .g (by kernel_rfl) ⟨_, Try.underlying141, rfl⟩
theorem Z2d : TyOk Try.prog 145 tE5 := .s (by kernel_rfl) Try.underlying145
theorem Z2e : TyOk Try.prog 146 tE5 := .s (by kernel_rfl) Try.underlying146
def Zzt : TyI := ⟨.ptr 5, 1, 8, [.pointer none], false⟩
theorem Z2f : TyOk Try.prog 148 Zzt := .s (by kernel_rfl) Try.underlying148
theorem Z2g : TyOk Try.prog 149 Zuz := .s (by kernel_rfl) Try.underlying149
theorem Z2h : TyOk Try.prog 150 Zuz := .s (by kernel_rfl) Try.underlying150
def tabL : List (Nat × TyI) := [(2, tE2), (3, tE2), (4, tE4), (5, tE5), (6, tE5), (7, tE7), (8, tE7), (9, tE9), (10, tE9), (11, tE9), (12, Zuy), (13, Zy0), (14, Zy0), (15, Z1g), (16, Z1h), (17, Z1i), (18, Zy1), (19, Zy1), (21, Zuz), (22, Z1j), (23, Z1k), (24, Z1l), (26, Z1m), (27, Z1n), (28, Zy2), (29, Zy2), (33, Z1o), (34, Zy3), (35, Zy3), (37, tE2), (40, Zuy), (45, Z1p), (46, Z1q), (54, Zuy), (55, Z1r), (63, Z1s), (64, Z1t), (71, Z1u), (72, Z1v), (73, Z1w), (74, Z1x), (77, Z1y), (78, Zy4), (79, Zy4), (81, Zy5), (82, Zy5), (85, Z1z), (86, Zy6), (87, Z10), (88, Z11), (96, Zy7), (97, Zy7), (98, Z12), (101, Zzn), (116, Zy6), (117, Zzo), (118, Zzp), (135, Zzq), (137, Zzr), (138, Zzs), (140, Zt1), (141, Zt1), (145, tE5), (146, tE5), (148, Zzt), (149, Zuz), (150, Zuz)]
def Xi : Qa := fun t => tabL.lookup t
theorem Zy : Y8 Try.prog Xi := fun t i h => by
 have hm := Zkk _ h
 unfold tabL at hm
 simp only [List.mem_cons, Prod.mk.injEq, List.not_mem_nil, or_false] at hm
 rcases hm with ⟨rfl, rfl⟩ | ⟨rfl, rfl⟩ | ⟨rfl, rfl⟩ | ⟨rfl, rfl⟩ | ⟨rfl, rfl⟩ | ⟨rfl, rfl⟩ | ⟨rfl, rfl⟩ | ⟨rfl, rfl⟩ | ⟨rfl, rfl⟩ | ⟨rfl, rfl⟩ | ⟨rfl, rfl⟩ | ⟨rfl, rfl⟩ | ⟨rfl, rfl⟩ | ⟨rfl, rfl⟩ | ⟨rfl, rfl⟩ | ⟨rfl, rfl⟩ | ⟨rfl, rfl⟩ | ⟨rfl, rfl⟩ | ⟨rfl, rfl⟩ | ⟨rfl, rfl⟩ | ⟨rfl, rfl⟩ | ⟨rfl, rfl⟩ | ⟨rfl, rfl⟩ | ⟨rfl, rfl⟩ | ⟨rfl, rfl⟩ | ⟨rfl, rfl⟩ | ⟨rfl, rfl⟩ | ⟨rfl, rfl⟩ | ⟨rfl, rfl⟩ | ⟨rfl, rfl⟩ | ⟨rfl, rfl⟩ | ⟨rfl, rfl⟩ | ⟨rfl, rfl⟩ | ⟨rfl, rfl⟩ | ⟨rfl, rfl⟩ | ⟨rfl, rfl⟩ | ⟨rfl, rfl⟩ | ⟨rfl, rfl⟩ | ⟨rfl, rfl⟩ | ⟨rfl, rfl⟩ | ⟨rfl, rfl⟩ | ⟨rfl, rfl⟩ | ⟨rfl, rfl⟩ | ⟨rfl, rfl⟩ | ⟨rfl, rfl⟩ | ⟨rfl, rfl⟩ | ⟨rfl, rfl⟩ | ⟨rfl, rfl⟩ | ⟨rfl, rfl⟩ | ⟨rfl, rfl⟩ | ⟨rfl, rfl⟩ | ⟨rfl, rfl⟩ | ⟨rfl, rfl⟩ | ⟨rfl, rfl⟩ | ⟨rfl, rfl⟩ | ⟨rfl, rfl⟩ | ⟨rfl, rfl⟩ | ⟨rfl, rfl⟩ | ⟨rfl, rfl⟩ | ⟨rfl, rfl⟩ | ⟨rfl, rfl⟩ | ⟨rfl, rfl⟩ | ⟨rfl, rfl⟩ | ⟨rfl, rfl⟩ | ⟨rfl, rfl⟩ | ⟨rfl, rfl⟩ | ⟨rfl, rfl⟩
 ·exact ty2
 ·exact ty3
 ·exact ty4
 ·exact ty5
 ·exact ty6
 ·exact ty7
 ·exact ty8
 ·exact ty9
 ·exact Z2u
 ·exact Z2v
 ·exact Z2w
 ·exact Z2x
 ·exact Z2y
 ·exact Z2z
 ·exact Z20
 ·exact Z21
 ·exact Z22
 ·exact Z23
 ·exact Z24
 ·exact Z25
 ·exact Z26
 ·exact Z27
 ·exact Z28
 ·exact Z29
 ·exact Z3a
 ·exact Z3b
 ·exact Z3c
 ·exact Z3d
 ·exact Z3e
 ·exact Z3f
 ·exact Z3g
 ·exact Z3h
 ·exact Z3i
 ·exact Z3j
 ·exact Z3k
 ·exact Z3l
 ·exact Z3m
 ·exact Z3n
 ·exact Z3o
 ·exact Z3p
 ·exact Z3q
 ·exact Z3r
 ·exact Z3s
 ·exact Z3t
 ·exact Z3u
 ·exact Z3v
 ·exact Z3w
 ·exact Z3x
 ·exact Z3y
 ·exact Z3z
 ·exact Z30
 ·exact Z31
 ·exact Z32
 ·exact Z14
 ·exact Z15
 ·exact Z16
 ·exact Z17
 ·exact Z18
 ·exact Z19
 ·exact Z2a
 ·exact Z2b
 ·exact Z2c
 ·exact Z2d
 ·exact Z2e
 ·exact Z2f
 ·exact Z2g
 exact Z2h
theorem Z0l : Xi 2 = some ⟨.int .i64, 1, 8, [.int .i64 0], false⟩ := rfl
theorem Ziw : Xi 3 = some ⟨.int .i64, 1, 8, [.int .i64 0], false⟩ := rfl
theorem Z0m : Xi 4 = some ⟨.bool, 1, 1, [.bool false], false⟩ := rfl
theorem Z0n : Xi 5 = some ⟨.int .u8, 1, 1, [.int .u8 0], false⟩ := rfl
theorem Z0o : Xi 6 = some ⟨.int .u8, 1, 1, [.int .u8 0], false⟩ := rfl
theorem Z0p : Xi 7 = some ⟨.struct [(0, 2), (1, 3), (2, 4), (3, 6)], 4, 24, [.int .i64 0, .int .i64 0, .bool false, .int .u8 0], false⟩ := rfl
theorem Z0q : Xi 8 = some ⟨.struct [(0, 2), (1, 3), (2, 4), (3, 6)], 4, 24, [.int .i64 0, .int .i64 0, .bool false, .int .u8 0], false⟩ := rfl
theorem Z0r : Xi 9 = some ⟨.str, 1, 16, [.string ByteArray.empty], false⟩ := rfl
theorem Zwl : Xi 10 = some ⟨.str, 1, 16, [.string ByteArray.empty], false⟩ := rfl
theorem Zwm : Xi 11 = some ⟨.str, 1, 16, [.string ByteArray.empty], false⟩ := rfl
theorem Zwn : Xi 12 = some ⟨.int .u64, 1, 8, [.int .u64 0], false⟩ := rfl
theorem Zwo : Xi 13 = some ⟨.struct [(0, 9), (1, 12)], 2, 24, [.string ByteArray.empty, .int .u64 0], false⟩ := rfl
theorem Zwp : Xi 14 = some ⟨.struct [(0, 9), (1, 12)], 2, 24, [.string ByteArray.empty, .int .u64 0], false⟩ := rfl
theorem Zwq : Xi 15 = some ⟨.ptr 141, 1, 8, [.pointer none], false⟩ := rfl
theorem Zwr : Xi 16 = some ⟨.ptr 144, 1, 8, [.pointer none], false⟩ := rfl
theorem Zws : Xi 17 = some ⟨.ptr 152, 1, 8, [.pointer none], false⟩ := rfl
theorem Zwt : Xi 18 = some ⟨.struct [(0, 17)], 1, 8, [.pointer none], false⟩ := rfl
theorem Zwu : Xi 19 = some ⟨.struct [(0, 17)], 1, 8, [.pointer none], false⟩ := rfl
theorem Zwv : Xi 21 = some ⟨.int .i32, 1, 4, [.int .i32 0], false⟩ := rfl
theorem Zww : Xi 22 = some ⟨.slice 26, 1, 24, [.slice none 0 0], false⟩ := rfl
theorem Zwx : Xi 23 = some ⟨.struct [(0, 3), (1, 3), (2, 3), (3, 3)], 4, 32, [.int .i64 0, .int .i64 0, .int .i64 0, .int .i64 0], false⟩ := rfl
theorem Zwy : Xi 24 = some ⟨.struct [(0, 3), (1, 3), (2, 3), (3, 3)], 4, 32, [.int .i64 0, .int .i64 0, .int .i64 0, .int .i64 0], true⟩ := rfl
theorem Zin : Xi 26 = some ⟨.slice 40, 1, 24, [.slice none 0 0], false⟩ := rfl
theorem Zwz : Xi 27 = some ⟨.slice 29, 1, 24, [.slice none 0 0], false⟩ := rfl
theorem Zw0 : Xi 28 = some ⟨.struct [(0, 3), (1, 26), (2, 27)], 3, 56, [.int .i64 0, .slice none 0 0, .slice none 0 0], false⟩ := rfl
theorem Zw1 : Xi 29 = some ⟨.struct [(0, 3), (1, 26), (2, 27)], 3, 56, [.int .i64 0, .slice none 0 0, .slice none 0 0], false⟩ := rfl
theorem Zw2 : Xi 33 = some ⟨.ptr 97, 1, 8, [.pointer none], false⟩ := rfl
theorem Zw3 : Xi 34 = some ⟨.struct [(0, 33), (1, 3), (2, 3), (3, 3), (4, 3), (5, 3), (6, 3), (7, 3), (8, 3)], 9, 72, [.pointer none, .int .i64 0, .int .i64 0, .int .i64 0, .int .i64 0, .int .i64 0, .int .i64 0, .int .i64 0, .int .i64 0], false⟩ := rfl
theorem Zw4 : Xi 35 = some ⟨.struct [(0, 33), (1, 3), (2, 3), (3, 3), (4, 3), (5, 3), (6, 3), (7, 3), (8, 3)], 9, 72, [.pointer none, .int .i64 0, .int .i64 0, .int .i64 0, .int .i64 0, .int .i64 0, .int .i64 0, .int .i64 0, .int .i64 0], false⟩ := rfl
theorem Zw5 : Xi 37 = some ⟨.int .i64, 1, 8, [.int .i64 0], false⟩ := rfl
theorem Zio : Xi 40 = some ⟨.int .u64, 1, 8, [.int .u64 0], false⟩ := rfl
theorem Zw6 : Xi 45 = some ⟨.slice 22, 1, 24, [.slice none 0 0], false⟩ := rfl
theorem Zw7 : Xi 46 = some ⟨.ptr 79, 1, 8, [.pointer none], false⟩ := rfl
theorem Zw8 : Xi 54 = some ⟨.int .u64, 1, 8, [.int .u64 0], false⟩ := rfl
theorem Zw9 : Xi 55 = some ⟨.slice 3, 1, 24, [.slice none 0 0], false⟩ := rfl
theorem Zxa : Xi 63 = some ⟨.struct [(0, 3), (1, 3), (2, 3), (3, 3), (4, 3), (5, 3), (6, 40)], 7, 56, [.int .i64 0, .int .i64 0, .int .i64 0, .int .i64 0, .int .i64 0, .int .i64 0, .int .u64 0], false⟩ := rfl
theorem Zxb : Xi 64 = some ⟨.struct [(0, 3), (1, 3), (2, 3), (3, 3), (4, 3), (5, 3), (6, 40)], 7, 56, [.int .i64 0, .int .i64 0, .int .i64 0, .int .i64 0, .int .i64 0, .int .i64 0, .int .u64 0], true⟩ := rfl
theorem Zxc : Xi 71 = some ⟨.struct [(0, 3)], 1, 8, [.int .i64 0], false⟩ := rfl
theorem Zxd : Xi 72 = some ⟨.struct [(0, 3)], 1, 8, [.int .i64 0], true⟩ := rfl
theorem Zxe : Xi 73 = some ⟨.struct [(0, 40), (1, 3)], 2, 16, [.int .u64 0, .int .i64 0], false⟩ := rfl
theorem Zxf : Xi 74 = some ⟨.struct [(0, 40), (1, 3)], 2, 16, [.int .u64 0, .int .i64 0], true⟩ := rfl
theorem Zxg : Xi 77 = some ⟨.slice 82, 1, 24, [.slice none 0 0], false⟩ := rfl
theorem Zxh : Xi 78 = some ⟨.struct [(0, 77), (1, 55)], 2, 48, [.slice none 0 0, .slice none 0 0], false⟩ := rfl
theorem Zxi : Xi 79 = some ⟨.struct [(0, 77), (1, 55)], 2, 48, [.slice none 0 0, .slice none 0 0], false⟩ := rfl
theorem Zxj : Xi 81 = some ⟨.struct [(0, 40), (1, 35)], 10, 80, [.int .u64 0, .pointer none, .int .i64 0, .int .i64 0, .int .i64 0, .int .i64 0, .int .i64 0, .int .i64 0, .int .i64 0, .int .i64 0], false⟩ := rfl
theorem Zlb : Xi 82 = some ⟨.struct [(0, 40), (1, 35)], 10, 80, [.int .u64 0, .pointer none, .int .i64 0, .int .i64 0, .int .i64 0, .int .i64 0, .int .i64 0, .int .i64 0, .int .i64 0, .int .i64 0], false⟩ := rfl
theorem Zxk : Xi 85 = some ⟨.struct [(0, 3), (1, 3), (2, 3), (3, 3), (4, 3), (5, 3), (6, 3), (7, 4)], 8, 64, [.int .i64 0, .int .i64 0, .int .i64 0, .int .i64 0, .int .i64 0, .int .i64 0, .int .i64 0, .bool false], false⟩ := rfl
theorem Zxl : Xi 86 = some ⟨.struct [(0, 3), (1, 3), (2, 3), (3, 3), (4, 3), (5, 3), (6, 3), (7, 4)], 8, 64, [.int .i64 0, .int .i64 0, .int .i64 0, .int .i64 0, .int .i64 0, .int .i64 0, .int .i64 0, .bool false], true⟩ := rfl
theorem Zxm : Xi 87 = some ⟨.struct [(0, 86), (8, 3), (9, 3)], 10, 80, [.int .i64 0, .int .i64 0, .int .i64 0, .int .i64 0, .int .i64 0, .int .i64 0, .int .i64 0, .bool false, .int .i64 0, .int .i64 0], false⟩ := rfl
theorem Zxn : Xi 88 = some ⟨.struct [(0, 86), (8, 3), (9, 3)], 10, 80, [.int .i64 0, .int .i64 0, .int .i64 0, .int .i64 0, .int .i64 0, .int .i64 0, .int .i64 0, .bool false, .int .i64 0, .int .i64 0], true⟩ := rfl
theorem Zxo : Xi 96 = some ⟨.struct [(0, 22), (1, 3), (2, 3)], 3, 40, [.slice none 0 0, .int .i64 0, .int .i64 0], false⟩ := rfl
theorem Zxp : Xi 97 = some ⟨.struct [(0, 22), (1, 3), (2, 3)], 3, 40, [.slice none 0 0, .int .i64 0, .int .i64 0], false⟩ := rfl
theorem Zxq : Xi 98 = some ⟨.ptr 72, 1, 8, [.pointer none], false⟩ := rfl
theorem Zsn : Xi 101 = some ⟨.ptr 74, 1, 8, [.pointer none], false⟩ := rfl
theorem Zso : Xi 116 = some ⟨.struct [(0, 3), (1, 3), (2, 3), (3, 3), (4, 3), (5, 3), (6, 3), (7, 4)], 8, 64, [.int .i64 0, .int .i64 0, .int .i64 0, .int .i64 0, .int .i64 0, .int .i64 0, .int .i64 0, .bool false], true⟩ := rfl
theorem Zsp : Xi 117 = some ⟨.struct [(0, 116), (8, 3), (9, 3)], 10, 80, [.int .i64 0, .int .i64 0, .int .i64 0, .int .i64 0, .int .i64 0, .int .i64 0, .int .i64 0, .bool false, .int .i64 0, .int .i64 0], false⟩ := rfl
theorem Zsq : Xi 118 = some ⟨.struct [(0, 116), (8, 3), (9, 3)], 10, 80, [.int .i64 0, .int .i64 0, .int .i64 0, .int .i64 0, .int .i64 0, .int .i64 0, .int .i64 0, .bool false, .int .i64 0, .int .i64 0], true⟩ := rfl
theorem Zsr : Xi 135 = some ⟨.arr 6 3, 6, 48, [.int .i64 0, .int .i64 0, .int .i64 0, .int .i64 0, .int .i64 0, .int .i64 0], true⟩ := rfl
theorem Zss : Xi 137 = some ⟨.int .u32, 1, 4, [.int .u32 0], false⟩ := rfl
theorem Zst : Xi 138 = some ⟨.arr 7 3, 7, 56, [.int .i64 0, .int .i64 0, .int .i64 0, .int .i64 0, .int .i64 0, .int .i64 0, .int .i64 0], true⟩ := rfl
theorem Zsu : Xi 140 = some ⟨.struct [(0, 17), (1, 17), (2, 17), (3, 9)], 4, 40, [.pointer none, .pointer none, .pointer none, .string ByteArray.empty], false⟩ := rfl
theorem Zsv : Xi 141 = some ⟨.struct [(0, 17), (1, 17), (2, 17), (3, 9)], 4, 40, [.pointer none, .pointer none, .pointer none, .string ByteArray.empty], false⟩ := rfl
theorem Zsw : Xi 145 = some ⟨.int .u8, 1, 1, [.int .u8 0], false⟩ := rfl
theorem Zsx : Xi 146 = some ⟨.int .u8, 1, 1, [.int .u8 0], false⟩ := rfl
theorem Zsy : Xi 148 = some ⟨.ptr 5, 1, 8, [.pointer none], false⟩ := rfl
theorem Zsz : Xi 149 = some ⟨.int .i32, 1, 4, [.int .i32 0], false⟩ := rfl
theorem Zs1 : Zv Xi 2 = some (.int .i64) := rfl
theorem Zs2 : Zv Xi 3 = some (.int .i64) := rfl
theorem Zs3 : Zv Xi 4 = some (.bool) := rfl
theorem Zs4 : Zv Xi 5 = some (.int .u8) := rfl
theorem Zs5 : Zv Xi 6 = some (.int .u8) := rfl
theorem Zs6 : Zv Xi 7 = some (.struct [(0, 2), (1, 3), (2, 4), (3, 6)]) := rfl
theorem Zs7 : Zv Xi 8 = some (.struct [(0, 2), (1, 3), (2, 4), (3, 6)]) := rfl
theorem Zs8 : Zv Xi 9 = some (.str) := rfl
theorem Zox : Zv Xi 10 = some (.str) := rfl
theorem Zoy : Zv Xi 11 = some (.str) := rfl
theorem Zoz : Zv Xi 12 = some (.int .u64) := rfl
theorem Zo0 : Zv Xi 13 = some (.struct [(0, 9), (1, 12)]) := rfl
theorem Zo1 : Zv Xi 14 = some (.struct [(0, 9), (1, 12)]) := rfl
theorem Zo2 : Zv Xi 15 = some (.ptr 141) := rfl
theorem Zo3 : Zv Xi 16 = some (.ptr 144) := rfl
theorem Zo4 : Zv Xi 17 = some (.ptr 152) := rfl
theorem Zo5 : Zv Xi 18 = some (.struct [(0, 17)]) := rfl
theorem Zo6 : Zv Xi 19 = some (.struct [(0, 17)]) := rfl
theorem Zo7 : Zv Xi 21 = some (.int .i32) := rfl
theorem Zo8 : Zv Xi 22 = some (.slice 26) := rfl
theorem Zo9 : Zv Xi 23 = some (.struct [(0, 3), (1, 3), (2, 3), (3, 3)]) := rfl
theorem Zpa : Zv Xi 24 = some (.struct [(0, 3), (1, 3), (2, 3), (3, 3)]) := rfl
theorem Zi7 : Zv Xi 26 = some (.slice 40) := rfl
theorem Zpb : Zv Xi 27 = some (.slice 29) := rfl
theorem Zpc : Zv Xi 28 = some (.struct [(0, 3), (1, 26), (2, 27)]) := rfl
theorem Zpd : Zv Xi 29 = some (.struct [(0, 3), (1, 26), (2, 27)]) := rfl
theorem Zi8 : Zv Xi 33 = some (.ptr 97) := rfl
theorem Zpe : Zv Xi 34 = some (.struct [(0, 33), (1, 3), (2, 3), (3, 3), (4, 3), (5, 3), (6, 3), (7, 3), (8, 3)]) := rfl
theorem Zpf : Zv Xi 35 = some (.struct [(0, 33), (1, 3), (2, 3), (3, 3), (4, 3), (5, 3), (6, 3), (7, 3), (8, 3)]) := rfl
theorem Zpg : Zv Xi 37 = some (.int .i64) := rfl
theorem Zph : Zv Xi 40 = some (.int .u64) := rfl
theorem Zpi : Zv Xi 45 = some (.slice 22) := rfl
theorem Zi9 : Zv Xi 46 = some (.ptr 79) := rfl
theorem Zpj : Zv Xi 54 = some (.int .u64) := rfl
theorem Zpk : Zv Xi 55 = some (.slice 3) := rfl
theorem Zpl : Zv Xi 63 = some (.struct [(0, 3), (1, 3), (2, 3), (3, 3), (4, 3), (5, 3), (6, 40)]) := rfl
theorem Zpm : Zv Xi 64 = some (.struct [(0, 3), (1, 3), (2, 3), (3, 3), (4, 3), (5, 3), (6, 40)]) := rfl
theorem Zpn : Zv Xi 71 = some (.struct [(0, 3)]) := rfl
theorem Zpo : Zv Xi 72 = some (.struct [(0, 3)]) := rfl
theorem Zpp : Zv Xi 73 = some (.struct [(0, 40), (1, 3)]) := rfl
theorem Zpq : Zv Xi 74 = some (.struct [(0, 40), (1, 3)]) := rfl
theorem Zpr : Zv Xi 77 = some (.slice 82) := rfl
theorem Zps : Zv Xi 78 = some (.struct [(0, 77), (1, 55)]) := rfl
theorem Zpt : Zv Xi 79 = some (.struct [(0, 77), (1, 55)]) := rfl
theorem Zpu : Zv Xi 81 = some (.struct [(0, 40), (1, 35)]) := rfl
theorem Zpv : Zv Xi 82 = some (.struct [(0, 40), (1, 35)]) := rfl
theorem Zpw : Zv Xi 85 = some (.struct [(0, 3), (1, 3), (2, 3), (3, 3), (4, 3), (5, 3), (6, 3), (7, 4)]) := rfl
theorem Zpx : Zv Xi 86 = some (.struct [(0, 3), (1, 3), (2, 3), (3, 3), (4, 3), (5, 3), (6, 3), (7, 4)]) := rfl
theorem Zpy : Zv Xi 87 = some (.struct [(0, 86), (8, 3), (9, 3)]) := rfl
theorem Zpz : Zv Xi 88 = some (.struct [(0, 86), (8, 3), (9, 3)]) := rfl
theorem Zp0 : Zv Xi 96 = some (.struct [(0, 22), (1, 3), (2, 3)]) := rfl
theorem Zp1 : Zv Xi 97 = some (.struct [(0, 22), (1, 3), (2, 3)]) := rfl
theorem Zp2 : Zv Xi 98 = some (.ptr 72) := rfl
theorem Zlc : Zv Xi 101 = some (.ptr 74) := rfl
theorem Zld : Zv Xi 116 = some (.struct [(0, 3), (1, 3), (2, 3), (3, 3), (4, 3), (5, 3), (6, 3), (7, 4)]) := rfl
theorem Zle : Zv Xi 117 = some (.struct [(0, 116), (8, 3), (9, 3)]) := rfl
theorem Zlf : Zv Xi 118 = some (.struct [(0, 116), (8, 3), (9, 3)]) := rfl
theorem Zlg : Zv Xi 135 = some (.arr 6 3) := rfl
theorem Zlh : Zv Xi 137 = some (.int .u32) := rfl
theorem Zli : Zv Xi 138 = some (.arr 7 3) := rfl
theorem Zlj : Zv Xi 140 = some (.struct [(0, 17), (1, 17), (2, 17), (3, 9)]) := rfl
theorem Zlk : Zv Xi 141 = some (.struct [(0, 17), (1, 17), (2, 17), (3, 9)]) := rfl
theorem Zll : Zv Xi 145 = some (.int .u8) := rfl
theorem Zlm : Zv Xi 146 = some (.int .u8) := rfl
theorem Zln : Zv Xi 148 = some (.ptr 5) := rfl
theorem Zlo : Zv Xi 149 = some (.int .i32) := rfl
end Go.Proofs.Ytgffgbdnbjbmoaa
