/- The types of this seat's program, as its dump has them, in the ghost memory's words; no condition. -/
import Derived.Test.YtgpaglmhkklneaaRows
import Derived.Test.YtgpaglmhkklneaaG16
namespace Go.Proofs.Ytgpaglmhkklneaa
open Go.RowKit
set_option linter.unusedVariables false
set_option linter.unusedSimpArgs false
theorem TyOk.of {P : Program} {t : TypeId} (k : TK) (size bytes : Nat) (zero : List Value) (z : Value) (h : (P.info? t).map (fun i => (i.zero, i.size, i.bytes)) = some (some z, size, bytes)) (hz : z.cells.toList = zero) (hu : k.ok P t) (hl : zero.length = size) (h1 : zero.all Value.oneCell' = true) (eq : Bool) (he : eq = true → EqTy P t) : TyOk P t ⟨k, size, bytes, zero, eq⟩ := by
 refine ⟨?_, hu, hl, fun v hv => List.all_eq_true.1 h1 v hv, he⟩
 cases hi : P.info? t with
 | none => rw [hi] at h; cases h
 | some i =>
  rw [hi] at h
  simp only [Option.map_some, Option.some.injEq, Prod.mk.injEq] at h
  exact ⟨i, z, rfl, h.2.1, h.2.2, h.1, hz⟩
theorem TyOk.g {P : Program} {t : TypeId} {k : TK} {size bytes : Nat} {zero : List Value} {eq : Bool} (h : (P.info? t).map (fun i => (i.zero, i.size, i.bytes)) = some (some (.agg zero.toArray), size, bytes)) (hu : k.ok P t) (he : eq = true → EqTy P t := by intro h; cases h) (hz : (Value.agg zero.toArray).cells.toList = zero := by rfl) (hl : zero.length = size := by rfl) (h1 : zero.all Value.oneCell' = true := by rfl) : TyOk P t ⟨k, size, bytes, zero, eq⟩ := .of k size bytes zero _ h hz hu hl h1 eq he
theorem TyOk.s {P : Program} {t : TypeId} {k : TK} {size bytes : Nat} {z : Value} {eq : Bool} (h : (P.info? t).map (fun i => (i.zero, i.size, i.bytes)) = some (some z, size, bytes)) (hu : k.ok P t) (he : eq = true → EqTy P t := by intro h; cases h) (hz : z.cells.toList = [z] := by rfl) (hl : [z].length = size := by rfl) (h1 : [z].all Value.oneCell' = true := by rfl) : TyOk P t ⟨k, size, bytes, [z], eq⟩ := .of k size bytes [z] _ h hz hu hl h1 eq he
theorem EqTy.m {P : Program} {t : TypeId} (h : EqTy P t) : true = true → EqTy P t := fun _ => h
theorem Zyy {α : Type} {t : Nat} {i : α} : ∀ (l : List (Nat × α)), l.lookup t = some i → (t, i) ∈ l
 | [], h => by simp at h
 | (a, b) :: l, h => by
  rw [List.lookup_cons] at h
  split at h
  ·rename_i he
   injection h with h
   have : t = a := by simpa using he
   subst h this
   exact .head _
  exact .tail _ (Zyy l h)
def tE2 : TyI := ⟨.int .i64, 1, 8, [.int .i64 0], false⟩
theorem ty2 : TyOk Try.prog 2 tE2 := .s (by kernel_rfl) Try.underlying2
theorem ty3 : TyOk Try.prog 3 tE2 := .s (by kernel_rfl) Try.underlying3
def tE4 : TyI := ⟨.bool, 1, 1, [.bool false], false⟩
theorem ty4 : TyOk Try.prog 4 tE4 := .s (by kernel_rfl) Try.underlying4
def tE5 : TyI := ⟨.int .u8, 1, 1, [.int .u8 0], false⟩
theorem ty5 : TyOk Try.prog 5 tE5 := .s (by kernel_rfl) Try.underlying5
theorem ty6 : TyOk Try.prog 6 tE5 := .s (by kernel_rfl) Try.underlying6
def tE7 : TyI := ⟨.struct [(0, 2), (1, 3), (2, 4), (3, 6)], 4, 24, [.int .i64 0, .int .i64 0, .bool false, .int .u8 0], false⟩
theorem ty7 : TyOk Try.prog 7 tE7 := .g (by kernel_rfl) ⟨_, Try.underlying7, rfl⟩
theorem ty8 : TyOk Try.prog 8 tE7 := .g (by kernel_rfl) ⟨_, Try.underlying8, rfl⟩
def tE9 : TyI := ⟨.str, 1, 16, [.string ByteArray.empty], false⟩
theorem ty9 : TyOk Try.prog 9 tE9 := .s (by kernel_rfl) Try.underlying9
theorem Yhs : TyOk Try.prog 10 tE9 := .s (by kernel_rfl) Try.underlying10
theorem Yht : TyOk Try.prog 11 tE9 := .s (by kernel_rfl) Try.underlying11
def Ydh : TyI := ⟨.int .u64, 1, 8, [.int .u64 0], false⟩
theorem Yhu : TyOk Try.prog 12 Ydh := .s (by kernel_rfl) Try.underlying12
def Ydi : TyI := ⟨.struct [(0, 9), (1, 12)], 2, 24, [.string ByteArray.empty, .int .u64 0], false⟩
theorem Yhv : TyOk Try.prog 13 Ydi := .g (by kernel_rfl) ⟨_, Try.underlying13, rfl⟩
theorem Yhw : TyOk Try.prog 14 Ydi := .g (by kernel_rfl) ⟨_, Try.underlying14, rfl⟩
def Ygj : TyI := ⟨.ptr 112, 1, 8, [.pointer none], false⟩
theorem Yhx : TyOk Try.prog 15 Ygj := .s (by kernel_rfl) Try.underlying15
def Ygk : TyI := ⟨.ptr 115, 1, 8, [.pointer none], false⟩
theorem Yhy : TyOk Try.prog 16 Ygk := .s (by kernel_rfl) Try.underlying16
def Ygl : TyI := ⟨.ptr 125, 1, 8, [.pointer none], false⟩
theorem Yhz : TyOk Try.prog 17 Ygl := .s (by kernel_rfl) Try.underlying17
def Ydj : TyI := ⟨.struct [(0, 17)], 1, 8, [.pointer none], false⟩
theorem Yh0 : TyOk Try.prog 18 Ydj := .g (by kernel_rfl) ⟨_, Try.underlying18, rfl⟩
theorem Yh1 : TyOk Try.prog 19 Ydj := .g (by kernel_rfl) ⟨_, Try.underlying19, rfl⟩
def Z9m : TyI := ⟨.int .i32, 1, 4, [.int .i32 0], false⟩
theorem Yh2 : TyOk Try.prog 21 Z9m := .s (by kernel_rfl) Try.underlying21
def Ygm : TyI := ⟨.slice 50, 1, 24, [.slice none 0 0], false⟩
theorem Yh3 : TyOk Try.prog 22 Ygm := .s (by kernel_rfl) Try.underlying22
def Ygn : TyI := ⟨.slice 25, 1, 24, [.slice none 0 0], false⟩
theorem Yh4 : TyOk Try.prog 23 Ygn := .s (by kernel_rfl) Try.underlying23
def Ydk : TyI := ⟨.struct [(0, 3), (1, 22), (2, 23)], 3, 56, [.int .i64 0, .slice none 0 0, .slice none 0 0], false⟩
theorem Yh5 : TyOk Try.prog 24 Ydk := .g (by kernel_rfl) ⟨_, Try.underlying24, rfl⟩
theorem Yh6 : TyOk Try.prog 25 Ydk := .g (by kernel_rfl) ⟨_, Try.underlying25, rfl⟩
def Ygo : TyI := ⟨.slice 37, 1, 24, [.slice none 0 0], false⟩
theorem Yh7 : TyOk Try.prog 26 Ygo := .s (by kernel_rfl) Try.underlying26
def Ygp : TyI := ⟨.ptr 54, 1, 8, [.pointer none], false⟩
theorem Yh8 : TyOk Try.prog 30 Ygp := .s (by kernel_rfl) Try.underlying30
def Ygq : TyI := ⟨.slice 52, 1, 24, [.slice none 0 0], false⟩
theorem Yh9 : TyOk Try.prog 33 Ygq := .s (by kernel_rfl) Try.underlying33
def Ygr : TyI := ⟨.slice 65, 1, 24, [.slice none 0 0], false⟩
theorem Yia : TyOk Try.prog 34 Ygr := .s (by kernel_rfl) Try.underlying34
def Ygs : TyI := ⟨.slice 68, 1, 24, [.slice none 0 0], false⟩
theorem Yib : TyOk Try.prog 35 Ygs := .s (by kernel_rfl) Try.underlying35
def Ydl : TyI := ⟨.struct [(0, 3), (1, 25), (4, 25), (7, 33), (8, 34), (9, 3), (10, 35)], 11, 200, [.int .i64 0, .int .i64 0, .slice none 0 0, .slice none 0 0, .int .i64 0, .slice none 0 0, .slice none 0 0, .slice none 0 0, .slice none 0 0, .int .i64 0, .slice none 0 0], false⟩
theorem Yic : TyOk Try.prog 36 Ydl := .g (by kernel_rfl) ⟨_, Try.underlying36, rfl⟩
theorem Yid : TyOk Try.prog 37 Ydl := .g (by kernel_rfl) ⟨_, Try.underlying37, rfl⟩
def Ydm : TyI := ⟨.struct [(0, 3), (1, 3), (2, 37)], 13, 216, [.int .i64 0, .int .i64 0, .int .i64 0, .int .i64 0, .slice none 0 0, .slice none 0 0, .int .i64 0, .slice none 0 0, .slice none 0 0, .slice none 0 0, .slice none 0 0, .int .i64 0, .slice none 0 0], false⟩
theorem Yie : TyOk Try.prog 38 Ydm := .g (by kernel_rfl) ⟨_, Try.underlying38, rfl⟩
theorem Yif : TyOk Try.prog 39 Ydm := .g (by kernel_rfl) ⟨_, Try.underlying39, rfl⟩
theorem Yig : TyOk Try.prog 41 tE2 := .s (by kernel_rfl) Try.underlying41
theorem Yih : TyOk Try.prog 50 Ydh := .s (by kernel_rfl) Try.underlying50
def Ygu : TyI := ⟨.struct [(0, 3), (1, 5), (2, 50), (3, 50)], 4, 32, [.int .i64 0, .int .u8 0, .int .u64 0, .int .u64 0], false⟩
theorem Yii : TyOk Try.prog 51 Ygu := .g (by kernel_rfl) ⟨_, Try.underlying51, rfl⟩
def Ygv : TyI := ⟨.struct [(0, 3), (1, 5), (2, 50), (3, 50)], 4, 32, [.int .i64 0, .int .u8 0, .int .u64 0, .int .u64 0], true⟩
theorem Yij : TyOk Try.prog 52 Ygv := .g (by kernel_rfl) ⟨_, Try.underlying52, rfl⟩ (fun _ => by unfold EqTy; exact ⟨by kernel_rfl, by kernel_rfl, by kernel_rfl⟩)
def Ydn : TyI := ⟨.struct [(0, 25), (3, 26), (4, 26)], 5, 104, [.int .i64 0, .slice none 0 0, .slice none 0 0, .slice none 0 0, .slice none 0 0], false⟩
theorem Yik : TyOk Try.prog 53 Ydn := .g (by kernel_rfl) ⟨_, Try.underlying53, rfl⟩
theorem Yil : TyOk Try.prog 54 Ydn := .g (by kernel_rfl) ⟨_, Try.underlying54, rfl⟩
def Ydo : TyI := ⟨.struct [(0, 3), (1, 37)], 12, 208, [.int .i64 0, .int .i64 0, .int .i64 0, .slice none 0 0, .slice none 0 0, .int .i64 0, .slice none 0 0, .slice none 0 0, .slice none 0 0, .slice none 0 0, .int .i64 0, .slice none 0 0], false⟩
theorem Yim : TyOk Try.prog 64 Ydo := .g (by kernel_rfl) ⟨_, Try.underlying64, rfl⟩
theorem Yin : TyOk Try.prog 65 Ydo := .g (by kernel_rfl) ⟨_, Try.underlying65, rfl⟩
def Ydp : TyI := ⟨.struct [(0, 3), (1, 3), (2, 23), (3, 37)], 14, 240, [.int .i64 0, .int .i64 0, .slice none 0 0, .int .i64 0, .int .i64 0, .slice none 0 0, .slice none 0 0, .int .i64 0, .slice none 0 0, .slice none 0 0, .slice none 0 0, .slice none 0 0, .int .i64 0, .slice none 0 0], false⟩
theorem Yio : TyOk Try.prog 67 Ydp := .g (by kernel_rfl) ⟨_, Try.underlying67, rfl⟩
theorem Yip : TyOk Try.prog 68 Ydp := .g (by kernel_rfl) ⟨_, Try.underlying68, rfl⟩
def Ydq : TyI := ⟨.struct [(0, 35), (1, 3), (2, 23), (3, 23)], 4, 80, [.slice none 0 0, .int .i64 0, .slice none 0 0, .slice none 0 0], false⟩
theorem Yiq : TyOk Try.prog 81 Ydq := .g (by kernel_rfl) ⟨_, Try.underlying81, rfl⟩
theorem Yir : TyOk Try.prog 82 Ydq := .g (by kernel_rfl) ⟨_, Try.underlying82, rfl⟩
def Ygw : TyI := ⟨.ptr 23, 1, 8, [.pointer none], false⟩
theorem Yis : TyOk Try.prog 85 Ygw := .s (by kernel_rfl) Try.underlying85
def Ygx : TyI := ⟨.arr 8 5, 8, 8, [.int .u8 0, .int .u8 0, .int .u8 0, .int .u8 0, .int .u8 0, .int .u8 0, .int .u8 0, .int .u8 0], true⟩
theorem Yit : TyOk Try.prog 88 Ygx := .g (by kernel_rfl) Try.underlying88 (fun _ => by unfold EqTy; exact ⟨by kernel_rfl, by kernel_rfl, by kernel_rfl⟩)
def Ygy : TyI := ⟨.slice 5, 1, 24, [.slice none 0 0], false⟩
theorem Yiu : TyOk Try.prog 92 Ygy := .s (by kernel_rfl) Try.underlying92
def Ygz : TyI := ⟨.ptr 82, 1, 8, [.pointer none], false⟩
theorem Yiv : TyOk Try.prog 94 Ygz := .s (by kernel_rfl) Try.underlying94
def Yel : TyI := ⟨.ptr 25, 1, 8, [.pointer none], false⟩
theorem Yg2 : TyOk Try.prog 102 Yel := .s (by kernel_rfl) Try.underlying102
def Z7l : TyI := ⟨.struct [(0, 23), (1, 23)], 2, 48, [.slice none 0 0, .slice none 0 0], false⟩
theorem Yg3 : TyOk Try.prog 105 Z7l := .g (by kernel_rfl) ⟨_, Try.underlying105, rfl⟩
theorem Yg4 : TyOk Try.prog 106 Z7l := .g (by kernel_rfl) ⟨_, Try.underlying106, rfl⟩
def Yem : TyI := ⟨.arr 6 3, 6, 48, [.int .i64 0, .int .i64 0, .int .i64 0, .int .i64 0, .int .i64 0, .int .i64 0], true⟩
theorem Yg5 : TyOk Try.prog 108 Yem := .g (by kernel_rfl) Try.underlying108 (fun _ => by unfold EqTy; exact ⟨by kernel_rfl, by kernel_rfl, by kernel_rfl⟩)
def Yen : TyI := ⟨.ptr 106, 1, 8, [.pointer none], false⟩
theorem Yg6 : TyOk Try.prog 109 Yen := .s (by kernel_rfl) Try.underlying109
def Z7m : TyI := ⟨.struct [(0, 17), (1, 17), (2, 17), (3, 9)], 4, 40, [.pointer none, .pointer none, .pointer none, .string ByteArray.empty], false⟩
theorem Yg7 : TyOk Try.prog 111 Z7m := .g (by kernel_rfl) ⟨_, Try.underlying111, rfl⟩
theorem Yg8 : TyOk Try.prog 112 Z7m := .g (by kernel_rfl) ⟨_, Try.underlying112, rfl⟩
def Yeo : TyI := ⟨.int .u32, 1, 4, [.int .u32 0], false⟩
theorem Yg9 : TyOk Try.prog 117 Yeo := .s (by kernel_rfl) Try.underlying117
theorem Yha : TyOk Try.prog 118 tE5 := .s (by kernel_rfl) Try.underlying118
theorem Yhb : TyOk Try.prog 119 tE5 := .s (by kernel_rfl) Try.underlying119
def Yep : TyI := ⟨.ptr 5, 1, 8, [.pointer none], false⟩
theorem Yhc : TyOk Try.prog 121 Yep := .s (by kernel_rfl) Try.underlying121
theorem Yhd : TyOk Try.prog 122 Z9m := .s (by kernel_rfl) Try.underlying122
theorem Yhe : TyOk Try.prog 123 Z9m := .s (by kernel_rfl) Try.underlying123
def tabL : List (Nat × TyI) := [(2, tE2), (3, tE2), (4, tE4), (5, tE5), (6, tE5), (7, tE7), (8, tE7), (9, tE9), (10, tE9), (11, tE9), (12, Ydh), (13, Ydi), (14, Ydi), (15, Ygj), (16, Ygk), (17, Ygl), (18, Ydj), (19, Ydj), (21, Z9m), (22, Ygm), (23, Ygn), (24, Ydk), (25, Ydk), (26, Ygo), (30, Ygp), (33, Ygq), (34, Ygr), (35, Ygs), (36, Ydl), (37, Ydl), (38, Ydm), (39, Ydm), (41, tE2), (50, Ydh), (51, Ygu), (52, Ygv), (53, Ydn), (54, Ydn), (64, Ydo), (65, Ydo), (67, Ydp), (68, Ydp), (81, Ydq), (82, Ydq), (85, Ygw), (88, Ygx), (92, Ygy), (94, Ygz), (102, Yel), (105, Z7l), (106, Z7l), (108, Yem), (109, Yen), (111, Z7m), (112, Z7m), (117, Yeo), (118, tE5), (119, tE5), (121, Yep), (122, Z9m), (123, Z9m)]
def Kq : Vt := fun t => tabL.lookup t
theorem Z0 : Jl Try.prog Kq := fun t i h => by
 have hm := Zyy _ h
 unfold tabL at hm
 simp only [List.mem_cons, Prod.mk.injEq, List.not_mem_nil, or_false] at hm
 rcases hm with ⟨rfl, rfl⟩ | ⟨rfl, rfl⟩ | ⟨rfl, rfl⟩ | ⟨rfl, rfl⟩ | ⟨rfl, rfl⟩ | ⟨rfl, rfl⟩ | ⟨rfl, rfl⟩ | ⟨rfl, rfl⟩ | ⟨rfl, rfl⟩ | ⟨rfl, rfl⟩ | ⟨rfl, rfl⟩ | ⟨rfl, rfl⟩ | ⟨rfl, rfl⟩ | ⟨rfl, rfl⟩ | ⟨rfl, rfl⟩ | ⟨rfl, rfl⟩ | ⟨rfl, rfl⟩ | ⟨rfl, rfl⟩ | ⟨rfl, rfl⟩ | ⟨rfl, rfl⟩ | ⟨rfl, rfl⟩ | ⟨rfl, rfl⟩ | ⟨rfl, rfl⟩ | ⟨rfl, rfl⟩ | ⟨rfl, rfl⟩ | ⟨rfl, rfl⟩ | ⟨rfl, rfl⟩ | ⟨rfl, rfl⟩ | ⟨rfl, rfl⟩ | ⟨rfl, rfl⟩ | ⟨rfl, rfl⟩ | ⟨rfl, rfl⟩ | ⟨rfl, rfl⟩ | ⟨rfl, rfl⟩ | ⟨rfl, rfl⟩ | ⟨rfl, rfl⟩ | ⟨rfl, rfl⟩ | ⟨rfl, rfl⟩ | ⟨rfl, rfl⟩ | ⟨rfl, rfl⟩ | ⟨rfl, rfl⟩ | ⟨rfl, rfl⟩ | ⟨rfl, rfl⟩ | ⟨rfl, rfl⟩ | ⟨rfl, rfl⟩ | ⟨rfl, rfl⟩ | ⟨rfl, rfl⟩ | ⟨rfl, rfl⟩ | ⟨rfl, rfl⟩ | ⟨rfl, rfl⟩ | ⟨rfl, rfl⟩ | ⟨rfl, rfl⟩ | ⟨rfl, rfl⟩ | ⟨rfl, rfl⟩ | ⟨rfl, rfl⟩ | ⟨rfl, rfl⟩ | ⟨rfl, rfl⟩ | ⟨rfl, rfl⟩ | ⟨rfl, rfl⟩ | ⟨rfl, rfl⟩ | ⟨rfl, rfl⟩
 ·exact ty2
 ·exact ty3
 ·exact ty4
 ·exact ty5
 ·exact ty6
 ·exact ty7
 ·exact ty8
 ·exact ty9
 ·exact Yhs
 ·exact Yht
 ·exact Yhu
 ·exact Yhv
 ·exact Yhw
 ·exact Yhx
 ·exact Yhy
 ·exact Yhz
 ·exact Yh0
 ·exact Yh1
 ·exact Yh2
 ·exact Yh3
 ·exact Yh4
 ·exact Yh5
 ·exact Yh6
 ·exact Yh7
 ·exact Yh8
 ·exact Yh9
 ·exact Yia
 ·exact Yib
 ·exact Yic
 ·exact Yid
 ·exact Yie
 ·exact Yif
 ·exact Yig
 ·exact Yih
 ·exact Yii
 ·exact Yij
 ·exact Yik
 ·exact Yil
 ·exact Yim
 ·exact Yin
 ·exact Yio
 ·exact Yip
 ·exact Yiq
 ·exact Yir
 ·exact Yis
 ·exact Yit
 ·exact Yiu
 ·exact Yiv
 ·exact Yg2
 ·exact Yg3
 ·exact Yg4
 ·exact Yg5
 ·exact Yg6
 ·exact Yg7
 ·exact Yg8
 ·exact Yg9
 ·exact Yha
 ·exact Yhb
 ·exact Yhc
 ·exact Yhd
 exact Yhe
theorem Ydr : Kq 2 = some ⟨.int .i64, 1, 8, [.int .i64 0], false⟩ := rfl
theorem Z9p : Kq 3 = some ⟨.int .i64, 1, 8, [.int .i64 0], false⟩ := rfl
theorem Yds : Kq 4 = some ⟨.bool, 1, 1, [.bool false], false⟩ := rfl
theorem Z3d : Kq 5 = some ⟨.int .u8, 1, 1, [.int .u8 0], false⟩ := rfl
theorem Ydt : Kq 6 = some ⟨.int .u8, 1, 1, [.int .u8 0], false⟩ := rfl
theorem Ydu : Kq 7 = some ⟨.struct [(0, 2), (1, 3), (2, 4), (3, 6)], 4, 24, [.int .i64 0, .int .i64 0, .bool false, .int .u8 0], false⟩ := rfl
theorem Ydv : Kq 8 = some ⟨.struct [(0, 2), (1, 3), (2, 4), (3, 6)], 4, 24, [.int .i64 0, .int .i64 0, .bool false, .int .u8 0], false⟩ := rfl
theorem Ydw : Kq 9 = some ⟨.str, 1, 16, [.string ByteArray.empty], false⟩ := rfl
theorem Z7q : Kq 10 = some ⟨.str, 1, 16, [.string ByteArray.empty], false⟩ := rfl
theorem Z7r : Kq 11 = some ⟨.str, 1, 16, [.string ByteArray.empty], false⟩ := rfl
theorem Z7s : Kq 12 = some ⟨.int .u64, 1, 8, [.int .u64 0], false⟩ := rfl
theorem Z7t : Kq 13 = some ⟨.struct [(0, 9), (1, 12)], 2, 24, [.string ByteArray.empty, .int .u64 0], false⟩ := rfl
theorem Z7u : Kq 14 = some ⟨.struct [(0, 9), (1, 12)], 2, 24, [.string ByteArray.empty, .int .u64 0], false⟩ := rfl
theorem Z7v : Kq 15 = some ⟨.ptr 112, 1, 8, [.pointer none], false⟩ := rfl
theorem Z7w : Kq 16 = some ⟨.ptr 115, 1, 8, [.pointer none], false⟩ := rfl
theorem Z7x : Kq 17 = some ⟨.ptr 125, 1, 8, [.pointer none], false⟩ := rfl
theorem Z7y : Kq 18 = some ⟨.struct [(0, 17)], 1, 8, [.pointer none], false⟩ := rfl
theorem Z7z : Kq 19 = some ⟨.struct [(0, 17)], 1, 8, [.pointer none], false⟩ := rfl
theorem Z70 : Kq 21 = some ⟨.int .i32, 1, 4, [.int .i32 0], false⟩ := rfl
theorem Z71 : Kq 22 = some ⟨.slice 50, 1, 24, [.slice none 0 0], false⟩ := rfl
theorem Z08 : Kq 23 = some ⟨.slice 25, 1, 24, [.slice none 0 0], false⟩ := rfl
theorem Z72 : Kq 24 = some ⟨.struct [(0, 3), (1, 22), (2, 23)], 3, 56, [.int .i64 0, .slice none 0 0, .slice none 0 0], false⟩ := rfl
theorem Up : Kq 25 = some ⟨.struct [(0, 3), (1, 22), (2, 23)], 3, 56, [.int .i64 0, .slice none 0 0, .slice none 0 0], false⟩ := rfl
theorem Z73 : Kq 26 = some ⟨.slice 37, 1, 24, [.slice none 0 0], false⟩ := rfl
theorem Z74 : Kq 30 = some ⟨.ptr 54, 1, 8, [.pointer none], false⟩ := rfl
theorem Z75 : Kq 33 = some ⟨.slice 52, 1, 24, [.slice none 0 0], false⟩ := rfl
theorem Z76 : Kq 34 = some ⟨.slice 65, 1, 24, [.slice none 0 0], false⟩ := rfl
theorem Z77 : Kq 35 = some ⟨.slice 68, 1, 24, [.slice none 0 0], false⟩ := rfl
theorem Z78 : Kq 36 = some ⟨.struct [(0, 3), (1, 25), (4, 25), (7, 33), (8, 34), (9, 3), (10, 35)], 11, 200, [.int .i64 0, .int .i64 0, .slice none 0 0, .slice none 0 0, .int .i64 0, .slice none 0 0, .slice none 0 0, .slice none 0 0, .slice none 0 0, .int .i64 0, .slice none 0 0], false⟩ := rfl
theorem Ziu : Kq 37 = some ⟨.struct [(0, 3), (1, 25), (4, 25), (7, 33), (8, 34), (9, 3), (10, 35)], 11, 200, [.int .i64 0, .int .i64 0, .slice none 0 0, .slice none 0 0, .int .i64 0, .slice none 0 0, .slice none 0 0, .slice none 0 0, .slice none 0 0, .int .i64 0, .slice none 0 0], false⟩ := rfl
theorem Z79 : Kq 38 = some ⟨.struct [(0, 3), (1, 3), (2, 37)], 13, 216, [.int .i64 0, .int .i64 0, .int .i64 0, .int .i64 0, .slice none 0 0, .slice none 0 0, .int .i64 0, .slice none 0 0, .slice none 0 0, .slice none 0 0, .slice none 0 0, .int .i64 0, .slice none 0 0], false⟩ := rfl
theorem Z8a : Kq 39 = some ⟨.struct [(0, 3), (1, 3), (2, 37)], 13, 216, [.int .i64 0, .int .i64 0, .int .i64 0, .int .i64 0, .slice none 0 0, .slice none 0 0, .int .i64 0, .slice none 0 0, .slice none 0 0, .slice none 0 0, .slice none 0 0, .int .i64 0, .slice none 0 0], false⟩ := rfl
theorem Z8b : Kq 41 = some ⟨.int .i64, 1, 8, [.int .i64 0], false⟩ := rfl
theorem Zhf : Kq 50 = some ⟨.int .u64, 1, 8, [.int .u64 0], false⟩ := rfl
theorem Z8c : Kq 51 = some ⟨.struct [(0, 3), (1, 5), (2, 50), (3, 50)], 4, 32, [.int .i64 0, .int .u8 0, .int .u64 0, .int .u64 0], false⟩ := rfl
theorem Zu1 : Kq 52 = some ⟨.struct [(0, 3), (1, 5), (2, 50), (3, 50)], 4, 32, [.int .i64 0, .int .u8 0, .int .u64 0, .int .u64 0], true⟩ := rfl
theorem Z8d : Kq 53 = some ⟨.struct [(0, 25), (3, 26), (4, 26)], 5, 104, [.int .i64 0, .slice none 0 0, .slice none 0 0, .slice none 0 0, .slice none 0 0], false⟩ := rfl
theorem Z8e : Kq 54 = some ⟨.struct [(0, 25), (3, 26), (4, 26)], 5, 104, [.int .i64 0, .slice none 0 0, .slice none 0 0, .slice none 0 0, .slice none 0 0], false⟩ := rfl
theorem Z8f : Kq 64 = some ⟨.struct [(0, 3), (1, 37)], 12, 208, [.int .i64 0, .int .i64 0, .int .i64 0, .slice none 0 0, .slice none 0 0, .int .i64 0, .slice none 0 0, .slice none 0 0, .slice none 0 0, .slice none 0 0, .int .i64 0, .slice none 0 0], false⟩ := rfl
theorem Zon : Kq 65 = some ⟨.struct [(0, 3), (1, 37)], 12, 208, [.int .i64 0, .int .i64 0, .int .i64 0, .slice none 0 0, .slice none 0 0, .int .i64 0, .slice none 0 0, .slice none 0 0, .slice none 0 0, .slice none 0 0, .int .i64 0, .slice none 0 0], false⟩ := rfl
theorem Z8g : Kq 67 = some ⟨.struct [(0, 3), (1, 3), (2, 23), (3, 37)], 14, 240, [.int .i64 0, .int .i64 0, .slice none 0 0, .int .i64 0, .int .i64 0, .slice none 0 0, .slice none 0 0, .int .i64 0, .slice none 0 0, .slice none 0 0, .slice none 0 0, .slice none 0 0, .int .i64 0, .slice none 0 0], false⟩ := rfl
theorem Zhg : Kq 68 = some ⟨.struct [(0, 3), (1, 3), (2, 23), (3, 37)], 14, 240, [.int .i64 0, .int .i64 0, .slice none 0 0, .int .i64 0, .int .i64 0, .slice none 0 0, .slice none 0 0, .int .i64 0, .slice none 0 0, .slice none 0 0, .slice none 0 0, .slice none 0 0, .int .i64 0, .slice none 0 0], false⟩ := rfl
theorem Z8h : Kq 81 = some ⟨.struct [(0, 35), (1, 3), (2, 23), (3, 23)], 4, 80, [.slice none 0 0, .int .i64 0, .slice none 0 0, .slice none 0 0], false⟩ := rfl
theorem Z8i : Kq 82 = some ⟨.struct [(0, 35), (1, 3), (2, 23), (3, 23)], 4, 80, [.slice none 0 0, .int .i64 0, .slice none 0 0, .slice none 0 0], false⟩ := rfl
theorem Z8j : Kq 85 = some ⟨.ptr 23, 1, 8, [.pointer none], false⟩ := rfl
theorem Z09 : Kq 88 = some ⟨.arr 8 5, 8, 8, [.int .u8 0, .int .u8 0, .int .u8 0, .int .u8 0, .int .u8 0, .int .u8 0, .int .u8 0, .int .u8 0], true⟩ := rfl
theorem Z8k : Kq 92 = some ⟨.slice 5, 1, 24, [.slice none 0 0], false⟩ := rfl
theorem Z8l : Kq 94 = some ⟨.ptr 82, 1, 8, [.pointer none], false⟩ := rfl
theorem Z20 : Kq 102 = some ⟨.ptr 25, 1, 8, [.pointer none], false⟩ := rfl
theorem Z21 : Kq 105 = some ⟨.struct [(0, 23), (1, 23)], 2, 48, [.slice none 0 0, .slice none 0 0], false⟩ := rfl
theorem Z22 : Kq 106 = some ⟨.struct [(0, 23), (1, 23)], 2, 48, [.slice none 0 0, .slice none 0 0], false⟩ := rfl
theorem Z23 : Kq 108 = some ⟨.arr 6 3, 6, 48, [.int .i64 0, .int .i64 0, .int .i64 0, .int .i64 0, .int .i64 0, .int .i64 0], true⟩ := rfl
theorem Z24 : Kq 109 = some ⟨.ptr 106, 1, 8, [.pointer none], false⟩ := rfl
theorem Z25 : Kq 111 = some ⟨.struct [(0, 17), (1, 17), (2, 17), (3, 9)], 4, 40, [.pointer none, .pointer none, .pointer none, .string ByteArray.empty], false⟩ := rfl
theorem Z26 : Kq 112 = some ⟨.struct [(0, 17), (1, 17), (2, 17), (3, 9)], 4, 40, [.pointer none, .pointer none, .pointer none, .string ByteArray.empty], false⟩ := rfl
theorem Z27 : Kq 117 = some ⟨.int .u32, 1, 4, [.int .u32 0], false⟩ := rfl
theorem Z28 : Kq 118 = some ⟨.int .u8, 1, 1, [.int .u8 0], false⟩ := rfl
theorem Z29 : Kq 119 = some ⟨.int .u8, 1, 1, [.int .u8 0], false⟩ := rfl
theorem Z3a : Kq 121 = some ⟨.ptr 5, 1, 8, [.pointer none], false⟩ := rfl
theorem Z3b : Kq 122 = some ⟨.int .i32, 1, 4, [.int .i32 0], false⟩ := rfl
theorem Z3c : Kq 123 = some ⟨.int .i32, 1, 4, [.int .i32 0], false⟩ := rfl
theorem Z3e : Y1 Kq 2 = some (.int .i64) := rfl
theorem Z3f : Y1 Kq 3 = some (.int .i64) := rfl
theorem Z3g : Y1 Kq 4 = some (.bool) := rfl
theorem Z3h : Y1 Kq 5 = some (.int .u8) := rfl
theorem Z3i : Y1 Kq 6 = some (.int .u8) := rfl
theorem Z3j : Y1 Kq 7 = some (.struct [(0, 2), (1, 3), (2, 4), (3, 6)]) := rfl
theorem Z3k : Y1 Kq 8 = some (.struct [(0, 2), (1, 3), (2, 4), (3, 6)]) := rfl
theorem Z3l : Y1 Kq 9 = some (.str) := rfl
theorem Zwz : Y1 Kq 10 = some (.str) := rfl
theorem Zw0 : Y1 Kq 11 = some (.str) := rfl
theorem Zw1 : Y1 Kq 12 = some (.int .u64) := rfl
theorem Zw2 : Y1 Kq 13 = some (.struct [(0, 9), (1, 12)]) := rfl
theorem Zw3 : Y1 Kq 14 = some (.struct [(0, 9), (1, 12)]) := rfl
theorem Zw4 : Y1 Kq 15 = some (.ptr 112) := rfl
theorem Zw5 : Y1 Kq 16 = some (.ptr 115) := rfl
theorem Zw6 : Y1 Kq 17 = some (.ptr 125) := rfl
theorem Zw7 : Y1 Kq 18 = some (.struct [(0, 17)]) := rfl
theorem Zw8 : Y1 Kq 19 = some (.struct [(0, 17)]) := rfl
theorem Zw9 : Y1 Kq 21 = some (.int .i32) := rfl
theorem Zpy : Y1 Kq 22 = some (.slice 50) := rfl
theorem Zf1 : Y1 Kq 23 = some (.slice 25) := rfl
theorem Zxa : Y1 Kq 24 = some (.struct [(0, 3), (1, 22), (2, 23)]) := rfl
theorem Zxb : Y1 Kq 25 = some (.struct [(0, 3), (1, 22), (2, 23)]) := rfl
theorem Zpz : Y1 Kq 26 = some (.slice 37) := rfl
theorem Zxc : Y1 Kq 30 = some (.ptr 54) := rfl
theorem Zxd : Y1 Kq 33 = some (.slice 52) := rfl
theorem Zxe : Y1 Kq 34 = some (.slice 65) := rfl
theorem Zxf : Y1 Kq 35 = some (.slice 68) := rfl
theorem Zxg : Y1 Kq 36 = some (.struct [(0, 3), (1, 25), (4, 25), (7, 33), (8, 34), (9, 3), (10, 35)]) := rfl
theorem Zxh : Y1 Kq 37 = some (.struct [(0, 3), (1, 25), (4, 25), (7, 33), (8, 34), (9, 3), (10, 35)]) := rfl
theorem Zxi : Y1 Kq 38 = some (.struct [(0, 3), (1, 3), (2, 37)]) := rfl
theorem Zxj : Y1 Kq 39 = some (.struct [(0, 3), (1, 3), (2, 37)]) := rfl
theorem Zxk : Y1 Kq 41 = some (.int .i64) := rfl
theorem Zxl : Y1 Kq 50 = some (.int .u64) := rfl
theorem Zxm : Y1 Kq 51 = some (.struct [(0, 3), (1, 5), (2, 50), (3, 50)]) := rfl
theorem Zxn : Y1 Kq 52 = some (.struct [(0, 3), (1, 5), (2, 50), (3, 50)]) := rfl
theorem Zxo : Y1 Kq 53 = some (.struct [(0, 25), (3, 26), (4, 26)]) := rfl
theorem Zxp : Y1 Kq 54 = some (.struct [(0, 25), (3, 26), (4, 26)]) := rfl
theorem Zxq : Y1 Kq 64 = some (.struct [(0, 3), (1, 37)]) := rfl
theorem Zxr : Y1 Kq 65 = some (.struct [(0, 3), (1, 37)]) := rfl
theorem Zxs : Y1 Kq 67 = some (.struct [(0, 3), (1, 3), (2, 23), (3, 37)]) := rfl
theorem Zxt : Y1 Kq 68 = some (.struct [(0, 3), (1, 3), (2, 23), (3, 37)]) := rfl
theorem Zxu : Y1 Kq 81 = some (.struct [(0, 35), (1, 3), (2, 23), (3, 23)]) := rfl
theorem Zxv : Y1 Kq 82 = some (.struct [(0, 35), (1, 3), (2, 23), (3, 23)]) := rfl
theorem Zxw : Y1 Kq 85 = some (.ptr 23) := rfl
theorem Ztm : Y1 Kq 88 = some (.arr 8 5) := rfl
theorem Zxx : Y1 Kq 92 = some (.slice 5) := rfl
theorem Zxy : Y1 Kq 94 = some (.ptr 82) := rfl
theorem Zs9 : Y1 Kq 102 = some (.ptr 25) := rfl
theorem Zta : Y1 Kq 105 = some (.struct [(0, 23), (1, 23)]) := rfl
theorem Ztb : Y1 Kq 106 = some (.struct [(0, 23), (1, 23)]) := rfl
theorem Ztc : Y1 Kq 108 = some (.arr 6 3) := rfl
theorem Ztd : Y1 Kq 109 = some (.ptr 106) := rfl
theorem Zte : Y1 Kq 111 = some (.struct [(0, 17), (1, 17), (2, 17), (3, 9)]) := rfl
theorem Ztf : Y1 Kq 112 = some (.struct [(0, 17), (1, 17), (2, 17), (3, 9)]) := rfl
theorem Ztg : Y1 Kq 117 = some (.int .u32) := rfl
theorem Zth : Y1 Kq 118 = some (.int .u8) := rfl
theorem Zti : Y1 Kq 119 = some (.int .u8) := rfl
theorem Ztj : Y1 Kq 121 = some (.ptr 5) := rfl
theorem Ztk : Y1 Kq 122 = some (.int .i32) := rfl
theorem Ztl : Y1 Kq 123 = some (.int .i32) := rfl
end Go.Proofs.Ytgpaglmhkklneaa
