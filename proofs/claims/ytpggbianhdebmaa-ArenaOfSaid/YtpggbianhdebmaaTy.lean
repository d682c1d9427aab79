/- The types of this seat's program, as its dump has them, in the ghost memory's words; no condition. -/
import Derived.Test.YtpggbianhdebmaaRows
import Derived.Test.YtpggbianhdebmaaG16
namespace Go.Proofs.Ytpggbianhdebmaa
open Go.RowKit
set_option linter.unusedVariables false
set_option linter.unusedSimpArgs false
theorem TyOk.of {P : Program} {t : TypeId} (k : TK) (size bytes : Nat) (zero : List Value) (z : Value) (h : (P.info? t).map (fun i => (i.zero, i.size, i.bytes)) = some (some z, size, bytes)) (hz : z.cells.toList = zero) (hu : k.ok P t) (hl : zero.length = size) (h1 : zero.all Value.oneCell' = true) (eq : Bool) (he : eq = true → EqTy P t) : TyOk P t ⟨k, size, bytes, zero, eq⟩ := by
  refine ⟨?_, hu, hl, fun v hv => List.all_eq_true.1 h1 v hv, he⟩
  cases hi : P.info? t with
  | none => rw [hi] at h; cases h
  | some i =>
    rw [hi] at h
    simp only [Option.map_some, Option.some.injEq, Prod.mk.injEq] at h
    exact ⟨i, z, rfl, h.2.1, h.2.2, h.1, hz⟩
theorem TyOk.g {P : Program} {t : TypeId} {k : TK} {size bytes : Nat} {zero : List Value} {eq : Bool} (h : (P.info? t).map (fun i => (i.zero, i.size, i.bytes)) = some (some (.agg zero.toArray), size, bytes)) (hu : k.ok P t) (he : eq = true → EqTy P t := by intro h; cases h) (hz : (Value.agg zero.toArray).cells.toList = zero := by rfl) (hl : zero.length = size := by rfl) (h1 : zero.all Value.oneCell' = true := by rfl) : TyOk P t ⟨k, size, bytes, zero, eq⟩ := .of k size bytes zero _ h hz hu hl h1 eq he
theorem TyOk.s {P : Program} {t : TypeId} {k : TK} {size bytes : Nat} {z : Value} {eq : Bool} (h : (P.info? t).map (fun i => (i.zero, i.size, i.bytes)) = some (some z, size, bytes)) (hu : k.ok P t) (he : eq = true → EqTy P t := by intro h; cases h) (hz : z.cells.toList = [z] := by rfl) (hl : [z].length = size := by rfl) (h1 : [z].all Value.oneCell' = true := by rfl) : TyOk P t ⟨k, size, bytes, [z], eq⟩ := .of k size bytes [z] _ h hz hu hl h1 eq he
theorem EqTy.m {P : Program} {t : TypeId} (h : EqTy P t) : true = true → EqTy P t := fun _ => h
theorem lookup_mem {α : Type} {t : Nat} {i : α} : ∀ (l : List (Nat × α)), l.lookup t = some i → (t, i) ∈ l
  | [], h => by simp at h
  | (a, b) :: l, h => by
    rw [List.lookup_cons] at h
    split at h
    · rename_i he
      injection h with h
      have : t = a := by simpa using he
      subst h this
      exact .head _
    · exact .tail _ (lookup_mem l h)
def tE2 : TyI := ⟨.int .i64, 1, 8, [.int .i64 0], false⟩
theorem ty2 : TyOk Try.prog 2 tE2 := .s (by kernel_rfl) Try.underlying2
theorem ty3 : TyOk Try.prog 3 tE2 := .s (by kernel_rfl) Try.underlying3
def tE4 : TyI := ⟨.bool, 1, 1, [.bool false], false⟩
theorem ty4 : TyOk Try.prog 4 tE4 := .s (by kernel_rfl) Try.underlying4
def tE5 : TyI := ⟨.int .u8, 1, 1, [.int .u8 0], false⟩
theorem ty5 : TyOk Try.prog 5 tE5 := .s (by kernel_rfl) Try.underlying5
theorem ty6 : TyOk Try.prog 6 tE5 := .s (by kernel_rfl) Try.underlying6
def tE7 : TyI := ⟨.struct [(0, 2), (1, 3), (2, 4), (3, 6)], 4, 24, [.int .i64 0, .int .i64 0, .bool false, .int .u8 0], false⟩
theorem ty7 : TyOk Try.prog 7 tE7 := .g (by kernel_rfl) ⟨_, Try.underlying7, rfl⟩
theorem ty8 : TyOk Try.prog 8 tE7 := .g (by kernel_rfl) ⟨_, Try.underlying8, rfl⟩
def tE9 : TyI := ⟨.str, 1, 16, [.string ByteArray.empty], false⟩
theorem ty9 : TyOk Try.prog 9 tE9 := .s (by kernel_rfl) Try.underlying9
theorem ty10 : TyOk Try.prog 10 tE9 := .s (by kernel_rfl) Try.underlying10
theorem ty11 : TyOk Try.prog 11 tE9 := .s (by kernel_rfl) Try.underlying11
def tE12 : TyI := ⟨.int .u64, 1, 8, [.int .u64 0], false⟩
theorem ty12 : TyOk Try.prog 12 tE12 := .s (by kernel_rfl) Try.underlying12
def tE13 : TyI := ⟨.struct [(0, 9), (1, 12)], 2, 24, [.string ByteArray.empty, .int .u64 0], false⟩
theorem ty13 : TyOk Try.prog 13 tE13 := .g (by kernel_rfl) ⟨_, Try.underlying13, rfl⟩
theorem ty14 : TyOk Try.prog 14 tE13 := .g (by kernel_rfl) ⟨_, Try.underlying14, rfl⟩
def tE15 : TyI := ⟨.ptr 70, 1, 8, [.pointer none], false⟩
theorem ty15 : TyOk Try.prog 15 tE15 := .s (by kernel_rfl) Try.underlying15
def tE16 : TyI := ⟨.ptr 73, 1, 8, [.pointer none], false⟩
theorem ty16 : TyOk Try.prog 16 tE16 := .s (by kernel_rfl) Try.underlying16
def tE17 : TyI := ⟨.ptr 82, 1, 8, [.pointer none], false⟩
theorem ty17 : TyOk Try.prog 17 tE17 := .s (by kernel_rfl) Try.underlying17
def tE18 : TyI := ⟨.struct [(0, 17)], 1, 8, [.pointer none], false⟩
theorem ty18 : TyOk Try.prog 18 tE18 := .g (by kernel_rfl) ⟨_, Try.underlying18, rfl⟩
theorem ty19 : TyOk Try.prog 19 tE18 := .g (by kernel_rfl) ⟨_, Try.underlying19, rfl⟩
def tE21 : TyI := ⟨.int .i32, 1, 4, [.int .i32 0], false⟩
theorem ty21 : TyOk Try.prog 21 tE21 := .s (by kernel_rfl) Try.underlying21
def tE22 : TyI := ⟨.slice 29, 1, 24, [.slice none 0 0], false⟩
theorem ty22 : TyOk Try.prog 22 tE22 := .s (by kernel_rfl) Try.underlying22
def tE23 : TyI := ⟨.ptr 59, 1, 8, [.pointer none], false⟩
theorem ty23 : TyOk Try.prog 23 tE23 := .s (by kernel_rfl) Try.underlying23
def tE25 : TyI := ⟨.ptr 34, 1, 8, [.pointer none], false⟩
theorem ty25 : TyOk Try.prog 25 tE25 := .s (by kernel_rfl) Try.underlying25
theorem ty27 : TyOk Try.prog 27 tE12 := .s (by kernel_rfl) Try.underlying27
def tE28 : TyI := ⟨.struct [(0, 3), (1, 3), (2, 3), (3, 3), (4, 27)], 5, 40, [.int .i64 0, .int .i64 0, .int .i64 0, .int .i64 0, .int .u64 0], false⟩
theorem ty28 : TyOk Try.prog 28 tE28 := .g (by kernel_rfl) ⟨_, Try.underlying28, rfl⟩
def tE29 : TyI := ⟨.struct [(0, 3), (1, 3), (2, 3), (3, 3), (4, 27)], 5, 40, [.int .i64 0, .int .i64 0, .int .i64 0, .int .i64 0, .int .u64 0], true⟩
theorem ty29 : TyOk Try.prog 29 tE29 := .g (by kernel_rfl) ⟨_, Try.underlying29, rfl⟩ (fun _ => by unfold EqTy; exact ⟨by kernel_rfl, by kernel_rfl, by kernel_rfl⟩)
def tE32 : TyI := ⟨.slice 40, 1, 24, [.slice none 0 0], false⟩
theorem ty32 : TyOk Try.prog 32 tE32 := .s (by kernel_rfl) Try.underlying32
def tE33 : TyI := ⟨.struct [(0, 32), (1, 3), (2, 3), (3, 3)], 4, 48, [.slice none 0 0, .int .i64 0, .int .i64 0, .int .i64 0], false⟩
theorem ty33 : TyOk Try.prog 33 tE33 := .g (by kernel_rfl) ⟨_, Try.underlying33, rfl⟩
theorem ty34 : TyOk Try.prog 34 tE33 := .g (by kernel_rfl) ⟨_, Try.underlying34, rfl⟩
def tE40 : TyI := ⟨.slice 27, 1, 24, [.slice none 0 0], false⟩
theorem ty40 : TyOk Try.prog 40 tE40 := .s (by kernel_rfl) Try.underlying40
def tE45 : TyI := ⟨.slice 3, 1, 24, [.slice none 0 0], false⟩
theorem ty45 : TyOk Try.prog 45 tE45 := .s (by kernel_rfl) Try.underlying45
def tE46 : TyI := ⟨.slice 49, 1, 24, [.slice none 0 0], false⟩
theorem ty46 : TyOk Try.prog 46 tE46 := .s (by kernel_rfl) Try.underlying46
def tE49 : TyI := ⟨.arr 3 3, 3, 24, [.int .i64 0, .int .i64 0, .int .i64 0], true⟩
theorem ty49 : TyOk Try.prog 49 tE49 := .g (by kernel_rfl) Try.underlying49 (fun _ => by unfold EqTy; exact ⟨by kernel_rfl, by kernel_rfl, by kernel_rfl⟩)
def tE58 : TyI := ⟨.struct [(0, 32), (1, 3), (2, 3)], 3, 40, [.slice none 0 0, .int .i64 0, .int .i64 0], false⟩
theorem ty58 : TyOk Try.prog 58 tE58 := .g (by kernel_rfl) ⟨_, Try.underlying58, rfl⟩
theorem ty59 : TyOk Try.prog 59 tE58 := .g (by kernel_rfl) ⟨_, Try.underlying59, rfl⟩
def tE69 : TyI := ⟨.struct [(0, 17), (1, 17), (2, 17), (3, 9)], 4, 40, [.pointer none, .pointer none, .pointer none, .string ByteArray.empty], false⟩
theorem ty69 : TyOk Try.prog 69 tE69 := .g (by kernel_rfl) ⟨_, Try.underlying69, rfl⟩
theorem ty70 : TyOk Try.prog 70 tE69 := .g (by kernel_rfl) ⟨_, Try.underlying70, rfl⟩
def tE74 : TyI := ⟨.int .u32, 1, 4, [.int .u32 0], false⟩
theorem ty74 : TyOk Try.prog 74 tE74 := .s (by kernel_rfl) Try.underlying74
theorem ty75 : TyOk Try.prog 75 tE5 := .s (by kernel_rfl) Try.underlying75
theorem ty76 : TyOk Try.prog 76 tE5 := .s (by kernel_rfl) Try.underlying76
def tE78 : TyI := ⟨.ptr 5, 1, 8, [.pointer none], false⟩
theorem ty78 : TyOk Try.prog 78 tE78 := .s (by kernel_rfl) Try.underlying78
theorem ty79 : TyOk Try.prog 79 tE21 := .s (by kernel_rfl) Try.underlying79
theorem ty80 : TyOk Try.prog 80 tE21 := .s (by kernel_rfl) Try.underlying80
def tabL : List (Nat × TyI) := [(2, tE2), (3, tE2), (4, tE4), (5, tE5), (6, tE5), (7, tE7), (8, tE7), (9, tE9), (10, tE9), (11, tE9), (12, tE12), (13, tE13), (14, tE13), (15, tE15), (16, tE16), (17, tE17), (18, tE18), (19, tE18), (21, tE21), (22, tE22), (23, tE23), (25, tE25), (27, tE12), (28, tE28), (29, tE29), (32, tE32), (33, tE33), (34, tE33), (40, tE40), (45, tE45), (46, tE46), (49, tE49), (58, tE58), (59, tE58), (69, tE69), (70, tE69), (74, tE74), (75, tE5), (76, tE5), (78, tE78), (79, tE21), (80, tE21)]
def tab : Tab := fun t => tabL.lookup t
theorem tab_ok : TabOk Try.prog tab := fun t i h => by
  have hm := lookup_mem _ h
  unfold tabL at hm
  simp only [List.mem_cons, Prod.mk.injEq, List.not_mem_nil, or_false] at hm
  rcases hm with ⟨rfl, rfl⟩ | ⟨rfl, rfl⟩ | ⟨rfl, rfl⟩ | ⟨rfl, rfl⟩ | ⟨rfl, rfl⟩ | ⟨rfl, rfl⟩ | ⟨rfl, rfl⟩ | ⟨rfl, rfl⟩ | ⟨rfl, rfl⟩ | ⟨rfl, rfl⟩ | ⟨rfl, rfl⟩ | ⟨rfl, rfl⟩ | ⟨rfl, rfl⟩ | ⟨rfl, rfl⟩ | ⟨rfl, rfl⟩ | ⟨rfl, rfl⟩ | ⟨rfl, rfl⟩ | ⟨rfl, rfl⟩ | ⟨rfl, rfl⟩ | ⟨rfl, rfl⟩ | ⟨rfl, rfl⟩ | ⟨rfl, rfl⟩ | ⟨rfl, rfl⟩ | ⟨rfl, rfl⟩ | ⟨rfl, rfl⟩ | ⟨rfl, rfl⟩ | ⟨rfl, rfl⟩ | ⟨rfl, rfl⟩ | ⟨rfl, rfl⟩ | ⟨rfl, rfl⟩ | ⟨rfl, rfl⟩ | ⟨rfl, rfl⟩ | ⟨rfl, rfl⟩ | ⟨rfl, rfl⟩ | ⟨rfl, rfl⟩ | ⟨rfl, rfl⟩ | ⟨rfl, rfl⟩ | ⟨rfl, rfl⟩ | ⟨rfl, rfl⟩ | ⟨rfl, rfl⟩ | ⟨rfl, rfl⟩ | ⟨rfl, rfl⟩
  · exact ty2
  · exact ty3
  · exact ty4
  · exact ty5
  · exact ty6
  · exact ty7
  · exact ty8
  · exact ty9
  · exact ty10
  · exact ty11
  · exact ty12
  · exact ty13
  · exact ty14
  · exact ty15
  · exact ty16
  · exact ty17
  · exact ty18
  · exact ty19
  · exact ty21
  · exact ty22
  · exact ty23
  · exact ty25
  · exact ty27
  · exact ty28
  · exact ty29
  · exact ty32
  · exact ty33
  · exact ty34
  · exact ty40
  · exact ty45
  · exact ty46
  · exact ty49
  · exact ty58
  · exact ty59
  · exact ty69
  · exact ty70
  · exact ty74
  · exact ty75
  · exact ty76
  · exact ty78
  · exact ty79
  · exact ty80
theorem tab2 : tab 2 = some ⟨.int .i64, 1, 8, [.int .i64 0], false⟩ := rfl
theorem tab3 : tab 3 = some ⟨.int .i64, 1, 8, [.int .i64 0], false⟩ := rfl
theorem tab4 : tab 4 = some ⟨.bool, 1, 1, [.bool false], false⟩ := rfl
theorem tab5 : tab 5 = some ⟨.int .u8, 1, 1, [.int .u8 0], false⟩ := rfl
theorem tab6 : tab 6 = some ⟨.int .u8, 1, 1, [.int .u8 0], false⟩ := rfl
theorem tab7 : tab 7 = some ⟨.struct [(0, 2), (1, 3), (2, 4), (3, 6)], 4, 24, [.int .i64 0, .int .i64 0, .bool false, .int .u8 0], false⟩ := rfl
theorem tab8 : tab 8 = some ⟨.struct [(0, 2), (1, 3), (2, 4), (3, 6)], 4, 24, [.int .i64 0, .int .i64 0, .bool false, .int .u8 0], false⟩ := rfl
theorem tab9 : tab 9 = some ⟨.str, 1, 16, [.string ByteArray.empty], false⟩ := rfl
theorem tab10 : tab 10 = some ⟨.str, 1, 16, [.string ByteArray.empty], false⟩ := rfl
theorem tab11 : tab 11 = some ⟨.str, 1, 16, [.string ByteArray.empty], false⟩ := rfl
theorem tab12 : tab 12 = some ⟨.int .u64, 1, 8, [.int .u64 0], false⟩ := rfl
theorem tab13 : tab 13 = some ⟨.struct [(0, 9), (1, 12)], 2, 24, [.string ByteArray.empty, .int .u64 0], false⟩ := rfl
theorem tab14 : tab 14 = some ⟨.struct [(0, 9), (1, 12)], 2, 24, [.string ByteArray.empty, .int .u64 0], false⟩ := rfl
theorem tab15 : tab 15 = some ⟨.ptr 70, 1, 8, [.pointer none], false⟩ := rfl
theorem tab16 : tab 16 = some ⟨.ptr 73, 1, 8, [.pointer none], false⟩ := rfl
theorem tab17 : tab 17 = some ⟨.ptr 82, 1, 8, [.pointer none], false⟩ := rfl
theorem tab18 : tab 18 = some ⟨.struct [(0, 17)], 1, 8, [.pointer none], false⟩ := rfl
theorem tab19 : tab 19 = some ⟨.struct [(0, 17)], 1, 8, [.pointer none], false⟩ := rfl
theorem tab21 : tab 21 = some ⟨.int .i32, 1, 4, [.int .i32 0], false⟩ := rfl
theorem tab22 : tab 22 = some ⟨.slice 29, 1, 24, [.slice none 0 0], false⟩ := rfl
theorem tab23 : tab 23 = some ⟨.ptr 59, 1, 8, [.pointer none], false⟩ := rfl
theorem tab25 : tab 25 = some ⟨.ptr 34, 1, 8, [.pointer none], false⟩ := rfl
theorem tab27 : tab 27 = some ⟨.int .u64, 1, 8, [.int .u64 0], false⟩ := rfl
theorem tab28 : tab 28 = some ⟨.struct [(0, 3), (1, 3), (2, 3), (3, 3), (4, 27)], 5, 40, [.int .i64 0, .int .i64 0, .int .i64 0, .int .i64 0, .int .u64 0], false⟩ := rfl
theorem tab29 : tab 29 = some ⟨.struct [(0, 3), (1, 3), (2, 3), (3, 3), (4, 27)], 5, 40, [.int .i64 0, .int .i64 0, .int .i64 0, .int .i64 0, .int .u64 0], true⟩ := rfl
theorem tab32 : tab 32 = some ⟨.slice 40, 1, 24, [.slice none 0 0], false⟩ := rfl
theorem tab33 : tab 33 = some ⟨.struct [(0, 32), (1, 3), (2, 3), (3, 3)], 4, 48, [.slice none 0 0, .int .i64 0, .int .i64 0, .int .i64 0], false⟩ := rfl
theorem tab34 : tab 34 = some ⟨.struct [(0, 32), (1, 3), (2, 3), (3, 3)], 4, 48, [.slice none 0 0, .int .i64 0, .int .i64 0, .int .i64 0], false⟩ := rfl
theorem tab40 : tab 40 = some ⟨.slice 27, 1, 24, [.slice none 0 0], false⟩ := rfl
theorem tab45 : tab 45 = some ⟨.slice 3, 1, 24, [.slice none 0 0], false⟩ := rfl
theorem tab46 : tab 46 = some ⟨.slice 49, 1, 24, [.slice none 0 0], false⟩ := rfl
theorem tab49 : tab 49 = some ⟨.arr 3 3, 3, 24, [.int .i64 0, .int .i64 0, .int .i64 0], true⟩ := rfl
theorem tab58 : tab 58 = some ⟨.struct [(0, 32), (1, 3), (2, 3)], 3, 40, [.slice none 0 0, .int .i64 0, .int .i64 0], false⟩ := rfl
theorem tab59 : tab 59 = some ⟨.struct [(0, 32), (1, 3), (2, 3)], 3, 40, [.slice none 0 0, .int .i64 0, .int .i64 0], false⟩ := rfl
theorem tab69 : tab 69 = some ⟨.struct [(0, 17), (1, 17), (2, 17), (3, 9)], 4, 40, [.pointer none, .pointer none, .pointer none, .string ByteArray.empty], false⟩ := rfl
theorem tab70 : tab 70 = some ⟨.struct [(0, 17), (1, 17), (2, 17), (3, 9)], 4, 40, [.pointer none, .pointer none, .pointer none, .string ByteArray.empty], false⟩ := rfl
theorem tab74 : tab 74 = some ⟨.int .u32, 1, 4, [.int .u32 0], false⟩ := rfl
theorem tab75 : tab 75 = some ⟨.int .u8, 1, 1, [.int .u8 0], false⟩ := rfl
theorem tab76 : tab 76 = some ⟨.int .u8, 1, 1, [.int .u8 0], false⟩ := rfl
theorem tab78 : tab 78 = some ⟨.ptr 5, 1, 8, [.pointer none], false⟩ := rfl
theorem tab79 : tab 79 = some ⟨.int .i32, 1, 4, [.int .i32 0], false⟩ := rfl
theorem tab80 : tab 80 = some ⟨.int .i32, 1, 4, [.int .i32 0], false⟩ := rfl
theorem tkind2 : tkind tab 2 = some (.int .i64) := rfl
theorem tkind3 : tkind tab 3 = some (.int .i64) := rfl
theorem tkind4 : tkind tab 4 = some (.bool) := rfl
theorem tkind5 : tkind tab 5 = some (.int .u8) := rfl
theorem tkind6 : tkind tab 6 = some (.int .u8) := rfl
theorem tkind7 : tkind tab 7 = some (.struct [(0, 2), (1, 3), (2, 4), (3, 6)]) := rfl
theorem tkind8 : tkind tab 8 = some (.struct [(0, 2), (1, 3), (2, 4), (3, 6)]) := rfl
theorem tkind9 : tkind tab 9 = some (.str) := rfl
theorem tkind10 : tkind tab 10 = some (.str) := rfl
theorem tkind11 : tkind tab 11 = some (.str) := rfl
theorem tkind12 : tkind tab 12 = some (.int .u64) := rfl
theorem tkind13 : tkind tab 13 = some (.struct [(0, 9), (1, 12)]) := rfl
theorem tkind14 : tkind tab 14 = some (.struct [(0, 9), (1, 12)]) := rfl
theorem tkind15 : tkind tab 15 = some (.ptr 70) := rfl
theorem tkind16 : tkind tab 16 = some (.ptr 73) := rfl
theorem tkind17 : tkind tab 17 = some (.ptr 82) := rfl
theorem tkind18 : tkind tab 18 = some (.struct [(0, 17)]) := rfl
theorem tkind19 : tkind tab 19 = some (.struct [(0, 17)]) := rfl
theorem tkind21 : tkind tab 21 = some (.int .i32) := rfl
theorem tkind22 : tkind tab 22 = some (.slice 29) := rfl
theorem tkind23 : tkind tab 23 = some (.ptr 59) := rfl
theorem tkind25 : tkind tab 25 = some (.ptr 34) := rfl
theorem tkind27 : tkind tab 27 = some (.int .u64) := rfl
theorem tkind28 : tkind tab 28 = some (.struct [(0, 3), (1, 3), (2, 3), (3, 3), (4, 27)]) := rfl
theorem tkind29 : tkind tab 29 = some (.struct [(0, 3), (1, 3), (2, 3), (3, 3), (4, 27)]) := rfl
theorem tkind32 : tkind tab 32 = some (.slice 40) := rfl
theorem tkind33 : tkind tab 33 = some (.struct [(0, 32), (1, 3), (2, 3), (3, 3)]) := rfl
theorem tkind34 : tkind tab 34 = some (.struct [(0, 32), (1, 3), (2, 3), (3, 3)]) := rfl
theorem tkind40 : tkind tab 40 = some (.slice 27) := rfl
theorem tkind45 : tkind tab 45 = some (.slice 3) := rfl
theorem tkind46 : tkind tab 46 = some (.slice 49) := rfl
theorem tkind49 : tkind tab 49 = some (.arr 3 3) := rfl
theorem tkind58 : tkind tab 58 = some (.struct [(0, 32), (1, 3), (2, 3)]) := rfl
theorem tkind59 : tkind tab 59 = some (.struct [(0, 32), (1, 3), (2, 3)]) := rfl
theorem tkind69 : tkind tab 69 = some (.struct [(0, 17), (1, 17), (2, 17), (3, 9)]) := rfl
theorem tkind70 : tkind tab 70 = some (.struct [(0, 17), (1, 17), (2, 17), (3, 9)]) := rfl
theorem tkind74 : tkind tab 74 = some (.int .u32) := rfl
theorem tkind75 : tkind tab 75 = some (.int .u8) := rfl
theorem tkind76 : tkind tab 76 = some (.int .u8) := rfl
theorem tkind78 : tkind tab 78 = some (.ptr 5) := rfl
theorem tkind79 : tkind tab 79 = some (.int .i32) := rfl
theorem tkind80 : tkind tab 80 = some (.int .i32) := rfl
theorem dok : DOk Try.prog (gquiet Try.prog tab) := gquiet_ok tab_ok (by kernel_rfl)
end Go.Proofs.Ytpggbianhdebmaa
