/- The types of this seat's program, as its dump has them, in the ghost memory's words; no condition. -/
import Derived.Test.YtkdanjfmobibbaaRows
import Derived.Test.YtkdanjfmobibbaaG16
namespace Go.Proofs.Ytkdanjfmobibbaa
open Go.RowKit
set_option linter.unusedVariables false
set_option linter.unusedSimpArgs false
theorem TyOk.of {P : Program} {t : TypeId} (k : TK) (size bytes : Nat) (zero : List Value) (z : Value) (h : (P.info? t).map (fun i => (i.zero, i.size, i.bytes)) = some (some z, size, bytes)) (hz : z.cells.toList = zero) (hu : k.ok P t) (hl : zero.length = size) (h1 : zero.all Value.oneCell' = true) (eq : Bool) (he : eq = true → EqTy P t) : TyOk P t ⟨k, size, bytes, zero, eq⟩ := by
  refine ⟨?_, hu, hl, fun v hv => List.all_eq_true.1 h1 v hv, he⟩
  cases hi : P.info? t with
  | none => rw [hi] at h; cases h
  | some i =>
    rw [hi] at h
    simp only [Option.map_some, Option.some.injEq, Prod.mk.injEq] at h
    exact ⟨i, z, rfl, h.2.1, h.2.2, h.1, hz⟩
theorem lookup_mem {α : Type} {t : Nat} {i : α} : ∀ (l : List (Nat × α)), l.lookup t = some i → (t, i) ∈ l
  | [], h => by simp at h
  | (a, b) :: l, h => by
    rw [List.lookup_cons] at h
    split at h
    · rename_i he
      injection h with h
      have : t = a := by simpa using he
      subst h this
      exact .head _
    · exact .tail _ (lookup_mem l h)
theorem ty2 : TyOk Try.prog 2 ⟨.int .i64, 1, 8, [.int .i64 0], false⟩ := TyOk.of (P := Try.prog) (t := 2) (.int .i64) 1 8 [.int .i64 0] (.int .i64 0) (by kernel_rfl) rfl Try.underlying2 rfl rfl false (fun h => by cases h)
theorem ty3 : TyOk Try.prog 3 ⟨.int .i64, 1, 8, [.int .i64 0], false⟩ := TyOk.of (P := Try.prog) (t := 3) (.int .i64) 1 8 [.int .i64 0] (.int .i64 0) (by kernel_rfl) rfl Try.underlying3 rfl rfl false (fun h => by cases h)
theorem ty4 : TyOk Try.prog 4 ⟨.bool, 1, 1, [.bool false], false⟩ := TyOk.of (P := Try.prog) (t := 4) (.bool) 1 1 [.bool false] (.bool false) (by kernel_rfl) rfl Try.underlying4 rfl rfl false (fun h => by cases h)
theorem ty5 : TyOk Try.prog 5 ⟨.int .u8, 1, 1, [.int .u8 0], false⟩ := TyOk.of (P := Try.prog) (t := 5) (.int .u8) 1 1 [.int .u8 0] (.int .u8 0) (by kernel_rfl) rfl Try.underlying5 rfl rfl false (fun h => by cases h)
theorem ty6 : TyOk Try.prog 6 ⟨.int .u8, 1, 1, [.int .u8 0], false⟩ := TyOk.of (P := Try.prog) (t := 6) (.int .u8) 1 1 [.int .u8 0] (.int .u8 0) (by kernel_rfl) rfl Try.underlying6 rfl rfl false (fun h => by cases h)
theorem ty7 : TyOk Try.prog 7 ⟨.struct [(0, 2), (1, 3), (2, 4), (3, 6)], 4, 24, [.int .i64 0, .int .i64 0, .bool false, .int .u8 0], false⟩ := TyOk.of (P := Try.prog) (t := 7) (.struct [(0, 2), (1, 3), (2, 4), (3, 6)]) 4 24 [.int .i64 0, .int .i64 0, .bool false, .int .u8 0] (.agg #[.int .i64 0, .int .i64 0, .bool false, .int .u8 0]) (by kernel_rfl) rfl ⟨_, Try.underlying7, rfl⟩ rfl rfl false (fun h => by cases h)
theorem ty8 : TyOk Try.prog 8 ⟨.struct [(0, 2), (1, 3), (2, 4), (3, 6)], 4, 24, [.int .i64 0, .int .i64 0, .bool false, .int .u8 0], false⟩ := TyOk.of (P := Try.prog) (t := 8) (.struct [(0, 2), (1, 3), (2, 4), (3, 6)]) 4 24 [.int .i64 0, .int .i64 0, .bool false, .int .u8 0] (.agg #[.int .i64 0, .int .i64 0, .bool false, .int .u8 0]) (by kernel_rfl) rfl ⟨_, Try.underlying8, rfl⟩ rfl rfl false (fun h => by cases h)
theorem ty9 : TyOk Try.prog 9 ⟨.str, 1, 16, [.string ByteArray.empty], false⟩ := TyOk.of (P := Try.prog) (t := 9) (.str) 1 16 [.string ByteArray.empty] (.string ByteArray.empty) (by kernel_rfl) rfl Try.underlying9 rfl rfl false (fun h => by cases h)
theorem ty10 : TyOk Try.prog 10 ⟨.str, 1, 16, [.string ByteArray.empty], false⟩ := TyOk.of (P := Try.prog) (t := 10) (.str) 1 16 [.string ByteArray.empty] (.string ByteArray.empty) (by kernel_rfl) rfl Try.underlying10 rfl rfl false (fun h => by cases h)
theorem ty11 : TyOk Try.prog 11 ⟨.str, 1, 16, [.string ByteArray.empty], false⟩ := TyOk.of (P := Try.prog) (t := 11) (.str) 1 16 [.string ByteArray.empty] (.string ByteArray.empty) (by kernel_rfl) rfl Try.underlying11 rfl rfl false (fun h => by cases h)
theorem ty12 : TyOk Try.prog 12 ⟨.int .u64, 1, 8, [.int .u64 0], false⟩ := TyOk.of (P := Try.prog) (t := 12) (.int .u64) 1 8 [.int .u64 0] (.int .u64 0) (by kernel_rfl) rfl Try.underlying12 rfl rfl false (fun h => by cases h)
theorem ty13 : TyOk Try.prog 13 ⟨.struct [(0, 9), (1, 12)], 2, 24, [.string ByteArray.empty, .int .u64 0], false⟩ := TyOk.of (P := Try.prog) (t := 13) (.struct [(0, 9), (1, 12)]) 2 24 [.string ByteArray.empty, .int .u64 0] (.agg #[.string ByteArray.empty, .int .u64 0]) (by kernel_rfl) rfl ⟨_, Try.underlying13, rfl⟩ rfl rfl false (fun h => by cases h)
theorem ty14 : TyOk Try.prog 14 ⟨.struct [(0, 9), (1, 12)], 2, 24, [.string ByteArray.empty, .int .u64 0], false⟩ := TyOk.of (P := Try.prog) (t := 14) (.struct [(0, 9), (1, 12)]) 2 24 [.string ByteArray.empty, .int .u64 0] (.agg #[.string ByteArray.empty, .int .u64 0]) (by kernel_rfl) rfl ⟨_, Try.underlying14, rfl⟩ rfl rfl false (fun h => by cases h)
theorem ty15 : TyOk Try.prog 15 ⟨.ptr 180, 1, 8, [.pointer none], false⟩ := TyOk.of (P := Try.prog) (t := 15) (.ptr 180) 1 8 [.pointer none] (.pointer none) (by kernel_rfl) rfl Try.underlying15 rfl rfl false (fun h => by cases h)
theorem ty16 : TyOk Try.prog 16 ⟨.ptr 183, 1, 8, [.pointer none], false⟩ := TyOk.of (P := Try.prog) (t := 16) (.ptr 183) 1 8 [.pointer none] (.pointer none) (by kernel_rfl) rfl Try.underlying16 rfl rfl false (fun h => by cases h)
theorem ty17 : TyOk Try.prog 17 ⟨.ptr 191, 1, 8, [.pointer none], false⟩ := TyOk.of (P := Try.prog) (t := 17) (.ptr 191) 1 8 [.pointer none] (.pointer none) (by kernel_rfl) rfl Try.underlying17 rfl rfl false (fun h => by cases h)
theorem ty18 : TyOk Try.prog 18 ⟨.struct [(0, 17)], 1, 8, [.pointer none], false⟩ := TyOk.of (P := Try.prog) (t := 18) (.struct [(0, 17)]) 1 8 [.pointer none] (.agg #[.pointer none]) (by kernel_rfl) rfl ⟨_, Try.underlying18, rfl⟩ rfl rfl false (fun h => by cases h)
theorem ty19 : TyOk Try.prog 19 ⟨.struct [(0, 17)], 1, 8, [.pointer none], false⟩ := TyOk.of (P := Try.prog) (t := 19) (.struct [(0, 17)]) 1 8 [.pointer none] (.agg #[.pointer none]) (by kernel_rfl) rfl ⟨_, Try.underlying19, rfl⟩ rfl rfl false (fun h => by cases h)
theorem ty21 : TyOk Try.prog 21 ⟨.int .i32, 1, 4, [.int .i32 0], false⟩ := TyOk.of (P := Try.prog) (t := 21) (.int .i32) 1 4 [.int .i32 0] (.int .i32 0) (by kernel_rfl) rfl Try.underlying21 rfl rfl false (fun h => by cases h)
theorem ty22 : TyOk Try.prog 22 ⟨.slice 3, 1, 24, [.slice none 0 0], false⟩ := TyOk.of (P := Try.prog) (t := 22) (.slice 3) 1 24 [.slice none 0 0] (.slice none 0 0) (by kernel_rfl) rfl Try.underlying22 rfl rfl false (fun h => by cases h)
theorem ty23 : TyOk Try.prog 23 ⟨.ptr 105, 1, 8, [.pointer none], false⟩ := TyOk.of (P := Try.prog) (t := 23) (.ptr 105) 1 8 [.pointer none] (.pointer none) (by kernel_rfl) rfl Try.underlying23 rfl rfl false (fun h => by cases h)
theorem ty25 : TyOk Try.prog 25 ⟨.slice 28, 1, 24, [.slice none 0 0], false⟩ := TyOk.of (P := Try.prog) (t := 25) (.slice 28) 1 24 [.slice none 0 0] (.slice none 0 0) (by kernel_rfl) rfl Try.underlying25 rfl rfl false (fun h => by cases h)
theorem ty28 : TyOk Try.prog 28 ⟨.arr 3 3, 3, 24, [.int .i64 0, .int .i64 0, .int .i64 0], true⟩ := TyOk.of (P := Try.prog) (t := 28) (.arr 3 3) 3 24 [.int .i64 0, .int .i64 0, .int .i64 0] (.agg #[.int .i64 0, .int .i64 0, .int .i64 0]) (by kernel_rfl) rfl Try.underlying28 rfl rfl true (fun _ => by unfold EqTy; exact ⟨by kernel_rfl, by kernel_rfl, by kernel_rfl⟩)
theorem ty33 : TyOk Try.prog 33 ⟨.int .u64, 1, 8, [.int .u64 0], false⟩ := TyOk.of (P := Try.prog) (t := 33) (.int .u64) 1 8 [.int .u64 0] (.int .u64 0) (by kernel_rfl) rfl Try.underlying33 rfl rfl false (fun h => by cases h)
theorem ty34 : TyOk Try.prog 34 ⟨.struct [(0, 3), (1, 3), (2, 3), (3, 3), (4, 33)], 5, 40, [.int .i64 0, .int .i64 0, .int .i64 0, .int .i64 0, .int .u64 0], false⟩ := TyOk.of (P := Try.prog) (t := 34) (.struct [(0, 3), (1, 3), (2, 3), (3, 3), (4, 33)]) 5 40 [.int .i64 0, .int .i64 0, .int .i64 0, .int .i64 0, .int .u64 0] (.agg #[.int .i64 0, .int .i64 0, .int .i64 0, .int .i64 0, .int .u64 0]) (by kernel_rfl) rfl ⟨_, Try.underlying34, rfl⟩ rfl rfl false (fun h => by cases h)
theorem ty35 : TyOk Try.prog 35 ⟨.struct [(0, 3), (1, 3), (2, 3), (3, 3), (4, 33)], 5, 40, [.int .i64 0, .int .i64 0, .int .i64 0, .int .i64 0, .int .u64 0], true⟩ := TyOk.of (P := Try.prog) (t := 35) (.struct [(0, 3), (1, 3), (2, 3), (3, 3), (4, 33)]) 5 40 [.int .i64 0, .int .i64 0, .int .i64 0, .int .i64 0, .int .u64 0] (.agg #[.int .i64 0, .int .i64 0, .int .i64 0, .int .i64 0, .int .u64 0]) (by kernel_rfl) rfl ⟨_, Try.underlying35, rfl⟩ rfl rfl true (fun _ => by unfold EqTy; exact ⟨by kernel_rfl, by kernel_rfl, by kernel_rfl⟩)
theorem ty38 : TyOk Try.prog 38 ⟨.slice 33, 1, 24, [.slice none 0 0], false⟩ := TyOk.of (P := Try.prog) (t := 38) (.slice 33) 1 24 [.slice none 0 0] (.slice none 0 0) (by kernel_rfl) rfl Try.underlying38 rfl rfl false (fun h => by cases h)
theorem ty45 : TyOk Try.prog 45 ⟨.slice 38, 1, 24, [.slice none 0 0], false⟩ := TyOk.of (P := Try.prog) (t := 45) (.slice 38) 1 24 [.slice none 0 0] (.slice none 0 0) (by kernel_rfl) rfl Try.underlying45 rfl rfl false (fun h => by cases h)
theorem ty48 : TyOk Try.prog 48 ⟨.slice 56, 1, 24, [.slice none 0 0], false⟩ := TyOk.of (P := Try.prog) (t := 48) (.slice 56) 1 24 [.slice none 0 0] (.slice none 0 0) (by kernel_rfl) rfl Try.underlying48 rfl rfl false (fun h => by cases h)
theorem ty50 : TyOk Try.prog 50 ⟨.slice 110, 1, 24, [.slice none 0 0], false⟩ := TyOk.of (P := Try.prog) (t := 50) (.slice 110) 1 24 [.slice none 0 0] (.slice none 0 0) (by kernel_rfl) rfl Try.underlying50 rfl rfl false (fun h => by cases h)
theorem ty55 : TyOk Try.prog 55 ⟨.struct [(0, 3), (1, 3)], 2, 16, [.int .i64 0, .int .i64 0], false⟩ := TyOk.of (P := Try.prog) (t := 55) (.struct [(0, 3), (1, 3)]) 2 16 [.int .i64 0, .int .i64 0] (.agg #[.int .i64 0, .int .i64 0]) (by kernel_rfl) rfl ⟨_, Try.underlying55, rfl⟩ rfl rfl false (fun h => by cases h)
theorem ty56 : TyOk Try.prog 56 ⟨.struct [(0, 3), (1, 3)], 2, 16, [.int .i64 0, .int .i64 0], true⟩ := TyOk.of (P := Try.prog) (t := 56) (.struct [(0, 3), (1, 3)]) 2 16 [.int .i64 0, .int .i64 0] (.agg #[.int .i64 0, .int .i64 0]) (by kernel_rfl) rfl ⟨_, Try.underlying56, rfl⟩ rfl rfl true (fun _ => by unfold EqTy; exact ⟨by kernel_rfl, by kernel_rfl, by kernel_rfl⟩)
theorem ty73 : TyOk Try.prog 73 ⟨.slice 22, 1, 24, [.slice none 0 0], false⟩ := TyOk.of (P := Try.prog) (t := 73) (.slice 22) 1 24 [.slice none 0 0] (.slice none 0 0) (by kernel_rfl) rfl Try.underlying73 rfl rfl false (fun h => by cases h)
theorem ty75 : TyOk Try.prog 75 ⟨.slice 80, 1, 24, [.slice none 0 0], false⟩ := TyOk.of (P := Try.prog) (t := 75) (.slice 80) 1 24 [.slice none 0 0] (.slice none 0 0) (by kernel_rfl) rfl Try.underlying75 rfl rfl false (fun h => by cases h)
theorem ty77 : TyOk Try.prog 77 ⟨.slice 81, 1, 24, [.slice none 0 0], false⟩ := TyOk.of (P := Try.prog) (t := 77) (.slice 81) 1 24 [.slice none 0 0] (.slice none 0 0) (by kernel_rfl) rfl Try.underlying77 rfl rfl false (fun h => by cases h)
theorem ty79 : TyOk Try.prog 79 ⟨.struct [(0, 3), (1, 3)], 2, 16, [.int .i64 0, .int .i64 0], false⟩ := TyOk.of (P := Try.prog) (t := 79) (.struct [(0, 3), (1, 3)]) 2 16 [.int .i64 0, .int .i64 0] (.agg #[.int .i64 0, .int .i64 0]) (by kernel_rfl) rfl ⟨_, Try.underlying79, rfl⟩ rfl rfl false (fun h => by cases h)
theorem ty80 : TyOk Try.prog 80 ⟨.struct [(0, 3), (1, 3)], 2, 16, [.int .i64 0, .int .i64 0], true⟩ := TyOk.of (P := Try.prog) (t := 80) (.struct [(0, 3), (1, 3)]) 2 16 [.int .i64 0, .int .i64 0] (.agg #[.int .i64 0, .int .i64 0]) (by kernel_rfl) rfl ⟨_, Try.underlying80, rfl⟩ rfl rfl true (fun _ => by unfold EqTy; exact ⟨by kernel_rfl, by kernel_rfl, by kernel_rfl⟩)
theorem ty81 : TyOk Try.prog 81 ⟨.struct [(0, 3), (1, 3)], 2, 16, [.int .i64 0, .int .i64 0], true⟩ := TyOk.of (P := Try.prog) (t := 81) (.struct [(0, 3), (1, 3)]) 2 16 [.int .i64 0, .int .i64 0] (.agg #[.int .i64 0, .int .i64 0]) (by kernel_rfl) rfl ⟨_, Try.underlying81, rfl⟩ rfl rfl true (fun _ => by unfold EqTy; exact ⟨by kernel_rfl, by kernel_rfl, by kernel_rfl⟩)
theorem ty82 : TyOk Try.prog 82 ⟨.slice 92, 1, 24, [.slice none 0 0], false⟩ := TyOk.of (P := Try.prog) (t := 82) (.slice 92) 1 24 [.slice none 0 0] (.slice none 0 0) (by kernel_rfl) rfl Try.underlying82 rfl rfl false (fun h => by cases h)
theorem ty83 : TyOk Try.prog 83 ⟨.ptr 142, 1, 8, [.pointer none], false⟩ := TyOk.of (P := Try.prog) (t := 83) (.ptr 142) 1 8 [.pointer none] (.pointer none) (by kernel_rfl) rfl Try.underlying83 rfl rfl false (fun h => by cases h)
theorem ty85 : TyOk Try.prog 85 ⟨.ptr 89, 1, 8, [.pointer none], false⟩ := TyOk.of (P := Try.prog) (t := 85) (.ptr 89) 1 8 [.pointer none] (.pointer none) (by kernel_rfl) rfl Try.underlying85 rfl rfl false (fun h => by cases h)
theorem ty86 : TyOk Try.prog 86 ⟨.arr 16 38, 16, 384, [.slice none 0 0, .slice none 0 0, .slice none 0 0, .slice none 0 0, .slice none 0 0, .slice none 0 0, .slice none 0 0, .slice none 0 0, .slice none 0 0, .slice none 0 0, .slice none 0 0, .slice none 0 0, .slice none 0 0, .slice none 0 0, .slice none 0 0, .slice none 0 0], false⟩ := TyOk.of (P := Try.prog) (t := 86) (.arr 16 38) 16 384 [.slice none 0 0, .slice none 0 0, .slice none 0 0, .slice none 0 0, .slice none 0 0, .slice none 0 0, .slice none 0 0, .slice none 0 0, .slice none 0 0, .slice none 0 0, .slice none 0 0, .slice none 0 0, .slice none 0 0, .slice none 0 0, .slice none 0 0, .slice none 0 0] (.agg #[.slice none 0 0, .slice none 0 0, .slice none 0 0, .slice none 0 0, .slice none 0 0, .slice none 0 0, .slice none 0 0, .slice none 0 0, .slice none 0 0, .slice none 0 0, .slice none 0 0, .slice none 0 0, .slice none 0 0, .slice none 0 0, .slice none 0 0, .slice none 0 0]) (by kernel_rfl) rfl Try.underlying86 rfl rfl false (fun h => by cases h)
theorem ty87 : TyOk Try.prog 87 ⟨.arr 16 4, 16, 16, [.bool false, .bool false, .bool false, .bool false, .bool false, .bool false, .bool false, .bool false, .bool false, .bool false, .bool false, .bool false, .bool false, .bool false, .bool false, .bool false], false⟩ := TyOk.of (P := Try.prog) (t := 87) (.arr 16 4) 16 16 [.bool false, .bool false, .bool false, .bool false, .bool false, .bool false, .bool false, .bool false, .bool false, .bool false, .bool false, .bool false, .bool false, .bool false, .bool false, .bool false] (.agg #[.bool false, .bool false, .bool false, .bool false, .bool false, .bool false, .bool false, .bool false, .bool false, .bool false, .bool false, .bool false, .bool false, .bool false, .bool false, .bool false]) (by kernel_rfl) rfl Try.underlying87 rfl rfl false (fun h => by cases h)
theorem ty88 : TyOk Try.prog 88 ⟨.struct [(0, 86), (16, 87)], 32, 400, [.slice none 0 0, .slice none 0 0, .slice none 0 0, .slice none 0 0, .slice none 0 0, .slice none 0 0, .slice none 0 0, .slice none 0 0, .slice none 0 0, .slice none 0 0, .slice none 0 0, .slice none 0 0, .slice none 0 0, .slice none 0 0, .slice none 0 0, .slice none 0 0, .bool false, .bool false, .bool false, .bool false, .bool false, .bool false, .bool false, .bool false, .bool false, .bool false, .bool false, .bool false, .bool false, .bool false, .bool false, .bool false], false⟩ := TyOk.of (P := Try.prog) (t := 88) (.struct [(0, 86), (16, 87)]) 32 400 [.slice none 0 0, .slice none 0 0, .slice none 0 0, .slice none 0 0, .slice none 0 0, .slice none 0 0, .slice none 0 0, .slice none 0 0, .slice none 0 0, .slice none 0 0, .slice none 0 0, .slice none 0 0, .slice none 0 0, .slice none 0 0, .slice none 0 0, .slice none 0 0, .bool false, .bool false, .bool false, .bool false, .bool false, .bool false, .bool false, .bool false, .bool false, .bool false, .bool false, .bool false, .bool false, .bool false, .bool false, .bool false] (.agg #[.slice none 0 0, .slice none 0 0, .slice none 0 0, .slice none 0 0, .slice none 0 0, .slice none 0 0, .slice none 0 0, .slice none 0 0, .slice none 0 0, .slice none 0 0, .slice none 0 0, .slice none 0 0, .slice none 0 0, .slice none 0 0, .slice none 0 0, .slice none 0 0, .bool false, .bool false, .bool false, .bool false, .bool false, .bool false, .bool false, .bool false, .bool false, .bool false, .bool false, .bool false, .bool false, .bool false, .bool false, .bool false]) (by kernel_rfl) rfl ⟨_, Try.underlying88, rfl⟩ rfl rfl false (fun h => by cases h)
theorem ty89 : TyOk Try.prog 89 ⟨.struct [(0, 86), (16, 87)], 32, 400, [.slice none 0 0, .slice none 0 0, .slice none 0 0, .slice none 0 0, .slice none 0 0, .slice none 0 0, .slice none 0 0, .slice none 0 0, .slice none 0 0, .slice none 0 0, .slice none 0 0, .slice none 0 0, .slice none 0 0, .slice none 0 0, .slice none 0 0, .slice none 0 0, .bool false, .bool false, .bool false, .bool false, .bool false, .bool false, .bool false, .bool false, .bool false, .bool false, .bool false, .bool false, .bool false, .bool false, .bool false, .bool false], false⟩ := TyOk.of (P := Try.prog) (t := 89) (.struct [(0, 86), (16, 87)]) 32 400 [.slice none 0 0, .slice none 0 0, .slice none 0 0, .slice none 0 0, .slice none 0 0, .slice none 0 0, .slice none 0 0, .slice none 0 0, .slice none 0 0, .slice none 0 0, .slice none 0 0, .slice none 0 0, .slice none 0 0, .slice none 0 0, .slice none 0 0, .slice none 0 0, .bool false, .bool false, .bool false, .bool false, .bool false, .bool false, .bool false, .bool false, .bool false, .bool false, .bool false, .bool false, .bool false, .bool false, .bool false, .bool false] (.agg #[.slice none 0 0, .slice none 0 0, .slice none 0 0, .slice none 0 0, .slice none 0 0, .slice none 0 0, .slice none 0 0, .slice none 0 0, .slice none 0 0, .slice none 0 0, .slice none 0 0, .slice none 0 0, .slice none 0 0, .slice none 0 0, .slice none 0 0, .slice none 0 0, .bool false, .bool false, .bool false, .bool false, .bool false, .bool false, .bool false, .bool false, .bool false, .bool false, .bool false, .bool false, .bool false, .bool false, .bool false, .bool false]) (by kernel_rfl) rfl ⟨_, Try.underlying89, rfl⟩ rfl rfl false (fun h => by cases h)
theorem ty91 : TyOk Try.prog 91 ⟨.struct [(0, 3), (1, 3), (2, 22), (3, 45)], 4, 64, [.int .i64 0, .int .i64 0, .slice none 0 0, .slice none 0 0], false⟩ := TyOk.of (P := Try.prog) (t := 91) (.struct [(0, 3), (1, 3), (2, 22), (3, 45)]) 4 64 [.int .i64 0, .int .i64 0, .slice none 0 0, .slice none 0 0] (.agg #[.int .i64 0, .int .i64 0, .slice none 0 0, .slice none 0 0]) (by kernel_rfl) rfl ⟨_, Try.underlying91, rfl⟩ rfl rfl false (fun h => by cases h)
theorem ty92 : TyOk Try.prog 92 ⟨.struct [(0, 3), (1, 3), (2, 22), (3, 45)], 4, 64, [.int .i64 0, .int .i64 0, .slice none 0 0, .slice none 0 0], false⟩ := TyOk.of (P := Try.prog) (t := 92) (.struct [(0, 3), (1, 3), (2, 22), (3, 45)]) 4 64 [.int .i64 0, .int .i64 0, .slice none 0 0, .slice none 0 0] (.agg #[.int .i64 0, .int .i64 0, .slice none 0 0, .slice none 0 0]) (by kernel_rfl) rfl ⟨_, Try.underlying92, rfl⟩ rfl rfl false (fun h => by cases h)
theorem ty96 : TyOk Try.prog 96 ⟨.int .i64, 1, 8, [.int .i64 0], false⟩ := TyOk.of (P := Try.prog) (t := 96) (.int .i64) 1 8 [.int .i64 0] (.int .i64 0) (by kernel_rfl) rfl Try.underlying96 rfl rfl false (fun h => by cases h)
theorem ty104 : TyOk Try.prog 104 ⟨.struct [(0, 45), (1, 3), (2, 3)], 3, 40, [.slice none 0 0, .int .i64 0, .int .i64 0], false⟩ := TyOk.of (P := Try.prog) (t := 104) (.struct [(0, 45), (1, 3), (2, 3)]) 3 40 [.slice none 0 0, .int .i64 0, .int .i64 0] (.agg #[.slice none 0 0, .int .i64 0, .int .i64 0]) (by kernel_rfl) rfl ⟨_, Try.underlying104, rfl⟩ rfl rfl false (fun h => by cases h)
theorem ty105 : TyOk Try.prog 105 ⟨.struct [(0, 45), (1, 3), (2, 3)], 3, 40, [.slice none 0 0, .int .i64 0, .int .i64 0], false⟩ := TyOk.of (P := Try.prog) (t := 105) (.struct [(0, 45), (1, 3), (2, 3)]) 3 40 [.slice none 0 0, .int .i64 0, .int .i64 0] (.agg #[.slice none 0 0, .int .i64 0, .int .i64 0]) (by kernel_rfl) rfl ⟨_, Try.underlying105, rfl⟩ rfl rfl false (fun h => by cases h)
theorem ty110 : TyOk Try.prog 110 ⟨.struct [(0, 3), (1, 3)], 2, 16, [.int .i64 0, .int .i64 0], true⟩ := TyOk.of (P := Try.prog) (t := 110) (.struct [(0, 3), (1, 3)]) 2 16 [.int .i64 0, .int .i64 0] (.agg #[.int .i64 0, .int .i64 0]) (by kernel_rfl) rfl ⟨_, Try.underlying110, rfl⟩ rfl rfl true (fun _ => by unfold EqTy; exact ⟨by kernel_rfl, by kernel_rfl, by kernel_rfl⟩)
theorem ty114 : TyOk Try.prog 114 ⟨.ptr 123, 1, 8, [.pointer none], false⟩ := TyOk.of (P := Try.prog) (t := 114) (.ptr 123) 1 8 [.pointer none] (.pointer none) (by kernel_rfl) rfl Try.underlying114 rfl rfl false (fun h => by cases h)
theorem ty116 : TyOk Try.prog 116 ⟨.slice 119, 1, 24, [.slice none 0 0], false⟩ := TyOk.of (P := Try.prog) (t := 116) (.slice 119) 1 24 [.slice none 0 0] (.slice none 0 0) (by kernel_rfl) rfl Try.underlying116 rfl rfl false (fun h => by cases h)
theorem ty118 : TyOk Try.prog 118 ⟨.struct [(0, 3), (1, 3)], 2, 16, [.int .i64 0, .int .i64 0], false⟩ := TyOk.of (P := Try.prog) (t := 118) (.struct [(0, 3), (1, 3)]) 2 16 [.int .i64 0, .int .i64 0] (.agg #[.int .i64 0, .int .i64 0]) (by kernel_rfl) rfl ⟨_, Try.underlying118, rfl⟩ rfl rfl false (fun h => by cases h)
theorem ty119 : TyOk Try.prog 119 ⟨.struct [(0, 3), (1, 3)], 2, 16, [.int .i64 0, .int .i64 0], true⟩ := TyOk.of (P := Try.prog) (t := 119) (.struct [(0, 3), (1, 3)]) 2 16 [.int .i64 0, .int .i64 0] (.agg #[.int .i64 0, .int .i64 0]) (by kernel_rfl) rfl ⟨_, Try.underlying119, rfl⟩ rfl rfl true (fun _ => by unfold EqTy; exact ⟨by kernel_rfl, by kernel_rfl, by kernel_rfl⟩)
theorem ty122 : TyOk Try.prog 122 ⟨.struct [(0, 22), (1, 22), (2, 3), (3, 73), (4, 73), (5, 3)], 6, 112, [.slice none 0 0, .slice none 0 0, .int .i64 0, .slice none 0 0, .slice none 0 0, .int .i64 0], false⟩ := TyOk.of (P := Try.prog) (t := 122) (.struct [(0, 22), (1, 22), (2, 3), (3, 73), (4, 73), (5, 3)]) 6 112 [.slice none 0 0, .slice none 0 0, .int .i64 0, .slice none 0 0, .slice none 0 0, .int .i64 0] (.agg #[.slice none 0 0, .slice none 0 0, .int .i64 0, .slice none 0 0, .slice none 0 0, .int .i64 0]) (by kernel_rfl) rfl ⟨_, Try.underlying122, rfl⟩ rfl rfl false (fun h => by cases h)
theorem ty123 : TyOk Try.prog 123 ⟨.struct [(0, 22), (1, 22), (2, 3), (3, 73), (4, 73), (5, 3)], 6, 112, [.slice none 0 0, .slice none 0 0, .int .i64 0, .slice none 0 0, .slice none 0 0, .int .i64 0], false⟩ := TyOk.of (P := Try.prog) (t := 123) (.struct [(0, 22), (1, 22), (2, 3), (3, 73), (4, 73), (5, 3)]) 6 112 [.slice none 0 0, .slice none 0 0, .int .i64 0, .slice none 0 0, .slice none 0 0, .int .i64 0] (.agg #[.slice none 0 0, .slice none 0 0, .int .i64 0, .slice none 0 0, .slice none 0 0, .int .i64 0]) (by kernel_rfl) rfl ⟨_, Try.underlying123, rfl⟩ rfl rfl false (fun h => by cases h)
theorem ty124 : TyOk Try.prog 124 ⟨.slice 130, 1, 24, [.slice none 0 0], false⟩ := TyOk.of (P := Try.prog) (t := 124) (.slice 130) 1 24 [.slice none 0 0] (.slice none 0 0) (by kernel_rfl) rfl Try.underlying124 rfl rfl false (fun h => by cases h)
theorem ty125 : TyOk Try.prog 125 ⟨.slice 130, 1, 24, [.slice none 0 0], false⟩ := TyOk.of (P := Try.prog) (t := 125) (.slice 130) 1 24 [.slice none 0 0] (.slice none 0 0) (by kernel_rfl) rfl Try.underlying125 rfl rfl false (fun h => by cases h)
theorem ty128 : TyOk Try.prog 128 ⟨.ptr 125, 1, 8, [.pointer none], false⟩ := TyOk.of (P := Try.prog) (t := 128) (.ptr 125) 1 8 [.pointer none] (.pointer none) (by kernel_rfl) rfl Try.underlying128 rfl rfl false (fun h => by cases h)
theorem ty129 : TyOk Try.prog 129 ⟨.struct [(0, 80), (2, 3)], 3, 24, [.int .i64 0, .int .i64 0, .int .i64 0], false⟩ := TyOk.of (P := Try.prog) (t := 129) (.struct [(0, 80), (2, 3)]) 3 24 [.int .i64 0, .int .i64 0, .int .i64 0] (.agg #[.int .i64 0, .int .i64 0, .int .i64 0]) (by kernel_rfl) rfl ⟨_, Try.underlying129, rfl⟩ rfl rfl false (fun h => by cases h)
theorem ty130 : TyOk Try.prog 130 ⟨.struct [(0, 80), (2, 3)], 3, 24, [.int .i64 0, .int .i64 0, .int .i64 0], true⟩ := TyOk.of (P := Try.prog) (t := 130) (.struct [(0, 80), (2, 3)]) 3 24 [.int .i64 0, .int .i64 0, .int .i64 0] (.agg #[.int .i64 0, .int .i64 0, .int .i64 0]) (by kernel_rfl) rfl ⟨_, Try.underlying130, rfl⟩ rfl rfl true (fun _ => by unfold EqTy; exact ⟨by kernel_rfl, by kernel_rfl, by kernel_rfl⟩)
theorem ty138 : TyOk Try.prog 138 ⟨.struct [(0, 4), (1, 38)], 2, 32, [.bool false, .slice none 0 0], false⟩ := TyOk.of (P := Try.prog) (t := 138) (.struct [(0, 4), (1, 38)]) 2 32 [.bool false, .slice none 0 0] (.agg #[.bool false, .slice none 0 0]) (by kernel_rfl) rfl ⟨_, Try.underlying138, rfl⟩ rfl rfl false (fun h => by cases h)
theorem ty139 : TyOk Try.prog 139 ⟨.struct [(0, 4), (1, 38)], 2, 32, [.bool false, .slice none 0 0], false⟩ := TyOk.of (P := Try.prog) (t := 139) (.struct [(0, 4), (1, 38)]) 2 32 [.bool false, .slice none 0 0] (.agg #[.bool false, .slice none 0 0]) (by kernel_rfl) rfl ⟨_, Try.underlying139, rfl⟩ rfl rfl false (fun h => by cases h)
theorem ty140 : TyOk Try.prog 140 ⟨.arr 16 139, 32, 512, [.bool false, .slice none 0 0, .bool false, .slice none 0 0, .bool false, .slice none 0 0, .bool false, .slice none 0 0, .bool false, .slice none 0 0, .bool false, .slice none 0 0, .bool false, .slice none 0 0, .bool false, .slice none 0 0, .bool false, .slice none 0 0, .bool false, .slice none 0 0, .bool false, .slice none 0 0, .bool false, .slice none 0 0, .bool false, .slice none 0 0, .bool false, .slice none 0 0, .bool false, .slice none 0 0, .bool false, .slice none 0 0], false⟩ := TyOk.of (P := Try.prog) (t := 140) (.arr 16 139) 32 512 [.bool false, .slice none 0 0, .bool false, .slice none 0 0, .bool false, .slice none 0 0, .bool false, .slice none 0 0, .bool false, .slice none 0 0, .bool false, .slice none 0 0, .bool false, .slice none 0 0, .bool false, .slice none 0 0, .bool false, .slice none 0 0, .bool false, .slice none 0 0, .bool false, .slice none 0 0, .bool false, .slice none 0 0, .bool false, .slice none 0 0, .bool false, .slice none 0 0, .bool false, .slice none 0 0, .bool false, .slice none 0 0] (.agg #[.bool false, .slice none 0 0, .bool false, .slice none 0 0, .bool false, .slice none 0 0, .bool false, .slice none 0 0, .bool false, .slice none 0 0, .bool false, .slice none 0 0, .bool false, .slice none 0 0, .bool false, .slice none 0 0, .bool false, .slice none 0 0, .bool false, .slice none 0 0, .bool false, .slice none 0 0, .bool false, .slice none 0 0, .bool false, .slice none 0 0, .bool false, .slice none 0 0, .bool false, .slice none 0 0, .bool false, .slice none 0 0]) (by kernel_rfl) rfl Try.underlying140 rfl rfl false (fun h => by cases h)
theorem ty141 : TyOk Try.prog 141 ⟨.struct [(0, 140)], 32, 512, [.bool false, .slice none 0 0, .bool false, .slice none 0 0, .bool false, .slice none 0 0, .bool false, .slice none 0 0, .bool false, .slice none 0 0, .bool false, .slice none 0 0, .bool false, .slice none 0 0, .bool false, .slice none 0 0, .bool false, .slice none 0 0, .bool false, .slice none 0 0, .bool false, .slice none 0 0, .bool false, .slice none 0 0, .bool false, .slice none 0 0, .bool false, .slice none 0 0, .bool false, .slice none 0 0, .bool false, .slice none 0 0], false⟩ := TyOk.of (P := Try.prog) (t := 141) (.struct [(0, 140)]) 32 512 [.bool false, .slice none 0 0, .bool false, .slice none 0 0, .bool false, .slice none 0 0, .bool false, .slice none 0 0, .bool false, .slice none 0 0, .bool false, .slice none 0 0, .bool false, .slice none 0 0, .bool false, .slice none 0 0, .bool false, .slice none 0 0, .bool false, .slice none 0 0, .bool false, .slice none 0 0, .bool false, .slice none 0 0, .bool false, .slice none 0 0, .bool false, .slice none 0 0, .bool false, .slice none 0 0, .bool false, .slice none 0 0] (.agg #[.bool false, .slice none 0 0, .bool false, .slice none 0 0, .bool false, .slice none 0 0, .bool false, .slice none 0 0, .bool false, .slice none 0 0, .bool false, .slice none 0 0, .bool false, .slice none 0 0, .bool false, .slice none 0 0, .bool false, .slice none 0 0, .bool false, .slice none 0 0, .bool false, .slice none 0 0, .bool false, .slice none 0 0, .bool false, .slice none 0 0, .bool false, .slice none 0 0, .bool false, .slice none 0 0, .bool false, .slice none 0 0]) (by kernel_rfl) rfl ⟨_, Try.underlying141, rfl⟩ rfl rfl false (fun h => by cases h)
theorem ty142 : TyOk Try.prog 142 ⟨.struct [(0, 140)], 32, 512, [.bool false, .slice none 0 0, .bool false, .slice none 0 0, .bool false, .slice none 0 0, .bool false, .slice none 0 0, .bool false, .slice none 0 0, .bool false, .slice none 0 0, .bool false, .slice none 0 0, .bool false, .slice none 0 0, .bool false, .slice none 0 0, .bool false, .slice none 0 0, .bool false, .slice none 0 0, .bool false, .slice none 0 0, .bool false, .slice none 0 0, .bool false, .slice none 0 0, .bool false, .slice none 0 0, .bool false, .slice none 0 0], false⟩ := TyOk.of (P := Try.prog) (t := 142) (.struct [(0, 140)]) 32 512 [.bool false, .slice none 0 0, .bool false, .slice none 0 0, .bool false, .slice none 0 0, .bool false, .slice none 0 0, .bool false, .slice none 0 0, .bool false, .slice none 0 0, .bool false, .slice none 0 0, .bool false, .slice none 0 0, .bool false, .slice none 0 0, .bool false, .slice none 0 0, .bool false, .slice none 0 0, .bool false, .slice none 0 0, .bool false, .slice none 0 0, .bool false, .slice none 0 0, .bool false, .slice none 0 0, .bool false, .slice none 0 0] (.agg #[.bool false, .slice none 0 0, .bool false, .slice none 0 0, .bool false, .slice none 0 0, .bool false, .slice none 0 0, .bool false, .slice none 0 0, .bool false, .slice none 0 0, .bool false, .slice none 0 0, .bool false, .slice none 0 0, .bool false, .slice none 0 0, .bool false, .slice none 0 0, .bool false, .slice none 0 0, .bool false, .slice none 0 0, .bool false, .slice none 0 0, .bool false, .slice none 0 0, .bool false, .slice none 0 0, .bool false, .slice none 0 0]) (by kernel_rfl) rfl ⟨_, Try.underlying142, rfl⟩ rfl rfl false (fun h => by cases h)
theorem ty155 : TyOk Try.prog 155 ⟨.int .u64, 1, 8, [.int .u64 0], false⟩ := TyOk.of (P := Try.prog) (t := 155) (.int .u64) 1 8 [.int .u64 0] (.int .u64 0) (by kernel_rfl) rfl Try.underlying155 rfl rfl false (fun h => by cases h)
theorem ty159 : TyOk Try.prog 159 ⟨.int .i64, 1, 8, [.int .i64 0], false⟩ := TyOk.of (P := Try.prog) (t := 159) (.int .i64) 1 8 [.int .i64 0] (.int .i64 0) (by kernel_rfl) rfl Try.underlying159 rfl rfl false (fun h => by cases h)
theorem ty166 : TyOk Try.prog 166 ⟨.int .u32, 1, 4, [.int .u32 0], false⟩ := TyOk.of (P := Try.prog) (t := 166) (.int .u32) 1 4 [.int .u32 0] (.int .u32 0) (by kernel_rfl) rfl Try.underlying166 rfl rfl false (fun h => by cases h)
theorem ty169 : TyOk Try.prog 169 ⟨.int .u64, 1, 8, [.int .u64 0], false⟩ := TyOk.of (P := Try.prog) (t := 169) (.int .u64) 1 8 [.int .u64 0] (.int .u64 0) (by kernel_rfl) rfl Try.underlying169 rfl rfl false (fun h => by cases h)
theorem ty173 : TyOk Try.prog 173 ⟨.ptr 3, 1, 8, [.pointer none], false⟩ := TyOk.of (P := Try.prog) (t := 173) (.ptr 3) 1 8 [.pointer none] (.pointer none) (by kernel_rfl) rfl Try.underlying173 rfl rfl false (fun h => by cases h)
theorem ty175 : TyOk Try.prog 175 ⟨.ptr 169, 1, 8, [.pointer none], false⟩ := TyOk.of (P := Try.prog) (t := 175) (.ptr 169) 1 8 [.pointer none] (.pointer none) (by kernel_rfl) rfl Try.underlying175 rfl rfl false (fun h => by cases h)
theorem ty179 : TyOk Try.prog 179 ⟨.struct [(0, 17), (1, 17), (2, 17), (3, 9)], 4, 40, [.pointer none, .pointer none, .pointer none, .string ByteArray.empty], false⟩ := TyOk.of (P := Try.prog) (t := 179) (.struct [(0, 17), (1, 17), (2, 17), (3, 9)]) 4 40 [.pointer none, .pointer none, .pointer none, .string ByteArray.empty] (.agg #[.pointer none, .pointer none, .pointer none, .string ByteArray.empty]) (by kernel_rfl) rfl ⟨_, Try.underlying179, rfl⟩ rfl rfl false (fun h => by cases h)
theorem ty180 : TyOk Try.prog 180 ⟨.struct [(0, 17), (1, 17), (2, 17), (3, 9)], 4, 40, [.pointer none, .pointer none, .pointer none, .string ByteArray.empty], false⟩ := TyOk.of (P := Try.prog) (t := 180) (.struct [(0, 17), (1, 17), (2, 17), (3, 9)]) 4 40 [.pointer none, .pointer none, .pointer none, .string ByteArray.empty] (.agg #[.pointer none, .pointer none, .pointer none, .string ByteArray.empty]) (by kernel_rfl) rfl ⟨_, Try.underlying180, rfl⟩ rfl rfl false (fun h => by cases h)
theorem ty184 : TyOk Try.prog 184 ⟨.int .u8, 1, 1, [.int .u8 0], false⟩ := TyOk.of (P := Try.prog) (t := 184) (.int .u8) 1 1 [.int .u8 0] (.int .u8 0) (by kernel_rfl) rfl Try.underlying184 rfl rfl false (fun h => by cases h)
theorem ty185 : TyOk Try.prog 185 ⟨.int .u8, 1, 1, [.int .u8 0], false⟩ := TyOk.of (P := Try.prog) (t := 185) (.int .u8) 1 1 [.int .u8 0] (.int .u8 0) (by kernel_rfl) rfl Try.underlying185 rfl rfl false (fun h => by cases h)
theorem ty187 : TyOk Try.prog 187 ⟨.ptr 5, 1, 8, [.pointer none], false⟩ := TyOk.of (P := Try.prog) (t := 187) (.ptr 5) 1 8 [.pointer none] (.pointer none) (by kernel_rfl) rfl Try.underlying187 rfl rfl false (fun h => by cases h)
theorem ty188 : TyOk Try.prog 188 ⟨.int .i32, 1, 4, [.int .i32 0], false⟩ := TyOk.of (P := Try.prog) (t := 188) (.int .i32) 1 4 [.int .i32 0] (.int .i32 0) (by kernel_rfl) rfl Try.underlying188 rfl rfl false (fun h => by cases h)
theorem ty189 : TyOk Try.prog 189 ⟨.int .i32, 1, 4, [.int .i32 0], false⟩ := TyOk.of (P := Try.prog) (t := 189) (.int .i32) 1 4 [.int .i32 0] (.int .i32 0) (by kernel_rfl) rfl Try.underlying189 rfl rfl false (fun h => by cases h)
def tabL : List (Nat × TyI) := [(2, ⟨.int .i64, 1, 8, [.int .i64 0], false⟩),
  (3, ⟨.int .i64, 1, 8, [.int .i64 0], false⟩),
  (4, ⟨.bool, 1, 1, [.bool false], false⟩),
  (5, ⟨.int .u8, 1, 1, [.int .u8 0], false⟩),
  (6, ⟨.int .u8, 1, 1, [.int .u8 0], false⟩),
  (7, ⟨.struct [(0, 2), (1, 3), (2, 4), (3, 6)], 4, 24, [.int .i64 0, .int .i64 0, .bool false, .int .u8 0], false⟩),
  (8, ⟨.struct [(0, 2), (1, 3), (2, 4), (3, 6)], 4, 24, [.int .i64 0, .int .i64 0, .bool false, .int .u8 0], false⟩),
  (9, ⟨.str, 1, 16, [.string ByteArray.empty], false⟩),
  (10, ⟨.str, 1, 16, [.string ByteArray.empty], false⟩),
  (11, ⟨.str, 1, 16, [.string ByteArray.empty], false⟩),
  (12, ⟨.int .u64, 1, 8, [.int .u64 0], false⟩),
  (13, ⟨.struct [(0, 9), (1, 12)], 2, 24, [.string ByteArray.empty, .int .u64 0], false⟩),
  (14, ⟨.struct [(0, 9), (1, 12)], 2, 24, [.string ByteArray.empty, .int .u64 0], false⟩),
  (15, ⟨.ptr 180, 1, 8, [.pointer none], false⟩),
  (16, ⟨.ptr 183, 1, 8, [.pointer none], false⟩),
  (17, ⟨.ptr 191, 1, 8, [.pointer none], false⟩),
  (18, ⟨.struct [(0, 17)], 1, 8, [.pointer none], false⟩),
  (19, ⟨.struct [(0, 17)], 1, 8, [.pointer none], false⟩),
  (21, ⟨.int .i32, 1, 4, [.int .i32 0], false⟩),
  (22, ⟨.slice 3, 1, 24, [.slice none 0 0], false⟩),
  (23, ⟨.ptr 105, 1, 8, [.pointer none], false⟩),
  (25, ⟨.slice 28, 1, 24, [.slice none 0 0], false⟩),
  (28, ⟨.arr 3 3, 3, 24, [.int .i64 0, .int .i64 0, .int .i64 0], true⟩),
  (33, ⟨.int .u64, 1, 8, [.int .u64 0], false⟩),
  (34, ⟨.struct [(0, 3), (1, 3), (2, 3), (3, 3), (4, 33)], 5, 40, [.int .i64 0, .int .i64 0, .int .i64 0, .int .i64 0, .int .u64 0], false⟩),
  (35, ⟨.struct [(0, 3), (1, 3), (2, 3), (3, 3), (4, 33)], 5, 40, [.int .i64 0, .int .i64 0, .int .i64 0, .int .i64 0, .int .u64 0], true⟩),
  (38, ⟨.slice 33, 1, 24, [.slice none 0 0], false⟩),
  (45, ⟨.slice 38, 1, 24, [.slice none 0 0], false⟩),
  (48, ⟨.slice 56, 1, 24, [.slice none 0 0], false⟩),
  (50, ⟨.slice 110, 1, 24, [.slice none 0 0], false⟩),
  (55, ⟨.struct [(0, 3), (1, 3)], 2, 16, [.int .i64 0, .int .i64 0], false⟩),
  (56, ⟨.struct [(0, 3), (1, 3)], 2, 16, [.int .i64 0, .int .i64 0], true⟩),
  (73, ⟨.slice 22, 1, 24, [.slice none 0 0], false⟩),
  (75, ⟨.slice 80, 1, 24, [.slice none 0 0], false⟩),
  (77, ⟨.slice 81, 1, 24, [.slice none 0 0], false⟩),
  (79, ⟨.struct [(0, 3), (1, 3)], 2, 16, [.int .i64 0, .int .i64 0], false⟩),
  (80, ⟨.struct [(0, 3), (1, 3)], 2, 16, [.int .i64 0, .int .i64 0], true⟩),
  (81, ⟨.struct [(0, 3), (1, 3)], 2, 16, [.int .i64 0, .int .i64 0], true⟩),
  (82, ⟨.slice 92, 1, 24, [.slice none 0 0], false⟩),
  (83, ⟨.ptr 142, 1, 8, [.pointer none], false⟩),
  (85, ⟨.ptr 89, 1, 8, [.pointer none], false⟩),
  (86, ⟨.arr 16 38, 16, 384, [.slice none 0 0, .slice none 0 0, .slice none 0 0, .slice none 0 0, .slice none 0 0, .slice none 0 0, .slice none 0 0, .slice none 0 0, .slice none 0 0, .slice none 0 0, .slice none 0 0, .slice none 0 0, .slice none 0 0, .slice none 0 0, .slice none 0 0, .slice none 0 0], false⟩),
  (87, ⟨.arr 16 4, 16, 16, [.bool false, .bool false, .bool false, .bool false, .bool false, .bool false, .bool false, .bool false, .bool false, .bool false, .bool false, .bool false, .bool false, .bool false, .bool false, .bool false], false⟩),
  (88, ⟨.struct [(0, 86), (16, 87)], 32, 400, [.slice none 0 0, .slice none 0 0, .slice none 0 0, .slice none 0 0, .slice none 0 0, .slice none 0 0, .slice none 0 0, .slice none 0 0, .slice none 0 0, .slice none 0 0, .slice none 0 0, .slice none 0 0, .slice none 0 0, .slice none 0 0, .slice none 0 0, .slice none 0 0, .bool false, .bool false, .bool false, .bool false, .bool false, .bool false, .bool false, .bool false, .bool false, .bool false, .bool false, .bool false, .bool false, .bool false, .bool false, .bool false], false⟩),
  (89, ⟨.struct [(0, 86), (16, 87)], 32, 400, [.slice none 0 0, .slice none 0 0, .slice none 0 0, .slice none 0 0, .slice none 0 0, .slice none 0 0, .slice none 0 0, .slice none 0 0, .slice none 0 0, .slice none 0 0, .slice none 0 0, .slice none 0 0, .slice none 0 0, .slice none 0 0, .slice none 0 0, .slice none 0 0, .bool false, .bool false, .bool false, .bool false, .bool false, .bool false, .bool false, .bool false, .bool false, .bool false, .bool false, .bool false, .bool false, .bool false, .bool false, .bool false], false⟩),
  (91, ⟨.struct [(0, 3), (1, 3), (2, 22), (3, 45)], 4, 64, [.int .i64 0, .int .i64 0, .slice none 0 0, .slice none 0 0], false⟩),
  (92, ⟨.struct [(0, 3), (1, 3), (2, 22), (3, 45)], 4, 64, [.int .i64 0, .int .i64 0, .slice none 0 0, .slice none 0 0], false⟩),
  (96, ⟨.int .i64, 1, 8, [.int .i64 0], false⟩),
  (104, ⟨.struct [(0, 45), (1, 3), (2, 3)], 3, 40, [.slice none 0 0, .int .i64 0, .int .i64 0], false⟩),
  (105, ⟨.struct [(0, 45), (1, 3), (2, 3)], 3, 40, [.slice none 0 0, .int .i64 0, .int .i64 0], false⟩),
  (110, ⟨.struct [(0, 3), (1, 3)], 2, 16, [.int .i64 0, .int .i64 0], true⟩),
  (114, ⟨.ptr 123, 1, 8, [.pointer none], false⟩),
  (116, ⟨.slice 119, 1, 24, [.slice none 0 0], false⟩),
  (118, ⟨.struct [(0, 3), (1, 3)], 2, 16, [.int .i64 0, .int .i64 0], false⟩),
  (119, ⟨.struct [(0, 3), (1, 3)], 2, 16, [.int .i64 0, .int .i64 0], true⟩),
  (122, ⟨.struct [(0, 22), (1, 22), (2, 3), (3, 73), (4, 73), (5, 3)], 6, 112, [.slice none 0 0, .slice none 0 0, .int .i64 0, .slice none 0 0, .slice none 0 0, .int .i64 0], false⟩),
  (123, ⟨.struct [(0, 22), (1, 22), (2, 3), (3, 73), (4, 73), (5, 3)], 6, 112, [.slice none 0 0, .slice none 0 0, .int .i64 0, .slice none 0 0, .slice none 0 0, .int .i64 0], false⟩),
  (124, ⟨.slice 130, 1, 24, [.slice none 0 0], false⟩),
  (125, ⟨.slice 130, 1, 24, [.slice none 0 0], false⟩),
  (128, ⟨.ptr 125, 1, 8, [.pointer none], false⟩),
  (129, ⟨.struct [(0, 80), (2, 3)], 3, 24, [.int .i64 0, .int .i64 0, .int .i64 0], false⟩),
  (130, ⟨.struct [(0, 80), (2, 3)], 3, 24, [.int .i64 0, .int .i64 0, .int .i64 0], true⟩),
  (138, ⟨.struct [(0, 4), (1, 38)], 2, 32, [.bool false, .slice none 0 0], false⟩),
  (139, ⟨.struct [(0, 4), (1, 38)], 2, 32, [.bool false, .slice none 0 0], false⟩),
  (140, ⟨.arr 16 139, 32, 512, [.bool false, .slice none 0 0, .bool false, .slice none 0 0, .bool false, .slice none 0 0, .bool false, .slice none 0 0, .bool false, .slice none 0 0, .bool false, .slice none 0 0, .bool false, .slice none 0 0, .bool false, .slice none 0 0, .bool false, .slice none 0 0, .bool false, .slice none 0 0, .bool false, .slice none 0 0, .bool false, .slice none 0 0, .bool false, .slice none 0 0, .bool false, .slice none 0 0, .bool false, .slice none 0 0, .bool false, .slice none 0 0], false⟩),
  (141, ⟨.struct [(0, 140)], 32, 512, [.bool false, .slice none 0 0, .bool false, .slice none 0 0, .bool false, .slice none 0 0, .bool false, .slice none 0 0, .bool false, .slice none 0 0, .bool false, .slice none 0 0, .bool false, .slice none 0 0, .bool false, .slice none 0 0, .bool false, .slice none 0 0, .bool false, .slice none 0 0, .bool false, .slice none 0 0, .bool false, .slice none 0 0, .bool false, .slice none 0 0, .bool false, .slice none 0 0, .bool false, .slice none 0 0, .bool false, .slice none 0 0], false⟩),
  (142, ⟨.struct [(0, 140)], 32, 512, [.bool false, .slice none 0 0, .bool false, .slice none 0 0, .bool false, .slice none 0 0, .bool false, .slice none 0 0, .bool false, .slice none 0 0, .bool false, .slice none 0 0, .bool false, .slice none 0 0, .bool false, .slice none 0 0, .bool false, .slice none 0 0, .bool false, .slice none 0 0, .bool false, .slice none 0 0, .bool false, .slice none 0 0, .bool false, .slice none 0 0, .bool false, .slice none 0 0, .bool false, .slice none 0 0, .bool false, .slice none 0 0], false⟩),
  (155, ⟨.int .u64, 1, 8, [.int .u64 0], false⟩),
  (159, ⟨.int .i64, 1, 8, [.int .i64 0], false⟩),
  (166, ⟨.int .u32, 1, 4, [.int .u32 0], false⟩),
  (169, ⟨.int .u64, 1, 8, [.int .u64 0], false⟩),
  (173, ⟨.ptr 3, 1, 8, [.pointer none], false⟩),
  (175, ⟨.ptr 169, 1, 8, [.pointer none], false⟩),
  (179, ⟨.struct [(0, 17), (1, 17), (2, 17), (3, 9)], 4, 40, [.pointer none, .pointer none, .pointer none, .string ByteArray.empty], false⟩),
  (180, ⟨.struct [(0, 17), (1, 17), (2, 17), (3, 9)], 4, 40, [.pointer none, .pointer none, .pointer none, .string ByteArray.empty], false⟩),
  (184, ⟨.int .u8, 1, 1, [.int .u8 0], false⟩),
  (185, ⟨.int .u8, 1, 1, [.int .u8 0], false⟩),
  (187, ⟨.ptr 5, 1, 8, [.pointer none], false⟩),
  (188, ⟨.int .i32, 1, 4, [.int .i32 0], false⟩),
  (189, ⟨.int .i32, 1, 4, [.int .i32 0], false⟩)]
def tab : Tab := fun t => tabL.lookup t
theorem tab_ok : TabOk Try.prog tab := fun t i h => by
  have hm := lookup_mem _ h
  unfold tabL at hm
  simp only [List.mem_cons, Prod.mk.injEq, List.not_mem_nil, or_false] at hm
  rcases hm with ⟨rfl, rfl⟩ | ⟨rfl, rfl⟩ | ⟨rfl, rfl⟩ | ⟨rfl, rfl⟩ | ⟨rfl, rfl⟩ | ⟨rfl, rfl⟩ | ⟨rfl, rfl⟩ | ⟨rfl, rfl⟩ | ⟨rfl, rfl⟩ | ⟨rfl, rfl⟩ | ⟨rfl, rfl⟩ | ⟨rfl, rfl⟩ | ⟨rfl, rfl⟩ | ⟨rfl, rfl⟩ | ⟨rfl, rfl⟩ | ⟨rfl, rfl⟩ | ⟨rfl, rfl⟩ | ⟨rfl, rfl⟩ | ⟨rfl, rfl⟩ | ⟨rfl, rfl⟩ | ⟨rfl, rfl⟩ | ⟨rfl, rfl⟩ | ⟨rfl, rfl⟩ | ⟨rfl, rfl⟩ | ⟨rfl, rfl⟩ | ⟨rfl, rfl⟩ | ⟨rfl, rfl⟩ | ⟨rfl, rfl⟩ | ⟨rfl, rfl⟩ | ⟨rfl, rfl⟩ | ⟨rfl, rfl⟩ | ⟨rfl, rfl⟩ | ⟨rfl, rfl⟩ | ⟨rfl, rfl⟩ | ⟨rfl, rfl⟩ | ⟨rfl, rfl⟩ | ⟨rfl, rfl⟩ | ⟨rfl, rfl⟩ | ⟨rfl, rfl⟩ | ⟨rfl, rfl⟩ | ⟨rfl, rfl⟩ | ⟨rfl, rfl⟩ | ⟨rfl, rfl⟩ | ⟨rfl, rfl⟩ | ⟨rfl, rfl⟩ | ⟨rfl, rfl⟩ | ⟨rfl, rfl⟩ | ⟨rfl, rfl⟩ | ⟨rfl, rfl⟩ | ⟨rfl, rfl⟩ | ⟨rfl, rfl⟩ | ⟨rfl, rfl⟩ | ⟨rfl, rfl⟩ | ⟨rfl, rfl⟩ | ⟨rfl, rfl⟩ | ⟨rfl, rfl⟩ | ⟨rfl, rfl⟩ | ⟨rfl, rfl⟩ | ⟨rfl, rfl⟩ | ⟨rfl, rfl⟩ | ⟨rfl, rfl⟩ | ⟨rfl, rfl⟩ | ⟨rfl, rfl⟩ | ⟨rfl, rfl⟩ | ⟨rfl, rfl⟩ | ⟨rfl, rfl⟩ | ⟨rfl, rfl⟩ | ⟨rfl, rfl⟩ | ⟨rfl, rfl⟩ | ⟨rfl, rfl⟩ | ⟨rfl, rfl⟩ | ⟨rfl, rfl⟩ | ⟨rfl, rfl⟩ | ⟨rfl, rfl⟩ | ⟨rfl, rfl⟩ | ⟨rfl, rfl⟩ | ⟨rfl, rfl⟩ | ⟨rfl, rfl⟩ | ⟨rfl, rfl⟩ | ⟨rfl, rfl⟩
  · exact ty2
  · exact ty3
  · exact ty4
  · exact ty5
  · exact ty6
  · exact ty7
  · exact ty8
  · exact ty9
  · exact ty10
  · exact ty11
  · exact ty12
  · exact ty13
  · exact ty14
  · exact ty15
  · exact ty16
  · exact ty17
  · exact ty18
  · exact ty19
  · exact ty21
  · exact ty22
  · exact ty23
  · exact ty25
  · exact ty28
  · exact ty33
  · exact ty34
  · exact ty35
  · exact ty38
  · exact ty45
  · exact ty48
  · exact ty50
  · exact ty55
  · exact ty56
  · exact ty73
  · exact ty75
  · exact ty77
  · exact ty79
  · exact ty80
  · exact ty81
  · exact ty82
  · exact ty83
  · exact ty85
  · exact ty86
  · exact ty87
  · exact ty88
  · exact ty89
  · exact ty91
  · exact ty92
  · exact ty96
  · exact ty104
  · exact ty105
  · exact ty110
  · exact ty114
  · exact ty116
  · exact ty118
  · exact ty119
  · exact ty122
  · exact ty123
  · exact ty124
  · exact ty125
  · exact ty128
  · exact ty129
  · exact ty130
  · exact ty138
  · exact ty139
  · exact ty140
  · exact ty141
  · exact ty142
  · exact ty155
  · exact ty159
  · exact ty166
  · exact ty169
  · exact ty173
  · exact ty175
  · exact ty179
  · exact ty180
  · exact ty184
  · exact ty185
  · exact ty187
  · exact ty188
  · exact ty189
theorem tab2 : tab 2 = some ⟨.int .i64, 1, 8, [.int .i64 0], false⟩ := rfl
theorem tab3 : tab 3 = some ⟨.int .i64, 1, 8, [.int .i64 0], false⟩ := rfl
theorem tab4 : tab 4 = some ⟨.bool, 1, 1, [.bool false], false⟩ := rfl
theorem tab5 : tab 5 = some ⟨.int .u8, 1, 1, [.int .u8 0], false⟩ := rfl
theorem tab6 : tab 6 = some ⟨.int .u8, 1, 1, [.int .u8 0], false⟩ := rfl
theorem tab7 : tab 7 = some ⟨.struct [(0, 2), (1, 3), (2, 4), (3, 6)], 4, 24, [.int .i64 0, .int .i64 0, .bool false, .int .u8 0], false⟩ := rfl
theorem tab8 : tab 8 = some ⟨.struct [(0, 2), (1, 3), (2, 4), (3, 6)], 4, 24, [.int .i64 0, .int .i64 0, .bool false, .int .u8 0], false⟩ := rfl
theorem tab9 : tab 9 = some ⟨.str, 1, 16, [.string ByteArray.empty], false⟩ := rfl
theorem tab10 : tab 10 = some ⟨.str, 1, 16, [.string ByteArray.empty], false⟩ := rfl
theorem tab11 : tab 11 = some ⟨.str, 1, 16, [.string ByteArray.empty], false⟩ := rfl
theorem tab12 : tab 12 = some ⟨.int .u64, 1, 8, [.int .u64 0], false⟩ := rfl
theorem tab13 : tab 13 = some ⟨.struct [(0, 9), (1, 12)], 2, 24, [.string ByteArray.empty, .int .u64 0], false⟩ := rfl
theorem tab14 : tab 14 = some ⟨.struct [(0, 9), (1, 12)], 2, 24, [.string ByteArray.empty, .int .u64 0], false⟩ := rfl
theorem tab15 : tab 15 = some ⟨.ptr 180, 1, 8, [.pointer none], false⟩ := rfl
theorem tab16 : tab 16 = some ⟨.ptr 183, 1, 8, [.pointer none], false⟩ := rfl
theorem tab17 : tab 17 = some ⟨.ptr 191, 1, 8, [.pointer none], false⟩ := rfl
theorem tab18 : tab 18 = some ⟨.struct [(0, 17)], 1, 8, [.pointer none], false⟩ := rfl
theorem tab19 : tab 19 = some ⟨.struct [(0, 17)], 1, 8, [.pointer none], false⟩ := rfl
theorem tab21 : tab 21 = some ⟨.int .i32, 1, 4, [.int .i32 0], false⟩ := rfl
theorem tab22 : tab 22 = some ⟨.slice 3, 1, 24, [.slice none 0 0], false⟩ := rfl
theorem tab23 : tab 23 = some ⟨.ptr 105, 1, 8, [.pointer none], false⟩ := rfl
theorem tab25 : tab 25 = some ⟨.slice 28, 1, 24, [.slice none 0 0], false⟩ := rfl
theorem tab28 : tab 28 = some ⟨.arr 3 3, 3, 24, [.int .i64 0, .int .i64 0, .int .i64 0], true⟩ := rfl
theorem tab33 : tab 33 = some ⟨.int .u64, 1, 8, [.int .u64 0], false⟩ := rfl
theorem tab34 : tab 34 = some ⟨.struct [(0, 3), (1, 3), (2, 3), (3, 3), (4, 33)], 5, 40, [.int .i64 0, .int .i64 0, .int .i64 0, .int .i64 0, .int .u64 0], false⟩ := rfl
theorem tab35 : tab 35 = some ⟨.struct [(0, 3), (1, 3), (2, 3), (3, 3), (4, 33)], 5, 40, [.int .i64 0, .int .i64 0, .int .i64 0, .int .i64 0, .int .u64 0], true⟩ := rfl
theorem tab38 : tab 38 = some ⟨.slice 33, 1, 24, [.slice none 0 0], false⟩ := rfl
theorem tab45 : tab 45 = some ⟨.slice 38, 1, 24, [.slice none 0 0], false⟩ := rfl
theorem tab48 : tab 48 = some ⟨.slice 56, 1, 24, [.slice none 0 0], false⟩ := rfl
theorem tab50 : tab 50 = some ⟨.slice 110, 1, 24, [.slice none 0 0], false⟩ := rfl
theorem tab55 : tab 55 = some ⟨.struct [(0, 3), (1, 3)], 2, 16, [.int .i64 0, .int .i64 0], false⟩ := rfl
theorem tab56 : tab 56 = some ⟨.struct [(0, 3), (1, 3)], 2, 16, [.int .i64 0, .int .i64 0], true⟩ := rfl
theorem tab73 : tab 73 = some ⟨.slice 22, 1, 24, [.slice none 0 0], false⟩ := rfl
theorem tab75 : tab 75 = some ⟨.slice 80, 1, 24, [.slice none 0 0], false⟩ := rfl
theorem tab77 : tab 77 = some ⟨.slice 81, 1, 24, [.slice none 0 0], false⟩ := rfl
theorem tab79 : tab 79 = some ⟨.struct [(0, 3), (1, 3)], 2, 16, [.int .i64 0, .int .i64 0], false⟩ := rfl
theorem tab80 : tab 80 = some ⟨.struct [(0, 3), (1, 3)], 2, 16, [.int .i64 0, .int .i64 0], true⟩ := rfl
theorem tab81 : tab 81 = some ⟨.struct [(0, 3), (1, 3)], 2, 16, [.int .i64 0, .int .i64 0], true⟩ := rfl
theorem tab82 : tab 82 = some ⟨.slice 92, 1, 24, [.slice none 0 0], false⟩ := rfl
theorem tab83 : tab 83 = some ⟨.ptr 142, 1, 8, [.pointer none], false⟩ := rfl
theorem tab85 : tab 85 = some ⟨.ptr 89, 1, 8, [.pointer none], false⟩ := rfl
theorem tab86 : tab 86 = some ⟨.arr 16 38, 16, 384, [.slice none 0 0, .slice none 0 0, .slice none 0 0, .slice none 0 0, .slice none 0 0, .slice none 0 0, .slice none 0 0, .slice none 0 0, .slice none 0 0, .slice none 0 0, .slice none 0 0, .slice none 0 0, .slice none 0 0, .slice none 0 0, .slice none 0 0, .slice none 0 0], false⟩ := rfl
theorem tab87 : tab 87 = some ⟨.arr 16 4, 16, 16, [.bool false, .bool false, .bool false, .bool false, .bool false, .bool false, .bool false, .bool false, .bool false, .bool false, .bool false, .bool false, .bool false, .bool false, .bool false, .bool false], false⟩ := rfl
theorem tab88 : tab 88 = some ⟨.struct [(0, 86), (16, 87)], 32, 400, [.slice none 0 0, .slice none 0 0, .slice none 0 0, .slice none 0 0, .slice none 0 0, .slice none 0 0, .slice none 0 0, .slice none 0 0, .slice none 0 0, .slice none 0 0, .slice none 0 0, .slice none 0 0, .slice none 0 0, .slice none 0 0, .slice none 0 0, .slice none 0 0, .bool false, .bool false, .bool false, .bool false, .bool false, .bool false, .bool false, .bool false, .bool false, .bool false, .bool false, .bool false, .bool false, .bool false, .bool false, .bool false], false⟩ := rfl
theorem tab89 : tab 89 = some ⟨.struct [(0, 86), (16, 87)], 32, 400, [.slice none 0 0, .slice none 0 0, .slice none 0 0, .slice none 0 0, .slice none 0 0, .slice none 0 0, .slice none 0 0, .slice none 0 0, .slice none 0 0, .slice none 0 0, .slice none 0 0, .slice none 0 0, .slice none 0 0, .slice none 0 0, .slice none 0 0, .slice none 0 0, .bool false, .bool false, .bool false, .bool false, .bool false, .bool false, .bool false, .bool false, .bool false, .bool false, .bool false, .bool false, .bool false, .bool false, .bool false, .bool false], false⟩ := rfl
theorem tab91 : tab 91 = some ⟨.struct [(0, 3), (1, 3), (2, 22), (3, 45)], 4, 64, [.int .i64 0, .int .i64 0, .slice none 0 0, .slice none 0 0], false⟩ := rfl
theorem tab92 : tab 92 = some ⟨.struct [(0, 3), (1, 3), (2, 22), (3, 45)], 4, 64, [.int .i64 0, .int .i64 0, .slice none 0 0, .slice none 0 0], false⟩ := rfl
theorem tab96 : tab 96 = some ⟨.int .i64, 1, 8, [.int .i64 0], false⟩ := rfl
theorem tab104 : tab 104 = some ⟨.struct [(0, 45), (1, 3), (2, 3)], 3, 40, [.slice none 0 0, .int .i64 0, .int .i64 0], false⟩ := rfl
theorem tab105 : tab 105 = some ⟨.struct [(0, 45), (1, 3), (2, 3)], 3, 40, [.slice none 0 0, .int .i64 0, .int .i64 0], false⟩ := rfl
theorem tab110 : tab 110 = some ⟨.struct [(0, 3), (1, 3)], 2, 16, [.int .i64 0, .int .i64 0], true⟩ := rfl
theorem tab114 : tab 114 = some ⟨.ptr 123, 1, 8, [.pointer none], false⟩ := rfl
theorem tab116 : tab 116 = some ⟨.slice 119, 1, 24, [.slice none 0 0], false⟩ := rfl
theorem tab118 : tab 118 = some ⟨.struct [(0, 3), (1, 3)], 2, 16, [.int .i64 0, .int .i64 0], false⟩ := rfl
theorem tab119 : tab 119 = some ⟨.struct [(0, 3), (1, 3)], 2, 16, [.int .i64 0, .int .i64 0], true⟩ := rfl
theorem tab122 : tab 122 = some ⟨.struct [(0, 22), (1, 22), (2, 3), (3, 73), (4, 73), (5, 3)], 6, 112, [.slice none 0 0, .slice none 0 0, .int .i64 0, .slice none 0 0, .slice none 0 0, .int .i64 0], false⟩ := rfl
theorem tab123 : tab 123 = some ⟨.struct [(0, 22), (1, 22), (2, 3), (3, 73), (4, 73), (5, 3)], 6, 112, [.slice none 0 0, .slice none 0 0, .int .i64 0, .slice none 0 0, .slice none 0 0, .int .i64 0], false⟩ := rfl
theorem tab124 : tab 124 = some ⟨.slice 130, 1, 24, [.slice none 0 0], false⟩ := rfl
theorem tab125 : tab 125 = some ⟨.slice 130, 1, 24, [.slice none 0 0], false⟩ := rfl
theorem tab128 : tab 128 = some ⟨.ptr 125, 1, 8, [.pointer none], false⟩ := rfl
theorem tab129 : tab 129 = some ⟨.struct [(0, 80), (2, 3)], 3, 24, [.int .i64 0, .int .i64 0, .int .i64 0], false⟩ := rfl
theorem tab130 : tab 130 = some ⟨.struct [(0, 80), (2, 3)], 3, 24, [.int .i64 0, .int .i64 0, .int .i64 0], true⟩ := rfl
theorem tab138 : tab 138 = some ⟨.struct [(0, 4), (1, 38)], 2, 32, [.bool false, .slice none 0 0], false⟩ := rfl
theorem tab139 : tab 139 = some ⟨.struct [(0, 4), (1, 38)], 2, 32, [.bool false, .slice none 0 0], false⟩ := rfl
theorem tab140 : tab 140 = some ⟨.arr 16 139, 32, 512, [.bool false, .slice none 0 0, .bool false, .slice none 0 0, .bool false, .slice none 0 0, .bool false, .slice none 0 0, .bool false, .slice none 0 0, .bool false, .slice none 0 0, .bool false, .slice none 0 0, .bool false, .slice none 0 0, .bool false, .slice none 0 0, .bool false, .slice none 0 0, .bool false, .slice none 0 0, .bool false, .slice none 0 0, .bool false, .slice none 0 0, .bool false, .slice none 0 0, .bool false, .slice none 0 0, .bool false, .slice none 0 0], false⟩ := rfl
theorem tab141 : tab 141 = some ⟨.struct [(0, 140)], 32, 512, [.bool false, .slice none 0 0, .bool false, .slice none 0 0, .bool false, .slice none 0 0, .bool false, .slice none 0 0, .bool false, .slice none 0 0, .bool false, .slice none 0 0, .bool false, .slice none 0 0, .bool false, .slice none 0 0, .bool false, .slice none 0 0, .bool false, .slice none 0 0, .bool false, .slice none 0 0, .bool false, .slice none 0 0, .bool false, .slice none 0 0, .bool false, .slice none 0 0, .bool false, .slice none 0 0, .bool false, .slice none 0 0], false⟩ := rfl
theorem tab142 : tab 142 = some ⟨.struct [(0, 140)], 32, 512, [.bool false, .slice none 0 0, .bool false, .slice none 0 0, .bool false, .slice none 0 0, .bool false, .slice none 0 0, .bool false, .slice none 0 0, .bool false, .slice none 0 0, .bool false, .slice none 0 0, .bool false, .slice none 0 0, .bool false, .slice none 0 0, .bool false, .slice none 0 0, .bool false, .slice none 0 0, .bool false, .slice none 0 0, .bool false, .slice none 0 0, .bool false, .slice none 0 0, .bool false, .slice none 0 0, .bool false, .slice none 0 0], false⟩ := rfl
theorem tab155 : tab 155 = some ⟨.int .u64, 1, 8, [.int .u64 0], false⟩ := rfl
theorem tab159 : tab 159 = some ⟨.int .i64, 1, 8, [.int .i64 0], false⟩ := rfl
theorem tab166 : tab 166 = some ⟨.int .u32, 1, 4, [.int .u32 0], false⟩ := rfl
theorem tab169 : tab 169 = some ⟨.int .u64, 1, 8, [.int .u64 0], false⟩ := rfl
theorem tab173 : tab 173 = some ⟨.ptr 3, 1, 8, [.pointer none], false⟩ := rfl
theorem tab175 : tab 175 = some ⟨.ptr 169, 1, 8, [.pointer none], false⟩ := rfl
theorem tab179 : tab 179 = some ⟨.struct [(0, 17), (1, 17), (2, 17), (3, 9)], 4, 40, [.pointer none, .pointer none, .pointer none, .string ByteArray.empty], false⟩ := rfl
theorem tab180 : tab 180 = some ⟨.struct [(0, 17), (1, 17), (2, 17), (3, 9)], 4, 40, [.pointer none, .pointer none, .pointer none, .string ByteArray.empty], false⟩ := rfl
theorem tab184 : tab 184 = some ⟨.int .u8, 1, 1, [.int .u8 0], false⟩ := rfl
theorem tab185 : tab 185 = some ⟨.int .u8, 1, 1, [.int .u8 0], false⟩ := rfl
theorem tab187 : tab 187 = some ⟨.ptr 5, 1, 8, [.pointer none], false⟩ := rfl
theorem tab188 : tab 188 = some ⟨.int .i32, 1, 4, [.int .i32 0], false⟩ := rfl
theorem tab189 : tab 189 = some ⟨.int .i32, 1, 4, [.int .i32 0], false⟩ := rfl
theorem tkind2 : tkind tab 2 = some (.int .i64) := rfl
theorem tkind3 : tkind tab 3 = some (.int .i64) := rfl
theorem tkind4 : tkind tab 4 = some (.bool) := rfl
theorem tkind5 : tkind tab 5 = some (.int .u8) := rfl
theorem tkind6 : tkind tab 6 = some (.int .u8) := rfl
theorem tkind7 : tkind tab 7 = some (.struct [(0, 2), (1, 3), (2, 4), (3, 6)]) := rfl
theorem tkind8 : tkind tab 8 = some (.struct [(0, 2), (1, 3), (2, 4), (3, 6)]) := rfl
theorem tkind9 : tkind tab 9 = some (.str) := rfl
theorem tkind10 : tkind tab 10 = some (.str) := rfl
theorem tkind11 : tkind tab 11 = some (.str) := rfl
theorem tkind12 : tkind tab 12 = some (.int .u64) := rfl
theorem tkind13 : tkind tab 13 = some (.struct [(0, 9), (1, 12)]) := rfl
theorem tkind14 : tkind tab 14 = some (.struct [(0, 9), (1, 12)]) := rfl
theorem tkind15 : tkind tab 15 = some (.ptr 180) := rfl
theorem tkind16 : tkind tab 16 = some (.ptr 183) := rfl
theorem tkind17 : tkind tab 17 = some (.ptr 191) := rfl
theorem tkind18 : tkind tab 18 = some (.struct [(0, 17)]) := rfl
theorem tkind19 : tkind tab 19 = some (.struct [(0, 17)]) := rfl
theorem tkind21 : tkind tab 21 = some (.int .i32) := rfl
theorem tkind22 : tkind tab 22 = some (.slice 3) := rfl
theorem tkind23 : tkind tab 23 = some (.ptr 105) := rfl
theorem tkind25 : tkind tab 25 = some (.slice 28) := rfl
theorem tkind28 : tkind tab 28 = some (.arr 3 3) := rfl
theorem tkind33 : tkind tab 33 = some (.int .u64) := rfl
theorem tkind34 : tkind tab 34 = some (.struct [(0, 3), (1, 3), (2, 3), (3, 3), (4, 33)]) := rfl
theorem tkind35 : tkind tab 35 = some (.struct [(0, 3), (1, 3), (2, 3), (3, 3), (4, 33)]) := rfl
theorem tkind38 : tkind tab 38 = some (.slice 33) := rfl
theorem tkind45 : tkind tab 45 = some (.slice 38) := rfl
theorem tkind48 : tkind tab 48 = some (.slice 56) := rfl
theorem tkind50 : tkind tab 50 = some (.slice 110) := rfl
theorem tkind55 : tkind tab 55 = some (.struct [(0, 3), (1, 3)]) := rfl
theorem tkind56 : tkind tab 56 = some (.struct [(0, 3), (1, 3)]) := rfl
theorem tkind73 : tkind tab 73 = some (.slice 22) := rfl
theorem tkind75 : tkind tab 75 = some (.slice 80) := rfl
theorem tkind77 : tkind tab 77 = some (.slice 81) := rfl
theorem tkind79 : tkind tab 79 = some (.struct [(0, 3), (1, 3)]) := rfl
theorem tkind80 : tkind tab 80 = some (.struct [(0, 3), (1, 3)]) := rfl
theorem tkind81 : tkind tab 81 = some (.struct [(0, 3), (1, 3)]) := rfl
theorem tkind82 : tkind tab 82 = some (.slice 92) := rfl
theorem tkind83 : tkind tab 83 = some (.ptr 142) := rfl
theorem tkind85 : tkind tab 85 = some (.ptr 89) := rfl
theorem tkind86 : tkind tab 86 = some (.arr 16 38) := rfl
theorem tkind87 : tkind tab 87 = some (.arr 16 4) := rfl
theorem tkind88 : tkind tab 88 = some (.struct [(0, 86), (16, 87)]) := rfl
theorem tkind89 : tkind tab 89 = some (.struct [(0, 86), (16, 87)]) := rfl
theorem tkind91 : tkind tab 91 = some (.struct [(0, 3), (1, 3), (2, 22), (3, 45)]) := rfl
theorem tkind92 : tkind tab 92 = some (.struct [(0, 3), (1, 3), (2, 22), (3, 45)]) := rfl
theorem tkind96 : tkind tab 96 = some (.int .i64) := rfl
theorem tkind104 : tkind tab 104 = some (.struct [(0, 45), (1, 3), (2, 3)]) := rfl
theorem tkind105 : tkind tab 105 = some (.struct [(0, 45), (1, 3), (2, 3)]) := rfl
theorem tkind110 : tkind tab 110 = some (.struct [(0, 3), (1, 3)]) := rfl
theorem tkind114 : tkind tab 114 = some (.ptr 123) := rfl
theorem tkind116 : tkind tab 116 = some (.slice 119) := rfl
theorem tkind118 : tkind tab 118 = some (.struct [(0, 3), (1, 3)]) := rfl
theorem tkind119 : tkind tab 119 = some (.struct [(0, 3), (1, 3)]) := rfl
theorem tkind122 : tkind tab 122 = some (.struct [(0, 22), (1, 22), (2, 3), (3, 73), (4, 73), (5, 3)]) := rfl
theorem tkind123 : tkind tab 123 = some (.struct [(0, 22), (1, 22), (2, 3), (3, 73), (4, 73), (5, 3)]) := rfl
theorem tkind124 : tkind tab 124 = some (.slice 130) := rfl
theorem tkind125 : tkind tab 125 = some (.slice 130) := rfl
theorem tkind128 : tkind tab 128 = some (.ptr 125) := rfl
theorem tkind129 : tkind tab 129 = some (.struct [(0, 80), (2, 3)]) := rfl
theorem tkind130 : tkind tab 130 = some (.struct [(0, 80), (2, 3)]) := rfl
theorem tkind138 : tkind tab 138 = some (.struct [(0, 4), (1, 38)]) := rfl
theorem tkind139 : tkind tab 139 = some (.struct [(0, 4), (1, 38)]) := rfl
theorem tkind140 : tkind tab 140 = some (.arr 16 139) := rfl
theorem tkind141 : tkind tab 141 = some (.struct [(0, 140)]) := rfl
theorem tkind142 : tkind tab 142 = some (.struct [(0, 140)]) := rfl
theorem tkind155 : tkind tab 155 = some (.int .u64) := rfl
theorem tkind159 : tkind tab 159 = some (.int .i64) := rfl
theorem tkind166 : tkind tab 166 = some (.int .u32) := rfl
theorem tkind169 : tkind tab 169 = some (.int .u64) := rfl
theorem tkind173 : tkind tab 173 = some (.ptr 3) := rfl
theorem tkind175 : tkind tab 175 = some (.ptr 169) := rfl
theorem tkind179 : tkind tab 179 = some (.struct [(0, 17), (1, 17), (2, 17), (3, 9)]) := rfl
theorem tkind180 : tkind tab 180 = some (.struct [(0, 17), (1, 17), (2, 17), (3, 9)]) := rfl
theorem tkind184 : tkind tab 184 = some (.int .u8) := rfl
theorem tkind185 : tkind tab 185 = some (.int .u8) := rfl
theorem tkind187 : tkind tab 187 = some (.ptr 5) := rfl
theorem tkind188 : tkind tab 188 = some (.int .i32) := rfl
theorem tkind189 : tkind tab 189 = some (.int .i32) := rfl
theorem dok : DOk Try.prog (gquiet Try.prog tab) := gquiet_ok tab_ok (by kernel_rfl)
end Go.Proofs.Ytkdanjfmobibbaa
