/- The types of this seat's program, as its dump has them, in the ghost memory's words; no condition. -/
import Derived.Test.YtjeolggpgclgkaaRows
import Derived.Test.YtjeolggpgclgkaaG16
namespace Go.Proofs.Ytjeolggpgclgkaa
open Go.RowKit
set_option linter.unusedVariables false
set_option linter.unusedSimpArgs false
theorem TyOk.of {P : Program} {t : TypeId} (k : TK) (size bytes : Nat) (zero : List Value) (z : Value) (h : (P.info? t).map (fun i => (i.zero, i.size, i.bytes)) = some (some z, size, bytes)) (hz : z.cells.toList = zero) (hu : k.ok P t) (hl : zero.length = size) (h1 : zero.all Value.oneCell' = true) (eq : Bool) (he : eq = true → EqTy P t) : TyOk P t ⟨k, size, bytes, zero, eq⟩ := by
  refine ⟨?_, hu, hl, fun v hv => List.all_eq_true.1 h1 v hv, he⟩
  cases hi : P.info? t with
  | none => rw [hi] at h; cases h
  | some i =>
    rw [hi] at h
    simp only [Option.map_some, Option.some.injEq, Prod.mk.injEq] at h
    exact ⟨i, z, rfl, h.2.1, h.2.2, h.1, hz⟩
theorem lookup_mem {α : Type} {t : Nat} {i : α} : ∀ (l : List (Nat × α)), l.lookup t = some i → (t, i) ∈ l
  | [], h => by simp at h
  | (a, b) :: l, h => by
    rw [List.lookup_cons] at h
    split at h
    · rename_i he
      injection h with h
      have : t = a := by simpa using he
      subst h this
      exact .head _
    · exact .tail _ (lookup_mem l h)
theorem ty2 : TyOk Try.prog 2 ⟨.int .i64, 1, 8, [.int .i64 0], false⟩ := TyOk.of (P := Try.prog) (t := 2) (.int .i64) 1 8 [.int .i64 0] (.int .i64 0) (by kernel_rfl) rfl Try.underlying2 rfl rfl false (fun h => by cases h)
theorem ty3 : TyOk Try.prog 3 ⟨.int .i64, 1, 8, [.int .i64 0], false⟩ := TyOk.of (P := Try.prog) (t := 3) (.int .i64) 1 8 [.int .i64 0] (.int .i64 0) (by kernel_rfl) rfl Try.underlying3 rfl rfl false (fun h => by cases h)
theorem ty4 : TyOk Try.prog 4 ⟨.bool, 1, 1, [.bool false], false⟩ := TyOk.of (P := Try.prog) (t := 4) (.bool) 1 1 [.bool false] (.bool false) (by kernel_rfl) rfl Try.underlying4 rfl rfl false (fun h => by cases h)
theorem ty5 : TyOk Try.prog 5 ⟨.int .u8, 1, 1, [.int .u8 0], false⟩ := TyOk.of (P := Try.prog) (t := 5) (.int .u8) 1 1 [.int .u8 0] (.int .u8 0) (by kernel_rfl) rfl Try.underlying5 rfl rfl false (fun h => by cases h)
theorem ty6 : TyOk Try.prog 6 ⟨.int .u8, 1, 1, [.int .u8 0], false⟩ := TyOk.of (P := Try.prog) (t := 6) (.int .u8) 1 1 [.int .u8 0] (.int .u8 0) (by kernel_rfl) rfl Try.underlying6 rfl rfl false (fun h => by cases h)
theorem ty7 : TyOk Try.prog 7 ⟨.struct [(0, 2), (1, 3), (2, 4), (3, 6)], 4, 24, [.int .i64 0, .int .i64 0, .bool false, .int .u8 0], false⟩ := TyOk.of (P := Try.prog) (t := 7) (.struct [(0, 2), (1, 3), (2, 4), (3, 6)]) 4 24 [.int .i64 0, .int .i64 0, .bool false, .int .u8 0] (.agg #[.int .i64 0, .int .i64 0, .bool false, .int .u8 0]) (by kernel_rfl) rfl ⟨_, Try.underlying7, rfl⟩ rfl rfl false (fun h => by cases h)
theorem ty8 : TyOk Try.prog 8 ⟨.struct [(0, 2), (1, 3), (2, 4), (3, 6)], 4, 24, [.int .i64 0, .int .i64 0, .bool false, .int .u8 0], false⟩ := TyOk.of (P := Try.prog) (t := 8) (.struct [(0, 2), (1, 3), (2, 4), (3, 6)]) 4 24 [.int .i64 0, .int .i64 0, .bool false, .int .u8 0] (.agg #[.int .i64 0, .int .i64 0, .bool false, .int .u8 0]) (by kernel_rfl) rfl ⟨_, Try.underlying8, rfl⟩ rfl rfl false (fun h => by cases h)
theorem ty9 : TyOk Try.prog 9 ⟨.str, 1, 16, [.string ByteArray.empty], false⟩ := TyOk.of (P := Try.prog) (t := 9) (.str) 1 16 [.string ByteArray.empty] (.string ByteArray.empty) (by kernel_rfl) rfl Try.underlying9 rfl rfl false (fun h => by cases h)
theorem ty10 : TyOk Try.prog 10 ⟨.str, 1, 16, [.string ByteArray.empty], false⟩ := TyOk.of (P := Try.prog) (t := 10) (.str) 1 16 [.string ByteArray.empty] (.string ByteArray.empty) (by kernel_rfl) rfl Try.underlying10 rfl rfl false (fun h => by cases h)
theorem ty11 : TyOk Try.prog 11 ⟨.str, 1, 16, [.string ByteArray.empty], false⟩ := TyOk.of (P := Try.prog) (t := 11) (.str) 1 16 [.string ByteArray.empty] (.string ByteArray.empty) (by kernel_rfl) rfl Try.underlying11 rfl rfl false (fun h => by cases h)
theorem ty12 : TyOk Try.prog 12 ⟨.int .u64, 1, 8, [.int .u64 0], false⟩ := TyOk.of (P := Try.prog) (t := 12) (.int .u64) 1 8 [.int .u64 0] (.int .u64 0) (by kernel_rfl) rfl Try.underlying12 rfl rfl false (fun h => by cases h)
theorem ty13 : TyOk Try.prog 13 ⟨.struct [(0, 9), (1, 12)], 2, 24, [.string ByteArray.empty, .int .u64 0], false⟩ := TyOk.of (P := Try.prog) (t := 13) (.struct [(0, 9), (1, 12)]) 2 24 [.string ByteArray.empty, .int .u64 0] (.agg #[.string ByteArray.empty, .int .u64 0]) (by kernel_rfl) rfl ⟨_, Try.underlying13, rfl⟩ rfl rfl false (fun h => by cases h)
theorem ty14 : TyOk Try.prog 14 ⟨.struct [(0, 9), (1, 12)], 2, 24, [.string ByteArray.empty, .int .u64 0], false⟩ := TyOk.of (P := Try.prog) (t := 14) (.struct [(0, 9), (1, 12)]) 2 24 [.string ByteArray.empty, .int .u64 0] (.agg #[.string ByteArray.empty, .int .u64 0]) (by kernel_rfl) rfl ⟨_, Try.underlying14, rfl⟩ rfl rfl false (fun h => by cases h)
theorem ty15 : TyOk Try.prog 15 ⟨.ptr 171, 1, 8, [.pointer none], false⟩ := TyOk.of (P := Try.prog) (t := 15) (.ptr 171) 1 8 [.pointer none] (.pointer none) (by kernel_rfl) rfl Try.underlying15 rfl rfl false (fun h => by cases h)
theorem ty16 : TyOk Try.prog 16 ⟨.ptr 174, 1, 8, [.pointer none], false⟩ := TyOk.of (P := Try.prog) (t := 16) (.ptr 174) 1 8 [.pointer none] (.pointer none) (by kernel_rfl) rfl Try.underlying16 rfl rfl false (fun h => by cases h)
theorem ty17 : TyOk Try.prog 17 ⟨.ptr 182, 1, 8, [.pointer none], false⟩ := TyOk.of (P := Try.prog) (t := 17) (.ptr 182) 1 8 [.pointer none] (.pointer none) (by kernel_rfl) rfl Try.underlying17 rfl rfl false (fun h => by cases h)
theorem ty18 : TyOk Try.prog 18 ⟨.struct [(0, 17)], 1, 8, [.pointer none], false⟩ := TyOk.of (P := Try.prog) (t := 18) (.struct [(0, 17)]) 1 8 [.pointer none] (.agg #[.pointer none]) (by kernel_rfl) rfl ⟨_, Try.underlying18, rfl⟩ rfl rfl false (fun h => by cases h)
theorem ty19 : TyOk Try.prog 19 ⟨.struct [(0, 17)], 1, 8, [.pointer none], false⟩ := TyOk.of (P := Try.prog) (t := 19) (.struct [(0, 17)]) 1 8 [.pointer none] (.agg #[.pointer none]) (by kernel_rfl) rfl ⟨_, Try.underlying19, rfl⟩ rfl rfl false (fun h => by cases h)
theorem ty21 : TyOk Try.prog 21 ⟨.int .i32, 1, 4, [.int .i32 0], false⟩ := TyOk.of (P := Try.prog) (t := 21) (.int .i32) 1 4 [.int .i32 0] (.int .i32 0) (by kernel_rfl) rfl Try.underlying21 rfl rfl false (fun h => by cases h)
theorem ty22 : TyOk Try.prog 22 ⟨.slice 71, 1, 24, [.slice none 0 0], false⟩ := TyOk.of (P := Try.prog) (t := 22) (.slice 71) 1 24 [.slice none 0 0] (.slice none 0 0) (by kernel_rfl) rfl Try.underlying22 rfl rfl false (fun h => by cases h)
theorem ty23 : TyOk Try.prog 23 ⟨.slice 25, 1, 24, [.slice none 0 0], false⟩ := TyOk.of (P := Try.prog) (t := 23) (.slice 25) 1 24 [.slice none 0 0] (.slice none 0 0) (by kernel_rfl) rfl Try.underlying23 rfl rfl false (fun h => by cases h)
theorem ty24 : TyOk Try.prog 24 ⟨.struct [(0, 3), (1, 22), (2, 23)], 3, 56, [.int .i64 0, .slice none 0 0, .slice none 0 0], false⟩ := TyOk.of (P := Try.prog) (t := 24) (.struct [(0, 3), (1, 22), (2, 23)]) 3 56 [.int .i64 0, .slice none 0 0, .slice none 0 0] (.agg #[.int .i64 0, .slice none 0 0, .slice none 0 0]) (by kernel_rfl) rfl ⟨_, Try.underlying24, rfl⟩ rfl rfl false (fun h => by cases h)
theorem ty25 : TyOk Try.prog 25 ⟨.struct [(0, 3), (1, 22), (2, 23)], 3, 56, [.int .i64 0, .slice none 0 0, .slice none 0 0], false⟩ := TyOk.of (P := Try.prog) (t := 25) (.struct [(0, 3), (1, 22), (2, 23)]) 3 56 [.int .i64 0, .slice none 0 0, .slice none 0 0] (.agg #[.int .i64 0, .slice none 0 0, .slice none 0 0]) (by kernel_rfl) rfl ⟨_, Try.underlying25, rfl⟩ rfl rfl false (fun h => by cases h)
theorem ty33 : TyOk Try.prog 33 ⟨.slice 43, 1, 24, [.slice none 0 0], false⟩ := TyOk.of (P := Try.prog) (t := 33) (.slice 43) 1 24 [.slice none 0 0] (.slice none 0 0) (by kernel_rfl) rfl Try.underlying33 rfl rfl false (fun h => by cases h)
theorem ty35 : TyOk Try.prog 35 ⟨.slice 77, 1, 24, [.slice none 0 0], false⟩ := TyOk.of (P := Try.prog) (t := 35) (.slice 77) 1 24 [.slice none 0 0] (.slice none 0 0) (by kernel_rfl) rfl Try.underlying35 rfl rfl false (fun h => by cases h)
theorem ty40 : TyOk Try.prog 40 ⟨.arr 3 3, 3, 24, [.int .i64 0, .int .i64 0, .int .i64 0], false⟩ := TyOk.of (P := Try.prog) (t := 40) (.arr 3 3) 3 24 [.int .i64 0, .int .i64 0, .int .i64 0] (.agg #[.int .i64 0, .int .i64 0, .int .i64 0]) (by kernel_rfl) rfl Try.underlying40 rfl rfl false (fun h => by cases h)
theorem ty42 : TyOk Try.prog 42 ⟨.struct [(0, 3), (1, 3)], 2, 16, [.int .i64 0, .int .i64 0], false⟩ := TyOk.of (P := Try.prog) (t := 42) (.struct [(0, 3), (1, 3)]) 2 16 [.int .i64 0, .int .i64 0] (.agg #[.int .i64 0, .int .i64 0]) (by kernel_rfl) rfl ⟨_, Try.underlying42, rfl⟩ rfl rfl false (fun h => by cases h)
theorem ty43 : TyOk Try.prog 43 ⟨.struct [(0, 3), (1, 3)], 2, 16, [.int .i64 0, .int .i64 0], true⟩ := TyOk.of (P := Try.prog) (t := 43) (.struct [(0, 3), (1, 3)]) 2 16 [.int .i64 0, .int .i64 0] (.agg #[.int .i64 0, .int .i64 0]) (by kernel_rfl) rfl ⟨_, Try.underlying43, rfl⟩ rfl rfl true (fun _ => by unfold EqTy; exact ⟨by kernel_rfl, by kernel_rfl, by kernel_rfl⟩)
theorem ty49 : TyOk Try.prog 49 ⟨.slice 86, 1, 24, [.slice none 0 0], false⟩ := TyOk.of (P := Try.prog) (t := 49) (.slice 86) 1 24 [.slice none 0 0] (.slice none 0 0) (by kernel_rfl) rfl Try.underlying49 rfl rfl false (fun h => by cases h)
theorem ty50 : TyOk Try.prog 50 ⟨.slice 61, 1, 24, [.slice none 0 0], false⟩ := TyOk.of (P := Try.prog) (t := 50) (.slice 61) 1 24 [.slice none 0 0] (.slice none 0 0) (by kernel_rfl) rfl Try.underlying50 rfl rfl false (fun h => by cases h)
theorem ty51 : TyOk Try.prog 51 ⟨.slice 63, 1, 24, [.slice none 0 0], false⟩ := TyOk.of (P := Try.prog) (t := 51) (.slice 63) 1 24 [.slice none 0 0] (.slice none 0 0) (by kernel_rfl) rfl Try.underlying51 rfl rfl false (fun h => by cases h)
theorem ty52 : TyOk Try.prog 52 ⟨.struct [(0, 3), (1, 25), (4, 25), (7, 49), (8, 50), (9, 3), (10, 51)], 11, 200, [.int .i64 0, .int .i64 0, .slice none 0 0, .slice none 0 0, .int .i64 0, .slice none 0 0, .slice none 0 0, .slice none 0 0, .slice none 0 0, .int .i64 0, .slice none 0 0], false⟩ := TyOk.of (P := Try.prog) (t := 52) (.struct [(0, 3), (1, 25), (4, 25), (7, 49), (8, 50), (9, 3), (10, 51)]) 11 200 [.int .i64 0, .int .i64 0, .slice none 0 0, .slice none 0 0, .int .i64 0, .slice none 0 0, .slice none 0 0, .slice none 0 0, .slice none 0 0, .int .i64 0, .slice none 0 0] (.agg #[.int .i64 0, .int .i64 0, .slice none 0 0, .slice none 0 0, .int .i64 0, .slice none 0 0, .slice none 0 0, .slice none 0 0, .slice none 0 0, .int .i64 0, .slice none 0 0]) (by kernel_rfl) rfl ⟨_, Try.underlying52, rfl⟩ rfl rfl false (fun h => by cases h)
theorem ty53 : TyOk Try.prog 53 ⟨.struct [(0, 3), (1, 25), (4, 25), (7, 49), (8, 50), (9, 3), (10, 51)], 11, 200, [.int .i64 0, .int .i64 0, .slice none 0 0, .slice none 0 0, .int .i64 0, .slice none 0 0, .slice none 0 0, .slice none 0 0, .slice none 0 0, .int .i64 0, .slice none 0 0], false⟩ := TyOk.of (P := Try.prog) (t := 53) (.struct [(0, 3), (1, 25), (4, 25), (7, 49), (8, 50), (9, 3), (10, 51)]) 11 200 [.int .i64 0, .int .i64 0, .slice none 0 0, .slice none 0 0, .int .i64 0, .slice none 0 0, .slice none 0 0, .slice none 0 0, .slice none 0 0, .int .i64 0, .slice none 0 0] (.agg #[.int .i64 0, .int .i64 0, .slice none 0 0, .slice none 0 0, .int .i64 0, .slice none 0 0, .slice none 0 0, .slice none 0 0, .slice none 0 0, .int .i64 0, .slice none 0 0]) (by kernel_rfl) rfl ⟨_, Try.underlying53, rfl⟩ rfl rfl false (fun h => by cases h)
theorem ty60 : TyOk Try.prog 60 ⟨.struct [(0, 3), (1, 53)], 12, 208, [.int .i64 0, .int .i64 0, .int .i64 0, .slice none 0 0, .slice none 0 0, .int .i64 0, .slice none 0 0, .slice none 0 0, .slice none 0 0, .slice none 0 0, .int .i64 0, .slice none 0 0], false⟩ := TyOk.of (P := Try.prog) (t := 60) (.struct [(0, 3), (1, 53)]) 12 208 [.int .i64 0, .int .i64 0, .int .i64 0, .slice none 0 0, .slice none 0 0, .int .i64 0, .slice none 0 0, .slice none 0 0, .slice none 0 0, .slice none 0 0, .int .i64 0, .slice none 0 0] (.agg #[.int .i64 0, .int .i64 0, .int .i64 0, .slice none 0 0, .slice none 0 0, .int .i64 0, .slice none 0 0, .slice none 0 0, .slice none 0 0, .slice none 0 0, .int .i64 0, .slice none 0 0]) (by kernel_rfl) rfl ⟨_, Try.underlying60, rfl⟩ rfl rfl false (fun h => by cases h)
theorem ty61 : TyOk Try.prog 61 ⟨.struct [(0, 3), (1, 53)], 12, 208, [.int .i64 0, .int .i64 0, .int .i64 0, .slice none 0 0, .slice none 0 0, .int .i64 0, .slice none 0 0, .slice none 0 0, .slice none 0 0, .slice none 0 0, .int .i64 0, .slice none 0 0], false⟩ := TyOk.of (P := Try.prog) (t := 61) (.struct [(0, 3), (1, 53)]) 12 208 [.int .i64 0, .int .i64 0, .int .i64 0, .slice none 0 0, .slice none 0 0, .int .i64 0, .slice none 0 0, .slice none 0 0, .slice none 0 0, .slice none 0 0, .int .i64 0, .slice none 0 0] (.agg #[.int .i64 0, .int .i64 0, .int .i64 0, .slice none 0 0, .slice none 0 0, .int .i64 0, .slice none 0 0, .slice none 0 0, .slice none 0 0, .slice none 0 0, .int .i64 0, .slice none 0 0]) (by kernel_rfl) rfl ⟨_, Try.underlying61, rfl⟩ rfl rfl false (fun h => by cases h)
theorem ty62 : TyOk Try.prog 62 ⟨.struct [(0, 3), (1, 3), (2, 23), (3, 53)], 14, 240, [.int .i64 0, .int .i64 0, .slice none 0 0, .int .i64 0, .int .i64 0, .slice none 0 0, .slice none 0 0, .int .i64 0, .slice none 0 0, .slice none 0 0, .slice none 0 0, .slice none 0 0, .int .i64 0, .slice none 0 0], false⟩ := TyOk.of (P := Try.prog) (t := 62) (.struct [(0, 3), (1, 3), (2, 23), (3, 53)]) 14 240 [.int .i64 0, .int .i64 0, .slice none 0 0, .int .i64 0, .int .i64 0, .slice none 0 0, .slice none 0 0, .int .i64 0, .slice none 0 0, .slice none 0 0, .slice none 0 0, .slice none 0 0, .int .i64 0, .slice none 0 0] (.agg #[.int .i64 0, .int .i64 0, .slice none 0 0, .int .i64 0, .int .i64 0, .slice none 0 0, .slice none 0 0, .int .i64 0, .slice none 0 0, .slice none 0 0, .slice none 0 0, .slice none 0 0, .int .i64 0, .slice none 0 0]) (by kernel_rfl) rfl ⟨_, Try.underlying62, rfl⟩ rfl rfl false (fun h => by cases h)
theorem ty63 : TyOk Try.prog 63 ⟨.struct [(0, 3), (1, 3), (2, 23), (3, 53)], 14, 240, [.int .i64 0, .int .i64 0, .slice none 0 0, .int .i64 0, .int .i64 0, .slice none 0 0, .slice none 0 0, .int .i64 0, .slice none 0 0, .slice none 0 0, .slice none 0 0, .slice none 0 0, .int .i64 0, .slice none 0 0], false⟩ := TyOk.of (P := Try.prog) (t := 63) (.struct [(0, 3), (1, 3), (2, 23), (3, 53)]) 14 240 [.int .i64 0, .int .i64 0, .slice none 0 0, .int .i64 0, .int .i64 0, .slice none 0 0, .slice none 0 0, .int .i64 0, .slice none 0 0, .slice none 0 0, .slice none 0 0, .slice none 0 0, .int .i64 0, .slice none 0 0] (.agg #[.int .i64 0, .int .i64 0, .slice none 0 0, .int .i64 0, .int .i64 0, .slice none 0 0, .slice none 0 0, .int .i64 0, .slice none 0 0, .slice none 0 0, .slice none 0 0, .slice none 0 0, .int .i64 0, .slice none 0 0]) (by kernel_rfl) rfl ⟨_, Try.underlying63, rfl⟩ rfl rfl false (fun h => by cases h)
theorem ty71 : TyOk Try.prog 71 ⟨.int .u64, 1, 8, [.int .u64 0], false⟩ := TyOk.of (P := Try.prog) (t := 71) (.int .u64) 1 8 [.int .u64 0] (.int .u64 0) (by kernel_rfl) rfl Try.underlying71 rfl rfl false (fun h => by cases h)
theorem ty77 : TyOk Try.prog 77 ⟨.struct [(0, 3), (1, 3)], 2, 16, [.int .i64 0, .int .i64 0], true⟩ := TyOk.of (P := Try.prog) (t := 77) (.struct [(0, 3), (1, 3)]) 2 16 [.int .i64 0, .int .i64 0] (.agg #[.int .i64 0, .int .i64 0]) (by kernel_rfl) rfl ⟨_, Try.underlying77, rfl⟩ rfl rfl true (fun _ => by unfold EqTy; exact ⟨by kernel_rfl, by kernel_rfl, by kernel_rfl⟩)
theorem ty78 : TyOk Try.prog 78 ⟨.slice 3, 1, 24, [.slice none 0 0], false⟩ := TyOk.of (P := Try.prog) (t := 78) (.slice 3) 1 24 [.slice none 0 0] (.slice none 0 0) (by kernel_rfl) rfl Try.underlying78 rfl rfl false (fun h => by cases h)
theorem ty85 : TyOk Try.prog 85 ⟨.struct [(0, 3), (1, 5), (2, 71), (3, 71)], 4, 32, [.int .i64 0, .int .u8 0, .int .u64 0, .int .u64 0], false⟩ := TyOk.of (P := Try.prog) (t := 85) (.struct [(0, 3), (1, 5), (2, 71), (3, 71)]) 4 32 [.int .i64 0, .int .u8 0, .int .u64 0, .int .u64 0] (.agg #[.int .i64 0, .int .u8 0, .int .u64 0, .int .u64 0]) (by kernel_rfl) rfl ⟨_, Try.underlying85, rfl⟩ rfl rfl false (fun h => by cases h)
theorem ty86 : TyOk Try.prog 86 ⟨.struct [(0, 3), (1, 5), (2, 71), (3, 71)], 4, 32, [.int .i64 0, .int .u8 0, .int .u64 0, .int .u64 0], true⟩ := TyOk.of (P := Try.prog) (t := 86) (.struct [(0, 3), (1, 5), (2, 71), (3, 71)]) 4 32 [.int .i64 0, .int .u8 0, .int .u64 0, .int .u64 0] (.agg #[.int .i64 0, .int .u8 0, .int .u64 0, .int .u64 0]) (by kernel_rfl) rfl ⟨_, Try.underlying86, rfl⟩ rfl rfl true (fun _ => by unfold EqTy; exact ⟨by kernel_rfl, by kernel_rfl, by kernel_rfl⟩)
theorem ty95 : TyOk Try.prog 95 ⟨.slice 99, 1, 24, [.slice none 0 0], false⟩ := TyOk.of (P := Try.prog) (t := 95) (.slice 99) 1 24 [.slice none 0 0] (.slice none 0 0) (by kernel_rfl) rfl Try.underlying95 rfl rfl false (fun h => by cases h)
theorem ty97 : TyOk Try.prog 97 ⟨.slice 78, 1, 24, [.slice none 0 0], false⟩ := TyOk.of (P := Try.prog) (t := 97) (.slice 78) 1 24 [.slice none 0 0] (.slice none 0 0) (by kernel_rfl) rfl Try.underlying97 rfl rfl false (fun h => by cases h)
theorem ty98 : TyOk Try.prog 98 ⟨.struct [(0, 3), (1, 3)], 2, 16, [.int .i64 0, .int .i64 0], false⟩ := TyOk.of (P := Try.prog) (t := 98) (.struct [(0, 3), (1, 3)]) 2 16 [.int .i64 0, .int .i64 0] (.agg #[.int .i64 0, .int .i64 0]) (by kernel_rfl) rfl ⟨_, Try.underlying98, rfl⟩ rfl rfl false (fun h => by cases h)
theorem ty99 : TyOk Try.prog 99 ⟨.struct [(0, 3), (1, 3)], 2, 16, [.int .i64 0, .int .i64 0], true⟩ := TyOk.of (P := Try.prog) (t := 99) (.struct [(0, 3), (1, 3)]) 2 16 [.int .i64 0, .int .i64 0] (.agg #[.int .i64 0, .int .i64 0]) (by kernel_rfl) rfl ⟨_, Try.underlying99, rfl⟩ rfl rfl true (fun _ => by unfold EqTy; exact ⟨by kernel_rfl, by kernel_rfl, by kernel_rfl⟩)
theorem ty110 : TyOk Try.prog 110 ⟨.slice 117, 1, 24, [.slice none 0 0], false⟩ := TyOk.of (P := Try.prog) (t := 110) (.slice 117) 1 24 [.slice none 0 0] (.slice none 0 0) (by kernel_rfl) rfl Try.underlying110 rfl rfl false (fun h => by cases h)
theorem ty111 : TyOk Try.prog 111 ⟨.slice 117, 1, 24, [.slice none 0 0], false⟩ := TyOk.of (P := Try.prog) (t := 111) (.slice 117) 1 24 [.slice none 0 0] (.slice none 0 0) (by kernel_rfl) rfl Try.underlying111 rfl rfl false (fun h => by cases h)
theorem ty114 : TyOk Try.prog 114 ⟨.ptr 111, 1, 8, [.pointer none], false⟩ := TyOk.of (P := Try.prog) (t := 114) (.ptr 111) 1 8 [.pointer none] (.pointer none) (by kernel_rfl) rfl Try.underlying114 rfl rfl false (fun h => by cases h)
theorem ty116 : TyOk Try.prog 116 ⟨.struct [(0, 99), (2, 3)], 3, 24, [.int .i64 0, .int .i64 0, .int .i64 0], false⟩ := TyOk.of (P := Try.prog) (t := 116) (.struct [(0, 99), (2, 3)]) 3 24 [.int .i64 0, .int .i64 0, .int .i64 0] (.agg #[.int .i64 0, .int .i64 0, .int .i64 0]) (by kernel_rfl) rfl ⟨_, Try.underlying116, rfl⟩ rfl rfl false (fun h => by cases h)
theorem ty117 : TyOk Try.prog 117 ⟨.struct [(0, 99), (2, 3)], 3, 24, [.int .i64 0, .int .i64 0, .int .i64 0], true⟩ := TyOk.of (P := Try.prog) (t := 117) (.struct [(0, 99), (2, 3)]) 3 24 [.int .i64 0, .int .i64 0, .int .i64 0] (.agg #[.int .i64 0, .int .i64 0, .int .i64 0]) (by kernel_rfl) rfl ⟨_, Try.underlying117, rfl⟩ rfl rfl true (fun _ => by unfold EqTy; exact ⟨by kernel_rfl, by kernel_rfl, by kernel_rfl⟩)
theorem ty125 : TyOk Try.prog 125 ⟨.arr 8 5, 8, 8, [.int .u8 0, .int .u8 0, .int .u8 0, .int .u8 0, .int .u8 0, .int .u8 0, .int .u8 0, .int .u8 0], false⟩ := TyOk.of (P := Try.prog) (t := 125) (.arr 8 5) 8 8 [.int .u8 0, .int .u8 0, .int .u8 0, .int .u8 0, .int .u8 0, .int .u8 0, .int .u8 0, .int .u8 0] (.agg #[.int .u8 0, .int .u8 0, .int .u8 0, .int .u8 0, .int .u8 0, .int .u8 0, .int .u8 0, .int .u8 0]) (by kernel_rfl) rfl Try.underlying125 rfl rfl false (fun h => by cases h)
theorem ty129 : TyOk Try.prog 129 ⟨.slice 5, 1, 24, [.slice none 0 0], false⟩ := TyOk.of (P := Try.prog) (t := 129) (.slice 5) 1 24 [.slice none 0 0] (.slice none 0 0) (by kernel_rfl) rfl Try.underlying129 rfl rfl false (fun h => by cases h)
theorem ty131 : TyOk Try.prog 131 ⟨.ptr 25, 1, 8, [.pointer none], false⟩ := TyOk.of (P := Try.prog) (t := 131) (.ptr 25) 1 8 [.pointer none] (.pointer none) (by kernel_rfl) rfl Try.underlying131 rfl rfl false (fun h => by cases h)
theorem ty133 : TyOk Try.prog 133 ⟨.struct [(0, 23), (1, 23)], 2, 48, [.slice none 0 0, .slice none 0 0], false⟩ := TyOk.of (P := Try.prog) (t := 133) (.struct [(0, 23), (1, 23)]) 2 48 [.slice none 0 0, .slice none 0 0] (.agg #[.slice none 0 0, .slice none 0 0]) (by kernel_rfl) rfl ⟨_, Try.underlying133, rfl⟩ rfl rfl false (fun h => by cases h)
theorem ty134 : TyOk Try.prog 134 ⟨.struct [(0, 23), (1, 23)], 2, 48, [.slice none 0 0, .slice none 0 0], false⟩ := TyOk.of (P := Try.prog) (t := 134) (.struct [(0, 23), (1, 23)]) 2 48 [.slice none 0 0, .slice none 0 0] (.agg #[.slice none 0 0, .slice none 0 0]) (by kernel_rfl) rfl ⟨_, Try.underlying134, rfl⟩ rfl rfl false (fun h => by cases h)
theorem ty144 : TyOk Try.prog 144 ⟨.int .u64, 1, 8, [.int .u64 0], false⟩ := TyOk.of (P := Try.prog) (t := 144) (.int .u64) 1 8 [.int .u64 0] (.int .u64 0) (by kernel_rfl) rfl Try.underlying144 rfl rfl false (fun h => by cases h)
theorem ty148 : TyOk Try.prog 148 ⟨.ptr 134, 1, 8, [.pointer none], false⟩ := TyOk.of (P := Try.prog) (t := 148) (.ptr 134) 1 8 [.pointer none] (.pointer none) (by kernel_rfl) rfl Try.underlying148 rfl rfl false (fun h => by cases h)
theorem ty151 : TyOk Try.prog 151 ⟨.int .i64, 1, 8, [.int .i64 0], false⟩ := TyOk.of (P := Try.prog) (t := 151) (.int .i64) 1 8 [.int .i64 0] (.int .i64 0) (by kernel_rfl) rfl Try.underlying151 rfl rfl false (fun h => by cases h)
theorem ty158 : TyOk Try.prog 158 ⟨.int .u32, 1, 4, [.int .u32 0], false⟩ := TyOk.of (P := Try.prog) (t := 158) (.int .u32) 1 4 [.int .u32 0] (.int .u32 0) (by kernel_rfl) rfl Try.underlying158 rfl rfl false (fun h => by cases h)
theorem ty160 : TyOk Try.prog 160 ⟨.arr 6 3, 6, 48, [.int .i64 0, .int .i64 0, .int .i64 0, .int .i64 0, .int .i64 0, .int .i64 0], false⟩ := TyOk.of (P := Try.prog) (t := 160) (.arr 6 3) 6 48 [.int .i64 0, .int .i64 0, .int .i64 0, .int .i64 0, .int .i64 0, .int .i64 0] (.agg #[.int .i64 0, .int .i64 0, .int .i64 0, .int .i64 0, .int .i64 0, .int .i64 0]) (by kernel_rfl) rfl Try.underlying160 rfl rfl false (fun h => by cases h)
theorem ty161 : TyOk Try.prog 161 ⟨.int .u64, 1, 8, [.int .u64 0], false⟩ := TyOk.of (P := Try.prog) (t := 161) (.int .u64) 1 8 [.int .u64 0] (.int .u64 0) (by kernel_rfl) rfl Try.underlying161 rfl rfl false (fun h => by cases h)
theorem ty165 : TyOk Try.prog 165 ⟨.ptr 3, 1, 8, [.pointer none], false⟩ := TyOk.of (P := Try.prog) (t := 165) (.ptr 3) 1 8 [.pointer none] (.pointer none) (by kernel_rfl) rfl Try.underlying165 rfl rfl false (fun h => by cases h)
theorem ty167 : TyOk Try.prog 167 ⟨.ptr 161, 1, 8, [.pointer none], false⟩ := TyOk.of (P := Try.prog) (t := 167) (.ptr 161) 1 8 [.pointer none] (.pointer none) (by kernel_rfl) rfl Try.underlying167 rfl rfl false (fun h => by cases h)
theorem ty170 : TyOk Try.prog 170 ⟨.struct [(0, 17), (1, 17), (2, 17), (3, 9)], 4, 40, [.pointer none, .pointer none, .pointer none, .string ByteArray.empty], false⟩ := TyOk.of (P := Try.prog) (t := 170) (.struct [(0, 17), (1, 17), (2, 17), (3, 9)]) 4 40 [.pointer none, .pointer none, .pointer none, .string ByteArray.empty] (.agg #[.pointer none, .pointer none, .pointer none, .string ByteArray.empty]) (by kernel_rfl) rfl ⟨_, Try.underlying170, rfl⟩ rfl rfl false (fun h => by cases h)
theorem ty171 : TyOk Try.prog 171 ⟨.struct [(0, 17), (1, 17), (2, 17), (3, 9)], 4, 40, [.pointer none, .pointer none, .pointer none, .string ByteArray.empty], false⟩ := TyOk.of (P := Try.prog) (t := 171) (.struct [(0, 17), (1, 17), (2, 17), (3, 9)]) 4 40 [.pointer none, .pointer none, .pointer none, .string ByteArray.empty] (.agg #[.pointer none, .pointer none, .pointer none, .string ByteArray.empty]) (by kernel_rfl) rfl ⟨_, Try.underlying171, rfl⟩ rfl rfl false (fun h => by cases h)
theorem ty175 : TyOk Try.prog 175 ⟨.int .u8, 1, 1, [.int .u8 0], false⟩ := TyOk.of (P := Try.prog) (t := 175) (.int .u8) 1 1 [.int .u8 0] (.int .u8 0) (by kernel_rfl) rfl Try.underlying175 rfl rfl false (fun h => by cases h)
theorem ty176 : TyOk Try.prog 176 ⟨.int .u8, 1, 1, [.int .u8 0], false⟩ := TyOk.of (P := Try.prog) (t := 176) (.int .u8) 1 1 [.int .u8 0] (.int .u8 0) (by kernel_rfl) rfl Try.underlying176 rfl rfl false (fun h => by cases h)
theorem ty178 : TyOk Try.prog 178 ⟨.ptr 5, 1, 8, [.pointer none], false⟩ := TyOk.of (P := Try.prog) (t := 178) (.ptr 5) 1 8 [.pointer none] (.pointer none) (by kernel_rfl) rfl Try.underlying178 rfl rfl false (fun h => by cases h)
theorem ty179 : TyOk Try.prog 179 ⟨.int .i32, 1, 4, [.int .i32 0], false⟩ := TyOk.of (P := Try.prog) (t := 179) (.int .i32) 1 4 [.int .i32 0] (.int .i32 0) (by kernel_rfl) rfl Try.underlying179 rfl rfl false (fun h => by cases h)
theorem ty180 : TyOk Try.prog 180 ⟨.int .i32, 1, 4, [.int .i32 0], false⟩ := TyOk.of (P := Try.prog) (t := 180) (.int .i32) 1 4 [.int .i32 0] (.int .i32 0) (by kernel_rfl) rfl Try.underlying180 rfl rfl false (fun h => by cases h)
def tabL : List (Nat × TyI) := [(2, ⟨.int .i64, 1, 8, [.int .i64 0], false⟩),
  (3, ⟨.int .i64, 1, 8, [.int .i64 0], false⟩),
  (4, ⟨.bool, 1, 1, [.bool false], false⟩),
  (5, ⟨.int .u8, 1, 1, [.int .u8 0], false⟩),
  (6, ⟨.int .u8, 1, 1, [.int .u8 0], false⟩),
  (7, ⟨.struct [(0, 2), (1, 3), (2, 4), (3, 6)], 4, 24, [.int .i64 0, .int .i64 0, .bool false, .int .u8 0], false⟩),
  (8, ⟨.struct [(0, 2), (1, 3), (2, 4), (3, 6)], 4, 24, [.int .i64 0, .int .i64 0, .bool false, .int .u8 0], false⟩),
  (9, ⟨.str, 1, 16, [.string ByteArray.empty], false⟩),
  (10, ⟨.str, 1, 16, [.string ByteArray.empty], false⟩),
  (11, ⟨.str, 1, 16, [.string ByteArray.empty], false⟩),
  (12, ⟨.int .u64, 1, 8, [.int .u64 0], false⟩),
  (13, ⟨.struct [(0, 9), (1, 12)], 2, 24, [.string ByteArray.empty, .int .u64 0], false⟩),
  (14, ⟨.struct [(0, 9), (1, 12)], 2, 24, [.string ByteArray.empty, .int .u64 0], false⟩),
  (15, ⟨.ptr 171, 1, 8, [.pointer none], false⟩),
  (16, ⟨.ptr 174, 1, 8, [.pointer none], false⟩),
  (17, ⟨.ptr 182, 1, 8, [.pointer none], false⟩),
  (18, ⟨.struct [(0, 17)], 1, 8, [.pointer none], false⟩),
  (19, ⟨.struct [(0, 17)], 1, 8, [.pointer none], false⟩),
  (21, ⟨.int .i32, 1, 4, [.int .i32 0], false⟩),
  (22, ⟨.slice 71, 1, 24, [.slice none 0 0], false⟩),
  (23, ⟨.slice 25, 1, 24, [.slice none 0 0], false⟩),
  (24, ⟨.struct [(0, 3), (1, 22), (2, 23)], 3, 56, [.int .i64 0, .slice none 0 0, .slice none 0 0], false⟩),
  (25, ⟨.struct [(0, 3), (1, 22), (2, 23)], 3, 56, [.int .i64 0, .slice none 0 0, .slice none 0 0], false⟩),
  (33, ⟨.slice 43, 1, 24, [.slice none 0 0], false⟩),
  (35, ⟨.slice 77, 1, 24, [.slice none 0 0], false⟩),
  (40, ⟨.arr 3 3, 3, 24, [.int .i64 0, .int .i64 0, .int .i64 0], false⟩),
  (42, ⟨.struct [(0, 3), (1, 3)], 2, 16, [.int .i64 0, .int .i64 0], false⟩),
  (43, ⟨.struct [(0, 3), (1, 3)], 2, 16, [.int .i64 0, .int .i64 0], true⟩),
  (49, ⟨.slice 86, 1, 24, [.slice none 0 0], false⟩),
  (50, ⟨.slice 61, 1, 24, [.slice none 0 0], false⟩),
  (51, ⟨.slice 63, 1, 24, [.slice none 0 0], false⟩),
  (52, ⟨.struct [(0, 3), (1, 25), (4, 25), (7, 49), (8, 50), (9, 3), (10, 51)], 11, 200, [.int .i64 0, .int .i64 0, .slice none 0 0, .slice none 0 0, .int .i64 0, .slice none 0 0, .slice none 0 0, .slice none 0 0, .slice none 0 0, .int .i64 0, .slice none 0 0], false⟩),
  (53, ⟨.struct [(0, 3), (1, 25), (4, 25), (7, 49), (8, 50), (9, 3), (10, 51)], 11, 200, [.int .i64 0, .int .i64 0, .slice none 0 0, .slice none 0 0, .int .i64 0, .slice none 0 0, .slice none 0 0, .slice none 0 0, .slice none 0 0, .int .i64 0, .slice none 0 0], false⟩),
  (60, ⟨.struct [(0, 3), (1, 53)], 12, 208, [.int .i64 0, .int .i64 0, .int .i64 0, .slice none 0 0, .slice none 0 0, .int .i64 0, .slice none 0 0, .slice none 0 0, .slice none 0 0, .slice none 0 0, .int .i64 0, .slice none 0 0], false⟩),
  (61, ⟨.struct [(0, 3), (1, 53)], 12, 208, [.int .i64 0, .int .i64 0, .int .i64 0, .slice none 0 0, .slice none 0 0, .int .i64 0, .slice none 0 0, .slice none 0 0, .slice none 0 0, .slice none 0 0, .int .i64 0, .slice none 0 0], false⟩),
  (62, ⟨.struct [(0, 3), (1, 3), (2, 23), (3, 53)], 14, 240, [.int .i64 0, .int .i64 0, .slice none 0 0, .int .i64 0, .int .i64 0, .slice none 0 0, .slice none 0 0, .int .i64 0, .slice none 0 0, .slice none 0 0, .slice none 0 0, .slice none 0 0, .int .i64 0, .slice none 0 0], false⟩),
  (63, ⟨.struct [(0, 3), (1, 3), (2, 23), (3, 53)], 14, 240, [.int .i64 0, .int .i64 0, .slice none 0 0, .int .i64 0, .int .i64 0, .slice none 0 0, .slice none 0 0, .int .i64 0, .slice none 0 0, .slice none 0 0, .slice none 0 0, .slice none 0 0, .int .i64 0, .slice none 0 0], false⟩),
  (71, ⟨.int .u64, 1, 8, [.int .u64 0], false⟩),
  (77, ⟨.struct [(0, 3), (1, 3)], 2, 16, [.int .i64 0, .int .i64 0], true⟩),
  (78, ⟨.slice 3, 1, 24, [.slice none 0 0], false⟩),
  (85, ⟨.struct [(0, 3), (1, 5), (2, 71), (3, 71)], 4, 32, [.int .i64 0, .int .u8 0, .int .u64 0, .int .u64 0], false⟩),
  (86, ⟨.struct [(0, 3), (1, 5), (2, 71), (3, 71)], 4, 32, [.int .i64 0, .int .u8 0, .int .u64 0, .int .u64 0], true⟩),
  (95, ⟨.slice 99, 1, 24, [.slice none 0 0], false⟩),
  (97, ⟨.slice 78, 1, 24, [.slice none 0 0], false⟩),
  (98, ⟨.struct [(0, 3), (1, 3)], 2, 16, [.int .i64 0, .int .i64 0], false⟩),
  (99, ⟨.struct [(0, 3), (1, 3)], 2, 16, [.int .i64 0, .int .i64 0], true⟩),
  (110, ⟨.slice 117, 1, 24, [.slice none 0 0], false⟩),
  (111, ⟨.slice 117, 1, 24, [.slice none 0 0], false⟩),
  (114, ⟨.ptr 111, 1, 8, [.pointer none], false⟩),
  (116, ⟨.struct [(0, 99), (2, 3)], 3, 24, [.int .i64 0, .int .i64 0, .int .i64 0], false⟩),
  (117, ⟨.struct [(0, 99), (2, 3)], 3, 24, [.int .i64 0, .int .i64 0, .int .i64 0], true⟩),
  (125, ⟨.arr 8 5, 8, 8, [.int .u8 0, .int .u8 0, .int .u8 0, .int .u8 0, .int .u8 0, .int .u8 0, .int .u8 0, .int .u8 0], false⟩),
  (129, ⟨.slice 5, 1, 24, [.slice none 0 0], false⟩),
  (131, ⟨.ptr 25, 1, 8, [.pointer none], false⟩),
  (133, ⟨.struct [(0, 23), (1, 23)], 2, 48, [.slice none 0 0, .slice none 0 0], false⟩),
  (134, ⟨.struct [(0, 23), (1, 23)], 2, 48, [.slice none 0 0, .slice none 0 0], false⟩),
  (144, ⟨.int .u64, 1, 8, [.int .u64 0], false⟩),
  (148, ⟨.ptr 134, 1, 8, [.pointer none], false⟩),
  (151, ⟨.int .i64, 1, 8, [.int .i64 0], false⟩),
  (158, ⟨.int .u32, 1, 4, [.int .u32 0], false⟩),
  (160, ⟨.arr 6 3, 6, 48, [.int .i64 0, .int .i64 0, .int .i64 0, .int .i64 0, .int .i64 0, .int .i64 0], false⟩),
  (161, ⟨.int .u64, 1, 8, [.int .u64 0], false⟩),
  (165, ⟨.ptr 3, 1, 8, [.pointer none], false⟩),
  (167, ⟨.ptr 161, 1, 8, [.pointer none], false⟩),
  (170, ⟨.struct [(0, 17), (1, 17), (2, 17), (3, 9)], 4, 40, [.pointer none, .pointer none, .pointer none, .string ByteArray.empty], false⟩),
  (171, ⟨.struct [(0, 17), (1, 17), (2, 17), (3, 9)], 4, 40, [.pointer none, .pointer none, .pointer none, .string ByteArray.empty], false⟩),
  (175, ⟨.int .u8, 1, 1, [.int .u8 0], false⟩),
  (176, ⟨.int .u8, 1, 1, [.int .u8 0], false⟩),
  (178, ⟨.ptr 5, 1, 8, [.pointer none], false⟩),
  (179, ⟨.int .i32, 1, 4, [.int .i32 0], false⟩),
  (180, ⟨.int .i32, 1, 4, [.int .i32 0], false⟩)]
def tab : Tab := fun t => tabL.lookup t
theorem tab_ok : TabOk Try.prog tab := fun t i h => by
  have hm := lookup_mem _ h
  unfold tabL at hm
  simp only [List.mem_cons, Prod.mk.injEq, List.not_mem_nil, or_false] at hm
  rcases hm with ⟨rfl, rfl⟩ | ⟨rfl, rfl⟩ | ⟨rfl, rfl⟩ | ⟨rfl, rfl⟩ | ⟨rfl, rfl⟩ | ⟨rfl, rfl⟩ | ⟨rfl, rfl⟩ | ⟨rfl, rfl⟩ | ⟨rfl, rfl⟩ | ⟨rfl, rfl⟩ | ⟨rfl, rfl⟩ | ⟨rfl, rfl⟩ | ⟨rfl, rfl⟩ | ⟨rfl, rfl⟩ | ⟨rfl, rfl⟩ | ⟨rfl, rfl⟩ | ⟨rfl, rfl⟩ | ⟨rfl, rfl⟩ | ⟨rfl, rfl⟩ | ⟨rfl, rfl⟩ | ⟨rfl, rfl⟩ | ⟨rfl, rfl⟩ | ⟨rfl, rfl⟩ | ⟨rfl, rfl⟩ | ⟨rfl, rfl⟩ | ⟨rfl, rfl⟩ | ⟨rfl, rfl⟩ | ⟨rfl, rfl⟩ | ⟨rfl, rfl⟩ | ⟨rfl, rfl⟩ | ⟨rfl, rfl⟩ | ⟨rfl, rfl⟩ | ⟨rfl, rfl⟩ | ⟨rfl, rfl⟩ | ⟨rfl, rfl⟩ | ⟨rfl, rfl⟩ | ⟨rfl, rfl⟩ | ⟨rfl, rfl⟩ | ⟨rfl, rfl⟩ | ⟨rfl, rfl⟩ | ⟨rfl, rfl⟩ | ⟨rfl, rfl⟩ | ⟨rfl, rfl⟩ | ⟨rfl, rfl⟩ | ⟨rfl, rfl⟩ | ⟨rfl, rfl⟩ | ⟨rfl, rfl⟩ | ⟨rfl, rfl⟩ | ⟨rfl, rfl⟩ | ⟨rfl, rfl⟩ | ⟨rfl, rfl⟩ | ⟨rfl, rfl⟩ | ⟨rfl, rfl⟩ | ⟨rfl, rfl⟩ | ⟨rfl, rfl⟩ | ⟨rfl, rfl⟩ | ⟨rfl, rfl⟩ | ⟨rfl, rfl⟩ | ⟨rfl, rfl⟩ | ⟨rfl, rfl⟩ | ⟨rfl, rfl⟩ | ⟨rfl, rfl⟩ | ⟨rfl, rfl⟩ | ⟨rfl, rfl⟩ | ⟨rfl, rfl⟩ | ⟨rfl, rfl⟩ | ⟨rfl, rfl⟩ | ⟨rfl, rfl⟩ | ⟨rfl, rfl⟩ | ⟨rfl, rfl⟩ | ⟨rfl, rfl⟩
  · exact ty2
  · exact ty3
  · exact ty4
  · exact ty5
  · exact ty6
  · exact ty7
  · exact ty8
  · exact ty9
  · exact ty10
  · exact ty11
  · exact ty12
  · exact ty13
  · exact ty14
  · exact ty15
  · exact ty16
  · exact ty17
  · exact ty18
  · exact ty19
  · exact ty21
  · exact ty22
  · exact ty23
  · exact ty24
  · exact ty25
  · exact ty33
  · exact ty35
  · exact ty40
  · exact ty42
  · exact ty43
  · exact ty49
  · exact ty50
  · exact ty51
  · exact ty52
  · exact ty53
  · exact ty60
  · exact ty61
  · exact ty62
  · exact ty63
  · exact ty71
  · exact ty77
  · exact ty78
  · exact ty85
  · exact ty86
  · exact ty95
  · exact ty97
  · exact ty98
  · exact ty99
  · exact ty110
  · exact ty111
  · exact ty114
  · exact ty116
  · exact ty117
  · exact ty125
  · exact ty129
  · exact ty131
  · exact ty133
  · exact ty134
  · exact ty144
  · exact ty148
  · exact ty151
  · exact ty158
  · exact ty160
  · exact ty161
  · exact ty165
  · exact ty167
  · exact ty170
  · exact ty171
  · exact ty175
  · exact ty176
  · exact ty178
  · exact ty179
  · exact ty180
theorem tab2 : tab 2 = some ⟨.int .i64, 1, 8, [.int .i64 0], false⟩ := rfl
theorem tab3 : tab 3 = some ⟨.int .i64, 1, 8, [.int .i64 0], false⟩ := rfl
theorem tab4 : tab 4 = some ⟨.bool, 1, 1, [.bool false], false⟩ := rfl
theorem tab5 : tab 5 = some ⟨.int .u8, 1, 1, [.int .u8 0], false⟩ := rfl
theorem tab6 : tab 6 = some ⟨.int .u8, 1, 1, [.int .u8 0], false⟩ := rfl
theorem tab7 : tab 7 = some ⟨.struct [(0, 2), (1, 3), (2, 4), (3, 6)], 4, 24, [.int .i64 0, .int .i64 0, .bool false, .int .u8 0], false⟩ := rfl
theorem tab8 : tab 8 = some ⟨.struct [(0, 2), (1, 3), (2, 4), (3, 6)], 4, 24, [.int .i64 0, .int .i64 0, .bool false, .int .u8 0], false⟩ := rfl
theorem tab9 : tab 9 = some ⟨.str, 1, 16, [.string ByteArray.empty], false⟩ := rfl
theorem tab10 : tab 10 = some ⟨.str, 1, 16, [.string ByteArray.empty], false⟩ := rfl
theorem tab11 : tab 11 = some ⟨.str, 1, 16, [.string ByteArray.empty], false⟩ := rfl
theorem tab12 : tab 12 = some ⟨.int .u64, 1, 8, [.int .u64 0], false⟩ := rfl
theorem tab13 : tab 13 = some ⟨.struct [(0, 9), (1, 12)], 2, 24, [.string ByteArray.empty, .int .u64 0], false⟩ := rfl
theorem tab14 : tab 14 = some ⟨.struct [(0, 9), (1, 12)], 2, 24, [.string ByteArray.empty, .int .u64 0], false⟩ := rfl
theorem tab15 : tab 15 = some ⟨.ptr 171, 1, 8, [.pointer none], false⟩ := rfl
theorem tab16 : tab 16 = some ⟨.ptr 174, 1, 8, [.pointer none], false⟩ := rfl
theorem tab17 : tab 17 = some ⟨.ptr 182, 1, 8, [.pointer none], false⟩ := rfl
theorem tab18 : tab 18 = some ⟨.struct [(0, 17)], 1, 8, [.pointer none], false⟩ := rfl
theorem tab19 : tab 19 = some ⟨.struct [(0, 17)], 1, 8, [.pointer none], false⟩ := rfl
theorem tab21 : tab 21 = some ⟨.int .i32, 1, 4, [.int .i32 0], false⟩ := rfl
theorem tab22 : tab 22 = some ⟨.slice 71, 1, 24, [.slice none 0 0], false⟩ := rfl
theorem tab23 : tab 23 = some ⟨.slice 25, 1, 24, [.slice none 0 0], false⟩ := rfl
theorem tab24 : tab 24 = some ⟨.struct [(0, 3), (1, 22), (2, 23)], 3, 56, [.int .i64 0, .slice none 0 0, .slice none 0 0], false⟩ := rfl
theorem tab25 : tab 25 = some ⟨.struct [(0, 3), (1, 22), (2, 23)], 3, 56, [.int .i64 0, .slice none 0 0, .slice none 0 0], false⟩ := rfl
theorem tab33 : tab 33 = some ⟨.slice 43, 1, 24, [.slice none 0 0], false⟩ := rfl
theorem tab35 : tab 35 = some ⟨.slice 77, 1, 24, [.slice none 0 0], false⟩ := rfl
theorem tab40 : tab 40 = some ⟨.arr 3 3, 3, 24, [.int .i64 0, .int .i64 0, .int .i64 0], false⟩ := rfl
theorem tab42 : tab 42 = some ⟨.struct [(0, 3), (1, 3)], 2, 16, [.int .i64 0, .int .i64 0], false⟩ := rfl
theorem tab43 : tab 43 = some ⟨.struct [(0, 3), (1, 3)], 2, 16, [.int .i64 0, .int .i64 0], true⟩ := rfl
theorem tab49 : tab 49 = some ⟨.slice 86, 1, 24, [.slice none 0 0], false⟩ := rfl
theorem tab50 : tab 50 = some ⟨.slice 61, 1, 24, [.slice none 0 0], false⟩ := rfl
theorem tab51 : tab 51 = some ⟨.slice 63, 1, 24, [.slice none 0 0], false⟩ := rfl
theorem tab52 : tab 52 = some ⟨.struct [(0, 3), (1, 25), (4, 25), (7, 49), (8, 50), (9, 3), (10, 51)], 11, 200, [.int .i64 0, .int .i64 0, .slice none 0 0, .slice none 0 0, .int .i64 0, .slice none 0 0, .slice none 0 0, .slice none 0 0, .slice none 0 0, .int .i64 0, .slice none 0 0], false⟩ := rfl
theorem tab53 : tab 53 = some ⟨.struct [(0, 3), (1, 25), (4, 25), (7, 49), (8, 50), (9, 3), (10, 51)], 11, 200, [.int .i64 0, .int .i64 0, .slice none 0 0, .slice none 0 0, .int .i64 0, .slice none 0 0, .slice none 0 0, .slice none 0 0, .slice none 0 0, .int .i64 0, .slice none 0 0], false⟩ := rfl
theorem tab60 : tab 60 = some ⟨.struct [(0, 3), (1, 53)], 12, 208, [.int .i64 0, .int .i64 0, .int .i64 0, .slice none 0 0, .slice none 0 0, .int .i64 0, .slice none 0 0, .slice none 0 0, .slice none 0 0, .slice none 0 0, .int .i64 0, .slice none 0 0], false⟩ := rfl
theorem tab61 : tab 61 = some ⟨.struct [(0, 3), (1, 53)], 12, 208, [.int .i64 0, .int .i64 0, .int .i64 0, .slice none 0 0, .slice none 0 0, .int .i64 0, .slice none 0 0, .slice none 0 0, .slice none 0 0, .slice none 0 0, .int .i64 0, .slice none 0 0], false⟩ := rfl
theorem tab62 : tab 62 = some ⟨.struct [(0, 3), (1, 3), (2, 23), (3, 53)], 14, 240, [.int .i64 0, .int .i64 0, .slice none 0 0, .int .i64 0, .int .i64 0, .slice none 0 0, .slice none 0 0, .int .i64 0, .slice none 0 0, .slice none 0 0, .slice none 0 0, .slice none 0 0, .int .i64 0, .slice none 0 0], false⟩ := rfl
theorem tab63 : tab 63 = some ⟨.struct [(0, 3), (1, 3), (2, 23), (3, 53)], 14, 240, [.int .i64 0, .int .i64 0, .slice none 0 0, .int .i64 0, .int .i64 0, .slice none 0 0, .slice none 0 0, .int .i64 0, .slice none 0 0, .slice none 0 0, .slice none 0 0, .slice none 0 0, .int .i64 0, .slice none 0 0], false⟩ := rfl
theorem tab71 : tab 71 = some ⟨.int .u64, 1, 8, [.int .u64 0], false⟩ := rfl
theorem tab77 : tab 77 = some ⟨.struct [(0, 3), (1, 3)], 2, 16, [.int .i64 0, .int .i64 0], true⟩ := rfl
theorem tab78 : tab 78 = some ⟨.slice 3, 1, 24, [.slice none 0 0], false⟩ := rfl
theorem tab85 : tab 85 = some ⟨.struct [(0, 3), (1, 5), (2, 71), (3, 71)], 4, 32, [.int .i64 0, .int .u8 0, .int .u64 0, .int .u64 0], false⟩ := rfl
theorem tab86 : tab 86 = some ⟨.struct [(0, 3), (1, 5), (2, 71), (3, 71)], 4, 32, [.int .i64 0, .int .u8 0, .int .u64 0, .int .u64 0], true⟩ := rfl
theorem tab95 : tab 95 = some ⟨.slice 99, 1, 24, [.slice none 0 0], false⟩ := rfl
theorem tab97 : tab 97 = some ⟨.slice 78, 1, 24, [.slice none 0 0], false⟩ := rfl
theorem tab98 : tab 98 = some ⟨.struct [(0, 3), (1, 3)], 2, 16, [.int .i64 0, .int .i64 0], false⟩ := rfl
theorem tab99 : tab 99 = some ⟨.struct [(0, 3), (1, 3)], 2, 16, [.int .i64 0, .int .i64 0], true⟩ := rfl
theorem tab110 : tab 110 = some ⟨.slice 117, 1, 24, [.slice none 0 0], false⟩ := rfl
theorem tab111 : tab 111 = some ⟨.slice 117, 1, 24, [.slice none 0 0], false⟩ := rfl
theorem tab114 : tab 114 = some ⟨.ptr 111, 1, 8, [.pointer none], false⟩ := rfl
theorem tab116 : tab 116 = some ⟨.struct [(0, 99), (2, 3)], 3, 24, [.int .i64 0, .int .i64 0, .int .i64 0], false⟩ := rfl
theorem tab117 : tab 117 = some ⟨.struct [(0, 99), (2, 3)], 3, 24, [.int .i64 0, .int .i64 0, .int .i64 0], true⟩ := rfl
theorem tab125 : tab 125 = some ⟨.arr 8 5, 8, 8, [.int .u8 0, .int .u8 0, .int .u8 0, .int .u8 0, .int .u8 0, .int .u8 0, .int .u8 0, .int .u8 0], false⟩ := rfl
theorem tab129 : tab 129 = some ⟨.slice 5, 1, 24, [.slice none 0 0], false⟩ := rfl
theorem tab131 : tab 131 = some ⟨.ptr 25, 1, 8, [.pointer none], false⟩ := rfl
theorem tab133 : tab 133 = some ⟨.struct [(0, 23), (1, 23)], 2, 48, [.slice none 0 0, .slice none 0 0], false⟩ := rfl
theorem tab134 : tab 134 = some ⟨.struct [(0, 23), (1, 23)], 2, 48, [.slice none 0 0, .slice none 0 0], false⟩ := rfl
theorem tab144 : tab 144 = some ⟨.int .u64, 1, 8, [.int .u64 0], false⟩ := rfl
theorem tab148 : tab 148 = some ⟨.ptr 134, 1, 8, [.pointer none], false⟩ := rfl
theorem tab151 : tab 151 = some ⟨.int .i64, 1, 8, [.int .i64 0], false⟩ := rfl
theorem tab158 : tab 158 = some ⟨.int .u32, 1, 4, [.int .u32 0], false⟩ := rfl
theorem tab160 : tab 160 = some ⟨.arr 6 3, 6, 48, [.int .i64 0, .int .i64 0, .int .i64 0, .int .i64 0, .int .i64 0, .int .i64 0], false⟩ := rfl
theorem tab161 : tab 161 = some ⟨.int .u64, 1, 8, [.int .u64 0], false⟩ := rfl
theorem tab165 : tab 165 = some ⟨.ptr 3, 1, 8, [.pointer none], false⟩ := rfl
theorem tab167 : tab 167 = some ⟨.ptr 161, 1, 8, [.pointer none], false⟩ := rfl
theorem tab170 : tab 170 = some ⟨.struct [(0, 17), (1, 17), (2, 17), (3, 9)], 4, 40, [.pointer none, .pointer none, .pointer none, .string ByteArray.empty], false⟩ := rfl
theorem tab171 : tab 171 = some ⟨.struct [(0, 17), (1, 17), (2, 17), (3, 9)], 4, 40, [.pointer none, .pointer none, .pointer none, .string ByteArray.empty], false⟩ := rfl
theorem tab175 : tab 175 = some ⟨.int .u8, 1, 1, [.int .u8 0], false⟩ := rfl
theorem tab176 : tab 176 = some ⟨.int .u8, 1, 1, [.int .u8 0], false⟩ := rfl
theorem tab178 : tab 178 = some ⟨.ptr 5, 1, 8, [.pointer none], false⟩ := rfl
theorem tab179 : tab 179 = some ⟨.int .i32, 1, 4, [.int .i32 0], false⟩ := rfl
theorem tab180 : tab 180 = some ⟨.int .i32, 1, 4, [.int .i32 0], false⟩ := rfl
theorem tkind2 : tkind tab 2 = some (.int .i64) := rfl
theorem tkind3 : tkind tab 3 = some (.int .i64) := rfl
theorem tkind4 : tkind tab 4 = some (.bool) := rfl
theorem tkind5 : tkind tab 5 = some (.int .u8) := rfl
theorem tkind6 : tkind tab 6 = some (.int .u8) := rfl
theorem tkind7 : tkind tab 7 = some (.struct [(0, 2), (1, 3), (2, 4), (3, 6)]) := rfl
theorem tkind8 : tkind tab 8 = some (.struct [(0, 2), (1, 3), (2, 4), (3, 6)]) := rfl
theorem tkind9 : tkind tab 9 = some (.str) := rfl
theorem tkind10 : tkind tab 10 = some (.str) := rfl
theorem tkind11 : tkind tab 11 = some (.str) := rfl
theorem tkind12 : tkind tab 12 = some (.int .u64) := rfl
theorem tkind13 : tkind tab 13 = some (.struct [(0, 9), (1, 12)]) := rfl
theorem tkind14 : tkind tab 14 = some (.struct [(0, 9), (1, 12)]) := rfl
theorem tkind15 : tkind tab 15 = some (.ptr 171) := rfl
theorem tkind16 : tkind tab 16 = some (.ptr 174) := rfl
theorem tkind17 : tkind tab 17 = some (.ptr 182) := rfl
theorem tkind18 : tkind tab 18 = some (.struct [(0, 17)]) := rfl
theorem tkind19 : tkind tab 19 = some (.struct [(0, 17)]) := rfl
theorem tkind21 : tkind tab 21 = some (.int .i32) := rfl
theorem tkind22 : tkind tab 22 = some (.slice 71) := rfl
theorem tkind23 : tkind tab 23 = some (.slice 25) := rfl
theorem tkind24 : tkind tab 24 = some (.struct [(0, 3), (1, 22), (2, 23)]) := rfl
theorem tkind25 : tkind tab 25 = some (.struct [(0, 3), (1, 22), (2, 23)]) := rfl
theorem tkind33 : tkind tab 33 = some (.slice 43) := rfl
theorem tkind35 : tkind tab 35 = some (.slice 77) := rfl
theorem tkind40 : tkind tab 40 = some (.arr 3 3) := rfl
theorem tkind42 : tkind tab 42 = some (.struct [(0, 3), (1, 3)]) := rfl
theorem tkind43 : tkind tab 43 = some (.struct [(0, 3), (1, 3)]) := rfl
theorem tkind49 : tkind tab 49 = some (.slice 86) := rfl
theorem tkind50 : tkind tab 50 = some (.slice 61) := rfl
theorem tkind51 : tkind tab 51 = some (.slice 63) := rfl
theorem tkind52 : tkind tab 52 = some (.struct [(0, 3), (1, 25), (4, 25), (7, 49), (8, 50), (9, 3), (10, 51)]) := rfl
theorem tkind53 : tkind tab 53 = some (.struct [(0, 3), (1, 25), (4, 25), (7, 49), (8, 50), (9, 3), (10, 51)]) := rfl
theorem tkind60 : tkind tab 60 = some (.struct [(0, 3), (1, 53)]) := rfl
theorem tkind61 : tkind tab 61 = some (.struct [(0, 3), (1, 53)]) := rfl
theorem tkind62 : tkind tab 62 = some (.struct [(0, 3), (1, 3), (2, 23), (3, 53)]) := rfl
theorem tkind63 : tkind tab 63 = some (.struct [(0, 3), (1, 3), (2, 23), (3, 53)]) := rfl
theorem tkind71 : tkind tab 71 = some (.int .u64) := rfl
theorem tkind77 : tkind tab 77 = some (.struct [(0, 3), (1, 3)]) := rfl
theorem tkind78 : tkind tab 78 = some (.slice 3) := rfl
theorem tkind85 : tkind tab 85 = some (.struct [(0, 3), (1, 5), (2, 71), (3, 71)]) := rfl
theorem tkind86 : tkind tab 86 = some (.struct [(0, 3), (1, 5), (2, 71), (3, 71)]) := rfl
theorem tkind95 : tkind tab 95 = some (.slice 99) := rfl
theorem tkind97 : tkind tab 97 = some (.slice 78) := rfl
theorem tkind98 : tkind tab 98 = some (.struct [(0, 3), (1, 3)]) := rfl
theorem tkind99 : tkind tab 99 = some (.struct [(0, 3), (1, 3)]) := rfl
theorem tkind110 : tkind tab 110 = some (.slice 117) := rfl
theorem tkind111 : tkind tab 111 = some (.slice 117) := rfl
theorem tkind114 : tkind tab 114 = some (.ptr 111) := rfl
theorem tkind116 : tkind tab 116 = some (.struct [(0, 99), (2, 3)]) := rfl
theorem tkind117 : tkind tab 117 = some (.struct [(0, 99), (2, 3)]) := rfl
theorem tkind125 : tkind tab 125 = some (.arr 8 5) := rfl
theorem tkind129 : tkind tab 129 = some (.slice 5) := rfl
theorem tkind131 : tkind tab 131 = some (.ptr 25) := rfl
theorem tkind133 : tkind tab 133 = some (.struct [(0, 23), (1, 23)]) := rfl
theorem tkind134 : tkind tab 134 = some (.struct [(0, 23), (1, 23)]) := rfl
theorem tkind144 : tkind tab 144 = some (.int .u64) := rfl
theorem tkind148 : tkind tab 148 = some (.ptr 134) := rfl
theorem tkind151 : tkind tab 151 = some (.int .i64) := rfl
theorem tkind158 : tkind tab 158 = some (.int .u32) := rfl
theorem tkind160 : tkind tab 160 = some (.arr 6 3) := rfl
theorem tkind161 : tkind tab 161 = some (.int .u64) := rfl
theorem tkind165 : tkind tab 165 = some (.ptr 3) := rfl
theorem tkind167 : tkind tab 167 = some (.ptr 161) := rfl
theorem tkind170 : tkind tab 170 = some (.struct [(0, 17), (1, 17), (2, 17), (3, 9)]) := rfl
theorem tkind171 : tkind tab 171 = some (.struct [(0, 17), (1, 17), (2, 17), (3, 9)]) := rfl
theorem tkind175 : tkind tab 175 = some (.int .u8) := rfl
theorem tkind176 : tkind tab 176 = some (.int .u8) := rfl
theorem tkind178 : tkind tab 178 = some (.ptr 5) := rfl
theorem tkind179 : tkind tab 179 = some (.int .i32) := rfl
theorem tkind180 : tkind tab 180 = some (.int .i32) := rfl
theorem dok : DOk Try.prog (gquiet Try.prog tab) := gquiet_ok tab_ok (by kernel_rfl)
end Go.Proofs.Ytjeolggpgclgkaa
