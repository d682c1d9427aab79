/- The types of this seat's program, as its dump has them, in the ghost memory's words; no condition. -/
import Derived.Test.YtbcgiaijjaocdaaRows
import Derived.Test.YtbcgiaijjaocdaaG16
namespace Go.Proofs.Ytbcgiaijjaocdaa
open Go.RowKit
set_option linter.unusedVariables false
set_option linter.unusedSimpArgs false
theorem TyOk.of {P : Program} {t : TypeId} (k : TK) (size bytes : Nat) (zero : List Value) (z : Value) (h : (P.info? t).map (fun i => (i.zero, i.size, i.bytes)) = some (some z, size, bytes)) (hz : z.cells.toList = zero) (hu : k.ok P t) (hl : zero.length = size) (h1 : zero.all Value.oneCell' = true) (eq : Bool) (he : eq = true → EqTy P t) : TyOk P t ⟨k, size, bytes, zero, eq⟩ := by
  refine ⟨?_, hu, hl, fun v hv => List.all_eq_true.1 h1 v hv, he⟩
  cases hi : P.info? t with
  | none => rw [hi] at h; cases h
  | some i =>
    rw [hi] at h
    simp only [Option.map_some, Option.some.injEq, Prod.mk.injEq] at h
    exact ⟨i, z, rfl, h.2.1, h.2.2, h.1, hz⟩
theorem lookup_mem {α : Type} {t : Nat} {i : α} : ∀ (l : List (Nat × α)), l.lookup t = some i → (t, i) ∈ l
  | [], h => by simp at h
  | (a, b) :: l, h => by
    rw [List.lookup_cons] at h
    split at h
    · rename_i he
      injection h with h
      have : t = a := by simpa using he
      subst h this
      exact .head _
    · exact .tail _ (lookup_mem l h)
theorem ty2 : TyOk Try.prog 2 ⟨.int .i64, 1, 8, [.int .i64 0], false⟩ := TyOk.of (P := Try.prog) (t := 2) (.int .i64) 1 8 [.int .i64 0] (.int .i64 0) (by kernel_rfl) rfl Try.underlying2 rfl rfl false (fun h => by cases h)
theorem ty3 : TyOk Try.prog 3 ⟨.int .i64, 1, 8, [.int .i64 0], false⟩ := TyOk.of (P := Try.prog) (t := 3) (.int .i64) 1 8 [.int .i64 0] (.int .i64 0) (by kernel_rfl) rfl Try.underlying3 rfl rfl false (fun h => by cases h)
theorem ty4 : TyOk Try.prog 4 ⟨.bool, 1, 1, [.bool false], false⟩ := TyOk.of (P := Try.prog) (t := 4) (.bool) 1 1 [.bool false] (.bool false) (by kernel_rfl) rfl Try.underlying4 rfl rfl false (fun h => by cases h)
theorem ty5 : TyOk Try.prog 5 ⟨.int .u8, 1, 1, [.int .u8 0], false⟩ := TyOk.of (P := Try.prog) (t := 5) (.int .u8) 1 1 [.int .u8 0] (.int .u8 0) (by kernel_rfl) rfl Try.underlying5 rfl rfl false (fun h => by cases h)
theorem ty6 : TyOk Try.prog 6 ⟨.int .u8, 1, 1, [.int .u8 0], false⟩ := TyOk.of (P := Try.prog) (t := 6) (.int .u8) 1 1 [.int .u8 0] (.int .u8 0) (by kernel_rfl) rfl Try.underlying6 rfl rfl false (fun h => by cases h)
theorem ty7 : TyOk Try.prog 7 ⟨.struct [(0, 2), (1, 3), (2, 4), (3, 6)], 4, 24, [.int .i64 0, .int .i64 0, .bool false, .int .u8 0], false⟩ := TyOk.of (P := Try.prog) (t := 7) (.struct [(0, 2), (1, 3), (2, 4), (3, 6)]) 4 24 [.int .i64 0, .int .i64 0, .bool false, .int .u8 0] (.agg #[.int .i64 0, .int .i64 0, .bool false, .int .u8 0]) (by kernel_rfl) rfl ⟨_, Try.underlying7, rfl⟩ rfl rfl false (fun h => by cases h)
theorem ty8 : TyOk Try.prog 8 ⟨.struct [(0, 2), (1, 3), (2, 4), (3, 6)], 4, 24, [.int .i64 0, .int .i64 0, .bool false, .int .u8 0], false⟩ := TyOk.of (P := Try.prog) (t := 8) (.struct [(0, 2), (1, 3), (2, 4), (3, 6)]) 4 24 [.int .i64 0, .int .i64 0, .bool false, .int .u8 0] (.agg #[.int .i64 0, .int .i64 0, .bool false, .int .u8 0]) (by kernel_rfl) rfl ⟨_, Try.underlying8, rfl⟩ rfl rfl false (fun h => by cases h)
theorem ty9 : TyOk Try.prog 9 ⟨.str, 1, 16, [.string ByteArray.empty], false⟩ := TyOk.of (P := Try.prog) (t := 9) (.str) 1 16 [.string ByteArray.empty] (.string ByteArray.empty) (by kernel_rfl) rfl Try.underlying9 rfl rfl false (fun h => by cases h)
theorem ty10 : TyOk Try.prog 10 ⟨.str, 1, 16, [.string ByteArray.empty], false⟩ := TyOk.of (P := Try.prog) (t := 10) (.str) 1 16 [.string ByteArray.empty] (.string ByteArray.empty) (by kernel_rfl) rfl Try.underlying10 rfl rfl false (fun h => by cases h)
theorem ty11 : TyOk Try.prog 11 ⟨.str, 1, 16, [.string ByteArray.empty], false⟩ := TyOk.of (P := Try.prog) (t := 11) (.str) 1 16 [.string ByteArray.empty] (.string ByteArray.empty) (by kernel_rfl) rfl Try.underlying11 rfl rfl false (fun h => by cases h)
theorem ty12 : TyOk Try.prog 12 ⟨.int .u64, 1, 8, [.int .u64 0], false⟩ := TyOk.of (P := Try.prog) (t := 12) (.int .u64) 1 8 [.int .u64 0] (.int .u64 0) (by kernel_rfl) rfl Try.underlying12 rfl rfl false (fun h => by cases h)
theorem ty13 : TyOk Try.prog 13 ⟨.struct [(0, 9), (1, 12)], 2, 24, [.string ByteArray.empty, .int .u64 0], false⟩ := TyOk.of (P := Try.prog) (t := 13) (.struct [(0, 9), (1, 12)]) 2 24 [.string ByteArray.empty, .int .u64 0] (.agg #[.string ByteArray.empty, .int .u64 0]) (by kernel_rfl) rfl ⟨_, Try.underlying13, rfl⟩ rfl rfl false (fun h => by cases h)
theorem ty14 : TyOk Try.prog 14 ⟨.struct [(0, 9), (1, 12)], 2, 24, [.string ByteArray.empty, .int .u64 0], false⟩ := TyOk.of (P := Try.prog) (t := 14) (.struct [(0, 9), (1, 12)]) 2 24 [.string ByteArray.empty, .int .u64 0] (.agg #[.string ByteArray.empty, .int .u64 0]) (by kernel_rfl) rfl ⟨_, Try.underlying14, rfl⟩ rfl rfl false (fun h => by cases h)
theorem ty15 : TyOk Try.prog 15 ⟨.ptr 160, 1, 8, [.pointer none], false⟩ := TyOk.of (P := Try.prog) (t := 15) (.ptr 160) 1 8 [.pointer none] (.pointer none) (by kernel_rfl) rfl Try.underlying15 rfl rfl false (fun h => by cases h)
theorem ty16 : TyOk Try.prog 16 ⟨.ptr 163, 1, 8, [.pointer none], false⟩ := TyOk.of (P := Try.prog) (t := 16) (.ptr 163) 1 8 [.pointer none] (.pointer none) (by kernel_rfl) rfl Try.underlying16 rfl rfl false (fun h => by cases h)
theorem ty17 : TyOk Try.prog 17 ⟨.ptr 173, 1, 8, [.pointer none], false⟩ := TyOk.of (P := Try.prog) (t := 17) (.ptr 173) 1 8 [.pointer none] (.pointer none) (by kernel_rfl) rfl Try.underlying17 rfl rfl false (fun h => by cases h)
theorem ty18 : TyOk Try.prog 18 ⟨.struct [(0, 17)], 1, 8, [.pointer none], false⟩ := TyOk.of (P := Try.prog) (t := 18) (.struct [(0, 17)]) 1 8 [.pointer none] (.agg #[.pointer none]) (by kernel_rfl) rfl ⟨_, Try.underlying18, rfl⟩ rfl rfl false (fun h => by cases h)
theorem ty19 : TyOk Try.prog 19 ⟨.struct [(0, 17)], 1, 8, [.pointer none], false⟩ := TyOk.of (P := Try.prog) (t := 19) (.struct [(0, 17)]) 1 8 [.pointer none] (.agg #[.pointer none]) (by kernel_rfl) rfl ⟨_, Try.underlying19, rfl⟩ rfl rfl false (fun h => by cases h)
theorem ty21 : TyOk Try.prog 21 ⟨.int .i32, 1, 4, [.int .i32 0], false⟩ := TyOk.of (P := Try.prog) (t := 21) (.int .i32) 1 4 [.int .i32 0] (.int .i32 0) (by kernel_rfl) rfl Try.underlying21 rfl rfl false (fun h => by cases h)
theorem ty22 : TyOk Try.prog 22 ⟨.slice 56, 1, 24, [.slice none 0 0], false⟩ := TyOk.of (P := Try.prog) (t := 22) (.slice 56) 1 24 [.slice none 0 0] (.slice none 0 0) (by kernel_rfl) rfl Try.underlying22 rfl rfl false (fun h => by cases h)
theorem ty23 : TyOk Try.prog 23 ⟨.slice 25, 1, 24, [.slice none 0 0], false⟩ := TyOk.of (P := Try.prog) (t := 23) (.slice 25) 1 24 [.slice none 0 0] (.slice none 0 0) (by kernel_rfl) rfl Try.underlying23 rfl rfl false (fun h => by cases h)
theorem ty24 : TyOk Try.prog 24 ⟨.struct [(0, 3), (1, 22), (2, 23)], 3, 56, [.int .i64 0, .slice none 0 0, .slice none 0 0], false⟩ := TyOk.of (P := Try.prog) (t := 24) (.struct [(0, 3), (1, 22), (2, 23)]) 3 56 [.int .i64 0, .slice none 0 0, .slice none 0 0] (.agg #[.int .i64 0, .slice none 0 0, .slice none 0 0]) (by kernel_rfl) rfl ⟨_, Try.underlying24, rfl⟩ rfl rfl false (fun h => by cases h)
theorem ty25 : TyOk Try.prog 25 ⟨.struct [(0, 3), (1, 22), (2, 23)], 3, 56, [.int .i64 0, .slice none 0 0, .slice none 0 0], false⟩ := TyOk.of (P := Try.prog) (t := 25) (.struct [(0, 3), (1, 22), (2, 23)]) 3 56 [.int .i64 0, .slice none 0 0, .slice none 0 0] (.agg #[.int .i64 0, .slice none 0 0, .slice none 0 0]) (by kernel_rfl) rfl ⟨_, Try.underlying25, rfl⟩ rfl rfl false (fun h => by cases h)
theorem ty26 : TyOk Try.prog 26 ⟨.slice 58, 1, 24, [.slice none 0 0], false⟩ := TyOk.of (P := Try.prog) (t := 26) (.slice 58) 1 24 [.slice none 0 0] (.slice none 0 0) (by kernel_rfl) rfl Try.underlying26 rfl rfl false (fun h => by cases h)
theorem ty27 : TyOk Try.prog 27 ⟨.slice 71, 1, 24, [.slice none 0 0], false⟩ := TyOk.of (P := Try.prog) (t := 27) (.slice 71) 1 24 [.slice none 0 0] (.slice none 0 0) (by kernel_rfl) rfl Try.underlying27 rfl rfl false (fun h => by cases h)
theorem ty28 : TyOk Try.prog 28 ⟨.slice 69, 1, 24, [.slice none 0 0], false⟩ := TyOk.of (P := Try.prog) (t := 28) (.slice 69) 1 24 [.slice none 0 0] (.slice none 0 0) (by kernel_rfl) rfl Try.underlying28 rfl rfl false (fun h => by cases h)
theorem ty29 : TyOk Try.prog 29 ⟨.struct [(0, 3), (1, 25), (4, 25), (7, 26), (8, 27), (9, 3), (10, 28)], 11, 200, [.int .i64 0, .int .i64 0, .slice none 0 0, .slice none 0 0, .int .i64 0, .slice none 0 0, .slice none 0 0, .slice none 0 0, .slice none 0 0, .int .i64 0, .slice none 0 0], false⟩ := TyOk.of (P := Try.prog) (t := 29) (.struct [(0, 3), (1, 25), (4, 25), (7, 26), (8, 27), (9, 3), (10, 28)]) 11 200 [.int .i64 0, .int .i64 0, .slice none 0 0, .slice none 0 0, .int .i64 0, .slice none 0 0, .slice none 0 0, .slice none 0 0, .slice none 0 0, .int .i64 0, .slice none 0 0] (.agg #[.int .i64 0, .int .i64 0, .slice none 0 0, .slice none 0 0, .int .i64 0, .slice none 0 0, .slice none 0 0, .slice none 0 0, .slice none 0 0, .int .i64 0, .slice none 0 0]) (by kernel_rfl) rfl ⟨_, Try.underlying29, rfl⟩ rfl rfl false (fun h => by cases h)
theorem ty30 : TyOk Try.prog 30 ⟨.struct [(0, 3), (1, 25), (4, 25), (7, 26), (8, 27), (9, 3), (10, 28)], 11, 200, [.int .i64 0, .int .i64 0, .slice none 0 0, .slice none 0 0, .int .i64 0, .slice none 0 0, .slice none 0 0, .slice none 0 0, .slice none 0 0, .int .i64 0, .slice none 0 0], false⟩ := TyOk.of (P := Try.prog) (t := 30) (.struct [(0, 3), (1, 25), (4, 25), (7, 26), (8, 27), (9, 3), (10, 28)]) 11 200 [.int .i64 0, .int .i64 0, .slice none 0 0, .slice none 0 0, .int .i64 0, .slice none 0 0, .slice none 0 0, .slice none 0 0, .slice none 0 0, .int .i64 0, .slice none 0 0] (.agg #[.int .i64 0, .int .i64 0, .slice none 0 0, .slice none 0 0, .int .i64 0, .slice none 0 0, .slice none 0 0, .slice none 0 0, .slice none 0 0, .int .i64 0, .slice none 0 0]) (by kernel_rfl) rfl ⟨_, Try.underlying30, rfl⟩ rfl rfl false (fun h => by cases h)
theorem ty46 : TyOk Try.prog 46 ⟨.slice 79, 1, 24, [.slice none 0 0], false⟩ := TyOk.of (P := Try.prog) (t := 46) (.slice 79) 1 24 [.slice none 0 0] (.slice none 0 0) (by kernel_rfl) rfl Try.underlying46 rfl rfl false (fun h => by cases h)
theorem ty49 : TyOk Try.prog 49 ⟨.slice 84, 1, 24, [.slice none 0 0], false⟩ := TyOk.of (P := Try.prog) (t := 49) (.slice 84) 1 24 [.slice none 0 0] (.slice none 0 0) (by kernel_rfl) rfl Try.underlying49 rfl rfl false (fun h => by cases h)
theorem ty52 : TyOk Try.prog 52 ⟨.slice 82, 1, 24, [.slice none 0 0], false⟩ := TyOk.of (P := Try.prog) (t := 52) (.slice 82) 1 24 [.slice none 0 0] (.slice none 0 0) (by kernel_rfl) rfl Try.underlying52 rfl rfl false (fun h => by cases h)
theorem ty56 : TyOk Try.prog 56 ⟨.int .u64, 1, 8, [.int .u64 0], false⟩ := TyOk.of (P := Try.prog) (t := 56) (.int .u64) 1 8 [.int .u64 0] (.int .u64 0) (by kernel_rfl) rfl Try.underlying56 rfl rfl false (fun h => by cases h)
theorem ty57 : TyOk Try.prog 57 ⟨.struct [(0, 3), (1, 5), (2, 56), (3, 56)], 4, 32, [.int .i64 0, .int .u8 0, .int .u64 0, .int .u64 0], false⟩ := TyOk.of (P := Try.prog) (t := 57) (.struct [(0, 3), (1, 5), (2, 56), (3, 56)]) 4 32 [.int .i64 0, .int .u8 0, .int .u64 0, .int .u64 0] (.agg #[.int .i64 0, .int .u8 0, .int .u64 0, .int .u64 0]) (by kernel_rfl) rfl ⟨_, Try.underlying57, rfl⟩ rfl rfl false (fun h => by cases h)
theorem ty58 : TyOk Try.prog 58 ⟨.struct [(0, 3), (1, 5), (2, 56), (3, 56)], 4, 32, [.int .i64 0, .int .u8 0, .int .u64 0, .int .u64 0], true⟩ := TyOk.of (P := Try.prog) (t := 58) (.struct [(0, 3), (1, 5), (2, 56), (3, 56)]) 4 32 [.int .i64 0, .int .u8 0, .int .u64 0, .int .u64 0] (.agg #[.int .i64 0, .int .u8 0, .int .u64 0, .int .u64 0]) (by kernel_rfl) rfl ⟨_, Try.underlying58, rfl⟩ rfl rfl true (fun _ => by unfold EqTy; exact ⟨by kernel_rfl, by kernel_rfl, by kernel_rfl⟩)
theorem ty62 : TyOk Try.prog 62 ⟨.slice 102, 1, 24, [.slice none 0 0], false⟩ := TyOk.of (P := Try.prog) (t := 62) (.slice 102) 1 24 [.slice none 0 0] (.slice none 0 0) (by kernel_rfl) rfl Try.underlying62 rfl rfl false (fun h => by cases h)
theorem ty68 : TyOk Try.prog 68 ⟨.struct [(0, 3), (1, 3), (2, 23), (3, 30)], 14, 240, [.int .i64 0, .int .i64 0, .slice none 0 0, .int .i64 0, .int .i64 0, .slice none 0 0, .slice none 0 0, .int .i64 0, .slice none 0 0, .slice none 0 0, .slice none 0 0, .slice none 0 0, .int .i64 0, .slice none 0 0], false⟩ := TyOk.of (P := Try.prog) (t := 68) (.struct [(0, 3), (1, 3), (2, 23), (3, 30)]) 14 240 [.int .i64 0, .int .i64 0, .slice none 0 0, .int .i64 0, .int .i64 0, .slice none 0 0, .slice none 0 0, .int .i64 0, .slice none 0 0, .slice none 0 0, .slice none 0 0, .slice none 0 0, .int .i64 0, .slice none 0 0] (.agg #[.int .i64 0, .int .i64 0, .slice none 0 0, .int .i64 0, .int .i64 0, .slice none 0 0, .slice none 0 0, .int .i64 0, .slice none 0 0, .slice none 0 0, .slice none 0 0, .slice none 0 0, .int .i64 0, .slice none 0 0]) (by kernel_rfl) rfl ⟨_, Try.underlying68, rfl⟩ rfl rfl false (fun h => by cases h)
theorem ty69 : TyOk Try.prog 69 ⟨.struct [(0, 3), (1, 3), (2, 23), (3, 30)], 14, 240, [.int .i64 0, .int .i64 0, .slice none 0 0, .int .i64 0, .int .i64 0, .slice none 0 0, .slice none 0 0, .int .i64 0, .slice none 0 0, .slice none 0 0, .slice none 0 0, .slice none 0 0, .int .i64 0, .slice none 0 0], false⟩ := TyOk.of (P := Try.prog) (t := 69) (.struct [(0, 3), (1, 3), (2, 23), (3, 30)]) 14 240 [.int .i64 0, .int .i64 0, .slice none 0 0, .int .i64 0, .int .i64 0, .slice none 0 0, .slice none 0 0, .int .i64 0, .slice none 0 0, .slice none 0 0, .slice none 0 0, .slice none 0 0, .int .i64 0, .slice none 0 0] (.agg #[.int .i64 0, .int .i64 0, .slice none 0 0, .int .i64 0, .int .i64 0, .slice none 0 0, .slice none 0 0, .int .i64 0, .slice none 0 0, .slice none 0 0, .slice none 0 0, .slice none 0 0, .int .i64 0, .slice none 0 0]) (by kernel_rfl) rfl ⟨_, Try.underlying69, rfl⟩ rfl rfl false (fun h => by cases h)
theorem ty70 : TyOk Try.prog 70 ⟨.struct [(0, 3), (1, 30)], 12, 208, [.int .i64 0, .int .i64 0, .int .i64 0, .slice none 0 0, .slice none 0 0, .int .i64 0, .slice none 0 0, .slice none 0 0, .slice none 0 0, .slice none 0 0, .int .i64 0, .slice none 0 0], false⟩ := TyOk.of (P := Try.prog) (t := 70) (.struct [(0, 3), (1, 30)]) 12 208 [.int .i64 0, .int .i64 0, .int .i64 0, .slice none 0 0, .slice none 0 0, .int .i64 0, .slice none 0 0, .slice none 0 0, .slice none 0 0, .slice none 0 0, .int .i64 0, .slice none 0 0] (.agg #[.int .i64 0, .int .i64 0, .int .i64 0, .slice none 0 0, .slice none 0 0, .int .i64 0, .slice none 0 0, .slice none 0 0, .slice none 0 0, .slice none 0 0, .int .i64 0, .slice none 0 0]) (by kernel_rfl) rfl ⟨_, Try.underlying70, rfl⟩ rfl rfl false (fun h => by cases h)
theorem ty71 : TyOk Try.prog 71 ⟨.struct [(0, 3), (1, 30)], 12, 208, [.int .i64 0, .int .i64 0, .int .i64 0, .slice none 0 0, .slice none 0 0, .int .i64 0, .slice none 0 0, .slice none 0 0, .slice none 0 0, .slice none 0 0, .int .i64 0, .slice none 0 0], false⟩ := TyOk.of (P := Try.prog) (t := 71) (.struct [(0, 3), (1, 30)]) 12 208 [.int .i64 0, .int .i64 0, .int .i64 0, .slice none 0 0, .slice none 0 0, .int .i64 0, .slice none 0 0, .slice none 0 0, .slice none 0 0, .slice none 0 0, .int .i64 0, .slice none 0 0] (.agg #[.int .i64 0, .int .i64 0, .int .i64 0, .slice none 0 0, .slice none 0 0, .int .i64 0, .slice none 0 0, .slice none 0 0, .slice none 0 0, .slice none 0 0, .int .i64 0, .slice none 0 0]) (by kernel_rfl) rfl ⟨_, Try.underlying71, rfl⟩ rfl rfl false (fun h => by cases h)
theorem ty78 : TyOk Try.prog 78 ⟨.struct [(0, 3), (1, 69), (15, 69)], 29, 488, [.int .i64 0, .int .i64 0, .int .i64 0, .slice none 0 0, .int .i64 0, .int .i64 0, .slice none 0 0, .slice none 0 0, .int .i64 0, .slice none 0 0, .slice none 0 0, .slice none 0 0, .slice none 0 0, .int .i64 0, .slice none 0 0, .int .i64 0, .int .i64 0, .slice none 0 0, .int .i64 0, .int .i64 0, .slice none 0 0, .slice none 0 0, .int .i64 0, .slice none 0 0, .slice none 0 0, .slice none 0 0, .slice none 0 0, .int .i64 0, .slice none 0 0], false⟩ := TyOk.of (P := Try.prog) (t := 78) (.struct [(0, 3), (1, 69), (15, 69)]) 29 488 [.int .i64 0, .int .i64 0, .int .i64 0, .slice none 0 0, .int .i64 0, .int .i64 0, .slice none 0 0, .slice none 0 0, .int .i64 0, .slice none 0 0, .slice none 0 0, .slice none 0 0, .slice none 0 0, .int .i64 0, .slice none 0 0, .int .i64 0, .int .i64 0, .slice none 0 0, .int .i64 0, .int .i64 0, .slice none 0 0, .slice none 0 0, .int .i64 0, .slice none 0 0, .slice none 0 0, .slice none 0 0, .slice none 0 0, .int .i64 0, .slice none 0 0] (.agg #[.int .i64 0, .int .i64 0, .int .i64 0, .slice none 0 0, .int .i64 0, .int .i64 0, .slice none 0 0, .slice none 0 0, .int .i64 0, .slice none 0 0, .slice none 0 0, .slice none 0 0, .slice none 0 0, .int .i64 0, .slice none 0 0, .int .i64 0, .int .i64 0, .slice none 0 0, .int .i64 0, .int .i64 0, .slice none 0 0, .slice none 0 0, .int .i64 0, .slice none 0 0, .slice none 0 0, .slice none 0 0, .slice none 0 0, .int .i64 0, .slice none 0 0]) (by kernel_rfl) rfl ⟨_, Try.underlying78, rfl⟩ rfl rfl false (fun h => by cases h)
theorem ty79 : TyOk Try.prog 79 ⟨.struct [(0, 3), (1, 69), (15, 69)], 29, 488, [.int .i64 0, .int .i64 0, .int .i64 0, .slice none 0 0, .int .i64 0, .int .i64 0, .slice none 0 0, .slice none 0 0, .int .i64 0, .slice none 0 0, .slice none 0 0, .slice none 0 0, .slice none 0 0, .int .i64 0, .slice none 0 0, .int .i64 0, .int .i64 0, .slice none 0 0, .int .i64 0, .int .i64 0, .slice none 0 0, .slice none 0 0, .int .i64 0, .slice none 0 0, .slice none 0 0, .slice none 0 0, .slice none 0 0, .int .i64 0, .slice none 0 0], false⟩ := TyOk.of (P := Try.prog) (t := 79) (.struct [(0, 3), (1, 69), (15, 69)]) 29 488 [.int .i64 0, .int .i64 0, .int .i64 0, .slice none 0 0, .int .i64 0, .int .i64 0, .slice none 0 0, .slice none 0 0, .int .i64 0, .slice none 0 0, .slice none 0 0, .slice none 0 0, .slice none 0 0, .int .i64 0, .slice none 0 0, .int .i64 0, .int .i64 0, .slice none 0 0, .int .i64 0, .int .i64 0, .slice none 0 0, .slice none 0 0, .int .i64 0, .slice none 0 0, .slice none 0 0, .slice none 0 0, .slice none 0 0, .int .i64 0, .slice none 0 0] (.agg #[.int .i64 0, .int .i64 0, .int .i64 0, .slice none 0 0, .int .i64 0, .int .i64 0, .slice none 0 0, .slice none 0 0, .int .i64 0, .slice none 0 0, .slice none 0 0, .slice none 0 0, .slice none 0 0, .int .i64 0, .slice none 0 0, .int .i64 0, .int .i64 0, .slice none 0 0, .int .i64 0, .int .i64 0, .slice none 0 0, .slice none 0 0, .int .i64 0, .slice none 0 0, .slice none 0 0, .slice none 0 0, .slice none 0 0, .int .i64 0, .slice none 0 0]) (by kernel_rfl) rfl ⟨_, Try.underlying79, rfl⟩ rfl rfl false (fun h => by cases h)
theorem ty81 : TyOk Try.prog 81 ⟨.struct [(0, 3), (1, 3), (2, 25), (5, 30), (16, 4)], 17, 280, [.int .i64 0, .int .i64 0, .int .i64 0, .slice none 0 0, .slice none 0 0, .int .i64 0, .int .i64 0, .slice none 0 0, .slice none 0 0, .int .i64 0, .slice none 0 0, .slice none 0 0, .slice none 0 0, .slice none 0 0, .int .i64 0, .slice none 0 0, .bool false], false⟩ := TyOk.of (P := Try.prog) (t := 81) (.struct [(0, 3), (1, 3), (2, 25), (5, 30), (16, 4)]) 17 280 [.int .i64 0, .int .i64 0, .int .i64 0, .slice none 0 0, .slice none 0 0, .int .i64 0, .int .i64 0, .slice none 0 0, .slice none 0 0, .int .i64 0, .slice none 0 0, .slice none 0 0, .slice none 0 0, .slice none 0 0, .int .i64 0, .slice none 0 0, .bool false] (.agg #[.int .i64 0, .int .i64 0, .int .i64 0, .slice none 0 0, .slice none 0 0, .int .i64 0, .int .i64 0, .slice none 0 0, .slice none 0 0, .int .i64 0, .slice none 0 0, .slice none 0 0, .slice none 0 0, .slice none 0 0, .int .i64 0, .slice none 0 0, .bool false]) (by kernel_rfl) rfl ⟨_, Try.underlying81, rfl⟩ rfl rfl false (fun h => by cases h)
theorem ty82 : TyOk Try.prog 82 ⟨.struct [(0, 3), (1, 3), (2, 25), (5, 30), (16, 4)], 17, 280, [.int .i64 0, .int .i64 0, .int .i64 0, .slice none 0 0, .slice none 0 0, .int .i64 0, .int .i64 0, .slice none 0 0, .slice none 0 0, .int .i64 0, .slice none 0 0, .slice none 0 0, .slice none 0 0, .slice none 0 0, .int .i64 0, .slice none 0 0, .bool false], false⟩ := TyOk.of (P := Try.prog) (t := 82) (.struct [(0, 3), (1, 3), (2, 25), (5, 30), (16, 4)]) 17 280 [.int .i64 0, .int .i64 0, .int .i64 0, .slice none 0 0, .slice none 0 0, .int .i64 0, .int .i64 0, .slice none 0 0, .slice none 0 0, .int .i64 0, .slice none 0 0, .slice none 0 0, .slice none 0 0, .slice none 0 0, .int .i64 0, .slice none 0 0, .bool false] (.agg #[.int .i64 0, .int .i64 0, .int .i64 0, .slice none 0 0, .slice none 0 0, .int .i64 0, .int .i64 0, .slice none 0 0, .slice none 0 0, .int .i64 0, .slice none 0 0, .slice none 0 0, .slice none 0 0, .slice none 0 0, .int .i64 0, .slice none 0 0, .bool false]) (by kernel_rfl) rfl ⟨_, Try.underlying82, rfl⟩ rfl rfl false (fun h => by cases h)
theorem ty83 : TyOk Try.prog 83 ⟨.struct [(0, 3), (1, 82), (18, 82)], 35, 568, [.int .i64 0, .int .i64 0, .int .i64 0, .int .i64 0, .slice none 0 0, .slice none 0 0, .int .i64 0, .int .i64 0, .slice none 0 0, .slice none 0 0, .int .i64 0, .slice none 0 0, .slice none 0 0, .slice none 0 0, .slice none 0 0, .int .i64 0, .slice none 0 0, .bool false, .int .i64 0, .int .i64 0, .int .i64 0, .slice none 0 0, .slice none 0 0, .int .i64 0, .int .i64 0, .slice none 0 0, .slice none 0 0, .int .i64 0, .slice none 0 0, .slice none 0 0, .slice none 0 0, .slice none 0 0, .int .i64 0, .slice none 0 0, .bool false], false⟩ := TyOk.of (P := Try.prog) (t := 83) (.struct [(0, 3), (1, 82), (18, 82)]) 35 568 [.int .i64 0, .int .i64 0, .int .i64 0, .int .i64 0, .slice none 0 0, .slice none 0 0, .int .i64 0, .int .i64 0, .slice none 0 0, .slice none 0 0, .int .i64 0, .slice none 0 0, .slice none 0 0, .slice none 0 0, .slice none 0 0, .int .i64 0, .slice none 0 0, .bool false, .int .i64 0, .int .i64 0, .int .i64 0, .slice none 0 0, .slice none 0 0, .int .i64 0, .int .i64 0, .slice none 0 0, .slice none 0 0, .int .i64 0, .slice none 0 0, .slice none 0 0, .slice none 0 0, .slice none 0 0, .int .i64 0, .slice none 0 0, .bool false] (.agg #[.int .i64 0, .int .i64 0, .int .i64 0, .int .i64 0, .slice none 0 0, .slice none 0 0, .int .i64 0, .int .i64 0, .slice none 0 0, .slice none 0 0, .int .i64 0, .slice none 0 0, .slice none 0 0, .slice none 0 0, .slice none 0 0, .int .i64 0, .slice none 0 0, .bool false, .int .i64 0, .int .i64 0, .int .i64 0, .slice none 0 0, .slice none 0 0, .int .i64 0, .int .i64 0, .slice none 0 0, .slice none 0 0, .int .i64 0, .slice none 0 0, .slice none 0 0, .slice none 0 0, .slice none 0 0, .int .i64 0, .slice none 0 0, .bool false]) (by kernel_rfl) rfl ⟨_, Try.underlying83, rfl⟩ rfl rfl false (fun h => by cases h)
theorem ty84 : TyOk Try.prog 84 ⟨.struct [(0, 3), (1, 82), (18, 82)], 35, 568, [.int .i64 0, .int .i64 0, .int .i64 0, .int .i64 0, .slice none 0 0, .slice none 0 0, .int .i64 0, .int .i64 0, .slice none 0 0, .slice none 0 0, .int .i64 0, .slice none 0 0, .slice none 0 0, .slice none 0 0, .slice none 0 0, .int .i64 0, .slice none 0 0, .bool false, .int .i64 0, .int .i64 0, .int .i64 0, .slice none 0 0, .slice none 0 0, .int .i64 0, .int .i64 0, .slice none 0 0, .slice none 0 0, .int .i64 0, .slice none 0 0, .slice none 0 0, .slice none 0 0, .slice none 0 0, .int .i64 0, .slice none 0 0, .bool false], false⟩ := TyOk.of (P := Try.prog) (t := 84) (.struct [(0, 3), (1, 82), (18, 82)]) 35 568 [.int .i64 0, .int .i64 0, .int .i64 0, .int .i64 0, .slice none 0 0, .slice none 0 0, .int .i64 0, .int .i64 0, .slice none 0 0, .slice none 0 0, .int .i64 0, .slice none 0 0, .slice none 0 0, .slice none 0 0, .slice none 0 0, .int .i64 0, .slice none 0 0, .bool false, .int .i64 0, .int .i64 0, .int .i64 0, .slice none 0 0, .slice none 0 0, .int .i64 0, .int .i64 0, .slice none 0 0, .slice none 0 0, .int .i64 0, .slice none 0 0, .slice none 0 0, .slice none 0 0, .slice none 0 0, .int .i64 0, .slice none 0 0, .bool false] (.agg #[.int .i64 0, .int .i64 0, .int .i64 0, .int .i64 0, .slice none 0 0, .slice none 0 0, .int .i64 0, .int .i64 0, .slice none 0 0, .slice none 0 0, .int .i64 0, .slice none 0 0, .slice none 0 0, .slice none 0 0, .slice none 0 0, .int .i64 0, .slice none 0 0, .bool false, .int .i64 0, .int .i64 0, .int .i64 0, .slice none 0 0, .slice none 0 0, .int .i64 0, .int .i64 0, .slice none 0 0, .slice none 0 0, .int .i64 0, .slice none 0 0, .slice none 0 0, .slice none 0 0, .slice none 0 0, .int .i64 0, .slice none 0 0, .bool false]) (by kernel_rfl) rfl ⟨_, Try.underlying84, rfl⟩ rfl rfl false (fun h => by cases h)
theorem ty95 : TyOk Try.prog 95 ⟨.arr 8 5, 8, 8, [.int .u8 0, .int .u8 0, .int .u8 0, .int .u8 0, .int .u8 0, .int .u8 0, .int .u8 0, .int .u8 0], false⟩ := TyOk.of (P := Try.prog) (t := 95) (.arr 8 5) 8 8 [.int .u8 0, .int .u8 0, .int .u8 0, .int .u8 0, .int .u8 0, .int .u8 0, .int .u8 0, .int .u8 0] (.agg #[.int .u8 0, .int .u8 0, .int .u8 0, .int .u8 0, .int .u8 0, .int .u8 0, .int .u8 0, .int .u8 0]) (by kernel_rfl) rfl Try.underlying95 rfl rfl false (fun h => by cases h)
theorem ty99 : TyOk Try.prog 99 ⟨.slice 5, 1, 24, [.slice none 0 0], false⟩ := TyOk.of (P := Try.prog) (t := 99) (.slice 5) 1 24 [.slice none 0 0] (.slice none 0 0) (by kernel_rfl) rfl Try.underlying99 rfl rfl false (fun h => by cases h)
theorem ty101 : TyOk Try.prog 101 ⟨.struct [(0, 3), (1, 3)], 2, 16, [.int .i64 0, .int .i64 0], false⟩ := TyOk.of (P := Try.prog) (t := 101) (.struct [(0, 3), (1, 3)]) 2 16 [.int .i64 0, .int .i64 0] (.agg #[.int .i64 0, .int .i64 0]) (by kernel_rfl) rfl ⟨_, Try.underlying101, rfl⟩ rfl rfl false (fun h => by cases h)
theorem ty102 : TyOk Try.prog 102 ⟨.struct [(0, 3), (1, 3)], 2, 16, [.int .i64 0, .int .i64 0], true⟩ := TyOk.of (P := Try.prog) (t := 102) (.struct [(0, 3), (1, 3)]) 2 16 [.int .i64 0, .int .i64 0] (.agg #[.int .i64 0, .int .i64 0]) (by kernel_rfl) rfl ⟨_, Try.underlying102, rfl⟩ rfl rfl true (fun _ => by unfold EqTy; exact ⟨by kernel_rfl, by kernel_rfl, by kernel_rfl⟩)
theorem ty109 : TyOk Try.prog 109 ⟨.struct [(0, 28), (1, 3), (2, 23), (3, 23)], 4, 80, [.slice none 0 0, .int .i64 0, .slice none 0 0, .slice none 0 0], false⟩ := TyOk.of (P := Try.prog) (t := 109) (.struct [(0, 28), (1, 3), (2, 23), (3, 23)]) 4 80 [.slice none 0 0, .int .i64 0, .slice none 0 0, .slice none 0 0] (.agg #[.slice none 0 0, .int .i64 0, .slice none 0 0, .slice none 0 0]) (by kernel_rfl) rfl ⟨_, Try.underlying109, rfl⟩ rfl rfl false (fun h => by cases h)
theorem ty110 : TyOk Try.prog 110 ⟨.struct [(0, 28), (1, 3), (2, 23), (3, 23)], 4, 80, [.slice none 0 0, .int .i64 0, .slice none 0 0, .slice none 0 0], false⟩ := TyOk.of (P := Try.prog) (t := 110) (.struct [(0, 28), (1, 3), (2, 23), (3, 23)]) 4 80 [.slice none 0 0, .int .i64 0, .slice none 0 0, .slice none 0 0] (.agg #[.slice none 0 0, .int .i64 0, .slice none 0 0, .slice none 0 0]) (by kernel_rfl) rfl ⟨_, Try.underlying110, rfl⟩ rfl rfl false (fun h => by cases h)
theorem ty113 : TyOk Try.prog 113 ⟨.ptr 23, 1, 8, [.pointer none], false⟩ := TyOk.of (P := Try.prog) (t := 113) (.ptr 23) 1 8 [.pointer none] (.pointer none) (by kernel_rfl) rfl Try.underlying113 rfl rfl false (fun h => by cases h)
theorem ty123 : TyOk Try.prog 123 ⟨.struct [(0, 28), (1, 3)], 2, 32, [.slice none 0 0, .int .i64 0], false⟩ := TyOk.of (P := Try.prog) (t := 123) (.struct [(0, 28), (1, 3)]) 2 32 [.slice none 0 0, .int .i64 0] (.agg #[.slice none 0 0, .int .i64 0]) (by kernel_rfl) rfl ⟨_, Try.underlying123, rfl⟩ rfl rfl false (fun h => by cases h)
theorem ty124 : TyOk Try.prog 124 ⟨.struct [(0, 28), (1, 3)], 2, 32, [.slice none 0 0, .int .i64 0], false⟩ := TyOk.of (P := Try.prog) (t := 124) (.struct [(0, 28), (1, 3)]) 2 32 [.slice none 0 0, .int .i64 0] (.agg #[.slice none 0 0, .int .i64 0]) (by kernel_rfl) rfl ⟨_, Try.underlying124, rfl⟩ rfl rfl false (fun h => by cases h)
theorem ty132 : TyOk Try.prog 132 ⟨.slice 3, 1, 24, [.slice none 0 0], false⟩ := TyOk.of (P := Try.prog) (t := 132) (.slice 3) 1 24 [.slice none 0 0] (.slice none 0 0) (by kernel_rfl) rfl Try.underlying132 rfl rfl false (fun h => by cases h)
theorem ty133 : TyOk Try.prog 133 ⟨.ptr 110, 1, 8, [.pointer none], false⟩ := TyOk.of (P := Try.prog) (t := 133) (.ptr 110) 1 8 [.pointer none] (.pointer none) (by kernel_rfl) rfl Try.underlying133 rfl rfl false (fun h => by cases h)
theorem ty136 : TyOk Try.prog 136 ⟨.ptr 25, 1, 8, [.pointer none], false⟩ := TyOk.of (P := Try.prog) (t := 136) (.ptr 25) 1 8 [.pointer none] (.pointer none) (by kernel_rfl) rfl Try.underlying136 rfl rfl false (fun h => by cases h)
theorem ty138 : TyOk Try.prog 138 ⟨.struct [(0, 23), (1, 23)], 2, 48, [.slice none 0 0, .slice none 0 0], false⟩ := TyOk.of (P := Try.prog) (t := 138) (.struct [(0, 23), (1, 23)]) 2 48 [.slice none 0 0, .slice none 0 0] (.agg #[.slice none 0 0, .slice none 0 0]) (by kernel_rfl) rfl ⟨_, Try.underlying138, rfl⟩ rfl rfl false (fun h => by cases h)
theorem ty139 : TyOk Try.prog 139 ⟨.struct [(0, 23), (1, 23)], 2, 48, [.slice none 0 0, .slice none 0 0], false⟩ := TyOk.of (P := Try.prog) (t := 139) (.struct [(0, 23), (1, 23)]) 2 48 [.slice none 0 0, .slice none 0 0] (.agg #[.slice none 0 0, .slice none 0 0]) (by kernel_rfl) rfl ⟨_, Try.underlying139, rfl⟩ rfl rfl false (fun h => by cases h)
theorem ty141 : TyOk Try.prog 141 ⟨.ptr 124, 1, 8, [.pointer none], false⟩ := TyOk.of (P := Try.prog) (t := 141) (.ptr 124) 1 8 [.pointer none] (.pointer none) (by kernel_rfl) rfl Try.underlying141 rfl rfl false (fun h => by cases h)
theorem ty142 : TyOk Try.prog 142 ⟨.ptr 139, 1, 8, [.pointer none], false⟩ := TyOk.of (P := Try.prog) (t := 142) (.ptr 139) 1 8 [.pointer none] (.pointer none) (by kernel_rfl) rfl Try.underlying142 rfl rfl false (fun h => by cases h)
theorem ty157 : TyOk Try.prog 157 ⟨.arr 6 3, 6, 48, [.int .i64 0, .int .i64 0, .int .i64 0, .int .i64 0, .int .i64 0, .int .i64 0], false⟩ := TyOk.of (P := Try.prog) (t := 157) (.arr 6 3) 6 48 [.int .i64 0, .int .i64 0, .int .i64 0, .int .i64 0, .int .i64 0, .int .i64 0] (.agg #[.int .i64 0, .int .i64 0, .int .i64 0, .int .i64 0, .int .i64 0, .int .i64 0]) (by kernel_rfl) rfl Try.underlying157 rfl rfl false (fun h => by cases h)
theorem ty159 : TyOk Try.prog 159 ⟨.struct [(0, 17), (1, 17), (2, 17), (3, 9)], 4, 40, [.pointer none, .pointer none, .pointer none, .string ByteArray.empty], false⟩ := TyOk.of (P := Try.prog) (t := 159) (.struct [(0, 17), (1, 17), (2, 17), (3, 9)]) 4 40 [.pointer none, .pointer none, .pointer none, .string ByteArray.empty] (.agg #[.pointer none, .pointer none, .pointer none, .string ByteArray.empty]) (by kernel_rfl) rfl ⟨_, Try.underlying159, rfl⟩ rfl rfl false (fun h => by cases h)
theorem ty160 : TyOk Try.prog 160 ⟨.struct [(0, 17), (1, 17), (2, 17), (3, 9)], 4, 40, [.pointer none, .pointer none, .pointer none, .string ByteArray.empty], false⟩ := TyOk.of (P := Try.prog) (t := 160) (.struct [(0, 17), (1, 17), (2, 17), (3, 9)]) 4 40 [.pointer none, .pointer none, .pointer none, .string ByteArray.empty] (.agg #[.pointer none, .pointer none, .pointer none, .string ByteArray.empty]) (by kernel_rfl) rfl ⟨_, Try.underlying160, rfl⟩ rfl rfl false (fun h => by cases h)
theorem ty165 : TyOk Try.prog 165 ⟨.int .u32, 1, 4, [.int .u32 0], false⟩ := TyOk.of (P := Try.prog) (t := 165) (.int .u32) 1 4 [.int .u32 0] (.int .u32 0) (by kernel_rfl) rfl Try.underlying165 rfl rfl false (fun h => by cases h)
theorem ty166 : TyOk Try.prog 166 ⟨.int .u8, 1, 1, [.int .u8 0], false⟩ := TyOk.of (P := Try.prog) (t := 166) (.int .u8) 1 1 [.int .u8 0] (.int .u8 0) (by kernel_rfl) rfl Try.underlying166 rfl rfl false (fun h => by cases h)
theorem ty167 : TyOk Try.prog 167 ⟨.int .u8, 1, 1, [.int .u8 0], false⟩ := TyOk.of (P := Try.prog) (t := 167) (.int .u8) 1 1 [.int .u8 0] (.int .u8 0) (by kernel_rfl) rfl Try.underlying167 rfl rfl false (fun h => by cases h)
theorem ty169 : TyOk Try.prog 169 ⟨.ptr 5, 1, 8, [.pointer none], false⟩ := TyOk.of (P := Try.prog) (t := 169) (.ptr 5) 1 8 [.pointer none] (.pointer none) (by kernel_rfl) rfl Try.underlying169 rfl rfl false (fun h => by cases h)
theorem ty170 : TyOk Try.prog 170 ⟨.int .i32, 1, 4, [.int .i32 0], false⟩ := TyOk.of (P := Try.prog) (t := 170) (.int .i32) 1 4 [.int .i32 0] (.int .i32 0) (by kernel_rfl) rfl Try.underlying170 rfl rfl false (fun h => by cases h)
theorem ty171 : TyOk Try.prog 171 ⟨.int .i32, 1, 4, [.int .i32 0], false⟩ := TyOk.of (P := Try.prog) (t := 171) (.int .i32) 1 4 [.int .i32 0] (.int .i32 0) (by kernel_rfl) rfl Try.underlying171 rfl rfl false (fun h => by cases h)
def tabL : List (Nat × TyI) := [(2, ⟨.int .i64, 1, 8, [.int .i64 0], false⟩),
  (3, ⟨.int .i64, 1, 8, [.int .i64 0], false⟩),
  (4, ⟨.bool, 1, 1, [.bool false], false⟩),
  (5, ⟨.int .u8, 1, 1, [.int .u8 0], false⟩),
  (6, ⟨.int .u8, 1, 1, [.int .u8 0], false⟩),
  (7, ⟨.struct [(0, 2), (1, 3), (2, 4), (3, 6)], 4, 24, [.int .i64 0, .int .i64 0, .bool false, .int .u8 0], false⟩),
  (8, ⟨.struct [(0, 2), (1, 3), (2, 4), (3, 6)], 4, 24, [.int .i64 0, .int .i64 0, .bool false, .int .u8 0], false⟩),
  (9, ⟨.str, 1, 16, [.string ByteArray.empty], false⟩),
  (10, ⟨.str, 1, 16, [.string ByteArray.empty], false⟩),
  (11, ⟨.str, 1, 16, [.string ByteArray.empty], false⟩),
  (12, ⟨.int .u64, 1, 8, [.int .u64 0], false⟩),
  (13, ⟨.struct [(0, 9), (1, 12)], 2, 24, [.string ByteArray.empty, .int .u64 0], false⟩),
  (14, ⟨.struct [(0, 9), (1, 12)], 2, 24, [.string ByteArray.empty, .int .u64 0], false⟩),
  (15, ⟨.ptr 160, 1, 8, [.pointer none], false⟩),
  (16, ⟨.ptr 163, 1, 8, [.pointer none], false⟩),
  (17, ⟨.ptr 173, 1, 8, [.pointer none], false⟩),
  (18, ⟨.struct [(0, 17)], 1, 8, [.pointer none], false⟩),
  (19, ⟨.struct [(0, 17)], 1, 8, [.pointer none], false⟩),
  (21, ⟨.int .i32, 1, 4, [.int .i32 0], false⟩),
  (22, ⟨.slice 56, 1, 24, [.slice none 0 0], false⟩),
  (23, ⟨.slice 25, 1, 24, [.slice none 0 0], false⟩),
  (24, ⟨.struct [(0, 3), (1, 22), (2, 23)], 3, 56, [.int .i64 0, .slice none 0 0, .slice none 0 0], false⟩),
  (25, ⟨.struct [(0, 3), (1, 22), (2, 23)], 3, 56, [.int .i64 0, .slice none 0 0, .slice none 0 0], false⟩),
  (26, ⟨.slice 58, 1, 24, [.slice none 0 0], false⟩),
  (27, ⟨.slice 71, 1, 24, [.slice none 0 0], false⟩),
  (28, ⟨.slice 69, 1, 24, [.slice none 0 0], false⟩),
  (29, ⟨.struct [(0, 3), (1, 25), (4, 25), (7, 26), (8, 27), (9, 3), (10, 28)], 11, 200, [.int .i64 0, .int .i64 0, .slice none 0 0, .slice none 0 0, .int .i64 0, .slice none 0 0, .slice none 0 0, .slice none 0 0, .slice none 0 0, .int .i64 0, .slice none 0 0], false⟩),
  (30, ⟨.struct [(0, 3), (1, 25), (4, 25), (7, 26), (8, 27), (9, 3), (10, 28)], 11, 200, [.int .i64 0, .int .i64 0, .slice none 0 0, .slice none 0 0, .int .i64 0, .slice none 0 0, .slice none 0 0, .slice none 0 0, .slice none 0 0, .int .i64 0, .slice none 0 0], false⟩),
  (46, ⟨.slice 79, 1, 24, [.slice none 0 0], false⟩),
  (49, ⟨.slice 84, 1, 24, [.slice none 0 0], false⟩),
  (52, ⟨.slice 82, 1, 24, [.slice none 0 0], false⟩),
  (56, ⟨.int .u64, 1, 8, [.int .u64 0], false⟩),
  (57, ⟨.struct [(0, 3), (1, 5), (2, 56), (3, 56)], 4, 32, [.int .i64 0, .int .u8 0, .int .u64 0, .int .u64 0], false⟩),
  (58, ⟨.struct [(0, 3), (1, 5), (2, 56), (3, 56)], 4, 32, [.int .i64 0, .int .u8 0, .int .u64 0, .int .u64 0], true⟩),
  (62, ⟨.slice 102, 1, 24, [.slice none 0 0], false⟩),
  (68, ⟨.struct [(0, 3), (1, 3), (2, 23), (3, 30)], 14, 240, [.int .i64 0, .int .i64 0, .slice none 0 0, .int .i64 0, .int .i64 0, .slice none 0 0, .slice none 0 0, .int .i64 0, .slice none 0 0, .slice none 0 0, .slice none 0 0, .slice none 0 0, .int .i64 0, .slice none 0 0], false⟩),
  (69, ⟨.struct [(0, 3), (1, 3), (2, 23), (3, 30)], 14, 240, [.int .i64 0, .int .i64 0, .slice none 0 0, .int .i64 0, .int .i64 0, .slice none 0 0, .slice none 0 0, .int .i64 0, .slice none 0 0, .slice none 0 0, .slice none 0 0, .slice none 0 0, .int .i64 0, .slice none 0 0], false⟩),
  (70, ⟨.struct [(0, 3), (1, 30)], 12, 208, [.int .i64 0, .int .i64 0, .int .i64 0, .slice none 0 0, .slice none 0 0, .int .i64 0, .slice none 0 0, .slice none 0 0, .slice none 0 0, .slice none 0 0, .int .i64 0, .slice none 0 0], false⟩),
  (71, ⟨.struct [(0, 3), (1, 30)], 12, 208, [.int .i64 0, .int .i64 0, .int .i64 0, .slice none 0 0, .slice none 0 0, .int .i64 0, .slice none 0 0, .slice none 0 0, .slice none 0 0, .slice none 0 0, .int .i64 0, .slice none 0 0], false⟩),
  (78, ⟨.struct [(0, 3), (1, 69), (15, 69)], 29, 488, [.int .i64 0, .int .i64 0, .int .i64 0, .slice none 0 0, .int .i64 0, .int .i64 0, .slice none 0 0, .slice none 0 0, .int .i64 0, .slice none 0 0, .slice none 0 0, .slice none 0 0, .slice none 0 0, .int .i64 0, .slice none 0 0, .int .i64 0, .int .i64 0, .slice none 0 0, .int .i64 0, .int .i64 0, .slice none 0 0, .slice none 0 0, .int .i64 0, .slice none 0 0, .slice none 0 0, .slice none 0 0, .slice none 0 0, .int .i64 0, .slice none 0 0], false⟩),
  (79, ⟨.struct [(0, 3), (1, 69), (15, 69)], 29, 488, [.int .i64 0, .int .i64 0, .int .i64 0, .slice none 0 0, .int .i64 0, .int .i64 0, .slice none 0 0, .slice none 0 0, .int .i64 0, .slice none 0 0, .slice none 0 0, .slice none 0 0, .slice none 0 0, .int .i64 0, .slice none 0 0, .int .i64 0, .int .i64 0, .slice none 0 0, .int .i64 0, .int .i64 0, .slice none 0 0, .slice none 0 0, .int .i64 0, .slice none 0 0, .slice none 0 0, .slice none 0 0, .slice none 0 0, .int .i64 0, .slice none 0 0], false⟩),
  (81, ⟨.struct [(0, 3), (1, 3), (2, 25), (5, 30), (16, 4)], 17, 280, [.int .i64 0, .int .i64 0, .int .i64 0, .slice none 0 0, .slice none 0 0, .int .i64 0, .int .i64 0, .slice none 0 0, .slice none 0 0, .int .i64 0, .slice none 0 0, .slice none 0 0, .slice none 0 0, .slice none 0 0, .int .i64 0, .slice none 0 0, .bool false], false⟩),
  (82, ⟨.struct [(0, 3), (1, 3), (2, 25), (5, 30), (16, 4)], 17, 280, [.int .i64 0, .int .i64 0, .int .i64 0, .slice none 0 0, .slice none 0 0, .int .i64 0, .int .i64 0, .slice none 0 0, .slice none 0 0, .int .i64 0, .slice none 0 0, .slice none 0 0, .slice none 0 0, .slice none 0 0, .int .i64 0, .slice none 0 0, .bool false], false⟩),
  (83, ⟨.struct [(0, 3), (1, 82), (18, 82)], 35, 568, [.int .i64 0, .int .i64 0, .int .i64 0, .int .i64 0, .slice none 0 0, .slice none 0 0, .int .i64 0, .int .i64 0, .slice none 0 0, .slice none 0 0, .int .i64 0, .slice none 0 0, .slice none 0 0, .slice none 0 0, .slice none 0 0, .int .i64 0, .slice none 0 0, .bool false, .int .i64 0, .int .i64 0, .int .i64 0, .slice none 0 0, .slice none 0 0, .int .i64 0, .int .i64 0, .slice none 0 0, .slice none 0 0, .int .i64 0, .slice none 0 0, .slice none 0 0, .slice none 0 0, .slice none 0 0, .int .i64 0, .slice none 0 0, .bool false], false⟩),
  (84, ⟨.struct [(0, 3), (1, 82), (18, 82)], 35, 568, [.int .i64 0, .int .i64 0, .int .i64 0, .int .i64 0, .slice none 0 0, .slice none 0 0, .int .i64 0, .int .i64 0, .slice none 0 0, .slice none 0 0, .int .i64 0, .slice none 0 0, .slice none 0 0, .slice none 0 0, .slice none 0 0, .int .i64 0, .slice none 0 0, .bool false, .int .i64 0, .int .i64 0, .int .i64 0, .slice none 0 0, .slice none 0 0, .int .i64 0, .int .i64 0, .slice none 0 0, .slice none 0 0, .int .i64 0, .slice none 0 0, .slice none 0 0, .slice none 0 0, .slice none 0 0, .int .i64 0, .slice none 0 0, .bool false], false⟩),
  (95, ⟨.arr 8 5, 8, 8, [.int .u8 0, .int .u8 0, .int .u8 0, .int .u8 0, .int .u8 0, .int .u8 0, .int .u8 0, .int .u8 0], false⟩),
  (99, ⟨.slice 5, 1, 24, [.slice none 0 0], false⟩),
  (101, ⟨.struct [(0, 3), (1, 3)], 2, 16, [.int .i64 0, .int .i64 0], false⟩),
  (102, ⟨.struct [(0, 3), (1, 3)], 2, 16, [.int .i64 0, .int .i64 0], true⟩),
  (109, ⟨.struct [(0, 28), (1, 3), (2, 23), (3, 23)], 4, 80, [.slice none 0 0, .int .i64 0, .slice none 0 0, .slice none 0 0], false⟩),
  (110, ⟨.struct [(0, 28), (1, 3), (2, 23), (3, 23)], 4, 80, [.slice none 0 0, .int .i64 0, .slice none 0 0, .slice none 0 0], false⟩),
  (113, ⟨.ptr 23, 1, 8, [.pointer none], false⟩),
  (123, ⟨.struct [(0, 28), (1, 3)], 2, 32, [.slice none 0 0, .int .i64 0], false⟩),
  (124, ⟨.struct [(0, 28), (1, 3)], 2, 32, [.slice none 0 0, .int .i64 0], false⟩),
  (132, ⟨.slice 3, 1, 24, [.slice none 0 0], false⟩),
  (133, ⟨.ptr 110, 1, 8, [.pointer none], false⟩),
  (136, ⟨.ptr 25, 1, 8, [.pointer none], false⟩),
  (138, ⟨.struct [(0, 23), (1, 23)], 2, 48, [.slice none 0 0, .slice none 0 0], false⟩),
  (139, ⟨.struct [(0, 23), (1, 23)], 2, 48, [.slice none 0 0, .slice none 0 0], false⟩),
  (141, ⟨.ptr 124, 1, 8, [.pointer none], false⟩),
  (142, ⟨.ptr 139, 1, 8, [.pointer none], false⟩),
  (157, ⟨.arr 6 3, 6, 48, [.int .i64 0, .int .i64 0, .int .i64 0, .int .i64 0, .int .i64 0, .int .i64 0], false⟩),
  (159, ⟨.struct [(0, 17), (1, 17), (2, 17), (3, 9)], 4, 40, [.pointer none, .pointer none, .pointer none, .string ByteArray.empty], false⟩),
  (160, ⟨.struct [(0, 17), (1, 17), (2, 17), (3, 9)], 4, 40, [.pointer none, .pointer none, .pointer none, .string ByteArray.empty], false⟩),
  (165, ⟨.int .u32, 1, 4, [.int .u32 0], false⟩),
  (166, ⟨.int .u8, 1, 1, [.int .u8 0], false⟩),
  (167, ⟨.int .u8, 1, 1, [.int .u8 0], false⟩),
  (169, ⟨.ptr 5, 1, 8, [.pointer none], false⟩),
  (170, ⟨.int .i32, 1, 4, [.int .i32 0], false⟩),
  (171, ⟨.int .i32, 1, 4, [.int .i32 0], false⟩)]
def tab : Tab := fun t => tabL.lookup t
theorem tab_ok : TabOk Try.prog tab := fun t i h => by
  have hm := lookup_mem _ h
  unfold tabL at hm
  simp only [List.mem_cons, Prod.mk.injEq, List.not_mem_nil, or_false] at hm
  rcases hm with ⟨rfl, rfl⟩ | ⟨rfl, rfl⟩ | ⟨rfl, rfl⟩ | ⟨rfl, rfl⟩ | ⟨rfl, rfl⟩ | ⟨rfl, rfl⟩ | ⟨rfl, rfl⟩ | ⟨rfl, rfl⟩ | ⟨rfl, rfl⟩ | ⟨rfl, rfl⟩ | ⟨rfl, rfl⟩ | ⟨rfl, rfl⟩ | ⟨rfl, rfl⟩ | ⟨rfl, rfl⟩ | ⟨rfl, rfl⟩ | ⟨rfl, rfl⟩ | ⟨rfl, rfl⟩ | ⟨rfl, rfl⟩ | ⟨rfl, rfl⟩ | ⟨rfl, rfl⟩ | ⟨rfl, rfl⟩ | ⟨rfl, rfl⟩ | ⟨rfl, rfl⟩ | ⟨rfl, rfl⟩ | ⟨rfl, rfl⟩ | ⟨rfl, rfl⟩ | ⟨rfl, rfl⟩ | ⟨rfl, rfl⟩ | ⟨rfl, rfl⟩ | ⟨rfl, rfl⟩ | ⟨rfl, rfl⟩ | ⟨rfl, rfl⟩ | ⟨rfl, rfl⟩ | ⟨rfl, rfl⟩ | ⟨rfl, rfl⟩ | ⟨rfl, rfl⟩ | ⟨rfl, rfl⟩ | ⟨rfl, rfl⟩ | ⟨rfl, rfl⟩ | ⟨rfl, rfl⟩ | ⟨rfl, rfl⟩ | ⟨rfl, rfl⟩ | ⟨rfl, rfl⟩ | ⟨rfl, rfl⟩ | ⟨rfl, rfl⟩ | ⟨rfl, rfl⟩ | ⟨rfl, rfl⟩ | ⟨rfl, rfl⟩ | ⟨rfl, rfl⟩ | ⟨rfl, rfl⟩ | ⟨rfl, rfl⟩ | ⟨rfl, rfl⟩ | ⟨rfl, rfl⟩ | ⟨rfl, rfl⟩ | ⟨rfl, rfl⟩ | ⟨rfl, rfl⟩ | ⟨rfl, rfl⟩ | ⟨rfl, rfl⟩ | ⟨rfl, rfl⟩ | ⟨rfl, rfl⟩ | ⟨rfl, rfl⟩ | ⟨rfl, rfl⟩ | ⟨rfl, rfl⟩ | ⟨rfl, rfl⟩ | ⟨rfl, rfl⟩ | ⟨rfl, rfl⟩ | ⟨rfl, rfl⟩ | ⟨rfl, rfl⟩ | ⟨rfl, rfl⟩ | ⟨rfl, rfl⟩
  · exact ty2
  · exact ty3
  · exact ty4
  · exact ty5
  · exact ty6
  · exact ty7
  · exact ty8
  · exact ty9
  · exact ty10
  · exact ty11
  · exact ty12
  · exact ty13
  · exact ty14
  · exact ty15
  · exact ty16
  · exact ty17
  · exact ty18
  · exact ty19
  · exact ty21
  · exact ty22
  · exact ty23
  · exact ty24
  · exact ty25
  · exact ty26
  · exact ty27
  · exact ty28
  · exact ty29
  · exact ty30
  · exact ty46
  · exact ty49
  · exact ty52
  · exact ty56
  · exact ty57
  · exact ty58
  · exact ty62
  · exact ty68
  · exact ty69
  · exact ty70
  · exact ty71
  · exact ty78
  · exact ty79
  · exact ty81
  · exact ty82
  · exact ty83
  · exact ty84
  · exact ty95
  · exact ty99
  · exact ty101
  · exact ty102
  · exact ty109
  · exact ty110
  · exact ty113
  · exact ty123
  · exact ty124
  · exact ty132
  · exact ty133
  · exact ty136
  · exact ty138
  · exact ty139
  · exact ty141
  · exact ty142
  · exact ty157
  · exact ty159
  · exact ty160
  · exact ty165
  · exact ty166
  · exact ty167
  · exact ty169
  · exact ty170
  · exact ty171
theorem tab2 : tab 2 = some ⟨.int .i64, 1, 8, [.int .i64 0], false⟩ := rfl
theorem tab3 : tab 3 = some ⟨.int .i64, 1, 8, [.int .i64 0], false⟩ := rfl
theorem tab4 : tab 4 = some ⟨.bool, 1, 1, [.bool false], false⟩ := rfl
theorem tab5 : tab 5 = some ⟨.int .u8, 1, 1, [.int .u8 0], false⟩ := rfl
theorem tab6 : tab 6 = some ⟨.int .u8, 1, 1, [.int .u8 0], false⟩ := rfl
theorem tab7 : tab 7 = some ⟨.struct [(0, 2), (1, 3), (2, 4), (3, 6)], 4, 24, [.int .i64 0, .int .i64 0, .bool false, .int .u8 0], false⟩ := rfl
theorem tab8 : tab 8 = some ⟨.struct [(0, 2), (1, 3), (2, 4), (3, 6)], 4, 24, [.int .i64 0, .int .i64 0, .bool false, .int .u8 0], false⟩ := rfl
theorem tab9 : tab 9 = some ⟨.str, 1, 16, [.string ByteArray.empty], false⟩ := rfl
theorem tab10 : tab 10 = some ⟨.str, 1, 16, [.string ByteArray.empty], false⟩ := rfl
theorem tab11 : tab 11 = some ⟨.str, 1, 16, [.string ByteArray.empty], false⟩ := rfl
theorem tab12 : tab 12 = some ⟨.int .u64, 1, 8, [.int .u64 0], false⟩ := rfl
theorem tab13 : tab 13 = some ⟨.struct [(0, 9), (1, 12)], 2, 24, [.string ByteArray.empty, .int .u64 0], false⟩ := rfl
theorem tab14 : tab 14 = some ⟨.struct [(0, 9), (1, 12)], 2, 24, [.string ByteArray.empty, .int .u64 0], false⟩ := rfl
theorem tab15 : tab 15 = some ⟨.ptr 160, 1, 8, [.pointer none], false⟩ := rfl
theorem tab16 : tab 16 = some ⟨.ptr 163, 1, 8, [.pointer none], false⟩ := rfl
theorem tab17 : tab 17 = some ⟨.ptr 173, 1, 8, [.pointer none], false⟩ := rfl
theorem tab18 : tab 18 = some ⟨.struct [(0, 17)], 1, 8, [.pointer none], false⟩ := rfl
theorem tab19 : tab 19 = some ⟨.struct [(0, 17)], 1, 8, [.pointer none], false⟩ := rfl
theorem tab21 : tab 21 = some ⟨.int .i32, 1, 4, [.int .i32 0], false⟩ := rfl
theorem tab22 : tab 22 = some ⟨.slice 56, 1, 24, [.slice none 0 0], false⟩ := rfl
theorem tab23 : tab 23 = some ⟨.slice 25, 1, 24, [.slice none 0 0], false⟩ := rfl
theorem tab24 : tab 24 = some ⟨.struct [(0, 3), (1, 22), (2, 23)], 3, 56, [.int .i64 0, .slice none 0 0, .slice none 0 0], false⟩ := rfl
theorem tab25 : tab 25 = some ⟨.struct [(0, 3), (1, 22), (2, 23)], 3, 56, [.int .i64 0, .slice none 0 0, .slice none 0 0], false⟩ := rfl
theorem tab26 : tab 26 = some ⟨.slice 58, 1, 24, [.slice none 0 0], false⟩ := rfl
theorem tab27 : tab 27 = some ⟨.slice 71, 1, 24, [.slice none 0 0], false⟩ := rfl
theorem tab28 : tab 28 = some ⟨.slice 69, 1, 24, [.slice none 0 0], false⟩ := rfl
theorem tab29 : tab 29 = some ⟨.struct [(0, 3), (1, 25), (4, 25), (7, 26), (8, 27), (9, 3), (10, 28)], 11, 200, [.int .i64 0, .int .i64 0, .slice none 0 0, .slice none 0 0, .int .i64 0, .slice none 0 0, .slice none 0 0, .slice none 0 0, .slice none 0 0, .int .i64 0, .slice none 0 0], false⟩ := rfl
theorem tab30 : tab 30 = some ⟨.struct [(0, 3), (1, 25), (4, 25), (7, 26), (8, 27), (9, 3), (10, 28)], 11, 200, [.int .i64 0, .int .i64 0, .slice none 0 0, .slice none 0 0, .int .i64 0, .slice none 0 0, .slice none 0 0, .slice none 0 0, .slice none 0 0, .int .i64 0, .slice none 0 0], false⟩ := rfl
theorem tab46 : tab 46 = some ⟨.slice 79, 1, 24, [.slice none 0 0], false⟩ := rfl
theorem tab49 : tab 49 = some ⟨.slice 84, 1, 24, [.slice none 0 0], false⟩ := rfl
theorem tab52 : tab 52 = some ⟨.slice 82, 1, 24, [.slice none 0 0], false⟩ := rfl
theorem tab56 : tab 56 = some ⟨.int .u64, 1, 8, [.int .u64 0], false⟩ := rfl
theorem tab57 : tab 57 = some ⟨.struct [(0, 3), (1, 5), (2, 56), (3, 56)], 4, 32, [.int .i64 0, .int .u8 0, .int .u64 0, .int .u64 0], false⟩ := rfl
theorem tab58 : tab 58 = some ⟨.struct [(0, 3), (1, 5), (2, 56), (3, 56)], 4, 32, [.int .i64 0, .int .u8 0, .int .u64 0, .int .u64 0], true⟩ := rfl
theorem tab62 : tab 62 = some ⟨.slice 102, 1, 24, [.slice none 0 0], false⟩ := rfl
theorem tab68 : tab 68 = some ⟨.struct [(0, 3), (1, 3), (2, 23), (3, 30)], 14, 240, [.int .i64 0, .int .i64 0, .slice none 0 0, .int .i64 0, .int .i64 0, .slice none 0 0, .slice none 0 0, .int .i64 0, .slice none 0 0, .slice none 0 0, .slice none 0 0, .slice none 0 0, .int .i64 0, .slice none 0 0], false⟩ := rfl
theorem tab69 : tab 69 = some ⟨.struct [(0, 3), (1, 3), (2, 23), (3, 30)], 14, 240, [.int .i64 0, .int .i64 0, .slice none 0 0, .int .i64 0, .int .i64 0, .slice none 0 0, .slice none 0 0, .int .i64 0, .slice none 0 0, .slice none 0 0, .slice none 0 0, .slice none 0 0, .int .i64 0, .slice none 0 0], false⟩ := rfl
theorem tab70 : tab 70 = some ⟨.struct [(0, 3), (1, 30)], 12, 208, [.int .i64 0, .int .i64 0, .int .i64 0, .slice none 0 0, .slice none 0 0, .int .i64 0, .slice none 0 0, .slice none 0 0, .slice none 0 0, .slice none 0 0, .int .i64 0, .slice none 0 0], false⟩ := rfl
theorem tab71 : tab 71 = some ⟨.struct [(0, 3), (1, 30)], 12, 208, [.int .i64 0, .int .i64 0, .int .i64 0, .slice none 0 0, .slice none 0 0, .int .i64 0, .slice none 0 0, .slice none 0 0, .slice none 0 0, .slice none 0 0, .int .i64 0, .slice none 0 0], false⟩ := rfl
theorem tab78 : tab 78 = some ⟨.struct [(0, 3), (1, 69), (15, 69)], 29, 488, [.int .i64 0, .int .i64 0, .int .i64 0, .slice none 0 0, .int .i64 0, .int .i64 0, .slice none 0 0, .slice none 0 0, .int .i64 0, .slice none 0 0, .slice none 0 0, .slice none 0 0, .slice none 0 0, .int .i64 0, .slice none 0 0, .int .i64 0, .int .i64 0, .slice none 0 0, .int .i64 0, .int .i64 0, .slice none 0 0, .slice none 0 0, .int .i64 0, .slice none 0 0, .slice none 0 0, .slice none 0 0, .slice none 0 0, .int .i64 0, .slice none 0 0], false⟩ := rfl
theorem tab79 : tab 79 = some ⟨.struct [(0, 3), (1, 69), (15, 69)], 29, 488, [.int .i64 0, .int .i64 0, .int .i64 0, .slice none 0 0, .int .i64 0, .int .i64 0, .slice none 0 0, .slice none 0 0, .int .i64 0, .slice none 0 0, .slice none 0 0, .slice none 0 0, .slice none 0 0, .int .i64 0, .slice none 0 0, .int .i64 0, .int .i64 0, .slice none 0 0, .int .i64 0, .int .i64 0, .slice none 0 0, .slice none 0 0, .int .i64 0, .slice none 0 0, .slice none 0 0, .slice none 0 0, .slice none 0 0, .int .i64 0, .slice none 0 0], false⟩ := rfl
theorem tab81 : tab 81 = some ⟨.struct [(0, 3), (1, 3), (2, 25), (5, 30), (16, 4)], 17, 280, [.int .i64 0, .int .i64 0, .int .i64 0, .slice none 0 0, .slice none 0 0, .int .i64 0, .int .i64 0, .slice none 0 0, .slice none 0 0, .int .i64 0, .slice none 0 0, .slice none 0 0, .slice none 0 0, .slice none 0 0, .int .i64 0, .slice none 0 0, .bool false], false⟩ := rfl
theorem tab82 : tab 82 = some ⟨.struct [(0, 3), (1, 3), (2, 25), (5, 30), (16, 4)], 17, 280, [.int .i64 0, .int .i64 0, .int .i64 0, .slice none 0 0, .slice none 0 0, .int .i64 0, .int .i64 0, .slice none 0 0, .slice none 0 0, .int .i64 0, .slice none 0 0, .slice none 0 0, .slice none 0 0, .slice none 0 0, .int .i64 0, .slice none 0 0, .bool false], false⟩ := rfl
theorem tab83 : tab 83 = some ⟨.struct [(0, 3), (1, 82), (18, 82)], 35, 568, [.int .i64 0, .int .i64 0, .int .i64 0, .int .i64 0, .slice none 0 0, .slice none 0 0, .int .i64 0, .int .i64 0, .slice none 0 0, .slice none 0 0, .int .i64 0, .slice none 0 0, .slice none 0 0, .slice none 0 0, .slice none 0 0, .int .i64 0, .slice none 0 0, .bool false, .int .i64 0, .int .i64 0, .int .i64 0, .slice none 0 0, .slice none 0 0, .int .i64 0, .int .i64 0, .slice none 0 0, .slice none 0 0, .int .i64 0, .slice none 0 0, .slice none 0 0, .slice none 0 0, .slice none 0 0, .int .i64 0, .slice none 0 0, .bool false], false⟩ := rfl
theorem tab84 : tab 84 = some ⟨.struct [(0, 3), (1, 82), (18, 82)], 35, 568, [.int .i64 0, .int .i64 0, .int .i64 0, .int .i64 0, .slice none 0 0, .slice none 0 0, .int .i64 0, .int .i64 0, .slice none 0 0, .slice none 0 0, .int .i64 0, .slice none 0 0, .slice none 0 0, .slice none 0 0, .slice none 0 0, .int .i64 0, .slice none 0 0, .bool false, .int .i64 0, .int .i64 0, .int .i64 0, .slice none 0 0, .slice none 0 0, .int .i64 0, .int .i64 0, .slice none 0 0, .slice none 0 0, .int .i64 0, .slice none 0 0, .slice none 0 0, .slice none 0 0, .slice none 0 0, .int .i64 0, .slice none 0 0, .bool false], false⟩ := rfl
theorem tab95 : tab 95 = some ⟨.arr 8 5, 8, 8, [.int .u8 0, .int .u8 0, .int .u8 0, .int .u8 0, .int .u8 0, .int .u8 0, .int .u8 0, .int .u8 0], false⟩ := rfl
theorem tab99 : tab 99 = some ⟨.slice 5, 1, 24, [.slice none 0 0], false⟩ := rfl
theorem tab101 : tab 101 = some ⟨.struct [(0, 3), (1, 3)], 2, 16, [.int .i64 0, .int .i64 0], false⟩ := rfl
theorem tab102 : tab 102 = some ⟨.struct [(0, 3), (1, 3)], 2, 16, [.int .i64 0, .int .i64 0], true⟩ := rfl
theorem tab109 : tab 109 = some ⟨.struct [(0, 28), (1, 3), (2, 23), (3, 23)], 4, 80, [.slice none 0 0, .int .i64 0, .slice none 0 0, .slice none 0 0], false⟩ := rfl
theorem tab110 : tab 110 = some ⟨.struct [(0, 28), (1, 3), (2, 23), (3, 23)], 4, 80, [.slice none 0 0, .int .i64 0, .slice none 0 0, .slice none 0 0], false⟩ := rfl
theorem tab113 : tab 113 = some ⟨.ptr 23, 1, 8, [.pointer none], false⟩ := rfl
theorem tab123 : tab 123 = some ⟨.struct [(0, 28), (1, 3)], 2, 32, [.slice none 0 0, .int .i64 0], false⟩ := rfl
theorem tab124 : tab 124 = some ⟨.struct [(0, 28), (1, 3)], 2, 32, [.slice none 0 0, .int .i64 0], false⟩ := rfl
theorem tab132 : tab 132 = some ⟨.slice 3, 1, 24, [.slice none 0 0], false⟩ := rfl
theorem tab133 : tab 133 = some ⟨.ptr 110, 1, 8, [.pointer none], false⟩ := rfl
theorem tab136 : tab 136 = some ⟨.ptr 25, 1, 8, [.pointer none], false⟩ := rfl
theorem tab138 : tab 138 = some ⟨.struct [(0, 23), (1, 23)], 2, 48, [.slice none 0 0, .slice none 0 0], false⟩ := rfl
theorem tab139 : tab 139 = some ⟨.struct [(0, 23), (1, 23)], 2, 48, [.slice none 0 0, .slice none 0 0], false⟩ := rfl
theorem tab141 : tab 141 = some ⟨.ptr 124, 1, 8, [.pointer none], false⟩ := rfl
theorem tab142 : tab 142 = some ⟨.ptr 139, 1, 8, [.pointer none], false⟩ := rfl
theorem tab157 : tab 157 = some ⟨.arr 6 3, 6, 48, [.int .i64 0, .int .i64 0, .int .i64 0, .int .i64 0, .int .i64 0, .int .i64 0], false⟩ := rfl
theorem tab159 : tab 159 = some ⟨.struct [(0, 17), (1, 17), (2, 17), (3, 9)], 4, 40, [.pointer none, .pointer none, .pointer none, .string ByteArray.empty], false⟩ := rfl
theorem tab160 : tab 160 = some ⟨.struct [(0, 17), (1, 17), (2, 17), (3, 9)], 4, 40, [.pointer none, .pointer none, .pointer none, .string ByteArray.empty], false⟩ := rfl
theorem tab165 : tab 165 = some ⟨.int .u32, 1, 4, [.int .u32 0], false⟩ := rfl
theorem tab166 : tab 166 = some ⟨.int .u8, 1, 1, [.int .u8 0], false⟩ := rfl
theorem tab167 : tab 167 = some ⟨.int .u8, 1, 1, [.int .u8 0], false⟩ := rfl
theorem tab169 : tab 169 = some ⟨.ptr 5, 1, 8, [.pointer none], false⟩ := rfl
theorem tab170 : tab 170 = some ⟨.int .i32, 1, 4, [.int .i32 0], false⟩ := rfl
theorem tab171 : tab 171 = some ⟨.int .i32, 1, 4, [.int .i32 0], false⟩ := rfl
theorem tkind2 : tkind tab 2 = some (.int .i64) := rfl
theorem tkind3 : tkind tab 3 = some (.int .i64) := rfl
theorem tkind4 : tkind tab 4 = some (.bool) := rfl
theorem tkind5 : tkind tab 5 = some (.int .u8) := rfl
theorem tkind6 : tkind tab 6 = some (.int .u8) := rfl
theorem tkind7 : tkind tab 7 = some (.struct [(0, 2), (1, 3), (2, 4), (3, 6)]) := rfl
theorem tkind8 : tkind tab 8 = some (.struct [(0, 2), (1, 3), (2, 4), (3, 6)]) := rfl
theorem tkind9 : tkind tab 9 = some (.str) := rfl
theorem tkind10 : tkind tab 10 = some (.str) := rfl
theorem tkind11 : tkind tab 11 = some (.str) := rfl
theorem tkind12 : tkind tab 12 = some (.int .u64) := rfl
theorem tkind13 : tkind tab 13 = some (.struct [(0, 9), (1, 12)]) := rfl
theorem tkind14 : tkind tab 14 = some (.struct [(0, 9), (1, 12)]) := rfl
theorem tkind15 : tkind tab 15 = some (.ptr 160) := rfl
theorem tkind16 : tkind tab 16 = some (.ptr 163) := rfl
theorem tkind17 : tkind tab 17 = some (.ptr 173) := rfl
theorem tkind18 : tkind tab 18 = some (.struct [(0, 17)]) := rfl
theorem tkind19 : tkind tab 19 = some (.struct [(0, 17)]) := rfl
theorem tkind21 : tkind tab 21 = some (.int .i32) := rfl
theorem tkind22 : tkind tab 22 = some (.slice 56) := rfl
theorem tkind23 : tkind tab 23 = some (.slice 25) := rfl
theorem tkind24 : tkind tab 24 = some (.struct [(0, 3), (1, 22), (2, 23)]) := rfl
theorem tkind25 : tkind tab 25 = some (.struct [(0, 3), (1, 22), (2, 23)]) := rfl
theorem tkind26 : tkind tab 26 = some (.slice 58) := rfl
theorem tkind27 : tkind tab 27 = some (.slice 71) := rfl
theorem tkind28 : tkind tab 28 = some (.slice 69) := rfl
theorem tkind29 : tkind tab 29 = some (.struct [(0, 3), (1, 25), (4, 25), (7, 26), (8, 27), (9, 3), (10, 28)]) := rfl
theorem tkind30 : tkind tab 30 = some (.struct [(0, 3), (1, 25), (4, 25), (7, 26), (8, 27), (9, 3), (10, 28)]) := rfl
theorem tkind46 : tkind tab 46 = some (.slice 79) := rfl
theorem tkind49 : tkind tab 49 = some (.slice 84) := rfl
theorem tkind52 : tkind tab 52 = some (.slice 82) := rfl
theorem tkind56 : tkind tab 56 = some (.int .u64) := rfl
theorem tkind57 : tkind tab 57 = some (.struct [(0, 3), (1, 5), (2, 56), (3, 56)]) := rfl
theorem tkind58 : tkind tab 58 = some (.struct [(0, 3), (1, 5), (2, 56), (3, 56)]) := rfl
theorem tkind62 : tkind tab 62 = some (.slice 102) := rfl
theorem tkind68 : tkind tab 68 = some (.struct [(0, 3), (1, 3), (2, 23), (3, 30)]) := rfl
theorem tkind69 : tkind tab 69 = some (.struct [(0, 3), (1, 3), (2, 23), (3, 30)]) := rfl
theorem tkind70 : tkind tab 70 = some (.struct [(0, 3), (1, 30)]) := rfl
theorem tkind71 : tkind tab 71 = some (.struct [(0, 3), (1, 30)]) := rfl
theorem tkind78 : tkind tab 78 = some (.struct [(0, 3), (1, 69), (15, 69)]) := rfl
theorem tkind79 : tkind tab 79 = some (.struct [(0, 3), (1, 69), (15, 69)]) := rfl
theorem tkind81 : tkind tab 81 = some (.struct [(0, 3), (1, 3), (2, 25), (5, 30), (16, 4)]) := rfl
theorem tkind82 : tkind tab 82 = some (.struct [(0, 3), (1, 3), (2, 25), (5, 30), (16, 4)]) := rfl
theorem tkind83 : tkind tab 83 = some (.struct [(0, 3), (1, 82), (18, 82)]) := rfl
theorem tkind84 : tkind tab 84 = some (.struct [(0, 3), (1, 82), (18, 82)]) := rfl
theorem tkind95 : tkind tab 95 = some (.arr 8 5) := rfl
theorem tkind99 : tkind tab 99 = some (.slice 5) := rfl
theorem tkind101 : tkind tab 101 = some (.struct [(0, 3), (1, 3)]) := rfl
theorem tkind102 : tkind tab 102 = some (.struct [(0, 3), (1, 3)]) := rfl
theorem tkind109 : tkind tab 109 = some (.struct [(0, 28), (1, 3), (2, 23), (3, 23)]) := rfl
theorem tkind110 : tkind tab 110 = some (.struct [(0, 28), (1, 3), (2, 23), (3, 23)]) := rfl
theorem tkind113 : tkind tab 113 = some (.ptr 23) := rfl
theorem tkind123 : tkind tab 123 = some (.struct [(0, 28), (1, 3)]) := rfl
theorem tkind124 : tkind tab 124 = some (.struct [(0, 28), (1, 3)]) := rfl
theorem tkind132 : tkind tab 132 = some (.slice 3) := rfl
theorem tkind133 : tkind tab 133 = some (.ptr 110) := rfl
theorem tkind136 : tkind tab 136 = some (.ptr 25) := rfl
theorem tkind138 : tkind tab 138 = some (.struct [(0, 23), (1, 23)]) := rfl
theorem tkind139 : tkind tab 139 = some (.struct [(0, 23), (1, 23)]) := rfl
theorem tkind141 : tkind tab 141 = some (.ptr 124) := rfl
theorem tkind142 : tkind tab 142 = some (.ptr 139) := rfl
theorem tkind157 : tkind tab 157 = some (.arr 6 3) := rfl
theorem tkind159 : tkind tab 159 = some (.struct [(0, 17), (1, 17), (2, 17), (3, 9)]) := rfl
theorem tkind160 : tkind tab 160 = some (.struct [(0, 17), (1, 17), (2, 17), (3, 9)]) := rfl
theorem tkind165 : tkind tab 165 = some (.int .u32) := rfl
theorem tkind166 : tkind tab 166 = some (.int .u8) := rfl
theorem tkind167 : tkind tab 167 = some (.int .u8) := rfl
theorem tkind169 : tkind tab 169 = some (.ptr 5) := rfl
theorem tkind170 : tkind tab 170 = some (.int .i32) := rfl
theorem tkind171 : tkind tab 171 = some (.int .i32) := rfl
end Go.Proofs.Ytbcgiaijjaocdaa
