/- The types of this seat's program, as its dump has them, in the ghost memory's words; no condition. -/
import Derived.Test.YtmpkfolcikhofaaRows
import Derived.Test.YtmpkfolcikhofaaG16
namespace Go.Proofs.Ytmpkfolcikhofaa
open Go.RowKit
set_option linter.unusedVariables false
set_option linter.unusedSimpArgs false
theorem TyOk.of {P : Program} {t : TypeId} (k : TK) (size bytes : Nat) (zero : List Value) (z : Value) (h : (P.info? t).map (fun i => (i.zero, i.size, i.bytes)) = some (some z, size, bytes)) (hz : z.cells.toList = zero) (hu : k.ok P t) (hl : zero.length = size) (h1 : zero.all Value.oneCell' = true) (eq : Bool) (he : eq = true → Zwe P t) : TyOk P t ⟨k, size, bytes, zero, eq⟩ := by
 refine ⟨?_, hu, hl, fun v hv => List.all_eq_true.1 h1 v hv, he⟩
 cases hi : P.info? t with
 | none => rw [hi] at h; cases h
 | some i =>
  rw [hi] at h
  simp only [Option.map_some, Option.some.injEq, Prod.mk.injEq] at h
  exact ⟨i, z, rfl, h.2.1, h.2.2, h.1, hz⟩
theorem Zpk {α : Type} {t : Nat} {i : α} : ∀ (l : List (Nat × α)), l.lookup t = some i → (t, i) ∈ l
 | [], h => by simp at h
 | (a, b) :: l, h => by
  rw [List.lookup_cons] at h
  split at h
  ·rename_i he
   injection h with h
   have : t = a := by simpa using he
   subst h this
   exact .head _
  exact .tail _ (Zpk l h)
theorem ty2 : TyOk Try.prog 2 ⟨.int .i64, 1, 8, [.int .i64 0], false⟩ := TyOk.of (P := Try.prog) (t := 2) (.int .i64) 1 8 [.int .i64 0] (.int .i64 0) (by kernel_rfl) rfl Try.underlying2 rfl rfl false (fun h => by cases h)
theorem ty3 : TyOk Try.prog 3 ⟨.int .i64, 1, 8, [.int .i64 0], false⟩ := TyOk.of (P := Try.prog) (t := 3) (.int .i64) 1 8 [.int .i64 0] (.int .i64 0) (by kernel_rfl) rfl Try.underlying3 rfl rfl false (fun h => by cases h)
theorem ty4 : TyOk Try.prog 4 ⟨.bool, 1, 1, [.bool false], false⟩ := TyOk.of (P := Try.prog) (t := 4) (.bool) 1 1 [.bool false] (.bool false) (by kernel_rfl) rfl Try.underlying4 rfl rfl false (fun h => by cases h)
theorem ty5 : TyOk Try.prog 5 ⟨.int .u8, 1, 1, [.int .u8 0], false⟩ := TyOk.of (P := Try.prog) (t := 5) (.int .u8) 1 1 [.int .u8 0] (.int .u8 0) (by kernel_rfl) rfl Try.underlying5 rfl rfl false (fun h => by cases h)
theorem ty6 : TyOk Try.prog 6 ⟨.int .u8, 1, 1, [.int .u8 0], false⟩ := TyOk.of (P := Try.prog) (t := 6) (.int .u8) 1 1 [.int .u8 0] (.int .u8 0) (by kernel_rfl) rfl Try.underlying6 rfl rfl false (fun h => by cases h)
theorem ty7 : TyOk Try.prog 7 ⟨.struct [(0, 2), (1, 3), (2, 4), (3, 6)], 4, 24, [.int .i64 0, .int .i64 0, .bool false, .int .u8 0], false⟩ := TyOk.of (P := Try.prog) (t := 7) (.struct [(0, 2), (1, 3), (2, 4), (3, 6)]) 4 24 [.int .i64 0, .int .i64 0, .bool false, .int .u8 0] (.agg #[.int .i64 0, .int .i64 0, .bool false, .int .u8 0]) (by kernel_rfl) rfl ⟨_, Try.underlying7, rfl⟩ rfl rfl false (fun h => by cases h)
theorem ty8 : TyOk Try.prog 8 ⟨.struct [(0, 2), (1, 3), (2, 4), (3, 6)], 4, 24, [.int .i64 0, .int .i64 0, .bool false, .int .u8 0], false⟩ := TyOk.of (P := Try.prog) (t := 8) (.struct [(0, 2), (1, 3), (2, 4), (3, 6)]) 4 24 [.int .i64 0, .int .i64 0, .bool false, .int .u8 0] (.agg #[.int .i64 0, .int .i64 0, .bool false, .int .u8 0]) (by kernel_rfl) rfl ⟨_, Try.underlying8, rfl⟩ rfl rfl false (fun h => by cases h)
theorem ty9 : TyOk Try.prog 9 ⟨.str, 1, 16, [.string ByteArray.empty], false⟩ := TyOk.of (P := Try.prog) (t := 9) (.str) 1 16 [.string ByteArray.empty] (.string ByteArray.empty) (by kernel_rfl) rfl Try.underlying9 rfl rfl false (fun h => by cases h)
theorem Z4q : TyOk Try.prog 10 ⟨.str, 1, 16, [.string ByteArray.empty], false⟩ := TyOk.of (P := Try.prog) (t := 10) (.str) 1 16 [.string ByteArray.empty] (.string ByteArray.empty) (by kernel_rfl) rfl Try.underlying10 rfl rfl false (fun h => by cases h)
theorem Z4r : TyOk Try.prog 11 ⟨.str, 1, 16, [.string ByteArray.empty], false⟩ := TyOk.of (P := Try.prog) (t := 11) (.str) 1 16 [.string ByteArray.empty] (.string ByteArray.empty) (by kernel_rfl) rfl Try.underlying11 rfl rfl false (fun h => by cases h)
theorem Z4s : TyOk Try.prog 12 ⟨.int .u64, 1, 8, [.int .u64 0], false⟩ := TyOk.of (P := Try.prog) (t := 12) (.int .u64) 1 8 [.int .u64 0] (.int .u64 0) (by kernel_rfl) rfl Try.underlying12 rfl rfl false (fun h => by cases h)
theorem Z4t : TyOk Try.prog 13 ⟨.struct [(0, 9), (1, 12)], 2, 24, [.string ByteArray.empty, .int .u64 0], false⟩ := TyOk.of (P := Try.prog) (t := 13) (.struct [(0, 9), (1, 12)]) 2 24 [.string ByteArray.empty, .int .u64 0] (.agg #[.string ByteArray.empty, .int .u64 0]) (by kernel_rfl) rfl ⟨_, Try.underlying13, rfl⟩ rfl rfl false (fun h => by cases h)
theorem Z4u : TyOk Try.prog 14 ⟨.struct [(0, 9), (1, 12)], 2, 24, [.string ByteArray.empty, .int .u64 0], false⟩ := TyOk.of (P := Try.prog) (t := 14) (.struct [(0, 9), (1, 12)]) 2 24 [.string ByteArray.empty, .int .u64 0] (.agg #[.string ByteArray.empty, .int .u64 0]) (by kernel_rfl) rfl ⟨_, Try.underlying14, rfl⟩ rfl rfl false (fun h => by cases h)
theorem Z4v : TyOk Try.prog 15 ⟨.ptr 171, 1, 8, [.pointer none], false⟩ := TyOk.of (P := Try.prog) (t := 15) (.ptr 171) 1 8 [.pointer none] (.pointer none) (by kernel_rfl) rfl Try.underlying15 rfl rfl false (fun h => by cases h)
theorem Z4w : TyOk Try.prog 16 ⟨.ptr 174, 1, 8, [.pointer none], false⟩ := TyOk.of (P := Try.prog) (t := 16) (.ptr 174) 1 8 [.pointer none] (.pointer none) (by kernel_rfl) rfl Try.underlying16 rfl rfl false (fun h => by cases h)
theorem Z4x : TyOk Try.prog 17 ⟨.ptr 182, 1, 8, [.pointer none], false⟩ := TyOk.of (P := Try.prog) (t := 17) (.ptr 182) 1 8 [.pointer none] (.pointer none) (by kernel_rfl) rfl Try.underlying17 rfl rfl false (fun h => by cases h)
theorem Z4y : TyOk Try.prog 18 ⟨.struct [(0, 17)], 1, 8, [.pointer none], false⟩ := TyOk.of (P := Try.prog) (t := 18) (.struct [(0, 17)]) 1 8 [.pointer none] (.agg #[.pointer none]) (by kernel_rfl) rfl ⟨_, Try.underlying18, rfl⟩ rfl rfl false (fun h => by cases h)
theorem Z4z : TyOk Try.prog 19 ⟨.struct [(0, 17)], 1, 8, [.pointer none], false⟩ := TyOk.of (P := Try.prog) (t := 19) (.struct [(0, 17)]) 1 8 [.pointer none] (.agg #[.pointer none]) (by kernel_rfl) rfl ⟨_, Try.underlying19, rfl⟩ rfl rfl false (fun h => by cases h)
theorem Z40 : TyOk Try.prog 21 ⟨.int .i32, 1, 4, [.int .i32 0], false⟩ := TyOk.of (P := Try.prog) (t := 21) (.int .i32) 1 4 [.int .i32 0] (.int .i32 0) (by kernel_rfl) rfl Try.underlying21 rfl rfl false (fun h => by cases h)
theorem Z41 : TyOk Try.prog 22 ⟨.slice 71, 1, 24, [.slice none 0 0], false⟩ := TyOk.of (P := Try.prog) (t := 22) (.slice 71) 1 24 [.slice none 0 0] (.slice none 0 0) (by kernel_rfl) rfl Try.underlying22 rfl rfl false (fun h => by cases h)
theorem Z42 : TyOk Try.prog 23 ⟨.slice 25, 1, 24, [.slice none 0 0], false⟩ := TyOk.of (P := Try.prog) (t := 23) (.slice 25) 1 24 [.slice none 0 0] (.slice none 0 0) (by kernel_rfl) rfl Try.underlying23 rfl rfl false (fun h => by cases h)
theorem Z43 : TyOk Try.prog 24 ⟨.struct [(0, 3), (1, 22), (2, 23)], 3, 56, [.int .i64 0, .slice none 0 0, .slice none 0 0], false⟩ := TyOk.of (P := Try.prog) (t := 24) (.struct [(0, 3), (1, 22), (2, 23)]) 3 56 [.int .i64 0, .slice none 0 0, .slice none 0 0] (.agg #[.int .i64 0, .slice none 0 0, .slice none 0 0]) (by kernel_rfl) rfl ⟨_, Try.underlying24, rfl⟩ rfl rfl false (fun h => by cases h)
theorem Z44 : TyOk Try.prog 25 ⟨.struct [(0, 3), (1, 22), (2, 23)], 3, 56, [.int .i64 0, .slice none 0 0, .slice none 0 0], false⟩ := TyOk.of (P := Try.prog) (t := 25) (.struct [(0, 3), (1, 22), (2, 23)]) 3 56 [.int .i64 0, .slice none 0 0, .slice none 0 0] (.agg #[.int .i64 0, .slice none 0 0, .slice none 0 0]) (by kernel_rfl) rfl ⟨_, Try.underlying25, rfl⟩ rfl rfl false (fun h => by cases h)
theorem Z45 : TyOk Try.prog 33 ⟨.slice 43, 1, 24, [.slice none 0 0], false⟩ := TyOk.of (P := Try.prog) (t := 33) (.slice 43) 1 24 [.slice none 0 0] (.slice none 0 0) (by kernel_rfl) rfl Try.underlying33 rfl rfl false (fun h => by cases h)
theorem Z46 : TyOk Try.prog 35 ⟨.slice 77, 1, 24, [.slice none 0 0], false⟩ := TyOk.of (P := Try.prog) (t := 35) (.slice 77) 1 24 [.slice none 0 0] (.slice none 0 0) (by kernel_rfl) rfl Try.underlying35 rfl rfl false (fun h => by cases h)
theorem Z47 : TyOk Try.prog 40 ⟨.arr 3 3, 3, 24, [.int .i64 0, .int .i64 0, .int .i64 0], false⟩ := TyOk.of (P := Try.prog) (t := 40) (.arr 3 3) 3 24 [.int .i64 0, .int .i64 0, .int .i64 0] (.agg #[.int .i64 0, .int .i64 0, .int .i64 0]) (by kernel_rfl) rfl Try.underlying40 rfl rfl false (fun h => by cases h)
theorem Z48 : TyOk Try.prog 42 ⟨.struct [(0, 3), (1, 3)], 2, 16, [.int .i64 0, .int .i64 0], false⟩ := TyOk.of (P := Try.prog) (t := 42) (.struct [(0, 3), (1, 3)]) 2 16 [.int .i64 0, .int .i64 0] (.agg #[.int .i64 0, .int .i64 0]) (by kernel_rfl) rfl ⟨_, Try.underlying42, rfl⟩ rfl rfl false (fun h => by cases h)
theorem Z49 : TyOk Try.prog 43 ⟨.struct [(0, 3), (1, 3)], 2, 16, [.int .i64 0, .int .i64 0], true⟩ := TyOk.of (P := Try.prog) (t := 43) (.struct [(0, 3), (1, 3)]) 2 16 [.int .i64 0, .int .i64 0] (.agg #[.int .i64 0, .int .i64 0]) (by kernel_rfl) rfl ⟨_, Try.underlying43, rfl⟩ rfl rfl true (fun _ => by unfold Zwe; exact ⟨by kernel_rfl, by kernel_rfl, by kernel_rfl⟩)
theorem Z5a : TyOk Try.prog 50 ⟨.slice 91, 1, 24, [.slice none 0 0], false⟩ := TyOk.of (P := Try.prog) (t := 50) (.slice 91) 1 24 [.slice none 0 0] (.slice none 0 0) (by kernel_rfl) rfl Try.underlying50 rfl rfl false (fun h => by cases h)
theorem Z5b : TyOk Try.prog 51 ⟨.slice 62, 1, 24, [.slice none 0 0], false⟩ := TyOk.of (P := Try.prog) (t := 51) (.slice 62) 1 24 [.slice none 0 0] (.slice none 0 0) (by kernel_rfl) rfl Try.underlying51 rfl rfl false (fun h => by cases h)
theorem Z5c : TyOk Try.prog 52 ⟨.slice 64, 1, 24, [.slice none 0 0], false⟩ := TyOk.of (P := Try.prog) (t := 52) (.slice 64) 1 24 [.slice none 0 0] (.slice none 0 0) (by kernel_rfl) rfl Try.underlying52 rfl rfl false (fun h => by cases h)
theorem Z5d : TyOk Try.prog 53 ⟨.struct [(0, 3), (1, 25), (4, 25), (7, 50), (8, 51), (9, 3), (10, 52)], 11, 200, [.int .i64 0, .int .i64 0, .slice none 0 0, .slice none 0 0, .int .i64 0, .slice none 0 0, .slice none 0 0, .slice none 0 0, .slice none 0 0, .int .i64 0, .slice none 0 0], false⟩ := TyOk.of (P := Try.prog) (t := 53) (.struct [(0, 3), (1, 25), (4, 25), (7, 50), (8, 51), (9, 3), (10, 52)]) 11 200 [.int .i64 0, .int .i64 0, .slice none 0 0, .slice none 0 0, .int .i64 0, .slice none 0 0, .slice none 0 0, .slice none 0 0, .slice none 0 0, .int .i64 0, .slice none 0 0] (.agg #[.int .i64 0, .int .i64 0, .slice none 0 0, .slice none 0 0, .int .i64 0, .slice none 0 0, .slice none 0 0, .slice none 0 0, .slice none 0 0, .int .i64 0, .slice none 0 0]) (by kernel_rfl) rfl ⟨_, Try.underlying53, rfl⟩ rfl rfl false (fun h => by cases h)
theorem Z5e : TyOk Try.prog 54 ⟨.struct [(0, 3), (1, 25), (4, 25), (7, 50), (8, 51), (9, 3), (10, 52)], 11, 200, [.int .i64 0, .int .i64 0, .slice none 0 0, .slice none 0 0, .int .i64 0, .slice none 0 0, .slice none 0 0, .slice none 0 0, .slice none 0 0, .int .i64 0, .slice none 0 0], false⟩ := TyOk.of (P := Try.prog) (t := 54) (.struct [(0, 3), (1, 25), (4, 25), (7, 50), (8, 51), (9, 3), (10, 52)]) 11 200 [.int .i64 0, .int .i64 0, .slice none 0 0, .slice none 0 0, .int .i64 0, .slice none 0 0, .slice none 0 0, .slice none 0 0, .slice none 0 0, .int .i64 0, .slice none 0 0] (.agg #[.int .i64 0, .int .i64 0, .slice none 0 0, .slice none 0 0, .int .i64 0, .slice none 0 0, .slice none 0 0, .slice none 0 0, .slice none 0 0, .int .i64 0, .slice none 0 0]) (by kernel_rfl) rfl ⟨_, Try.underlying54, rfl⟩ rfl rfl false (fun h => by cases h)
theorem Z5f : TyOk Try.prog 61 ⟨.struct [(0, 3), (1, 54)], 12, 208, [.int .i64 0, .int .i64 0, .int .i64 0, .slice none 0 0, .slice none 0 0, .int .i64 0, .slice none 0 0, .slice none 0 0, .slice none 0 0, .slice none 0 0, .int .i64 0, .slice none 0 0], false⟩ := TyOk.of (P := Try.prog) (t := 61) (.struct [(0, 3), (1, 54)]) 12 208 [.int .i64 0, .int .i64 0, .int .i64 0, .slice none 0 0, .slice none 0 0, .int .i64 0, .slice none 0 0, .slice none 0 0, .slice none 0 0, .slice none 0 0, .int .i64 0, .slice none 0 0] (.agg #[.int .i64 0, .int .i64 0, .int .i64 0, .slice none 0 0, .slice none 0 0, .int .i64 0, .slice none 0 0, .slice none 0 0, .slice none 0 0, .slice none 0 0, .int .i64 0, .slice none 0 0]) (by kernel_rfl) rfl ⟨_, Try.underlying61, rfl⟩ rfl rfl false (fun h => by cases h)
theorem Z5g : TyOk Try.prog 62 ⟨.struct [(0, 3), (1, 54)], 12, 208, [.int .i64 0, .int .i64 0, .int .i64 0, .slice none 0 0, .slice none 0 0, .int .i64 0, .slice none 0 0, .slice none 0 0, .slice none 0 0, .slice none 0 0, .int .i64 0, .slice none 0 0], false⟩ := TyOk.of (P := Try.prog) (t := 62) (.struct [(0, 3), (1, 54)]) 12 208 [.int .i64 0, .int .i64 0, .int .i64 0, .slice none 0 0, .slice none 0 0, .int .i64 0, .slice none 0 0, .slice none 0 0, .slice none 0 0, .slice none 0 0, .int .i64 0, .slice none 0 0] (.agg #[.int .i64 0, .int .i64 0, .int .i64 0, .slice none 0 0, .slice none 0 0, .int .i64 0, .slice none 0 0, .slice none 0 0, .slice none 0 0, .slice none 0 0, .int .i64 0, .slice none 0 0]) (by kernel_rfl) rfl ⟨_, Try.underlying62, rfl⟩ rfl rfl false (fun h => by cases h)
theorem Z5h : TyOk Try.prog 63 ⟨.struct [(0, 3), (1, 3), (2, 23), (3, 54)], 14, 240, [.int .i64 0, .int .i64 0, .slice none 0 0, .int .i64 0, .int .i64 0, .slice none 0 0, .slice none 0 0, .int .i64 0, .slice none 0 0, .slice none 0 0, .slice none 0 0, .slice none 0 0, .int .i64 0, .slice none 0 0], false⟩ := TyOk.of (P := Try.prog) (t := 63) (.struct [(0, 3), (1, 3), (2, 23), (3, 54)]) 14 240 [.int .i64 0, .int .i64 0, .slice none 0 0, .int .i64 0, .int .i64 0, .slice none 0 0, .slice none 0 0, .int .i64 0, .slice none 0 0, .slice none 0 0, .slice none 0 0, .slice none 0 0, .int .i64 0, .slice none 0 0] (.agg #[.int .i64 0, .int .i64 0, .slice none 0 0, .int .i64 0, .int .i64 0, .slice none 0 0, .slice none 0 0, .int .i64 0, .slice none 0 0, .slice none 0 0, .slice none 0 0, .slice none 0 0, .int .i64 0, .slice none 0 0]) (by kernel_rfl) rfl ⟨_, Try.underlying63, rfl⟩ rfl rfl false (fun h => by cases h)
theorem Z5i : TyOk Try.prog 64 ⟨.struct [(0, 3), (1, 3), (2, 23), (3, 54)], 14, 240, [.int .i64 0, .int .i64 0, .slice none 0 0, .int .i64 0, .int .i64 0, .slice none 0 0, .slice none 0 0, .int .i64 0, .slice none 0 0, .slice none 0 0, .slice none 0 0, .slice none 0 0, .int .i64 0, .slice none 0 0], false⟩ := TyOk.of (P := Try.prog) (t := 64) (.struct [(0, 3), (1, 3), (2, 23), (3, 54)]) 14 240 [.int .i64 0, .int .i64 0, .slice none 0 0, .int .i64 0, .int .i64 0, .slice none 0 0, .slice none 0 0, .int .i64 0, .slice none 0 0, .slice none 0 0, .slice none 0 0, .slice none 0 0, .int .i64 0, .slice none 0 0] (.agg #[.int .i64 0, .int .i64 0, .slice none 0 0, .int .i64 0, .int .i64 0, .slice none 0 0, .slice none 0 0, .int .i64 0, .slice none 0 0, .slice none 0 0, .slice none 0 0, .slice none 0 0, .int .i64 0, .slice none 0 0]) (by kernel_rfl) rfl ⟨_, Try.underlying64, rfl⟩ rfl rfl false (fun h => by cases h)
theorem Z5j : TyOk Try.prog 71 ⟨.int .u64, 1, 8, [.int .u64 0], false⟩ := TyOk.of (P := Try.prog) (t := 71) (.int .u64) 1 8 [.int .u64 0] (.int .u64 0) (by kernel_rfl) rfl Try.underlying71 rfl rfl false (fun h => by cases h)
theorem Z5k : TyOk Try.prog 77 ⟨.struct [(0, 3), (1, 3)], 2, 16, [.int .i64 0, .int .i64 0], true⟩ := TyOk.of (P := Try.prog) (t := 77) (.struct [(0, 3), (1, 3)]) 2 16 [.int .i64 0, .int .i64 0] (.agg #[.int .i64 0, .int .i64 0]) (by kernel_rfl) rfl ⟨_, Try.underlying77, rfl⟩ rfl rfl true (fun _ => by unfold Zwe; exact ⟨by kernel_rfl, by kernel_rfl, by kernel_rfl⟩)
theorem Z5l : TyOk Try.prog 78 ⟨.slice 3, 1, 24, [.slice none 0 0], false⟩ := TyOk.of (P := Try.prog) (t := 78) (.slice 3) 1 24 [.slice none 0 0] (.slice none 0 0) (by kernel_rfl) rfl Try.underlying78 rfl rfl false (fun h => by cases h)
theorem Z5m : TyOk Try.prog 82 ⟨.slice 86, 1, 24, [.slice none 0 0], false⟩ := TyOk.of (P := Try.prog) (t := 82) (.slice 86) 1 24 [.slice none 0 0] (.slice none 0 0) (by kernel_rfl) rfl Try.underlying82 rfl rfl false (fun h => by cases h)
theorem Z5n : TyOk Try.prog 84 ⟨.slice 78, 1, 24, [.slice none 0 0], false⟩ := TyOk.of (P := Try.prog) (t := 84) (.slice 78) 1 24 [.slice none 0 0] (.slice none 0 0) (by kernel_rfl) rfl Try.underlying84 rfl rfl false (fun h => by cases h)
theorem Z5o : TyOk Try.prog 85 ⟨.struct [(0, 3), (1, 3)], 2, 16, [.int .i64 0, .int .i64 0], false⟩ := TyOk.of (P := Try.prog) (t := 85) (.struct [(0, 3), (1, 3)]) 2 16 [.int .i64 0, .int .i64 0] (.agg #[.int .i64 0, .int .i64 0]) (by kernel_rfl) rfl ⟨_, Try.underlying85, rfl⟩ rfl rfl false (fun h => by cases h)
theorem Z5p : TyOk Try.prog 86 ⟨.struct [(0, 3), (1, 3)], 2, 16, [.int .i64 0, .int .i64 0], true⟩ := TyOk.of (P := Try.prog) (t := 86) (.struct [(0, 3), (1, 3)]) 2 16 [.int .i64 0, .int .i64 0] (.agg #[.int .i64 0, .int .i64 0]) (by kernel_rfl) rfl ⟨_, Try.underlying86, rfl⟩ rfl rfl true (fun _ => by unfold Zwe; exact ⟨by kernel_rfl, by kernel_rfl, by kernel_rfl⟩)
theorem Z5q : TyOk Try.prog 90 ⟨.struct [(0, 3), (1, 5), (2, 71), (3, 71)], 4, 32, [.int .i64 0, .int .u8 0, .int .u64 0, .int .u64 0], false⟩ := TyOk.of (P := Try.prog) (t := 90) (.struct [(0, 3), (1, 5), (2, 71), (3, 71)]) 4 32 [.int .i64 0, .int .u8 0, .int .u64 0, .int .u64 0] (.agg #[.int .i64 0, .int .u8 0, .int .u64 0, .int .u64 0]) (by kernel_rfl) rfl ⟨_, Try.underlying90, rfl⟩ rfl rfl false (fun h => by cases h)
theorem Z5r : TyOk Try.prog 91 ⟨.struct [(0, 3), (1, 5), (2, 71), (3, 71)], 4, 32, [.int .i64 0, .int .u8 0, .int .u64 0, .int .u64 0], true⟩ := TyOk.of (P := Try.prog) (t := 91) (.struct [(0, 3), (1, 5), (2, 71), (3, 71)]) 4 32 [.int .i64 0, .int .u8 0, .int .u64 0, .int .u64 0] (.agg #[.int .i64 0, .int .u8 0, .int .u64 0, .int .u64 0]) (by kernel_rfl) rfl ⟨_, Try.underlying91, rfl⟩ rfl rfl true (fun _ => by unfold Zwe; exact ⟨by kernel_rfl, by kernel_rfl, by kernel_rfl⟩)
theorem Z3u : TyOk Try.prog 104 ⟨.slice 111, 1, 24, [.slice none 0 0], false⟩ := TyOk.of (P := Try.prog) (t := 104) (.slice 111) 1 24 [.slice none 0 0] (.slice none 0 0) (by kernel_rfl) rfl Try.underlying104 rfl rfl false (fun h => by cases h)
theorem Z3v : TyOk Try.prog 105 ⟨.slice 111, 1, 24, [.slice none 0 0], false⟩ := TyOk.of (P := Try.prog) (t := 105) (.slice 111) 1 24 [.slice none 0 0] (.slice none 0 0) (by kernel_rfl) rfl Try.underlying105 rfl rfl false (fun h => by cases h)
theorem Z3w : TyOk Try.prog 108 ⟨.ptr 105, 1, 8, [.pointer none], false⟩ := TyOk.of (P := Try.prog) (t := 108) (.ptr 105) 1 8 [.pointer none] (.pointer none) (by kernel_rfl) rfl Try.underlying108 rfl rfl false (fun h => by cases h)
theorem Z3x : TyOk Try.prog 110 ⟨.struct [(0, 86), (2, 3)], 3, 24, [.int .i64 0, .int .i64 0, .int .i64 0], false⟩ := TyOk.of (P := Try.prog) (t := 110) (.struct [(0, 86), (2, 3)]) 3 24 [.int .i64 0, .int .i64 0, .int .i64 0] (.agg #[.int .i64 0, .int .i64 0, .int .i64 0]) (by kernel_rfl) rfl ⟨_, Try.underlying110, rfl⟩ rfl rfl false (fun h => by cases h)
theorem Z3y : TyOk Try.prog 111 ⟨.struct [(0, 86), (2, 3)], 3, 24, [.int .i64 0, .int .i64 0, .int .i64 0], true⟩ := TyOk.of (P := Try.prog) (t := 111) (.struct [(0, 86), (2, 3)]) 3 24 [.int .i64 0, .int .i64 0, .int .i64 0] (.agg #[.int .i64 0, .int .i64 0, .int .i64 0]) (by kernel_rfl) rfl ⟨_, Try.underlying111, rfl⟩ rfl rfl true (fun _ => by unfold Zwe; exact ⟨by kernel_rfl, by kernel_rfl, by kernel_rfl⟩)
theorem Z3z : TyOk Try.prog 132 ⟨.int .u64, 1, 8, [.int .u64 0], false⟩ := TyOk.of (P := Try.prog) (t := 132) (.int .u64) 1 8 [.int .u64 0] (.int .u64 0) (by kernel_rfl) rfl Try.underlying132 rfl rfl false (fun h => by cases h)
theorem Z30 : TyOk Try.prog 134 ⟨.arr 8 5, 8, 8, [.int .u8 0, .int .u8 0, .int .u8 0, .int .u8 0, .int .u8 0, .int .u8 0, .int .u8 0, .int .u8 0], false⟩ := TyOk.of (P := Try.prog) (t := 134) (.arr 8 5) 8 8 [.int .u8 0, .int .u8 0, .int .u8 0, .int .u8 0, .int .u8 0, .int .u8 0, .int .u8 0, .int .u8 0] (.agg #[.int .u8 0, .int .u8 0, .int .u8 0, .int .u8 0, .int .u8 0, .int .u8 0, .int .u8 0, .int .u8 0]) (by kernel_rfl) rfl Try.underlying134 rfl rfl false (fun h => by cases h)
theorem Z31 : TyOk Try.prog 138 ⟨.slice 5, 1, 24, [.slice none 0 0], false⟩ := TyOk.of (P := Try.prog) (t := 138) (.slice 5) 1 24 [.slice none 0 0] (.slice none 0 0) (by kernel_rfl) rfl Try.underlying138 rfl rfl false (fun h => by cases h)
theorem Z32 : TyOk Try.prog 140 ⟨.ptr 25, 1, 8, [.pointer none], false⟩ := TyOk.of (P := Try.prog) (t := 140) (.ptr 25) 1 8 [.pointer none] (.pointer none) (by kernel_rfl) rfl Try.underlying140 rfl rfl false (fun h => by cases h)
theorem Z33 : TyOk Try.prog 142 ⟨.struct [(0, 23), (1, 23)], 2, 48, [.slice none 0 0, .slice none 0 0], false⟩ := TyOk.of (P := Try.prog) (t := 142) (.struct [(0, 23), (1, 23)]) 2 48 [.slice none 0 0, .slice none 0 0] (.agg #[.slice none 0 0, .slice none 0 0]) (by kernel_rfl) rfl ⟨_, Try.underlying142, rfl⟩ rfl rfl false (fun h => by cases h)
theorem Z34 : TyOk Try.prog 143 ⟨.struct [(0, 23), (1, 23)], 2, 48, [.slice none 0 0, .slice none 0 0], false⟩ := TyOk.of (P := Try.prog) (t := 143) (.struct [(0, 23), (1, 23)]) 2 48 [.slice none 0 0, .slice none 0 0] (.agg #[.slice none 0 0, .slice none 0 0]) (by kernel_rfl) rfl ⟨_, Try.underlying143, rfl⟩ rfl rfl false (fun h => by cases h)
theorem Z35 : TyOk Try.prog 149 ⟨.int .i64, 1, 8, [.int .i64 0], false⟩ := TyOk.of (P := Try.prog) (t := 149) (.int .i64) 1 8 [.int .i64 0] (.int .i64 0) (by kernel_rfl) rfl Try.underlying149 rfl rfl false (fun h => by cases h)
theorem Z36 : TyOk Try.prog 156 ⟨.int .u32, 1, 4, [.int .u32 0], false⟩ := TyOk.of (P := Try.prog) (t := 156) (.int .u32) 1 4 [.int .u32 0] (.int .u32 0) (by kernel_rfl) rfl Try.underlying156 rfl rfl false (fun h => by cases h)
theorem Z37 : TyOk Try.prog 159 ⟨.ptr 143, 1, 8, [.pointer none], false⟩ := TyOk.of (P := Try.prog) (t := 159) (.ptr 143) 1 8 [.pointer none] (.pointer none) (by kernel_rfl) rfl Try.underlying159 rfl rfl false (fun h => by cases h)
theorem Z38 : TyOk Try.prog 160 ⟨.arr 6 3, 6, 48, [.int .i64 0, .int .i64 0, .int .i64 0, .int .i64 0, .int .i64 0, .int .i64 0], false⟩ := TyOk.of (P := Try.prog) (t := 160) (.arr 6 3) 6 48 [.int .i64 0, .int .i64 0, .int .i64 0, .int .i64 0, .int .i64 0, .int .i64 0] (.agg #[.int .i64 0, .int .i64 0, .int .i64 0, .int .i64 0, .int .i64 0, .int .i64 0]) (by kernel_rfl) rfl Try.underlying160 rfl rfl false (fun h => by cases h)
theorem Z39 : TyOk Try.prog 161 ⟨.int .u64, 1, 8, [.int .u64 0], false⟩ := TyOk.of (P := Try.prog) (t := 161) (.int .u64) 1 8 [.int .u64 0] (.int .u64 0) (by kernel_rfl) rfl Try.underlying161 rfl rfl false (fun h => by cases h)
theorem Z4a : TyOk Try.prog 165 ⟨.ptr 3, 1, 8, [.pointer none], false⟩ := TyOk.of (P := Try.prog) (t := 165) (.ptr 3) 1 8 [.pointer none] (.pointer none) (by kernel_rfl) rfl Try.underlying165 rfl rfl false (fun h => by cases h)
theorem Z4b : TyOk Try.prog 167 ⟨.ptr 161, 1, 8, [.pointer none], false⟩ := TyOk.of (P := Try.prog) (t := 167) (.ptr 161) 1 8 [.pointer none] (.pointer none) (by kernel_rfl) rfl Try.underlying167 rfl rfl false (fun h => by cases h)
theorem Z4c : TyOk Try.prog 170 ⟨.struct [(0, 17), (1, 17), (2, 17), (3, 9)], 4, 40, [.pointer none, .pointer none, .pointer none, .string ByteArray.empty], false⟩ := TyOk.of (P := Try.prog) (t := 170) (.struct [(0, 17), (1, 17), (2, 17), (3, 9)]) 4 40 [.pointer none, .pointer none, .pointer none, .string ByteArray.empty] (.agg #[.pointer none, .pointer none, .pointer none, .string ByteArray.empty]) (by kernel_rfl) rfl ⟨_, Try.underlying170, rfl⟩ rfl rfl false (fun h => by cases h)
theorem Z4d : TyOk Try.prog 171 ⟨.struct [(0, 17), (1, 17), (2, 17), (3, 9)], 4, 40, [.pointer none, .pointer none, .pointer none, .string ByteArray.empty], false⟩ := TyOk.of (P := Try.prog) (t := 171) (.struct [(0, 17), (1, 17), (2, 17), (3, 9)]) 4 40 [.pointer none, .pointer none, .pointer none, .string ByteArray.empty] (.agg #[.pointer none, .pointer none, .pointer none, .string ByteArray.empty]) (by kernel_rfl) rfl ⟨_, Try.underlying171, rfl⟩ rfl rfl false (fun h => by cases h)
theorem Z4e : TyOk Try.prog 175 ⟨.int .u8, 1, 1, [.int .u8 0], false⟩ := TyOk.of (P := Try.prog) (t := 175) (.int .u8) 1 1 [.int .u8 0] (.int .u8 0) (by kernel_rfl) rfl Try.underlying175 rfl rfl false (fun h => by cases h)
theorem Z4f : TyOk Try.prog 176 ⟨.int .u8, 1, 1, [.int .u8 0], false⟩ := TyOk.of (P := Try.prog) (t := 176) (.int .u8) 1 1 [.int .u8 0] (.int .u8 0) (by kernel_rfl) rfl Try.underlying176 rfl rfl false (fun h => by cases h)
theorem Z4g : TyOk Try.prog 178 ⟨.ptr 5, 1, 8, [.pointer none], false⟩ := TyOk.of (P := Try.prog) (t := 178) (.ptr 5) 1 8 [.pointer none] (.pointer none) (by kernel_rfl) rfl Try.underlying178 rfl rfl false (fun h => by cases h)
theorem Z4h : TyOk Try.prog 179 ⟨.int .i32, 1, 4, [.int .i32 0], false⟩ := TyOk.of (P := Try.prog) (t := 179) (.int .i32) 1 4 [.int .i32 0] (.int .i32 0) (by kernel_rfl) rfl Try.underlying179 rfl rfl false (fun h => by cases h)
theorem Z4i : TyOk Try.prog 180 ⟨.int .i32, 1, 4, [.int .i32 0], false⟩ := TyOk.of (P := Try.prog) (t := 180) (.int .i32) 1 4 [.int .i32 0] (.int .i32 0) (by kernel_rfl) rfl Try.underlying180 rfl rfl false (fun h => by cases h)
def tabL : List (Nat × TyI) := [(2, ⟨.int .i64, 1, 8, [.int .i64 0], false⟩),
 (3, ⟨.int .i64, 1, 8, [.int .i64 0], false⟩),
 (4, ⟨.bool, 1, 1, [.bool false], false⟩),
 (5, ⟨.int .u8, 1, 1, [.int .u8 0], false⟩),
 (6, ⟨.int .u8, 1, 1, [.int .u8 0], false⟩),
 (7, ⟨.struct [(0, 2), (1, 3), (2, 4), (3, 6)], 4, 24, [.int .i64 0, .int .i64 0, .bool false, .int .u8 0], false⟩),
 (8, ⟨.struct [(0, 2), (1, 3), (2, 4), (3, 6)], 4, 24, [.int .i64 0, .int .i64 0, .bool false, .int .u8 0], false⟩),
 (9, ⟨.str, 1, 16, [.string ByteArray.empty], false⟩),
 (10, ⟨.str, 1, 16, [.string ByteArray.empty], false⟩),
 (11, ⟨.str, 1, 16, [.string ByteArray.empty], false⟩),
 (12, ⟨.int .u64, 1, 8, [.int .u64 0], false⟩),
 (13, ⟨.struct [(0, 9), (1, 12)], 2, 24, [.string ByteArray.empty, .int .u64 0], false⟩),
 (14, ⟨.struct [(0, 9), (1, 12)], 2, 24, [.string ByteArray.empty, .int .u64 0], false⟩),
 (15, ⟨.ptr 171, 1, 8, [.pointer none], false⟩),
 (16, ⟨.ptr 174, 1, 8, [.pointer none], false⟩),
 (17, ⟨.ptr 182, 1, 8, [.pointer none], false⟩),
 (18, ⟨.struct [(0, 17)], 1, 8, [.pointer none], false⟩),
 (19, ⟨.struct [(0, 17)], 1, 8, [.pointer none], false⟩),
 (21, ⟨.int .i32, 1, 4, [.int .i32 0], false⟩),
 (22, ⟨.slice 71, 1, 24, [.slice none 0 0], false⟩),
 (23, ⟨.slice 25, 1, 24, [.slice none 0 0], false⟩),
 (24, ⟨.struct [(0, 3), (1, 22), (2, 23)], 3, 56, [.int .i64 0, .slice none 0 0, .slice none 0 0], false⟩),
 (25, ⟨.struct [(0, 3), (1, 22), (2, 23)], 3, 56, [.int .i64 0, .slice none 0 0, .slice none 0 0], false⟩),
 (33, ⟨.slice 43, 1, 24, [.slice none 0 0], false⟩),
 (35, ⟨.slice 77, 1, 24, [.slice none 0 0], false⟩),
 (40, ⟨.arr 3 3, 3, 24, [.int .i64 0, .int .i64 0, .int .i64 0], false⟩),
 (42, ⟨.struct [(0, 3), (1, 3)], 2, 16, [.int .i64 0, .int .i64 0], false⟩),
 (43, ⟨.struct [(0, 3), (1, 3)], 2, 16, [.int .i64 0, .int .i64 0], true⟩),
 (50, ⟨.slice 91, 1, 24, [.slice none 0 0], false⟩),
 (51, ⟨.slice 62, 1, 24, [.slice none 0 0], false⟩),
 (52, ⟨.slice 64, 1, 24, [.slice none 0 0], false⟩),
 (53, ⟨.struct [(0, 3), (1, 25), (4, 25), (7, 50), (8, 51), (9, 3), (10, 52)], 11, 200, [.int .i64 0, .int .i64 0, .slice none 0 0, .slice none 0 0, .int .i64 0, .slice none 0 0, .slice none 0 0, .slice none 0 0, .slice none 0 0, .int .i64 0, .slice none 0 0], false⟩),
 (54, ⟨.struct [(0, 3), (1, 25), (4, 25), (7, 50), (8, 51), (9, 3), (10, 52)], 11, 200, [.int .i64 0, .int .i64 0, .slice none 0 0, .slice none 0 0, .int .i64 0, .slice none 0 0, .slice none 0 0, .slice none 0 0, .slice none 0 0, .int .i64 0, .slice none 0 0], false⟩),
 (61, ⟨.struct [(0, 3), (1, 54)], 12, 208, [.int .i64 0, .int .i64 0, .int .i64 0, .slice none 0 0, .slice none 0 0, .int .i64 0, .slice none 0 0, .slice none 0 0, .slice none 0 0, .slice none 0 0, .int .i64 0, .slice none 0 0], false⟩),
 (62, ⟨.struct [(0, 3), (1, 54)], 12, 208, [.int .i64 0, .int .i64 0, .int .i64 0, .slice none 0 0, .slice none 0 0, .int .i64 0, .slice none 0 0, .slice none 0 0, .slice none 0 0, .slice none 0 0, .int .i64 0, .slice none 0 0], false⟩),
 (63, ⟨.struct [(0, 3), (1, 3), (2, 23), (3, 54)], 14, 240, [.int .i64 0, .int .i64 0, .slice none 0 0, .int .i64 0, .int .i64 0, .slice none 0 0, .slice none 0 0, .int .i64 0, .slice none 0 0, .slice none 0 0, .slice none 0 0, .slice none 0 0, .int .i64 0, .slice none 0 0], false⟩),
 (64, ⟨.struct [(0, 3), (1, 3), (2, 23), (3, 54)], 14, 240, [.int .i64 0, .int .i64 0, .slice none 0 0, .int .i64 0, .int .i64 0, .slice none 0 0, .slice none 0 0, .int .i64 0, .slice none 0 0, .slice none 0 0, .slice none 0 0, .slice none 0 0, .int .i64 0, .slice none 0 0], false⟩),
 (71, ⟨.int .u64, 1, 8, [.int .u64 0], false⟩),
 (77, ⟨.struct [(0, 3), (1, 3)], 2, 16, [.int .i64 0, .int .i64 0], true⟩),
 (78, ⟨.slice 3, 1, 24, [.slice none 0 0], false⟩),
 (82, ⟨.slice 86, 1, 24, [.slice none 0 0], false⟩),
 (84, ⟨.slice 78, 1, 24, [.slice none 0 0], false⟩),
 (85, ⟨.struct [(0, 3), (1, 3)], 2, 16, [.int .i64 0, .int .i64 0], false⟩),
 (86, ⟨.struct [(0, 3), (1, 3)], 2, 16, [.int .i64 0, .int .i64 0], true⟩),
 (90, ⟨.struct [(0, 3), (1, 5), (2, 71), (3, 71)], 4, 32, [.int .i64 0, .int .u8 0, .int .u64 0, .int .u64 0], false⟩),
 (91, ⟨.struct [(0, 3), (1, 5), (2, 71), (3, 71)], 4, 32, [.int .i64 0, .int .u8 0, .int .u64 0, .int .u64 0], true⟩),
 (104, ⟨.slice 111, 1, 24, [.slice none 0 0], false⟩),
 (105, ⟨.slice 111, 1, 24, [.slice none 0 0], false⟩),
 (108, ⟨.ptr 105, 1, 8, [.pointer none], false⟩),
 (110, ⟨.struct [(0, 86), (2, 3)], 3, 24, [.int .i64 0, .int .i64 0, .int .i64 0], false⟩),
 (111, ⟨.struct [(0, 86), (2, 3)], 3, 24, [.int .i64 0, .int .i64 0, .int .i64 0], true⟩),
 (132, ⟨.int .u64, 1, 8, [.int .u64 0], false⟩),
 (134, ⟨.arr 8 5, 8, 8, [.int .u8 0, .int .u8 0, .int .u8 0, .int .u8 0, .int .u8 0, .int .u8 0, .int .u8 0, .int .u8 0], false⟩),
 (138, ⟨.slice 5, 1, 24, [.slice none 0 0], false⟩),
 (140, ⟨.ptr 25, 1, 8, [.pointer none], false⟩),
 (142, ⟨.struct [(0, 23), (1, 23)], 2, 48, [.slice none 0 0, .slice none 0 0], false⟩),
 (143, ⟨.struct [(0, 23), (1, 23)], 2, 48, [.slice none 0 0, .slice none 0 0], false⟩),
 (149, ⟨.int .i64, 1, 8, [.int .i64 0], false⟩),
 (156, ⟨.int .u32, 1, 4, [.int .u32 0], false⟩),
 (159, ⟨.ptr 143, 1, 8, [.pointer none], false⟩),
 (160, ⟨.arr 6 3, 6, 48, [.int .i64 0, .int .i64 0, .int .i64 0, .int .i64 0, .int .i64 0, .int .i64 0], false⟩),
 (161, ⟨.int .u64, 1, 8, [.int .u64 0], false⟩),
 (165, ⟨.ptr 3, 1, 8, [.pointer none], false⟩),
 (167, ⟨.ptr 161, 1, 8, [.pointer none], false⟩),
 (170, ⟨.struct [(0, 17), (1, 17), (2, 17), (3, 9)], 4, 40, [.pointer none, .pointer none, .pointer none, .string ByteArray.empty], false⟩),
 (171, ⟨.struct [(0, 17), (1, 17), (2, 17), (3, 9)], 4, 40, [.pointer none, .pointer none, .pointer none, .string ByteArray.empty], false⟩),
 (175, ⟨.int .u8, 1, 1, [.int .u8 0], false⟩),
 (176, ⟨.int .u8, 1, 1, [.int .u8 0], false⟩),
 (178, ⟨.ptr 5, 1, 8, [.pointer none], false⟩),
 (179, ⟨.int .i32, 1, 4, [.int .i32 0], false⟩),
 (180, ⟨.int .i32, 1, 4, [.int .i32 0], false⟩)]
def Xu : Jh := fun t => tabL.lookup t
theorem Zd : X3 Try.prog Xu := fun t i h => by
 have hm := Zpk _ h
 unfold tabL at hm
 simp only [List.mem_cons, Prod.mk.injEq, List.not_mem_nil, or_false] at hm
 rcases hm with ⟨rfl, rfl⟩ | ⟨rfl, rfl⟩ | ⟨rfl, rfl⟩ | ⟨rfl, rfl⟩ | ⟨rfl, rfl⟩ | ⟨rfl, rfl⟩ | ⟨rfl, rfl⟩ | ⟨rfl, rfl⟩ | ⟨rfl, rfl⟩ | ⟨rfl, rfl⟩ | ⟨rfl, rfl⟩ | ⟨rfl, rfl⟩ | ⟨rfl, rfl⟩ | ⟨rfl, rfl⟩ | ⟨rfl, rfl⟩ | ⟨rfl, rfl⟩ | ⟨rfl, rfl⟩ | ⟨rfl, rfl⟩ | ⟨rfl, rfl⟩ | ⟨rfl, rfl⟩ | ⟨rfl, rfl⟩ | ⟨rfl, rfl⟩ | ⟨rfl, rfl⟩ | ⟨rfl, rfl⟩ | ⟨rfl, rfl⟩ | ⟨rfl, rfl⟩ | ⟨rfl, rfl⟩ | ⟨rfl, rfl⟩ | ⟨rfl, rfl⟩ | ⟨rfl, rfl⟩ | ⟨rfl, rfl⟩ | ⟨rfl, rfl⟩ | ⟨rfl, rfl⟩ | ⟨rfl, rfl⟩ | ⟨rfl, rfl⟩ | ⟨rfl, rfl⟩ | ⟨rfl, rfl⟩ | ⟨rfl, rfl⟩ | ⟨rfl, rfl⟩ | ⟨rfl, rfl⟩ | ⟨rfl, rfl⟩ | ⟨rfl, rfl⟩ | ⟨rfl, rfl⟩ | ⟨rfl, rfl⟩ | ⟨rfl, rfl⟩ | ⟨rfl, rfl⟩ | ⟨rfl, rfl⟩ | ⟨rfl, rfl⟩ | ⟨rfl, rfl⟩ | ⟨rfl, rfl⟩ | ⟨rfl, rfl⟩ | ⟨rfl, rfl⟩ | ⟨rfl, rfl⟩ | ⟨rfl, rfl⟩ | ⟨rfl, rfl⟩ | ⟨rfl, rfl⟩ | ⟨rfl, rfl⟩ | ⟨rfl, rfl⟩ | ⟨rfl, rfl⟩ | ⟨rfl, rfl⟩ | ⟨rfl, rfl⟩ | ⟨rfl, rfl⟩ | ⟨rfl, rfl⟩ | ⟨rfl, rfl⟩ | ⟨rfl, rfl⟩ | ⟨rfl, rfl⟩ | ⟨rfl, rfl⟩ | ⟨rfl, rfl⟩ | ⟨rfl, rfl⟩ | ⟨rfl, rfl⟩ | ⟨rfl, rfl⟩
 ·exact ty2
 ·exact ty3
 ·exact ty4
 ·exact ty5
 ·exact ty6
 ·exact ty7
 ·exact ty8
 ·exact ty9
 ·exact Z4q
 ·exact Z4r
 ·exact Z4s
 ·exact Z4t
 ·exact Z4u
 ·exact Z4v
 ·exact Z4w
 ·exact Z4x
 ·exact Z4y
 ·exact Z4z
 ·exact Z40
 ·exact Z41
 ·exact Z42
 ·exact Z43
 ·exact Z44
 ·exact Z45
 ·exact Z46
 ·exact Z47
 ·exact Z48
 ·exact Z49
 ·exact Z5a
 ·exact Z5b
 ·exact Z5c
 ·exact Z5d
 ·exact Z5e
 ·exact Z5f
 ·exact Z5g
 ·exact Z5h
 ·exact Z5i
 ·exact Z5j
 ·exact Z5k
 ·exact Z5l
 ·exact Z5m
 ·exact Z5n
 ·exact Z5o
 ·exact Z5p
 ·exact Z5q
 ·exact Z5r
 ·exact Z3u
 ·exact Z3v
 ·exact Z3w
 ·exact Z3x
 ·exact Z3y
 ·exact Z3z
 ·exact Z30
 ·exact Z31
 ·exact Z32
 ·exact Z33
 ·exact Z34
 ·exact Z35
 ·exact Z36
 ·exact Z37
 ·exact Z38
 ·exact Z39
 ·exact Z4a
 ·exact Z4b
 ·exact Z4c
 ·exact Z4d
 ·exact Z4e
 ·exact Z4f
 ·exact Z4g
 ·exact Z4h
 exact Z4i
theorem Z00 : Xu 2 = some ⟨.int .i64, 1, 8, [.int .i64 0], false⟩ := rfl
theorem Zy1 : Xu 3 = some ⟨.int .i64, 1, 8, [.int .i64 0], false⟩ := rfl
theorem Z01 : Xu 4 = some ⟨.bool, 1, 1, [.bool false], false⟩ := rfl
theorem Zrs : Xu 5 = some ⟨.int .u8, 1, 1, [.int .u8 0], false⟩ := rfl
theorem Z02 : Xu 6 = some ⟨.int .u8, 1, 1, [.int .u8 0], false⟩ := rfl
theorem Z03 : Xu 7 = some ⟨.struct [(0, 2), (1, 3), (2, 4), (3, 6)], 4, 24, [.int .i64 0, .int .i64 0, .bool false, .int .u8 0], false⟩ := rfl
theorem Z04 : Xu 8 = some ⟨.struct [(0, 2), (1, 3), (2, 4), (3, 6)], 4, 24, [.int .i64 0, .int .i64 0, .bool false, .int .u8 0], false⟩ := rfl
theorem Z05 : Xu 9 = some ⟨.str, 1, 16, [.string ByteArray.empty], false⟩ := rfl
theorem Zu5 : Xu 10 = some ⟨.str, 1, 16, [.string ByteArray.empty], false⟩ := rfl
theorem Zu6 : Xu 11 = some ⟨.str, 1, 16, [.string ByteArray.empty], false⟩ := rfl
theorem Zu7 : Xu 12 = some ⟨.int .u64, 1, 8, [.int .u64 0], false⟩ := rfl
theorem Zu8 : Xu 13 = some ⟨.struct [(0, 9), (1, 12)], 2, 24, [.string ByteArray.empty, .int .u64 0], false⟩ := rfl
theorem Zu9 : Xu 14 = some ⟨.struct [(0, 9), (1, 12)], 2, 24, [.string ByteArray.empty, .int .u64 0], false⟩ := rfl
theorem Zva : Xu 15 = some ⟨.ptr 171, 1, 8, [.pointer none], false⟩ := rfl
theorem Zvb : Xu 16 = some ⟨.ptr 174, 1, 8, [.pointer none], false⟩ := rfl
theorem Zvc : Xu 17 = some ⟨.ptr 182, 1, 8, [.pointer none], false⟩ := rfl
theorem Zvd : Xu 18 = some ⟨.struct [(0, 17)], 1, 8, [.pointer none], false⟩ := rfl
theorem Zve : Xu 19 = some ⟨.struct [(0, 17)], 1, 8, [.pointer none], false⟩ := rfl
theorem Zvf : Xu 21 = some ⟨.int .i32, 1, 4, [.int .i32 0], false⟩ := rfl
theorem Zvg : Xu 22 = some ⟨.slice 71, 1, 24, [.slice none 0 0], false⟩ := rfl
theorem Zqu : Xu 23 = some ⟨.slice 25, 1, 24, [.slice none 0 0], false⟩ := rfl
theorem Zvh : Xu 24 = some ⟨.struct [(0, 3), (1, 22), (2, 23)], 3, 56, [.int .i64 0, .slice none 0 0, .slice none 0 0], false⟩ := rfl
theorem V4 : Xu 25 = some ⟨.struct [(0, 3), (1, 22), (2, 23)], 3, 56, [.int .i64 0, .slice none 0 0, .slice none 0 0], false⟩ := rfl
theorem Zvi : Xu 33 = some ⟨.slice 43, 1, 24, [.slice none 0 0], false⟩ := rfl
theorem Zvj : Xu 35 = some ⟨.slice 77, 1, 24, [.slice none 0 0], false⟩ := rfl
theorem Zvk : Xu 40 = some ⟨.arr 3 3, 3, 24, [.int .i64 0, .int .i64 0, .int .i64 0], false⟩ := rfl
theorem Zvl : Xu 42 = some ⟨.struct [(0, 3), (1, 3)], 2, 16, [.int .i64 0, .int .i64 0], false⟩ := rfl
theorem Zvm : Xu 43 = some ⟨.struct [(0, 3), (1, 3)], 2, 16, [.int .i64 0, .int .i64 0], true⟩ := rfl
theorem Zvn : Xu 50 = some ⟨.slice 91, 1, 24, [.slice none 0 0], false⟩ := rfl
theorem Zvo : Xu 51 = some ⟨.slice 62, 1, 24, [.slice none 0 0], false⟩ := rfl
theorem Zvp : Xu 52 = some ⟨.slice 64, 1, 24, [.slice none 0 0], false⟩ := rfl
theorem Zvq : Xu 53 = some ⟨.struct [(0, 3), (1, 25), (4, 25), (7, 50), (8, 51), (9, 3), (10, 52)], 11, 200, [.int .i64 0, .int .i64 0, .slice none 0 0, .slice none 0 0, .int .i64 0, .slice none 0 0, .slice none 0 0, .slice none 0 0, .slice none 0 0, .int .i64 0, .slice none 0 0], false⟩ := rfl
theorem Zlx : Xu 54 = some ⟨.struct [(0, 3), (1, 25), (4, 25), (7, 50), (8, 51), (9, 3), (10, 52)], 11, 200, [.int .i64 0, .int .i64 0, .slice none 0 0, .slice none 0 0, .int .i64 0, .slice none 0 0, .slice none 0 0, .slice none 0 0, .slice none 0 0, .int .i64 0, .slice none 0 0], false⟩ := rfl
theorem Zvr : Xu 61 = some ⟨.struct [(0, 3), (1, 54)], 12, 208, [.int .i64 0, .int .i64 0, .int .i64 0, .slice none 0 0, .slice none 0 0, .int .i64 0, .slice none 0 0, .slice none 0 0, .slice none 0 0, .slice none 0 0, .int .i64 0, .slice none 0 0], false⟩ := rfl
theorem Zly : Xu 62 = some ⟨.struct [(0, 3), (1, 54)], 12, 208, [.int .i64 0, .int .i64 0, .int .i64 0, .slice none 0 0, .slice none 0 0, .int .i64 0, .slice none 0 0, .slice none 0 0, .slice none 0 0, .slice none 0 0, .int .i64 0, .slice none 0 0], false⟩ := rfl
theorem Zvs : Xu 63 = some ⟨.struct [(0, 3), (1, 3), (2, 23), (3, 54)], 14, 240, [.int .i64 0, .int .i64 0, .slice none 0 0, .int .i64 0, .int .i64 0, .slice none 0 0, .slice none 0 0, .int .i64 0, .slice none 0 0, .slice none 0 0, .slice none 0 0, .slice none 0 0, .int .i64 0, .slice none 0 0], false⟩ := rfl
theorem Zg5 : Xu 64 = some ⟨.struct [(0, 3), (1, 3), (2, 23), (3, 54)], 14, 240, [.int .i64 0, .int .i64 0, .slice none 0 0, .int .i64 0, .int .i64 0, .slice none 0 0, .slice none 0 0, .int .i64 0, .slice none 0 0, .slice none 0 0, .slice none 0 0, .slice none 0 0, .int .i64 0, .slice none 0 0], false⟩ := rfl
theorem Zbp : Xu 71 = some ⟨.int .u64, 1, 8, [.int .u64 0], false⟩ := rfl
theorem Zvt : Xu 77 = some ⟨.struct [(0, 3), (1, 3)], 2, 16, [.int .i64 0, .int .i64 0], true⟩ := rfl
theorem Zvu : Xu 78 = some ⟨.slice 3, 1, 24, [.slice none 0 0], false⟩ := rfl
theorem Zvv : Xu 82 = some ⟨.slice 86, 1, 24, [.slice none 0 0], false⟩ := rfl
theorem Zvw : Xu 84 = some ⟨.slice 78, 1, 24, [.slice none 0 0], false⟩ := rfl
theorem Zvx : Xu 85 = some ⟨.struct [(0, 3), (1, 3)], 2, 16, [.int .i64 0, .int .i64 0], false⟩ := rfl
theorem Zvy : Xu 86 = some ⟨.struct [(0, 3), (1, 3)], 2, 16, [.int .i64 0, .int .i64 0], true⟩ := rfl
theorem Zvz : Xu 90 = some ⟨.struct [(0, 3), (1, 5), (2, 71), (3, 71)], 4, 32, [.int .i64 0, .int .u8 0, .int .u64 0, .int .u64 0], false⟩ := rfl
theorem Zqv : Xu 91 = some ⟨.struct [(0, 3), (1, 5), (2, 71), (3, 71)], 4, 32, [.int .i64 0, .int .u8 0, .int .u64 0, .int .u64 0], true⟩ := rfl
theorem Zp6 : Xu 104 = some ⟨.slice 111, 1, 24, [.slice none 0 0], false⟩ := rfl
theorem Zp7 : Xu 105 = some ⟨.slice 111, 1, 24, [.slice none 0 0], false⟩ := rfl
theorem Zp8 : Xu 108 = some ⟨.ptr 105, 1, 8, [.pointer none], false⟩ := rfl
theorem Zp9 : Xu 110 = some ⟨.struct [(0, 86), (2, 3)], 3, 24, [.int .i64 0, .int .i64 0, .int .i64 0], false⟩ := rfl
theorem Zqa : Xu 111 = some ⟨.struct [(0, 86), (2, 3)], 3, 24, [.int .i64 0, .int .i64 0, .int .i64 0], true⟩ := rfl
theorem Zqb : Xu 132 = some ⟨.int .u64, 1, 8, [.int .u64 0], false⟩ := rfl
theorem Zkh : Xu 134 = some ⟨.arr 8 5, 8, 8, [.int .u8 0, .int .u8 0, .int .u8 0, .int .u8 0, .int .u8 0, .int .u8 0, .int .u8 0, .int .u8 0], false⟩ := rfl
theorem Zqc : Xu 138 = some ⟨.slice 5, 1, 24, [.slice none 0 0], false⟩ := rfl
theorem Zqd : Xu 140 = some ⟨.ptr 25, 1, 8, [.pointer none], false⟩ := rfl
theorem Zqe : Xu 142 = some ⟨.struct [(0, 23), (1, 23)], 2, 48, [.slice none 0 0, .slice none 0 0], false⟩ := rfl
theorem Zqf : Xu 143 = some ⟨.struct [(0, 23), (1, 23)], 2, 48, [.slice none 0 0, .slice none 0 0], false⟩ := rfl
theorem Zqg : Xu 149 = some ⟨.int .i64, 1, 8, [.int .i64 0], false⟩ := rfl
theorem Zqh : Xu 156 = some ⟨.int .u32, 1, 4, [.int .u32 0], false⟩ := rfl
theorem Zqi : Xu 159 = some ⟨.ptr 143, 1, 8, [.pointer none], false⟩ := rfl
theorem Zqj : Xu 160 = some ⟨.arr 6 3, 6, 48, [.int .i64 0, .int .i64 0, .int .i64 0, .int .i64 0, .int .i64 0, .int .i64 0], false⟩ := rfl
theorem Zqk : Xu 161 = some ⟨.int .u64, 1, 8, [.int .u64 0], false⟩ := rfl
theorem Zql : Xu 165 = some ⟨.ptr 3, 1, 8, [.pointer none], false⟩ := rfl
theorem Zqm : Xu 167 = some ⟨.ptr 161, 1, 8, [.pointer none], false⟩ := rfl
theorem Zqn : Xu 170 = some ⟨.struct [(0, 17), (1, 17), (2, 17), (3, 9)], 4, 40, [.pointer none, .pointer none, .pointer none, .string ByteArray.empty], false⟩ := rfl
theorem Zqo : Xu 171 = some ⟨.struct [(0, 17), (1, 17), (2, 17), (3, 9)], 4, 40, [.pointer none, .pointer none, .pointer none, .string ByteArray.empty], false⟩ := rfl
theorem Zqp : Xu 175 = some ⟨.int .u8, 1, 1, [.int .u8 0], false⟩ := rfl
theorem Zqq : Xu 176 = some ⟨.int .u8, 1, 1, [.int .u8 0], false⟩ := rfl
theorem Zqr : Xu 178 = some ⟨.ptr 5, 1, 8, [.pointer none], false⟩ := rfl
theorem Zqs : Xu 179 = some ⟨.int .i32, 1, 4, [.int .i32 0], false⟩ := rfl
theorem Zqt : Xu 180 = some ⟨.int .i32, 1, 4, [.int .i32 0], false⟩ := rfl
theorem Zqw : Yc Xu 2 = some (.int .i64) := rfl
theorem Zqx : Yc Xu 3 = some (.int .i64) := rfl
theorem Zqy : Yc Xu 4 = some (.bool) := rfl
theorem Zqz : Yc Xu 5 = some (.int .u8) := rfl
theorem Zq0 : Yc Xu 6 = some (.int .u8) := rfl
theorem Zq1 : Yc Xu 7 = some (.struct [(0, 2), (1, 3), (2, 4), (3, 6)]) := rfl
theorem Zq2 : Yc Xu 8 = some (.struct [(0, 2), (1, 3), (2, 4), (3, 6)]) := rfl
theorem Zq3 : Yc Xu 9 = some (.str) := rfl
theorem Zlz : Yc Xu 10 = some (.str) := rfl
theorem Zl0 : Yc Xu 11 = some (.str) := rfl
theorem Zl1 : Yc Xu 12 = some (.int .u64) := rfl
theorem Zl2 : Yc Xu 13 = some (.struct [(0, 9), (1, 12)]) := rfl
theorem Zl3 : Yc Xu 14 = some (.struct [(0, 9), (1, 12)]) := rfl
theorem Zl4 : Yc Xu 15 = some (.ptr 171) := rfl
theorem Zl5 : Yc Xu 16 = some (.ptr 174) := rfl
theorem Zl6 : Yc Xu 17 = some (.ptr 182) := rfl
theorem Zl7 : Yc Xu 18 = some (.struct [(0, 17)]) := rfl
theorem Zl8 : Yc Xu 19 = some (.struct [(0, 17)]) := rfl
theorem Zl9 : Yc Xu 21 = some (.int .i32) := rfl
theorem Zgv : Yc Xu 22 = some (.slice 71) := rfl
theorem Zab : Yc Xu 23 = some (.slice 25) := rfl
theorem Zma : Yc Xu 24 = some (.struct [(0, 3), (1, 22), (2, 23)]) := rfl
theorem Zmb : Yc Xu 25 = some (.struct [(0, 3), (1, 22), (2, 23)]) := rfl
theorem Zmc : Yc Xu 33 = some (.slice 43) := rfl
theorem Zmd : Yc Xu 35 = some (.slice 77) := rfl
theorem Zme : Yc Xu 40 = some (.arr 3 3) := rfl
theorem Zmf : Yc Xu 42 = some (.struct [(0, 3), (1, 3)]) := rfl
theorem Zmg : Yc Xu 43 = some (.struct [(0, 3), (1, 3)]) := rfl
theorem Zmh : Yc Xu 50 = some (.slice 91) := rfl
theorem Zmi : Yc Xu 51 = some (.slice 62) := rfl
theorem Zmj : Yc Xu 52 = some (.slice 64) := rfl
theorem Zmk : Yc Xu 53 = some (.struct [(0, 3), (1, 25), (4, 25), (7, 50), (8, 51), (9, 3), (10, 52)]) := rfl
theorem Zml : Yc Xu 54 = some (.struct [(0, 3), (1, 25), (4, 25), (7, 50), (8, 51), (9, 3), (10, 52)]) := rfl
theorem Zmm : Yc Xu 61 = some (.struct [(0, 3), (1, 54)]) := rfl
theorem Zmn : Yc Xu 62 = some (.struct [(0, 3), (1, 54)]) := rfl
theorem Zmo : Yc Xu 63 = some (.struct [(0, 3), (1, 3), (2, 23), (3, 54)]) := rfl
theorem Zmp : Yc Xu 64 = some (.struct [(0, 3), (1, 3), (2, 23), (3, 54)]) := rfl
theorem Zmq : Yc Xu 71 = some (.int .u64) := rfl
theorem Zmr : Yc Xu 77 = some (.struct [(0, 3), (1, 3)]) := rfl
theorem Zms : Yc Xu 78 = some (.slice 3) := rfl
theorem Zmt : Yc Xu 82 = some (.slice 86) := rfl
theorem Zmu : Yc Xu 84 = some (.slice 78) := rfl
theorem Zmv : Yc Xu 85 = some (.struct [(0, 3), (1, 3)]) := rfl
theorem Zmw : Yc Xu 86 = some (.struct [(0, 3), (1, 3)]) := rfl
theorem Zmx : Yc Xu 90 = some (.struct [(0, 3), (1, 5), (2, 71), (3, 71)]) := rfl
theorem Zmy : Yc Xu 91 = some (.struct [(0, 3), (1, 5), (2, 71), (3, 71)]) := rfl
theorem Zij : Yc Xu 104 = some (.slice 111) := rfl
theorem Zik : Yc Xu 105 = some (.slice 111) := rfl
theorem Zil : Yc Xu 108 = some (.ptr 105) := rfl
theorem Zim : Yc Xu 110 = some (.struct [(0, 86), (2, 3)]) := rfl
theorem Zin : Yc Xu 111 = some (.struct [(0, 86), (2, 3)]) := rfl
theorem Zio : Yc Xu 132 = some (.int .u64) := rfl
theorem Zf7 : Yc Xu 134 = some (.arr 8 5) := rfl
theorem Zip : Yc Xu 138 = some (.slice 5) := rfl
theorem Ziq : Yc Xu 140 = some (.ptr 25) := rfl
theorem Zir : Yc Xu 142 = some (.struct [(0, 23), (1, 23)]) := rfl
theorem Zis : Yc Xu 143 = some (.struct [(0, 23), (1, 23)]) := rfl
theorem Zit : Yc Xu 149 = some (.int .i64) := rfl
theorem Ziu : Yc Xu 156 = some (.int .u32) := rfl
theorem Ziv : Yc Xu 159 = some (.ptr 143) := rfl
theorem Ziw : Yc Xu 160 = some (.arr 6 3) := rfl
theorem Zix : Yc Xu 161 = some (.int .u64) := rfl
theorem Ziy : Yc Xu 165 = some (.ptr 3) := rfl
theorem Ziz : Yc Xu 167 = some (.ptr 161) := rfl
theorem Zi0 : Yc Xu 170 = some (.struct [(0, 17), (1, 17), (2, 17), (3, 9)]) := rfl
theorem Zi1 : Yc Xu 171 = some (.struct [(0, 17), (1, 17), (2, 17), (3, 9)]) := rfl
theorem Zi2 : Yc Xu 175 = some (.int .u8) := rfl
theorem Zi3 : Yc Xu 176 = some (.int .u8) := rfl
theorem Zi4 : Yc Xu 178 = some (.ptr 5) := rfl
theorem Zi5 : Yc Xu 179 = some (.int .i32) := rfl
theorem Zi6 : Yc Xu 180 = some (.int .i32) := rfl
end Go.Proofs.Ytmpkfolcikhofaa
