/- The types of this seat's program, as its dump has them, in the ghost memory's words; no condition. -/
import Derived.Test.YtmpkfolcikhofaaRows
import Derived.Test.YtmpkfolcikhofaaG16
namespace Go.Proofs.Ytmpkfolcikhofaa
open Go.RowKit
set_option linter.unusedVariables false
set_option linter.unusedSimpArgs false
theorem TyOk.of {P : Program} {t : TypeId} (k : TK) (size bytes : Nat) (zero : List Value) (z : Value) (h : (P.info? t).map (fun i => (i.zero, i.size, i.bytes)) = some (some z, size, bytes)) (hz : z.cells.toList = zero) (hu : k.ok P t) (hl : zero.length = size) (h1 : zero.all Value.oneCell' = true) (eq : Bool) (he : eq = true → Ztf P t) : TyOk P t ⟨k, size, bytes, zero, eq⟩ := by
 refine ⟨?_, hu, hl, fun v hv => List.all_eq_true.1 h1 v hv, he⟩
 cases hi : P.info? t with
 | none => rw [hi] at h; cases h
 | some i =>
  rw [hi] at h
  simp only [Option.map_some, Option.some.injEq, Prod.mk.injEq] at h
  exact ⟨i, z, rfl, h.2.1, h.2.2, h.1, hz⟩
theorem Zmr {α : Type} {t : Nat} {i : α} : ∀ (l : List (Nat × α)), l.lookup t = some i → (t, i) ∈ l
 | [], h => by simp at h
 | (a, b) :: l, h => by
  rw [List.lookup_cons] at h
  split at h
  ·rename_i he
   injection h with h
   have : t = a := by simpa using he
   subst h this
   exact .head _
  exact .tail _ (Zmr l h)
theorem ty2 : TyOk Try.prog 2 ⟨.int .i64, 1, 8, [.int .i64 0], false⟩ := TyOk.of (P := Try.prog) (t := 2) (.int .i64) 1 8 [.int .i64 0] (.int .i64 0) (by kernel_rfl) rfl Try.underlying2 rfl rfl false (fun h => by cases h)
theorem ty3 : TyOk Try.prog 3 ⟨.int .i64, 1, 8, [.int .i64 0], false⟩ := TyOk.of (P := Try.prog) (t := 3) (.int .i64) 1 8 [.int .i64 0] (.int .i64 0) (by kernel_rfl) rfl Try.underlying3 rfl rfl false (fun h => by cases h)
theorem ty4 : TyOk Try.prog 4 ⟨.bool, 1, 1, [.bool false], false⟩ := TyOk.of (P := Try.prog) (t := 4) (.bool) 1 1 [.bool false] (.bool false) (by kernel_rfl) rfl Try.underlying4 rfl rfl false (fun h => by cases h)
theorem ty5 : TyOk Try.prog 5 ⟨.int .u8, 1, 1, [.int .u8 0], false⟩ := TyOk.of (P := Try.prog) (t := 5) (.int .u8) 1 1 [.int .u8 0] (.int .u8 0) (by kernel_rfl) rfl Try.underlying5 rfl rfl false (fun h => by cases h)
theorem ty6 : TyOk Try.prog 6 ⟨.int .u8, 1, 1, [.int .u8 0], false⟩ := TyOk.of (P := Try.prog) (t := 6) (.int .u8) 1 1 [.int .u8 0] (.int .u8 0) (by kernel_rfl) rfl Try.underlying6 rfl rfl false (fun h => by cases h)
theorem ty7 : TyOk Try.prog 7 ⟨.struct [(0, 2), (1, 3), (2, 4), (3, 6)], 4, 24, [.int .i64 0, .int .i64 0, .bool false, .int .u8 0], false⟩ := TyOk.of (P := Try.prog) (t := 7) (.struct [(0, 2), (1, 3), (2, 4), (3, 6)]) 4 24 [.int .i64 0, .int .i64 0, .bool false, .int .u8 0] (.agg #[.int .i64 0, .int .i64 0, .bool false, .int .u8 0]) (by kernel_rfl) rfl ⟨_, Try.underlying7, rfl⟩ rfl rfl false (fun h => by cases h)
theorem ty8 : TyOk Try.prog 8 ⟨.struct [(0, 2), (1, 3), (2, 4), (3, 6)], 4, 24, [.int .i64 0, .int .i64 0, .bool false, .int .u8 0], false⟩ := TyOk.of (P := Try.prog) (t := 8) (.struct [(0, 2), (1, 3), (2, 4), (3, 6)]) 4 24 [.int .i64 0, .int .i64 0, .bool false, .int .u8 0] (.agg #[.int .i64 0, .int .i64 0, .bool false, .int .u8 0]) (by kernel_rfl) rfl ⟨_, Try.underlying8, rfl⟩ rfl rfl false (fun h => by cases h)
theorem ty9 : TyOk Try.prog 9 ⟨.str, 1, 16, [.string ByteArray.empty], false⟩ := TyOk.of (P := Try.prog) (t := 9) (.str) 1 16 [.string ByteArray.empty] (.string ByteArray.empty) (by kernel_rfl) rfl Try.underlying9 rfl rfl false (fun h => by cases h)
theorem Z0s : TyOk Try.prog 10 ⟨.str, 1, 16, [.string ByteArray.empty], false⟩ := TyOk.of (P := Try.prog) (t := 10) (.str) 1 16 [.string ByteArray.empty] (.string ByteArray.empty) (by kernel_rfl) rfl Try.underlying10 rfl rfl false (fun h => by cases h)
theorem Z0t : TyOk Try.prog 11 ⟨.str, 1, 16, [.string ByteArray.empty], false⟩ := TyOk.of (P := Try.prog) (t := 11) (.str) 1 16 [.string ByteArray.empty] (.string ByteArray.empty) (by kernel_rfl) rfl Try.underlying11 rfl rfl false (fun h => by cases h)
theorem Z0u : TyOk Try.prog 12 ⟨.int .u64, 1, 8, [.int .u64 0], false⟩ := TyOk.of (P := Try.prog) (t := 12) (.int .u64) 1 8 [.int .u64 0] (.int .u64 0) (by kernel_rfl) rfl Try.underlying12 rfl rfl false (fun h => by cases h)
theorem Z0v : TyOk Try.prog 13 ⟨.struct [(0, 9), (1, 12)], 2, 24, [.string ByteArray.empty, .int .u64 0], false⟩ := TyOk.of (P := Try.prog) (t := 13) (.struct [(0, 9), (1, 12)]) 2 24 [.string ByteArray.empty, .int .u64 0] (.agg #[.string ByteArray.empty, .int .u64 0]) (by kernel_rfl) rfl ⟨_, Try.underlying13, rfl⟩ rfl rfl false (fun h => by cases h)
theorem Z0w : TyOk Try.prog 14 ⟨.struct [(0, 9), (1, 12)], 2, 24, [.string ByteArray.empty, .int .u64 0], false⟩ := TyOk.of (P := Try.prog) (t := 14) (.struct [(0, 9), (1, 12)]) 2 24 [.string ByteArray.empty, .int .u64 0] (.agg #[.string ByteArray.empty, .int .u64 0]) (by kernel_rfl) rfl ⟨_, Try.underlying14, rfl⟩ rfl rfl false (fun h => by cases h)
theorem Z0x : TyOk Try.prog 15 ⟨.ptr 171, 1, 8, [.pointer none], false⟩ := TyOk.of (P := Try.prog) (t := 15) (.ptr 171) 1 8 [.pointer none] (.pointer none) (by kernel_rfl) rfl Try.underlying15 rfl rfl false (fun h => by cases h)
theorem Z0y : TyOk Try.prog 16 ⟨.ptr 174, 1, 8, [.pointer none], false⟩ := TyOk.of (P := Try.prog) (t := 16) (.ptr 174) 1 8 [.pointer none] (.pointer none) (by kernel_rfl) rfl Try.underlying16 rfl rfl false (fun h => by cases h)
theorem Z0z : TyOk Try.prog 17 ⟨.ptr 182, 1, 8, [.pointer none], false⟩ := TyOk.of (P := Try.prog) (t := 17) (.ptr 182) 1 8 [.pointer none] (.pointer none) (by kernel_rfl) rfl Try.underlying17 rfl rfl false (fun h => by cases h)
theorem Z00 : TyOk Try.prog 18 ⟨.struct [(0, 17)], 1, 8, [.pointer none], false⟩ := TyOk.of (P := Try.prog) (t := 18) (.struct [(0, 17)]) 1 8 [.pointer none] (.agg #[.pointer none]) (by kernel_rfl) rfl ⟨_, Try.underlying18, rfl⟩ rfl rfl false (fun h => by cases h)
theorem Z01 : TyOk Try.prog 19 ⟨.struct [(0, 17)], 1, 8, [.pointer none], false⟩ := TyOk.of (P := Try.prog) (t := 19) (.struct [(0, 17)]) 1 8 [.pointer none] (.agg #[.pointer none]) (by kernel_rfl) rfl ⟨_, Try.underlying19, rfl⟩ rfl rfl false (fun h => by cases h)
theorem Z02 : TyOk Try.prog 21 ⟨.int .i32, 1, 4, [.int .i32 0], false⟩ := TyOk.of (P := Try.prog) (t := 21) (.int .i32) 1 4 [.int .i32 0] (.int .i32 0) (by kernel_rfl) rfl Try.underlying21 rfl rfl false (fun h => by cases h)
theorem Z03 : TyOk Try.prog 22 ⟨.slice 71, 1, 24, [.slice none 0 0], false⟩ := TyOk.of (P := Try.prog) (t := 22) (.slice 71) 1 24 [.slice none 0 0] (.slice none 0 0) (by kernel_rfl) rfl Try.underlying22 rfl rfl false (fun h => by cases h)
theorem Z04 : TyOk Try.prog 23 ⟨.slice 25, 1, 24, [.slice none 0 0], false⟩ := TyOk.of (P := Try.prog) (t := 23) (.slice 25) 1 24 [.slice none 0 0] (.slice none 0 0) (by kernel_rfl) rfl Try.underlying23 rfl rfl false (fun h => by cases h)
theorem Z05 : TyOk Try.prog 24 ⟨.struct [(0, 3), (1, 22), (2, 23)], 3, 56, [.int .i64 0, .slice none 0 0, .slice none 0 0], false⟩ := TyOk.of (P := Try.prog) (t := 24) (.struct [(0, 3), (1, 22), (2, 23)]) 3 56 [.int .i64 0, .slice none 0 0, .slice none 0 0] (.agg #[.int .i64 0, .slice none 0 0, .slice none 0 0]) (by kernel_rfl) rfl ⟨_, Try.underlying24, rfl⟩ rfl rfl false (fun h => by cases h)
theorem Z06 : TyOk Try.prog 25 ⟨.struct [(0, 3), (1, 22), (2, 23)], 3, 56, [.int .i64 0, .slice none 0 0, .slice none 0 0], false⟩ := TyOk.of (P := Try.prog) (t := 25) (.struct [(0, 3), (1, 22), (2, 23)]) 3 56 [.int .i64 0, .slice none 0 0, .slice none 0 0] (.agg #[.int .i64 0, .slice none 0 0, .slice none 0 0]) (by kernel_rfl) rfl ⟨_, Try.underlying25, rfl⟩ rfl rfl false (fun h => by cases h)
theorem Z07 : TyOk Try.prog 33 ⟨.slice 43, 1, 24, [.slice none 0 0], false⟩ := TyOk.of (P := Try.prog) (t := 33) (.slice 43) 1 24 [.slice none 0 0] (.slice none 0 0) (by kernel_rfl) rfl Try.underlying33 rfl rfl false (fun h => by cases h)
theorem Z08 : TyOk Try.prog 35 ⟨.slice 77, 1, 24, [.slice none 0 0], false⟩ := TyOk.of (P := Try.prog) (t := 35) (.slice 77) 1 24 [.slice none 0 0] (.slice none 0 0) (by kernel_rfl) rfl Try.underlying35 rfl rfl false (fun h => by cases h)
theorem Z09 : TyOk Try.prog 40 ⟨.arr 3 3, 3, 24, [.int .i64 0, .int .i64 0, .int .i64 0], false⟩ := TyOk.of (P := Try.prog) (t := 40) (.arr 3 3) 3 24 [.int .i64 0, .int .i64 0, .int .i64 0] (.agg #[.int .i64 0, .int .i64 0, .int .i64 0]) (by kernel_rfl) rfl Try.underlying40 rfl rfl false (fun h => by cases h)
theorem Z1a : TyOk Try.prog 42 ⟨.struct [(0, 3), (1, 3)], 2, 16, [.int .i64 0, .int .i64 0], false⟩ := TyOk.of (P := Try.prog) (t := 42) (.struct [(0, 3), (1, 3)]) 2 16 [.int .i64 0, .int .i64 0] (.agg #[.int .i64 0, .int .i64 0]) (by kernel_rfl) rfl ⟨_, Try.underlying42, rfl⟩ rfl rfl false (fun h => by cases h)
theorem Z1b : TyOk Try.prog 43 ⟨.struct [(0, 3), (1, 3)], 2, 16, [.int .i64 0, .int .i64 0], true⟩ := TyOk.of (P := Try.prog) (t := 43) (.struct [(0, 3), (1, 3)]) 2 16 [.int .i64 0, .int .i64 0] (.agg #[.int .i64 0, .int .i64 0]) (by kernel_rfl) rfl ⟨_, Try.underlying43, rfl⟩ rfl rfl true (fun _ => by unfold Ztf; exact ⟨by kernel_rfl, by kernel_rfl, by kernel_rfl⟩)
theorem Z1c : TyOk Try.prog 50 ⟨.slice 91, 1, 24, [.slice none 0 0], false⟩ := TyOk.of (P := Try.prog) (t := 50) (.slice 91) 1 24 [.slice none 0 0] (.slice none 0 0) (by kernel_rfl) rfl Try.underlying50 rfl rfl false (fun h => by cases h)
theorem Z1d : TyOk Try.prog 51 ⟨.slice 62, 1, 24, [.slice none 0 0], false⟩ := TyOk.of (P := Try.prog) (t := 51) (.slice 62) 1 24 [.slice none 0 0] (.slice none 0 0) (by kernel_rfl) rfl Try.underlying51 rfl rfl false (fun h => by cases h)
theorem Z1e : TyOk Try.prog 52 ⟨.slice 64, 1, 24, [.slice none 0 0], false⟩ := TyOk.of (P := Try.prog) (t := 52) (.slice 64) 1 24 [.slice none 0 0] (.slice none 0 0) (by kernel_rfl) rfl Try.underlying52 rfl rfl false (fun h => by cases h)
theorem Z1f : TyOk Try.prog 53 ⟨.struct [(0, 3), (1, 25), (4, 25), (7, 50), (8, 51), (9, 3), (10, 52)], 11, 200, [.int .i64 0, .int .i64 0, .slice none 0 0, .slice none 0 0, .int .i64 0, .slice none 0 0, .slice none 0 0, .slice none 0 0, .slice none 0 0, .int .i64 0, .slice none 0 0], false⟩ := TyOk.of (P := Try.prog) (t := 53) (.struct [(0, 3), (1, 25), (4, 25), (7, 50), (8, 51), (9, 3), (10, 52)]) 11 200 [.int .i64 0, .int .i64 0, .slice none 0 0, .slice none 0 0, .int .i64 0, .slice none 0 0, .slice none 0 0, .slice none 0 0, .slice none 0 0, .int .i64 0, .slice none 0 0] (.agg #[.int .i64 0, .int .i64 0, .slice none 0 0, .slice none 0 0, .int .i64 0, .slice none 0 0, .slice none 0 0, .slice none 0 0, .slice none 0 0, .int .i64 0, .slice none 0 0]) (by kernel_rfl) rfl ⟨_, Try.underlying53, rfl⟩ rfl rfl false (fun h => by cases h)
theorem Z1g : TyOk Try.prog 54 ⟨.struct [(0, 3), (1, 25), (4, 25), (7, 50), (8, 51), (9, 3), (10, 52)], 11, 200, [.int .i64 0, .int .i64 0, .slice none 0 0, .slice none 0 0, .int .i64 0, .slice none 0 0, .slice none 0 0, .slice none 0 0, .slice none 0 0, .int .i64 0, .slice none 0 0], false⟩ := TyOk.of (P := Try.prog) (t := 54) (.struct [(0, 3), (1, 25), (4, 25), (7, 50), (8, 51), (9, 3), (10, 52)]) 11 200 [.int .i64 0, .int .i64 0, .slice none 0 0, .slice none 0 0, .int .i64 0, .slice none 0 0, .slice none 0 0, .slice none 0 0, .slice none 0 0, .int .i64 0, .slice none 0 0] (.agg #[.int .i64 0, .int .i64 0, .slice none 0 0, .slice none 0 0, .int .i64 0, .slice none 0 0, .slice none 0 0, .slice none 0 0, .slice none 0 0, .int .i64 0, .slice none 0 0]) (by kernel_rfl) rfl ⟨_, Try.underlying54, rfl⟩ rfl rfl false (fun h => by cases h)
theorem Z1h : TyOk Try.prog 61 ⟨.struct [(0, 3), (1, 54)], 12, 208, [.int .i64 0, .int .i64 0, .int .i64 0, .slice none 0 0, .slice none 0 0, .int .i64 0, .slice none 0 0, .slice none 0 0, .slice none 0 0, .slice none 0 0, .int .i64 0, .slice none 0 0], false⟩ := TyOk.of (P := Try.prog) (t := 61) (.struct [(0, 3), (1, 54)]) 12 208 [.int .i64 0, .int .i64 0, .int .i64 0, .slice none 0 0, .slice none 0 0, .int .i64 0, .slice none 0 0, .slice none 0 0, .slice none 0 0, .slice none 0 0, .int .i64 0, .slice none 0 0] (.agg #[.int .i64 0, .int .i64 0, .int .i64 0, .slice none 0 0, .slice none 0 0, .int .i64 0, .slice none 0 0, .slice none 0 0, .slice none 0 0, .slice none 0 0, .int .i64 0, .slice none 0 0]) (by kernel_rfl) rfl ⟨_, Try.underlying61, rfl⟩ rfl rfl false (fun h => by cases h)
theorem Z1i : TyOk Try.prog 62 ⟨.struct [(0, 3), (1, 54)], 12, 208, [.int .i64 0, .int .i64 0, .int .i64 0, .slice none 0 0, .slice none 0 0, .int .i64 0, .slice none 0 0, .slice none 0 0, .slice none 0 0, .slice none 0 0, .int .i64 0, .slice none 0 0], false⟩ := TyOk.of (P := Try.prog) (t := 62) (.struct [(0, 3), (1, 54)]) 12 208 [.int .i64 0, .int .i64 0, .int .i64 0, .slice none 0 0, .slice none 0 0, .int .i64 0, .slice none 0 0, .slice none 0 0, .slice none 0 0, .slice none 0 0, .int .i64 0, .slice none 0 0] (.agg #[.int .i64 0, .int .i64 0, .int .i64 0, .slice none 0 0, .slice none 0 0, .int .i64 0, .slice none 0 0, .slice none 0 0, .slice none 0 0, .slice none 0 0, .int .i64 0, .slice none 0 0]) (by kernel_rfl) rfl ⟨_, Try.underlying62, rfl⟩ rfl rfl false (fun h => by cases h)
theorem Z1j : TyOk Try.prog 63 ⟨.struct [(0, 3), (1, 3), (2, 23), (3, 54)], 14, 240, [.int .i64 0, .int .i64 0, .slice none 0 0, .int .i64 0, .int .i64 0, .slice none 0 0, .slice none 0 0, .int .i64 0, .slice none 0 0, .slice none 0 0, .slice none 0 0, .slice none 0 0, .int .i64 0, .slice none 0 0], false⟩ := TyOk.of (P := Try.prog) (t := 63) (.struct [(0, 3), (1, 3), (2, 23), (3, 54)]) 14 240 [.int .i64 0, .int .i64 0, .slice none 0 0, .int .i64 0, .int .i64 0, .slice none 0 0, .slice none 0 0, .int .i64 0, .slice none 0 0, .slice none 0 0, .slice none 0 0, .slice none 0 0, .int .i64 0, .slice none 0 0] (.agg #[.int .i64 0, .int .i64 0, .slice none 0 0, .int .i64 0, .int .i64 0, .slice none 0 0, .slice none 0 0, .int .i64 0, .slice none 0 0, .slice none 0 0, .slice none 0 0, .slice none 0 0, .int .i64 0, .slice none 0 0]) (by kernel_rfl) rfl ⟨_, Try.underlying63, rfl⟩ rfl rfl false (fun h => by cases h)
theorem Z1k : TyOk Try.prog 64 ⟨.struct [(0, 3), (1, 3), (2, 23), (3, 54)], 14, 240, [.int .i64 0, .int .i64 0, .slice none 0 0, .int .i64 0, .int .i64 0, .slice none 0 0, .slice none 0 0, .int .i64 0, .slice none 0 0, .slice none 0 0, .slice none 0 0, .slice none 0 0, .int .i64 0, .slice none 0 0], false⟩ := TyOk.of (P := Try.prog) (t := 64) (.struct [(0, 3), (1, 3), (2, 23), (3, 54)]) 14 240 [.int .i64 0, .int .i64 0, .slice none 0 0, .int .i64 0, .int .i64 0, .slice none 0 0, .slice none 0 0, .int .i64 0, .slice none 0 0, .slice none 0 0, .slice none 0 0, .slice none 0 0, .int .i64 0, .slice none 0 0] (.agg #[.int .i64 0, .int .i64 0, .slice none 0 0, .int .i64 0, .int .i64 0, .slice none 0 0, .slice none 0 0, .int .i64 0, .slice none 0 0, .slice none 0 0, .slice none 0 0, .slice none 0 0, .int .i64 0, .slice none 0 0]) (by kernel_rfl) rfl ⟨_, Try.underlying64, rfl⟩ rfl rfl false (fun h => by cases h)
theorem Z1l : TyOk Try.prog 71 ⟨.int .u64, 1, 8, [.int .u64 0], false⟩ := TyOk.of (P := Try.prog) (t := 71) (.int .u64) 1 8 [.int .u64 0] (.int .u64 0) (by kernel_rfl) rfl Try.underlying71 rfl rfl false (fun h => by cases h)
theorem Z1m : TyOk Try.prog 77 ⟨.struct [(0, 3), (1, 3)], 2, 16, [.int .i64 0, .int .i64 0], true⟩ := TyOk.of (P := Try.prog) (t := 77) (.struct [(0, 3), (1, 3)]) 2 16 [.int .i64 0, .int .i64 0] (.agg #[.int .i64 0, .int .i64 0]) (by kernel_rfl) rfl ⟨_, Try.underlying77, rfl⟩ rfl rfl true (fun _ => by unfold Ztf; exact ⟨by kernel_rfl, by kernel_rfl, by kernel_rfl⟩)
theorem Z1n : TyOk Try.prog 78 ⟨.slice 3, 1, 24, [.slice none 0 0], false⟩ := TyOk.of (P := Try.prog) (t := 78) (.slice 3) 1 24 [.slice none 0 0] (.slice none 0 0) (by kernel_rfl) rfl Try.underlying78 rfl rfl false (fun h => by cases h)
theorem Z1o : TyOk Try.prog 82 ⟨.slice 86, 1, 24, [.slice none 0 0], false⟩ := TyOk.of (P := Try.prog) (t := 82) (.slice 86) 1 24 [.slice none 0 0] (.slice none 0 0) (by kernel_rfl) rfl Try.underlying82 rfl rfl false (fun h => by cases h)
theorem Z1p : TyOk Try.prog 84 ⟨.slice 78, 1, 24, [.slice none 0 0], false⟩ := TyOk.of (P := Try.prog) (t := 84) (.slice 78) 1 24 [.slice none 0 0] (.slice none 0 0) (by kernel_rfl) rfl Try.underlying84 rfl rfl false (fun h => by cases h)
theorem Z1q : TyOk Try.prog 85 ⟨.struct [(0, 3), (1, 3)], 2, 16, [.int .i64 0, .int .i64 0], false⟩ := TyOk.of (P := Try.prog) (t := 85) (.struct [(0, 3), (1, 3)]) 2 16 [.int .i64 0, .int .i64 0] (.agg #[.int .i64 0, .int .i64 0]) (by kernel_rfl) rfl ⟨_, Try.underlying85, rfl⟩ rfl rfl false (fun h => by cases h)
theorem Z1r : TyOk Try.prog 86 ⟨.struct [(0, 3), (1, 3)], 2, 16, [.int .i64 0, .int .i64 0], true⟩ := TyOk.of (P := Try.prog) (t := 86) (.struct [(0, 3), (1, 3)]) 2 16 [.int .i64 0, .int .i64 0] (.agg #[.int .i64 0, .int .i64 0]) (by kernel_rfl) rfl ⟨_, Try.underlying86, rfl⟩ rfl rfl true (fun _ => by unfold Ztf; exact ⟨by kernel_rfl, by kernel_rfl, by kernel_rfl⟩)
theorem Z1s : TyOk Try.prog 90 ⟨.struct [(0, 3), (1, 5), (2, 71), (3, 71)], 4, 32, [.int .i64 0, .int .u8 0, .int .u64 0, .int .u64 0], false⟩ := TyOk.of (P := Try.prog) (t := 90) (.struct [(0, 3), (1, 5), (2, 71), (3, 71)]) 4 32 [.int .i64 0, .int .u8 0, .int .u64 0, .int .u64 0] (.agg #[.int .i64 0, .int .u8 0, .int .u64 0, .int .u64 0]) (by kernel_rfl) rfl ⟨_, Try.underlying90, rfl⟩ rfl rfl false (fun h => by cases h)
theorem Z1t : TyOk Try.prog 91 ⟨.struct [(0, 3), (1, 5), (2, 71), (3, 71)], 4, 32, [.int .i64 0, .int .u8 0, .int .u64 0, .int .u64 0], true⟩ := TyOk.of (P := Try.prog) (t := 91) (.struct [(0, 3), (1, 5), (2, 71), (3, 71)]) 4 32 [.int .i64 0, .int .u8 0, .int .u64 0, .int .u64 0] (.agg #[.int .i64 0, .int .u8 0, .int .u64 0, .int .u64 0]) (by kernel_rfl) rfl ⟨_, Try.underlying91, rfl⟩ rfl rfl true (fun _ => by unfold Ztf; exact ⟨by kernel_rfl, by kernel_rfl, by kernel_rfl⟩)
theorem Zzy : TyOk Try.prog 104 ⟨.slice 111, 1, 24, [.slice none 0 0], false⟩ := TyOk.of (P := Try.prog) (t := 104) (.slice 111) 1 24 [.slice none 0 0] (.slice none 0 0) (by kernel_rfl) rfl Try.underlying104 rfl rfl false (fun h => by cases h)
theorem Zzz : TyOk Try.prog 105 ⟨.slice 111, 1, 24, [.slice none 0 0], false⟩ := TyOk.of (P := Try.prog) (t := 105) (.slice 111) 1 24 [.slice none 0 0] (.slice none 0 0) (by kernel_rfl) rfl Try.underlying105 rfl rfl false (fun h => by cases h)
theorem Zz0 : TyOk Try.prog 108 ⟨.ptr 105, 1, 8, [.pointer none], false⟩ := TyOk.of (P := Try.prog) (t := 108) (.ptr 105) 1 8 [.pointer none] (.pointer none) (by kernel_rfl) rfl Try.underlying108 rfl rfl false (fun h => by cases h)
theorem Zz1 : TyOk Try.prog 110 ⟨.struct [(0, 86), (2, 3)], 3, 24, [.int .i64 0, .int .i64 0, .int .i64 0], false⟩ := TyOk.of (P := Try.prog) (t := 110) (.struct [(0, 86), (2, 3)]) 3 24 [.int .i64 0, .int .i64 0, .int .i64 0] (.agg #[.int .i64 0, .int .i64 0, .int .i64 0]) (by kernel_rfl) rfl ⟨_, Try.underlying110, rfl⟩ rfl rfl false (fun h => by cases h)
theorem Zz2 : TyOk Try.prog 111 ⟨.struct [(0, 86), (2, 3)], 3, 24, [.int .i64 0, .int .i64 0, .int .i64 0], true⟩ := TyOk.of (P := Try.prog) (t := 111) (.struct [(0, 86), (2, 3)]) 3 24 [.int .i64 0, .int .i64 0, .int .i64 0] (.agg #[.int .i64 0, .int .i64 0, .int .i64 0]) (by kernel_rfl) rfl ⟨_, Try.underlying111, rfl⟩ rfl rfl true (fun _ => by unfold Ztf; exact ⟨by kernel_rfl, by kernel_rfl, by kernel_rfl⟩)
theorem Zz3 : TyOk Try.prog 132 ⟨.int .u64, 1, 8, [.int .u64 0], false⟩ := TyOk.of (P := Try.prog) (t := 132) (.int .u64) 1 8 [.int .u64 0] (.int .u64 0) (by kernel_rfl) rfl Try.underlying132 rfl rfl false (fun h => by cases h)
theorem Zz4 : TyOk Try.prog 134 ⟨.arr 8 5, 8, 8, [.int .u8 0, .int .u8 0, .int .u8 0, .int .u8 0, .int .u8 0, .int .u8 0, .int .u8 0, .int .u8 0], false⟩ := TyOk.of (P := Try.prog) (t := 134) (.arr 8 5) 8 8 [.int .u8 0, .int .u8 0, .int .u8 0, .int .u8 0, .int .u8 0, .int .u8 0, .int .u8 0, .int .u8 0] (.agg #[.int .u8 0, .int .u8 0, .int .u8 0, .int .u8 0, .int .u8 0, .int .u8 0, .int .u8 0, .int .u8 0]) (by kernel_rfl) rfl Try.underlying134 rfl rfl false (fun h => by cases h)
theorem Zz5 : TyOk Try.prog 138 ⟨.slice 5, 1, 24, [.slice none 0 0], false⟩ := TyOk.of (P := Try.prog) (t := 138) (.slice 5) 1 24 [.slice none 0 0] (.slice none 0 0) (by kernel_rfl) rfl Try.underlying138 rfl rfl false (fun h => by cases h)
theorem Zz6 : TyOk Try.prog 140 ⟨.ptr 25, 1, 8, [.pointer none], false⟩ := TyOk.of (P := Try.prog) (t := 140) (.ptr 25) 1 8 [.pointer none] (.pointer none) (by kernel_rfl) rfl Try.underlying140 rfl rfl false (fun h => by cases h)
theorem Zz7 : TyOk Try.prog 142 ⟨.struct [(0, 23), (1, 23)], 2, 48, [.slice none 0 0, .slice none 0 0], false⟩ := TyOk.of (P := Try.prog) (t := 142) (.struct [(0, 23), (1, 23)]) 2 48 [.slice none 0 0, .slice none 0 0] (.agg #[.slice none 0 0, .slice none 0 0]) (by kernel_rfl) rfl ⟨_, Try.underlying142, rfl⟩ rfl rfl false (fun h => by cases h)
theorem Zz8 : TyOk Try.prog 143 ⟨.struct [(0, 23), (1, 23)], 2, 48, [.slice none 0 0, .slice none 0 0], false⟩ := TyOk.of (P := Try.prog) (t := 143) (.struct [(0, 23), (1, 23)]) 2 48 [.slice none 0 0, .slice none 0 0] (.agg #[.slice none 0 0, .slice none 0 0]) (by kernel_rfl) rfl ⟨_, Try.underlying143, rfl⟩ rfl rfl false (fun h => by cases h)
theorem Zz9 : TyOk Try.prog 149 ⟨.int .i64, 1, 8, [.int .i64 0], false⟩ := TyOk.of (P := Try.prog) (t := 149) (.int .i64) 1 8 [.int .i64 0] (.int .i64 0) (by kernel_rfl) rfl Try.underlying149 rfl rfl false (fun h => by cases h)
theorem Z0a : TyOk Try.prog 156 ⟨.int .u32, 1, 4, [.int .u32 0], false⟩ := TyOk.of (P := Try.prog) (t := 156) (.int .u32) 1 4 [.int .u32 0] (.int .u32 0) (by kernel_rfl) rfl Try.underlying156 rfl rfl false (fun h => by cases h)
theorem Z0b : TyOk Try.prog 159 ⟨.ptr 143, 1, 8, [.pointer none], false⟩ := TyOk.of (P := Try.prog) (t := 159) (.ptr 143) 1 8 [.pointer none] (.pointer none) (by kernel_rfl) rfl Try.underlying159 rfl rfl false (fun h => by cases h)
theorem Z0c : TyOk Try.prog 160 ⟨.arr 6 3, 6, 48, [.int .i64 0, .int .i64 0, .int .i64 0, .int .i64 0, .int .i64 0, .int .i64 0], false⟩ := TyOk.of (P := Try.prog) (t := 160) (.arr 6 3) 6 48 [.int .i64 0, .int .i64 0, .int .i64 0, .int .i64 0, .int .i64 0, .int .i64 0] (.agg #[.int .i64 0, .int .i64 0, .int .i64 0, .int .i64 0, .int .i64 0, .int .i64 0]) (by kernel_rfl) rfl Try.underlying160 rfl rfl false (fun h => by cases h)
theorem Z0d : TyOk Try.prog 161 ⟨.int .u64, 1, 8, [.int .u64 0], false⟩ := TyOk.of (P := Try.prog) (t := 161) (.int .u64) 1 8 [.int .u64 0] (.int .u64 0) (by kernel_rfl) rfl Try.underlying161 rfl rfl false (fun h => by cases h)
theorem Z0e : TyOk Try.prog 165 ⟨.ptr 3, 1, 8, [.pointer none], false⟩ := TyOk.of (P := Try.prog) (t := 165) (.ptr 3) 1 8 [.pointer none] (.pointer none) (by kernel_rfl) rfl Try.underlying165 rfl rfl false (fun h => by cases h)
theorem Z0f : TyOk Try.prog 167 ⟨.ptr 161, 1, 8, [.pointer none], false⟩ := TyOk.of (P := Try.prog) (t := 167) (.ptr 161) 1 8 [.pointer none] (.pointer none) (by kernel_rfl) rfl Try.underlying167 rfl rfl false (fun h => by cases h)
theorem Z0g : TyOk Try.prog 170 ⟨.struct [(0, 17), (1, 17), (2, 17), (3, 9)], 4, 40, [.pointer none, .pointer none, .pointer none, .string ByteArray.empty], false⟩ := TyOk.of (P := Try.prog) (t := 170) (.struct [(0, 17), (1, 17), (2, 17), (3, 9)]) 4 40 [.pointer none, .pointer none, .pointer none, .string ByteArray.empty] (.agg #[.pointer none, .pointer none, .pointer none, .string ByteArray.empty]) (by kernel_rfl) rfl ⟨_, Try.underlying170, rfl⟩ rfl rfl false (fun h => by cases h)
theorem Z0h : TyOk Try.prog 171 ⟨.struct [(0, 17), (1, 17), (2, 17), (3, 9)], 4, 40, [.pointer none, .pointer none, .pointer none, .string ByteArray.empty], false⟩ := TyOk.of (P := Try.prog) (t := 171) (.struct [(0, 17), (1, 17), (2, 17), (3, 9)]) 4 40 [.pointer none, .pointer none, .pointer none, .string ByteArray.empty] (.agg #[.pointer none, .pointer none, .pointer none, .string ByteArray.empty]) (by kernel_rfl) rfl ⟨_, Try.underlying171, rfl⟩ rfl rfl false (fun h => by cases h)
theorem Z0i : TyOk Try.prog 175 ⟨.int .u8, 1, 1, [.int .u8 0], false⟩ := TyOk.of (P := Try.prog) (t := 175) (.int .u8) 1 1 [.int .u8 0] (.int .u8 0) (by kernel_rfl) rfl Try.underlying175 rfl rfl false (fun h => by cases h)
theorem Z0j : TyOk Try.prog 176 ⟨.int .u8, 1, 1, [.int .u8 0], false⟩ := TyOk.of (P := Try.prog) (t := 176) (.int .u8) 1 1 [.int .u8 0] (.int .u8 0) (by kernel_rfl) rfl Try.underlying176 rfl rfl false (fun h => by cases h)
theorem Z0k : TyOk Try.prog 178 ⟨.ptr 5, 1, 8, [.pointer none], false⟩ := TyOk.of (P := Try.prog) (t := 178) (.ptr 5) 1 8 [.pointer none] (.pointer none) (by kernel_rfl) rfl Try.underlying178 rfl rfl false (fun h => by cases h)
theorem Z0l : TyOk Try.prog 179 ⟨.int .i32, 1, 4, [.int .i32 0], false⟩ := TyOk.of (P := Try.prog) (t := 179) (.int .i32) 1 4 [.int .i32 0] (.int .i32 0) (by kernel_rfl) rfl Try.underlying179 rfl rfl false (fun h => by cases h)
theorem Z0m : TyOk Try.prog 180 ⟨.int .i32, 1, 4, [.int .i32 0], false⟩ := TyOk.of (P := Try.prog) (t := 180) (.int .i32) 1 4 [.int .i32 0] (.int .i32 0) (by kernel_rfl) rfl Try.underlying180 rfl rfl false (fun h => by cases h)
def tabL : List (Nat × TyI) := [(2, ⟨.int .i64, 1, 8, [.int .i64 0], false⟩),
 (3, ⟨.int .i64, 1, 8, [.int .i64 0], false⟩),
 (4, ⟨.bool, 1, 1, [.bool false], false⟩),
 (5, ⟨.int .u8, 1, 1, [.int .u8 0], false⟩),
 (6, ⟨.int .u8, 1, 1, [.int .u8 0], false⟩),
 (7, ⟨.struct [(0, 2), (1, 3), (2, 4), (3, 6)], 4, 24, [.int .i64 0, .int .i64 0, .bool false, .int .u8 0], false⟩),
 (8, ⟨.struct [(0, 2), (1, 3), (2, 4), (3, 6)], 4, 24, [.int .i64 0, .int .i64 0, .bool false, .int .u8 0], false⟩),
 (9, ⟨.str, 1, 16, [.string ByteArray.empty], false⟩),
 (10, ⟨.str, 1, 16, [.string ByteArray.empty], false⟩),
 (11, ⟨.str, 1, 16, [.string ByteArray.empty], false⟩),
 (12, ⟨.int .u64, 1, 8, [.int .u64 0], false⟩),
 (13, ⟨.struct [(0, 9), (1, 12)], 2, 24, [.string ByteArray.empty, .int .u64 0], false⟩),
 (14, ⟨.struct [(0, 9), (1, 12)], 2, 24, [.string ByteArray.empty, .int .u64 0], false⟩),
 (15, ⟨.ptr 171, 1, 8, [.pointer none], false⟩),
 (16, ⟨.ptr 174, 1, 8, [.pointer none], false⟩),
 (17, ⟨.ptr 182, 1, 8, [.pointer none], false⟩),
 (18, ⟨.struct [(0, 17)], 1, 8, [.pointer none], false⟩),
 (19, ⟨.struct [(0, 17)], 1, 8, [.pointer none], false⟩),
 (21, ⟨.int .i32, 1, 4, [.int .i32 0], false⟩),
 (22, ⟨.slice 71, 1, 24, [.slice none 0 0], false⟩),
 (23, ⟨.slice 25, 1, 24, [.slice none 0 0], false⟩),
 (24, ⟨.struct [(0, 3), (1, 22), (2, 23)], 3, 56, [.int .i64 0, .slice none 0 0, .slice none 0 0], false⟩),
 (25, ⟨.struct [(0, 3), (1, 22), (2, 23)], 3, 56, [.int .i64 0, .slice none 0 0, .slice none 0 0], false⟩),
 (33, ⟨.slice 43, 1, 24, [.slice none 0 0], false⟩),
 (35, ⟨.slice 77, 1, 24, [.slice none 0 0], false⟩),
 (40, ⟨.arr 3 3, 3, 24, [.int .i64 0, .int .i64 0, .int .i64 0], false⟩),
 (42, ⟨.struct [(0, 3), (1, 3)], 2, 16, [.int .i64 0, .int .i64 0], false⟩),
 (43, ⟨.struct [(0, 3), (1, 3)], 2, 16, [.int .i64 0, .int .i64 0], true⟩),
 (50, ⟨.slice 91, 1, 24, [.slice none 0 0], false⟩),
 (51, ⟨.slice 62, 1, 24, [.slice none 0 0], false⟩),
 (52, ⟨.slice 64, 1, 24, [.slice none 0 0], false⟩),
 (53, ⟨.struct [(0, 3), (1, 25), (4, 25), (7, 50), (8, 51), (9, 3), (10, 52)], 11, 200, [.int .i64 0, .int .i64 0, .slice none 0 0, .slice none 0 0, .int .i64 0, .slice none 0 0, .slice none 0 0, .slice none 0 0, .slice none 0 0, .int .i64 0, .slice none 0 0], false⟩),
 (54, ⟨.struct [(0, 3), (1, 25), (4, 25), (7, 50), (8, 51), (9, 3), (10, 52)], 11, 200, [.int .i64 0, .int .i64 0, .slice none 0 0, .slice none 0 0, .int .i64 0, .slice none 0 0, .slice none 0 0, .slice none 0 0, .slice none 0 0, .int .i64 0, .slice none 0 0], false⟩),
 (61, ⟨.struct [(0, 3), (1, 54)], 12, 208, [.int .i64 0, .int .i64 0, .int .i64 0, .slice none 0 0, .slice none 0 0, .int .i64 0, .slice none 0 0, .slice none 0 0, .slice none 0 0, .slice none 0 0, .int .i64 0, .slice none 0 0], false⟩),
 (62, ⟨.struct [(0, 3), (1, 54)], 12, 208, [.int .i64 0, .int .i64 0, .int .i64 0, .slice none 0 0, .slice none 0 0, .int .i64 0, .slice none 0 0, .slice none 0 0, .slice none 0 0, .slice none 0 0, .int .i64 0, .slice none 0 0], false⟩),
 (63, ⟨.struct [(0, 3), (1, 3), (2, 23), (3, 54)], 14, 240, [.int .i64 0, .int .i64 0, .slice none 0 0, .int .i64 0, .int .i64 0, .slice none 0 0, .slice none 0 0, .int .i64 0, .slice none 0 0, .slice none 0 0, .slice none 0 0, .slice none 0 0, .int .i64 0, .slice none 0 0], false⟩),
 (64, ⟨.struct [(0, 3), (1, 3), (2, 23), (3, 54)], 14, 240, [.int .i64 0, .int .i64 0, .slice none 0 0, .int .i64 0, .int .i64 0, .slice none 0 0, .slice none 0 0, .int .i64 0, .slice none 0 0, .slice none 0 0, .slice none 0 0, .slice none 0 0, .int .i64 0, .slice none 0 0], false⟩),
 (71, ⟨.int .u64, 1, 8, [.int .u64 0], false⟩),
 (77, ⟨.struct [(0, 3), (1, 3)], 2, 16, [.int .i64 0, .int .i64 0], true⟩),
 (78, ⟨.slice 3, 1, 24, [.slice none 0 0], false⟩),
 (82, ⟨.slice 86, 1, 24, [.slice none 0 0], false⟩),
 (84, ⟨.slice 78, 1, 24, [.slice none 0 0], false⟩),
 (85, ⟨.struct [(0, 3), (1, 3)], 2, 16, [.int .i64 0, .int .i64 0], false⟩),
 (86, ⟨.struct [(0, 3), (1, 3)], 2, 16, [.int .i64 0, .int .i64 0], true⟩),
 (90, ⟨.struct [(0, 3), (1, 5), (2, 71), (3, 71)], 4, 32, [.int .i64 0, .int .u8 0, .int .u64 0, .int .u64 0], false⟩),
 (91, ⟨.struct [(0, 3), (1, 5), (2, 71), (3, 71)], 4, 32, [.int .i64 0, .int .u8 0, .int .u64 0, .int .u64 0], true⟩),
 (104, ⟨.slice 111, 1, 24, [.slice none 0 0], false⟩),
 (105, ⟨.slice 111, 1, 24, [.slice none 0 0], false⟩),
 (108, ⟨.ptr 105, 1, 8, [.pointer none], false⟩),
 (110, ⟨.struct [(0, 86), (2, 3)], 3, 24, [.int .i64 0, .int .i64 0, .int .i64 0], false⟩),
 (111, ⟨.struct [(0, 86), (2, 3)], 3, 24, [.int .i64 0, .int .i64 0, .int .i64 0], true⟩),
 (132, ⟨.int .u64, 1, 8, [.int .u64 0], false⟩),
 (134, ⟨.arr 8 5, 8, 8, [.int .u8 0, .int .u8 0, .int .u8 0, .int .u8 0, .int .u8 0, .int .u8 0, .int .u8 0, .int .u8 0], false⟩),
 (138, ⟨.slice 5, 1, 24, [.slice none 0 0], false⟩),
 (140, ⟨.ptr 25, 1, 8, [.pointer none], false⟩),
 (142, ⟨.struct [(0, 23), (1, 23)], 2, 48, [.slice none 0 0, .slice none 0 0], false⟩),
 (143, ⟨.struct [(0, 23), (1, 23)], 2, 48, [.slice none 0 0, .slice none 0 0], false⟩),
 (149, ⟨.int .i64, 1, 8, [.int .i64 0], false⟩),
 (156, ⟨.int .u32, 1, 4, [.int .u32 0], false⟩),
 (159, ⟨.ptr 143, 1, 8, [.pointer none], false⟩),
 (160, ⟨.arr 6 3, 6, 48, [.int .i64 0, .int .i64 0, .int .i64 0, .int .i64 0, .int .i64 0, .int .i64 0], false⟩),
 (161, ⟨.int .u64, 1, 8, [.int .u64 0], false⟩),
 (165, ⟨.ptr 3, 1, 8, [.pointer none], false⟩),
 (167, ⟨.ptr 161, 1, 8, [.pointer none], false⟩),
 (170, ⟨.struct [(0, 17), (1, 17), (2, 17), (3, 9)], 4, 40, [.pointer none, .pointer none, .pointer none, .string ByteArray.empty], false⟩),
 (171, ⟨.struct [(0, 17), (1, 17), (2, 17), (3, 9)], 4, 40, [.pointer none, .pointer none, .pointer none, .string ByteArray.empty], false⟩),
 (175, ⟨.int .u8, 1, 1, [.int .u8 0], false⟩),
 (176, ⟨.int .u8, 1, 1, [.int .u8 0], false⟩),
 (178, ⟨.ptr 5, 1, 8, [.pointer none], false⟩),
 (179, ⟨.int .i32, 1, 4, [.int .i32 0], false⟩),
 (180, ⟨.int .i32, 1, 4, [.int .i32 0], false⟩)]
def Y9 : Qj := fun t => tabL.lookup t
theorem Zf : Xf Try.prog Y9 := fun t i h => by
 have hm := Zmr _ h
 unfold tabL at hm
 simp only [List.mem_cons, Prod.mk.injEq, List.not_mem_nil, or_false] at hm
 rcases hm with ⟨rfl, rfl⟩ | ⟨rfl, rfl⟩ | ⟨rfl, rfl⟩ | ⟨rfl, rfl⟩ | ⟨rfl, rfl⟩ | ⟨rfl, rfl⟩ | ⟨rfl, rfl⟩ | ⟨rfl, rfl⟩ | ⟨rfl, rfl⟩ | ⟨rfl, rfl⟩ | ⟨rfl, rfl⟩ | ⟨rfl, rfl⟩ | ⟨rfl, rfl⟩ | ⟨rfl, rfl⟩ | ⟨rfl, rfl⟩ | ⟨rfl, rfl⟩ | ⟨rfl, rfl⟩ | ⟨rfl, rfl⟩ | ⟨rfl, rfl⟩ | ⟨rfl, rfl⟩ | ⟨rfl, rfl⟩ | ⟨rfl, rfl⟩ | ⟨rfl, rfl⟩ | ⟨rfl, rfl⟩ | ⟨rfl, rfl⟩ | ⟨rfl, rfl⟩ | ⟨rfl, rfl⟩ | ⟨rfl, rfl⟩ | ⟨rfl, rfl⟩ | ⟨rfl, rfl⟩ | ⟨rfl, rfl⟩ | ⟨rfl, rfl⟩ | ⟨rfl, rfl⟩ | ⟨rfl, rfl⟩ | ⟨rfl, rfl⟩ | ⟨rfl, rfl⟩ | ⟨rfl, rfl⟩ | ⟨rfl, rfl⟩ | ⟨rfl, rfl⟩ | ⟨rfl, rfl⟩ | ⟨rfl, rfl⟩ | ⟨rfl, rfl⟩ | ⟨rfl, rfl⟩ | ⟨rfl, rfl⟩ | ⟨rfl, rfl⟩ | ⟨rfl, rfl⟩ | ⟨rfl, rfl⟩ | ⟨rfl, rfl⟩ | ⟨rfl, rfl⟩ | ⟨rfl, rfl⟩ | ⟨rfl, rfl⟩ | ⟨rfl, rfl⟩ | ⟨rfl, rfl⟩ | ⟨rfl, rfl⟩ | ⟨rfl, rfl⟩ | ⟨rfl, rfl⟩ | ⟨rfl, rfl⟩ | ⟨rfl, rfl⟩ | ⟨rfl, rfl⟩ | ⟨rfl, rfl⟩ | ⟨rfl, rfl⟩ | ⟨rfl, rfl⟩ | ⟨rfl, rfl⟩ | ⟨rfl, rfl⟩ | ⟨rfl, rfl⟩ | ⟨rfl, rfl⟩ | ⟨rfl, rfl⟩ | ⟨rfl, rfl⟩ | ⟨rfl, rfl⟩ | ⟨rfl, rfl⟩ | ⟨rfl, rfl⟩
 ·exact ty2
 ·exact ty3
 ·exact ty4
 ·exact ty5
 ·exact ty6
 ·exact ty7
 ·exact ty8
 ·exact ty9
 ·exact Z0s
 ·exact Z0t
 ·exact Z0u
 ·exact Z0v
 ·exact Z0w
 ·exact Z0x
 ·exact Z0y
 ·exact Z0z
 ·exact Z00
 ·exact Z01
 ·exact Z02
 ·exact Z03
 ·exact Z04
 ·exact Z05
 ·exact Z06
 ·exact Z07
 ·exact Z08
 ·exact Z09
 ·exact Z1a
 ·exact Z1b
 ·exact Z1c
 ·exact Z1d
 ·exact Z1e
 ·exact Z1f
 ·exact Z1g
 ·exact Z1h
 ·exact Z1i
 ·exact Z1j
 ·exact Z1k
 ·exact Z1l
 ·exact Z1m
 ·exact Z1n
 ·exact Z1o
 ·exact Z1p
 ·exact Z1q
 ·exact Z1r
 ·exact Z1s
 ·exact Z1t
 ·exact Zzy
 ·exact Zzz
 ·exact Zz0
 ·exact Zz1
 ·exact Zz2
 ·exact Zz3
 ·exact Zz4
 ·exact Zz5
 ·exact Zz6
 ·exact Zz7
 ·exact Zz8
 ·exact Zz9
 ·exact Z0a
 ·exact Z0b
 ·exact Z0c
 ·exact Z0d
 ·exact Z0e
 ·exact Z0f
 ·exact Z0g
 ·exact Z0h
 ·exact Z0i
 ·exact Z0j
 ·exact Z0k
 ·exact Z0l
 exact Z0m
theorem Zxn : Y9 2 = some ⟨.int .i64, 1, 8, [.int .i64 0], false⟩ := rfl
theorem Zvx : Y9 3 = some ⟨.int .i64, 1, 8, [.int .i64 0], false⟩ := rfl
theorem Zxo : Y9 4 = some ⟨.bool, 1, 1, [.bool false], false⟩ := rfl
theorem Zxp : Y9 5 = some ⟨.int .u8, 1, 1, [.int .u8 0], false⟩ := rfl
theorem Zxq : Y9 6 = some ⟨.int .u8, 1, 1, [.int .u8 0], false⟩ := rfl
theorem Zxr : Y9 7 = some ⟨.struct [(0, 2), (1, 3), (2, 4), (3, 6)], 4, 24, [.int .i64 0, .int .i64 0, .bool false, .int .u8 0], false⟩ := rfl
theorem Zxs : Y9 8 = some ⟨.struct [(0, 2), (1, 3), (2, 4), (3, 6)], 4, 24, [.int .i64 0, .int .i64 0, .bool false, .int .u8 0], false⟩ := rfl
theorem Zxt : Y9 9 = some ⟨.str, 1, 16, [.string ByteArray.empty], false⟩ := rfl
theorem Zr7 : Y9 10 = some ⟨.str, 1, 16, [.string ByteArray.empty], false⟩ := rfl
theorem Zr8 : Y9 11 = some ⟨.str, 1, 16, [.string ByteArray.empty], false⟩ := rfl
theorem Zr9 : Y9 12 = some ⟨.int .u64, 1, 8, [.int .u64 0], false⟩ := rfl
theorem Zsa : Y9 13 = some ⟨.struct [(0, 9), (1, 12)], 2, 24, [.string ByteArray.empty, .int .u64 0], false⟩ := rfl
theorem Zsb : Y9 14 = some ⟨.struct [(0, 9), (1, 12)], 2, 24, [.string ByteArray.empty, .int .u64 0], false⟩ := rfl
theorem Zsc : Y9 15 = some ⟨.ptr 171, 1, 8, [.pointer none], false⟩ := rfl
theorem Zsd : Y9 16 = some ⟨.ptr 174, 1, 8, [.pointer none], false⟩ := rfl
theorem Zse : Y9 17 = some ⟨.ptr 182, 1, 8, [.pointer none], false⟩ := rfl
theorem Zsf : Y9 18 = some ⟨.struct [(0, 17)], 1, 8, [.pointer none], false⟩ := rfl
theorem Zsg : Y9 19 = some ⟨.struct [(0, 17)], 1, 8, [.pointer none], false⟩ := rfl
theorem Zsh : Y9 21 = some ⟨.int .i32, 1, 4, [.int .i32 0], false⟩ := rfl
theorem Zsi : Y9 22 = some ⟨.slice 71, 1, 24, [.slice none 0 0], false⟩ := rfl
theorem Zsj : Y9 23 = some ⟨.slice 25, 1, 24, [.slice none 0 0], false⟩ := rfl
theorem Zsk : Y9 24 = some ⟨.struct [(0, 3), (1, 22), (2, 23)], 3, 56, [.int .i64 0, .slice none 0 0, .slice none 0 0], false⟩ := rfl
theorem Va : Y9 25 = some ⟨.struct [(0, 3), (1, 22), (2, 23)], 3, 56, [.int .i64 0, .slice none 0 0, .slice none 0 0], false⟩ := rfl
theorem Zsl : Y9 33 = some ⟨.slice 43, 1, 24, [.slice none 0 0], false⟩ := rfl
theorem Zsm : Y9 35 = some ⟨.slice 77, 1, 24, [.slice none 0 0], false⟩ := rfl
theorem Zsn : Y9 40 = some ⟨.arr 3 3, 3, 24, [.int .i64 0, .int .i64 0, .int .i64 0], false⟩ := rfl
theorem Zso : Y9 42 = some ⟨.struct [(0, 3), (1, 3)], 2, 16, [.int .i64 0, .int .i64 0], false⟩ := rfl
theorem Zsp : Y9 43 = some ⟨.struct [(0, 3), (1, 3)], 2, 16, [.int .i64 0, .int .i64 0], true⟩ := rfl
theorem Zsq : Y9 50 = some ⟨.slice 91, 1, 24, [.slice none 0 0], false⟩ := rfl
theorem Zsr : Y9 51 = some ⟨.slice 62, 1, 24, [.slice none 0 0], false⟩ := rfl
theorem Zss : Y9 52 = some ⟨.slice 64, 1, 24, [.slice none 0 0], false⟩ := rfl
theorem Zst : Y9 53 = some ⟨.struct [(0, 3), (1, 25), (4, 25), (7, 50), (8, 51), (9, 3), (10, 52)], 11, 200, [.int .i64 0, .int .i64 0, .slice none 0 0, .slice none 0 0, .int .i64 0, .slice none 0 0, .slice none 0 0, .slice none 0 0, .slice none 0 0, .int .i64 0, .slice none 0 0], false⟩ := rfl
theorem Zsu : Y9 54 = some ⟨.struct [(0, 3), (1, 25), (4, 25), (7, 50), (8, 51), (9, 3), (10, 52)], 11, 200, [.int .i64 0, .int .i64 0, .slice none 0 0, .slice none 0 0, .int .i64 0, .slice none 0 0, .slice none 0 0, .slice none 0 0, .slice none 0 0, .int .i64 0, .slice none 0 0], false⟩ := rfl
theorem Zsv : Y9 61 = some ⟨.struct [(0, 3), (1, 54)], 12, 208, [.int .i64 0, .int .i64 0, .int .i64 0, .slice none 0 0, .slice none 0 0, .int .i64 0, .slice none 0 0, .slice none 0 0, .slice none 0 0, .slice none 0 0, .int .i64 0, .slice none 0 0], false⟩ := rfl
theorem Zpk : Y9 62 = some ⟨.struct [(0, 3), (1, 54)], 12, 208, [.int .i64 0, .int .i64 0, .int .i64 0, .slice none 0 0, .slice none 0 0, .int .i64 0, .slice none 0 0, .slice none 0 0, .slice none 0 0, .slice none 0 0, .int .i64 0, .slice none 0 0], false⟩ := rfl
theorem Zsw : Y9 63 = some ⟨.struct [(0, 3), (1, 3), (2, 23), (3, 54)], 14, 240, [.int .i64 0, .int .i64 0, .slice none 0 0, .int .i64 0, .int .i64 0, .slice none 0 0, .slice none 0 0, .int .i64 0, .slice none 0 0, .slice none 0 0, .slice none 0 0, .slice none 0 0, .int .i64 0, .slice none 0 0], false⟩ := rfl
theorem Zpl : Y9 64 = some ⟨.struct [(0, 3), (1, 3), (2, 23), (3, 54)], 14, 240, [.int .i64 0, .int .i64 0, .slice none 0 0, .int .i64 0, .int .i64 0, .slice none 0 0, .slice none 0 0, .int .i64 0, .slice none 0 0, .slice none 0 0, .slice none 0 0, .slice none 0 0, .int .i64 0, .slice none 0 0], false⟩ := rfl
theorem Gn : Y9 71 = some ⟨.int .u64, 1, 8, [.int .u64 0], false⟩ := rfl
theorem Zsx : Y9 77 = some ⟨.struct [(0, 3), (1, 3)], 2, 16, [.int .i64 0, .int .i64 0], true⟩ := rfl
theorem Zsy : Y9 78 = some ⟨.slice 3, 1, 24, [.slice none 0 0], false⟩ := rfl
theorem Zsz : Y9 82 = some ⟨.slice 86, 1, 24, [.slice none 0 0], false⟩ := rfl
theorem Zs0 : Y9 84 = some ⟨.slice 78, 1, 24, [.slice none 0 0], false⟩ := rfl
theorem Zs1 : Y9 85 = some ⟨.struct [(0, 3), (1, 3)], 2, 16, [.int .i64 0, .int .i64 0], false⟩ := rfl
theorem Zs2 : Y9 86 = some ⟨.struct [(0, 3), (1, 3)], 2, 16, [.int .i64 0, .int .i64 0], true⟩ := rfl
theorem Zs3 : Y9 90 = some ⟨.struct [(0, 3), (1, 5), (2, 71), (3, 71)], 4, 32, [.int .i64 0, .int .u8 0, .int .u64 0, .int .u64 0], false⟩ := rfl
theorem Zpm : Y9 91 = some ⟨.struct [(0, 3), (1, 5), (2, 71), (3, 71)], 4, 32, [.int .i64 0, .int .u8 0, .int .u64 0, .int .u64 0], true⟩ := rfl
theorem Zne : Y9 104 = some ⟨.slice 111, 1, 24, [.slice none 0 0], false⟩ := rfl
theorem Znf : Y9 105 = some ⟨.slice 111, 1, 24, [.slice none 0 0], false⟩ := rfl
theorem Zng : Y9 108 = some ⟨.ptr 105, 1, 8, [.pointer none], false⟩ := rfl
theorem Znh : Y9 110 = some ⟨.struct [(0, 86), (2, 3)], 3, 24, [.int .i64 0, .int .i64 0, .int .i64 0], false⟩ := rfl
theorem Zni : Y9 111 = some ⟨.struct [(0, 86), (2, 3)], 3, 24, [.int .i64 0, .int .i64 0, .int .i64 0], true⟩ := rfl
theorem Znj : Y9 132 = some ⟨.int .u64, 1, 8, [.int .u64 0], false⟩ := rfl
theorem Znk : Y9 134 = some ⟨.arr 8 5, 8, 8, [.int .u8 0, .int .u8 0, .int .u8 0, .int .u8 0, .int .u8 0, .int .u8 0, .int .u8 0, .int .u8 0], false⟩ := rfl
theorem Znl : Y9 138 = some ⟨.slice 5, 1, 24, [.slice none 0 0], false⟩ := rfl
theorem Znm : Y9 140 = some ⟨.ptr 25, 1, 8, [.pointer none], false⟩ := rfl
theorem Znn : Y9 142 = some ⟨.struct [(0, 23), (1, 23)], 2, 48, [.slice none 0 0, .slice none 0 0], false⟩ := rfl
theorem Zno : Y9 143 = some ⟨.struct [(0, 23), (1, 23)], 2, 48, [.slice none 0 0, .slice none 0 0], false⟩ := rfl
theorem Znp : Y9 149 = some ⟨.int .i64, 1, 8, [.int .i64 0], false⟩ := rfl
theorem Znq : Y9 156 = some ⟨.int .u32, 1, 4, [.int .u32 0], false⟩ := rfl
theorem Znr : Y9 159 = some ⟨.ptr 143, 1, 8, [.pointer none], false⟩ := rfl
theorem Zns : Y9 160 = some ⟨.arr 6 3, 6, 48, [.int .i64 0, .int .i64 0, .int .i64 0, .int .i64 0, .int .i64 0, .int .i64 0], false⟩ := rfl
theorem Znt : Y9 161 = some ⟨.int .u64, 1, 8, [.int .u64 0], false⟩ := rfl
theorem Znu : Y9 165 = some ⟨.ptr 3, 1, 8, [.pointer none], false⟩ := rfl
theorem Znv : Y9 167 = some ⟨.ptr 161, 1, 8, [.pointer none], false⟩ := rfl
theorem Znw : Y9 170 = some ⟨.struct [(0, 17), (1, 17), (2, 17), (3, 9)], 4, 40, [.pointer none, .pointer none, .pointer none, .string ByteArray.empty], false⟩ := rfl
theorem Znx : Y9 171 = some ⟨.struct [(0, 17), (1, 17), (2, 17), (3, 9)], 4, 40, [.pointer none, .pointer none, .pointer none, .string ByteArray.empty], false⟩ := rfl
theorem Zny : Y9 175 = some ⟨.int .u8, 1, 1, [.int .u8 0], false⟩ := rfl
theorem Znz : Y9 176 = some ⟨.int .u8, 1, 1, [.int .u8 0], false⟩ := rfl
theorem Zn0 : Y9 178 = some ⟨.ptr 5, 1, 8, [.pointer none], false⟩ := rfl
theorem Zn1 : Y9 179 = some ⟨.int .i32, 1, 4, [.int .i32 0], false⟩ := rfl
theorem Zn2 : Y9 180 = some ⟨.int .i32, 1, 4, [.int .i32 0], false⟩ := rfl
theorem Zn3 : Z8 Y9 2 = some (.int .i64) := rfl
theorem Zn4 : Z8 Y9 3 = some (.int .i64) := rfl
theorem Zn5 : Z8 Y9 4 = some (.bool) := rfl
theorem Zn6 : Z8 Y9 5 = some (.int .u8) := rfl
theorem Zn7 : Z8 Y9 6 = some (.int .u8) := rfl
theorem Zn8 : Z8 Y9 7 = some (.struct [(0, 2), (1, 3), (2, 4), (3, 6)]) := rfl
theorem Zn9 : Z8 Y9 8 = some (.struct [(0, 2), (1, 3), (2, 4), (3, 6)]) := rfl
theorem Zoa : Z8 Y9 9 = some (.str) := rfl
theorem Zjg : Z8 Y9 10 = some (.str) := rfl
theorem Zjh : Z8 Y9 11 = some (.str) := rfl
theorem Zji : Z8 Y9 12 = some (.int .u64) := rfl
theorem Zjj : Z8 Y9 13 = some (.struct [(0, 9), (1, 12)]) := rfl
theorem Zjk : Z8 Y9 14 = some (.struct [(0, 9), (1, 12)]) := rfl
theorem Zjl : Z8 Y9 15 = some (.ptr 171) := rfl
theorem Zjm : Z8 Y9 16 = some (.ptr 174) := rfl
theorem Zjn : Z8 Y9 17 = some (.ptr 182) := rfl
theorem Zjo : Z8 Y9 18 = some (.struct [(0, 17)]) := rfl
theorem Zjp : Z8 Y9 19 = some (.struct [(0, 17)]) := rfl
theorem Zjq : Z8 Y9 21 = some (.int .i32) := rfl
theorem Zer : Z8 Y9 22 = some (.slice 71) := rfl
theorem Uv : Z8 Y9 23 = some (.slice 25) := rfl
theorem Zjr : Z8 Y9 24 = some (.struct [(0, 3), (1, 22), (2, 23)]) := rfl
theorem Zjs : Z8 Y9 25 = some (.struct [(0, 3), (1, 22), (2, 23)]) := rfl
theorem Zjt : Z8 Y9 33 = some (.slice 43) := rfl
theorem Zju : Z8 Y9 35 = some (.slice 77) := rfl
theorem Zjv : Z8 Y9 40 = some (.arr 3 3) := rfl
theorem Zjw : Z8 Y9 42 = some (.struct [(0, 3), (1, 3)]) := rfl
theorem Zjx : Z8 Y9 43 = some (.struct [(0, 3), (1, 3)]) := rfl
theorem Zjy : Z8 Y9 50 = some (.slice 91) := rfl
theorem Zjz : Z8 Y9 51 = some (.slice 62) := rfl
theorem Zj0 : Z8 Y9 52 = some (.slice 64) := rfl
theorem Zj1 : Z8 Y9 53 = some (.struct [(0, 3), (1, 25), (4, 25), (7, 50), (8, 51), (9, 3), (10, 52)]) := rfl
theorem Zj2 : Z8 Y9 54 = some (.struct [(0, 3), (1, 25), (4, 25), (7, 50), (8, 51), (9, 3), (10, 52)]) := rfl
theorem Zj3 : Z8 Y9 61 = some (.struct [(0, 3), (1, 54)]) := rfl
theorem Zj4 : Z8 Y9 62 = some (.struct [(0, 3), (1, 54)]) := rfl
theorem Zj5 : Z8 Y9 63 = some (.struct [(0, 3), (1, 3), (2, 23), (3, 54)]) := rfl
theorem Zj6 : Z8 Y9 64 = some (.struct [(0, 3), (1, 3), (2, 23), (3, 54)]) := rfl
theorem Zj7 : Z8 Y9 71 = some (.int .u64) := rfl
theorem Zj8 : Z8 Y9 77 = some (.struct [(0, 3), (1, 3)]) := rfl
theorem Zj9 : Z8 Y9 78 = some (.slice 3) := rfl
theorem Zka : Z8 Y9 82 = some (.slice 86) := rfl
theorem Zkb : Z8 Y9 84 = some (.slice 78) := rfl
theorem Zkc : Z8 Y9 85 = some (.struct [(0, 3), (1, 3)]) := rfl
theorem Zkd : Z8 Y9 86 = some (.struct [(0, 3), (1, 3)]) := rfl
theorem Zke : Z8 Y9 90 = some (.struct [(0, 3), (1, 5), (2, 71), (3, 71)]) := rfl
theorem Zkf : Z8 Y9 91 = some (.struct [(0, 3), (1, 5), (2, 71), (3, 71)]) := rfl
theorem Zf8 : Z8 Y9 104 = some (.slice 111) := rfl
theorem Zf9 : Z8 Y9 105 = some (.slice 111) := rfl
theorem Zga : Z8 Y9 108 = some (.ptr 105) := rfl
theorem Zgb : Z8 Y9 110 = some (.struct [(0, 86), (2, 3)]) := rfl
theorem Zgc : Z8 Y9 111 = some (.struct [(0, 86), (2, 3)]) := rfl
theorem Zgd : Z8 Y9 132 = some (.int .u64) := rfl
theorem Zge : Z8 Y9 134 = some (.arr 8 5) := rfl
theorem Zgf : Z8 Y9 138 = some (.slice 5) := rfl
theorem Zgg : Z8 Y9 140 = some (.ptr 25) := rfl
theorem Zgh : Z8 Y9 142 = some (.struct [(0, 23), (1, 23)]) := rfl
theorem Zgi : Z8 Y9 143 = some (.struct [(0, 23), (1, 23)]) := rfl
theorem Zgj : Z8 Y9 149 = some (.int .i64) := rfl
theorem Zgk : Z8 Y9 156 = some (.int .u32) := rfl
theorem Zgl : Z8 Y9 159 = some (.ptr 143) := rfl
theorem Zgm : Z8 Y9 160 = some (.arr 6 3) := rfl
theorem Zgn : Z8 Y9 161 = some (.int .u64) := rfl
theorem Zgo : Z8 Y9 165 = some (.ptr 3) := rfl
theorem Zgp : Z8 Y9 167 = some (.ptr 161) := rfl
theorem Zgq : Z8 Y9 170 = some (.struct [(0, 17), (1, 17), (2, 17), (3, 9)]) := rfl
theorem Zgr : Z8 Y9 171 = some (.struct [(0, 17), (1, 17), (2, 17), (3, 9)]) := rfl
theorem Zgs : Z8 Y9 175 = some (.int .u8) := rfl
theorem Zgt : Z8 Y9 176 = some (.int .u8) := rfl
theorem Zgu : Z8 Y9 178 = some (.ptr 5) := rfl
theorem Zgv : Z8 Y9 179 = some (.int .i32) := rfl
theorem Zgw : Z8 Y9 180 = some (.int .i32) := rfl
end Go.Proofs.Ytmpkfolcikhofaa
