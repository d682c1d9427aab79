/- The types of this seat's program, as its dump has them, in the ghost memory's words; no condition. -/
import Derived.Test.YtgijkjifiekkmaaRows
import Derived.Test.YtgijkjifiekkmaaG16
namespace Go.Proofs.Ytgijkjifiekkmaa
open Go.RowKit
set_option linter.unusedVariables false
set_option linter.unusedSimpArgs false
theorem TyOk.of {P : Program} {t : TypeId} (k : TK) (size bytes : Nat) (zero : List Value) (z : Value) (h : (P.info? t).map (fun i => (i.zero, i.size, i.bytes)) = some (some z, size, bytes)) (hz : z.cells.toList = zero) (hu : k.ok P t) (hl : zero.length = size) (h1 : zero.all Value.oneCell' = true) (eq : Bool) (he : eq = true → Zhd P t) : TyOk P t ⟨k, size, bytes, zero, eq⟩ := by
 refine ⟨?_, hu, hl, fun v hv => List.all_eq_true.1 h1 v hv, he⟩
 cases hi : P.info? t with
 | none => rw [hi] at h; cases h
 | some i =>
  rw [hi] at h
  simp only [Option.map_some, Option.some.injEq, Prod.mk.injEq] at h
  exact ⟨i, z, rfl, h.2.1, h.2.2, h.1, hz⟩
theorem Zbw {α : Type} {t : Nat} {i : α} : ∀ (l : List (Nat × α)), l.lookup t = some i → (t, i) ∈ l
 | [], h => by simp at h
 | (a, b) :: l, h => by
  rw [List.lookup_cons] at h
  split at h
  ·rename_i he
   injection h with h
   have : t = a := by simpa using he
   subst h this
   exact .head _
  exact .tail _ (Zbw l h)
theorem ty2 : TyOk Try.prog 2 ⟨.int .i64, 1, 8, [.int .i64 0], false⟩ := TyOk.of (P := Try.prog) (t := 2) (.int .i64) 1 8 [.int .i64 0] (.int .i64 0) (by kernel_rfl) rfl Try.underlying2 rfl rfl false (fun h => by cases h)
theorem ty3 : TyOk Try.prog 3 ⟨.int .i64, 1, 8, [.int .i64 0], false⟩ := TyOk.of (P := Try.prog) (t := 3) (.int .i64) 1 8 [.int .i64 0] (.int .i64 0) (by kernel_rfl) rfl Try.underlying3 rfl rfl false (fun h => by cases h)
theorem ty4 : TyOk Try.prog 4 ⟨.bool, 1, 1, [.bool false], false⟩ := TyOk.of (P := Try.prog) (t := 4) (.bool) 1 1 [.bool false] (.bool false) (by kernel_rfl) rfl Try.underlying4 rfl rfl false (fun h => by cases h)
theorem ty5 : TyOk Try.prog 5 ⟨.int .u8, 1, 1, [.int .u8 0], false⟩ := TyOk.of (P := Try.prog) (t := 5) (.int .u8) 1 1 [.int .u8 0] (.int .u8 0) (by kernel_rfl) rfl Try.underlying5 rfl rfl false (fun h => by cases h)
theorem ty6 : TyOk Try.prog 6 ⟨.int .u8, 1, 1, [.int .u8 0], false⟩ := TyOk.of (P := Try.prog) (t := 6) (.int .u8) 1 1 [.int .u8 0] (.int .u8 0) (by kernel_rfl) rfl Try.underlying6 rfl rfl false (fun h => by cases h)
theorem ty7 : TyOk Try.prog 7 ⟨.struct [(0, 2), (1, 3), (2, 4), (3, 6)], 4, 24, [.int .i64 0, .int .i64 0, .bool false, .int .u8 0], false⟩ := TyOk.of (P := Try.prog) (t := 7) (.struct [(0, 2), (1, 3), (2, 4), (3, 6)]) 4 24 [.int .i64 0, .int .i64 0, .bool false, .int .u8 0] (.agg #[.int .i64 0, .int .i64 0, .bool false, .int .u8 0]) (by kernel_rfl) rfl ⟨_, Try.underlying7, rfl⟩ rfl rfl false (fun h => by cases h)
theorem ty8 : TyOk Try.prog 8 ⟨.struct [(0, 2), (1, 3), (2, 4), (3, 6)], 4, 24, [.int .i64 0, .int .i64 0, .bool false, .int .u8 0], false⟩ := TyOk.of (P := Try.prog) (t := 8) (.struct [(0, 2), (1, 3), (2, 4), (3, 6)]) 4 24 [.int .i64 0, .int .i64 0, .bool false, .int .u8 0] (.agg #[.int .i64 0, .int .i64 0, .bool false, .int .u8 0]) (by kernel_rfl) rfl ⟨_, Try.underlying8, rfl⟩ rfl rfl false (fun h => by cases h)
theorem ty9 : TyOk Try.prog 9 ⟨.str, 1, 16, [.string ByteArray.empty], false⟩ := TyOk.of (P := Try.prog) (t := 9) (.str) 1 16 [.string ByteArray.empty] (.string ByteArray.empty) (by kernel_rfl) rfl Try.underlying9 rfl rfl false (fun h => by cases h)
theorem Zpv : TyOk Try.prog 10 ⟨.str, 1, 16, [.string ByteArray.empty], false⟩ := TyOk.of (P := Try.prog) (t := 10) (.str) 1 16 [.string ByteArray.empty] (.string ByteArray.empty) (by kernel_rfl) rfl Try.underlying10 rfl rfl false (fun h => by cases h)
theorem Zpw : TyOk Try.prog 11 ⟨.str, 1, 16, [.string ByteArray.empty], false⟩ := TyOk.of (P := Try.prog) (t := 11) (.str) 1 16 [.string ByteArray.empty] (.string ByteArray.empty) (by kernel_rfl) rfl Try.underlying11 rfl rfl false (fun h => by cases h)
theorem Zpx : TyOk Try.prog 12 ⟨.int .u64, 1, 8, [.int .u64 0], false⟩ := TyOk.of (P := Try.prog) (t := 12) (.int .u64) 1 8 [.int .u64 0] (.int .u64 0) (by kernel_rfl) rfl Try.underlying12 rfl rfl false (fun h => by cases h)
theorem Zpy : TyOk Try.prog 13 ⟨.struct [(0, 9), (1, 12)], 2, 24, [.string ByteArray.empty, .int .u64 0], false⟩ := TyOk.of (P := Try.prog) (t := 13) (.struct [(0, 9), (1, 12)]) 2 24 [.string ByteArray.empty, .int .u64 0] (.agg #[.string ByteArray.empty, .int .u64 0]) (by kernel_rfl) rfl ⟨_, Try.underlying13, rfl⟩ rfl rfl false (fun h => by cases h)
theorem Zpz : TyOk Try.prog 14 ⟨.struct [(0, 9), (1, 12)], 2, 24, [.string ByteArray.empty, .int .u64 0], false⟩ := TyOk.of (P := Try.prog) (t := 14) (.struct [(0, 9), (1, 12)]) 2 24 [.string ByteArray.empty, .int .u64 0] (.agg #[.string ByteArray.empty, .int .u64 0]) (by kernel_rfl) rfl ⟨_, Try.underlying14, rfl⟩ rfl rfl false (fun h => by cases h)
theorem Zp0 : TyOk Try.prog 15 ⟨.ptr 122, 1, 8, [.pointer none], false⟩ := TyOk.of (P := Try.prog) (t := 15) (.ptr 122) 1 8 [.pointer none] (.pointer none) (by kernel_rfl) rfl Try.underlying15 rfl rfl false (fun h => by cases h)
theorem Zp1 : TyOk Try.prog 16 ⟨.ptr 125, 1, 8, [.pointer none], false⟩ := TyOk.of (P := Try.prog) (t := 16) (.ptr 125) 1 8 [.pointer none] (.pointer none) (by kernel_rfl) rfl Try.underlying16 rfl rfl false (fun h => by cases h)
theorem Zp2 : TyOk Try.prog 17 ⟨.ptr 133, 1, 8, [.pointer none], false⟩ := TyOk.of (P := Try.prog) (t := 17) (.ptr 133) 1 8 [.pointer none] (.pointer none) (by kernel_rfl) rfl Try.underlying17 rfl rfl false (fun h => by cases h)
theorem Zp3 : TyOk Try.prog 18 ⟨.struct [(0, 17)], 1, 8, [.pointer none], false⟩ := TyOk.of (P := Try.prog) (t := 18) (.struct [(0, 17)]) 1 8 [.pointer none] (.agg #[.pointer none]) (by kernel_rfl) rfl ⟨_, Try.underlying18, rfl⟩ rfl rfl false (fun h => by cases h)
theorem Zp4 : TyOk Try.prog 19 ⟨.struct [(0, 17)], 1, 8, [.pointer none], false⟩ := TyOk.of (P := Try.prog) (t := 19) (.struct [(0, 17)]) 1 8 [.pointer none] (.agg #[.pointer none]) (by kernel_rfl) rfl ⟨_, Try.underlying19, rfl⟩ rfl rfl false (fun h => by cases h)
theorem Zp5 : TyOk Try.prog 21 ⟨.int .i32, 1, 4, [.int .i32 0], false⟩ := TyOk.of (P := Try.prog) (t := 21) (.int .i32) 1 4 [.int .i32 0] (.int .i32 0) (by kernel_rfl) rfl Try.underlying21 rfl rfl false (fun h => by cases h)
theorem Zp6 : TyOk Try.prog 22 ⟨.slice 62, 1, 24, [.slice none 0 0], false⟩ := TyOk.of (P := Try.prog) (t := 22) (.slice 62) 1 24 [.slice none 0 0] (.slice none 0 0) (by kernel_rfl) rfl Try.underlying22 rfl rfl false (fun h => by cases h)
theorem Zp7 : TyOk Try.prog 23 ⟨.slice 5, 1, 24, [.slice none 0 0], false⟩ := TyOk.of (P := Try.prog) (t := 23) (.slice 5) 1 24 [.slice none 0 0] (.slice none 0 0) (by kernel_rfl) rfl Try.underlying23 rfl rfl false (fun h => by cases h)
theorem Zp8 : TyOk Try.prog 28 ⟨.int .i64, 1, 8, [.int .i64 0], false⟩ := TyOk.of (P := Try.prog) (t := 28) (.int .i64) 1 8 [.int .i64 0] (.int .i64 0) (by kernel_rfl) rfl Try.underlying28 rfl rfl false (fun h => by cases h)
theorem Zp9 : TyOk Try.prog 37 ⟨.int .u64, 1, 8, [.int .u64 0], false⟩ := TyOk.of (P := Try.prog) (t := 37) (.int .u64) 1 8 [.int .u64 0] (.int .u64 0) (by kernel_rfl) rfl Try.underlying37 rfl rfl false (fun h => by cases h)
theorem Zqa : TyOk Try.prog 38 ⟨.struct [(0, 3), (1, 3), (2, 3), (3, 3), (4, 3), (5, 3), (6, 3), (7, 4)], 8, 64, [.int .i64 0, .int .i64 0, .int .i64 0, .int .i64 0, .int .i64 0, .int .i64 0, .int .i64 0, .bool false], false⟩ := TyOk.of (P := Try.prog) (t := 38) (.struct [(0, 3), (1, 3), (2, 3), (3, 3), (4, 3), (5, 3), (6, 3), (7, 4)]) 8 64 [.int .i64 0, .int .i64 0, .int .i64 0, .int .i64 0, .int .i64 0, .int .i64 0, .int .i64 0, .bool false] (.agg #[.int .i64 0, .int .i64 0, .int .i64 0, .int .i64 0, .int .i64 0, .int .i64 0, .int .i64 0, .bool false]) (by kernel_rfl) rfl ⟨_, Try.underlying38, rfl⟩ rfl rfl false (fun h => by cases h)
theorem Zqb : TyOk Try.prog 39 ⟨.struct [(0, 3), (1, 3), (2, 3), (3, 3), (4, 3), (5, 3), (6, 3), (7, 4)], 8, 64, [.int .i64 0, .int .i64 0, .int .i64 0, .int .i64 0, .int .i64 0, .int .i64 0, .int .i64 0, .bool false], true⟩ := TyOk.of (P := Try.prog) (t := 39) (.struct [(0, 3), (1, 3), (2, 3), (3, 3), (4, 3), (5, 3), (6, 3), (7, 4)]) 8 64 [.int .i64 0, .int .i64 0, .int .i64 0, .int .i64 0, .int .i64 0, .int .i64 0, .int .i64 0, .bool false] (.agg #[.int .i64 0, .int .i64 0, .int .i64 0, .int .i64 0, .int .i64 0, .int .i64 0, .int .i64 0, .bool false]) (by kernel_rfl) rfl ⟨_, Try.underlying39, rfl⟩ rfl rfl true (fun _ => by unfold Zhd; exact ⟨by kernel_rfl, by kernel_rfl, by kernel_rfl⟩)
theorem Zqc : TyOk Try.prog 42 ⟨.struct [(0, 3), (1, 3), (2, 3), (3, 3), (4, 3), (5, 3), (6, 3), (7, 4)], 8, 64, [.int .i64 0, .int .i64 0, .int .i64 0, .int .i64 0, .int .i64 0, .int .i64 0, .int .i64 0, .bool false], true⟩ := TyOk.of (P := Try.prog) (t := 42) (.struct [(0, 3), (1, 3), (2, 3), (3, 3), (4, 3), (5, 3), (6, 3), (7, 4)]) 8 64 [.int .i64 0, .int .i64 0, .int .i64 0, .int .i64 0, .int .i64 0, .int .i64 0, .int .i64 0, .bool false] (.agg #[.int .i64 0, .int .i64 0, .int .i64 0, .int .i64 0, .int .i64 0, .int .i64 0, .int .i64 0, .bool false]) (by kernel_rfl) rfl ⟨_, Try.underlying42, rfl⟩ rfl rfl true (fun _ => by unfold Zhd; exact ⟨by kernel_rfl, by kernel_rfl, by kernel_rfl⟩)
theorem Zqd : TyOk Try.prog 48 ⟨.slice 54, 1, 24, [.slice none 0 0], false⟩ := TyOk.of (P := Try.prog) (t := 48) (.slice 54) 1 24 [.slice none 0 0] (.slice none 0 0) (by kernel_rfl) rfl Try.underlying48 rfl rfl false (fun h => by cases h)
theorem Zqe : TyOk Try.prog 49 ⟨.ptr 105, 1, 8, [.pointer none], false⟩ := TyOk.of (P := Try.prog) (t := 49) (.ptr 105) 1 8 [.pointer none] (.pointer none) (by kernel_rfl) rfl Try.underlying49 rfl rfl false (fun h => by cases h)
theorem Zqf : TyOk Try.prog 51 ⟨.ptr 58, 1, 8, [.pointer none], false⟩ := TyOk.of (P := Try.prog) (t := 51) (.ptr 58) 1 8 [.pointer none] (.pointer none) (by kernel_rfl) rfl Try.underlying51 rfl rfl false (fun h => by cases h)
theorem Zqg : TyOk Try.prog 53 ⟨.struct [(0, 3), (1, 3), (2, 3), (3, 3), (4, 37)], 5, 40, [.int .i64 0, .int .i64 0, .int .i64 0, .int .i64 0, .int .u64 0], false⟩ := TyOk.of (P := Try.prog) (t := 53) (.struct [(0, 3), (1, 3), (2, 3), (3, 3), (4, 37)]) 5 40 [.int .i64 0, .int .i64 0, .int .i64 0, .int .i64 0, .int .u64 0] (.agg #[.int .i64 0, .int .i64 0, .int .i64 0, .int .i64 0, .int .u64 0]) (by kernel_rfl) rfl ⟨_, Try.underlying53, rfl⟩ rfl rfl false (fun h => by cases h)
theorem Zqh : TyOk Try.prog 54 ⟨.struct [(0, 3), (1, 3), (2, 3), (3, 3), (4, 37)], 5, 40, [.int .i64 0, .int .i64 0, .int .i64 0, .int .i64 0, .int .u64 0], true⟩ := TyOk.of (P := Try.prog) (t := 54) (.struct [(0, 3), (1, 3), (2, 3), (3, 3), (4, 37)]) 5 40 [.int .i64 0, .int .i64 0, .int .i64 0, .int .i64 0, .int .u64 0] (.agg #[.int .i64 0, .int .i64 0, .int .i64 0, .int .i64 0, .int .u64 0]) (by kernel_rfl) rfl ⟨_, Try.underlying54, rfl⟩ rfl rfl true (fun _ => by unfold Zhd; exact ⟨by kernel_rfl, by kernel_rfl, by kernel_rfl⟩)
theorem Zqi : TyOk Try.prog 57 ⟨.struct [(0, 22), (1, 3), (2, 3), (3, 3)], 4, 48, [.slice none 0 0, .int .i64 0, .int .i64 0, .int .i64 0], false⟩ := TyOk.of (P := Try.prog) (t := 57) (.struct [(0, 22), (1, 3), (2, 3), (3, 3)]) 4 48 [.slice none 0 0, .int .i64 0, .int .i64 0, .int .i64 0] (.agg #[.slice none 0 0, .int .i64 0, .int .i64 0, .int .i64 0]) (by kernel_rfl) rfl ⟨_, Try.underlying57, rfl⟩ rfl rfl false (fun h => by cases h)
theorem Zqj : TyOk Try.prog 58 ⟨.struct [(0, 22), (1, 3), (2, 3), (3, 3)], 4, 48, [.slice none 0 0, .int .i64 0, .int .i64 0, .int .i64 0], false⟩ := TyOk.of (P := Try.prog) (t := 58) (.struct [(0, 22), (1, 3), (2, 3), (3, 3)]) 4 48 [.slice none 0 0, .int .i64 0, .int .i64 0, .int .i64 0] (.agg #[.slice none 0 0, .int .i64 0, .int .i64 0, .int .i64 0]) (by kernel_rfl) rfl ⟨_, Try.underlying58, rfl⟩ rfl rfl false (fun h => by cases h)
theorem Zqk : TyOk Try.prog 62 ⟨.slice 37, 1, 24, [.slice none 0 0], false⟩ := TyOk.of (P := Try.prog) (t := 62) (.slice 37) 1 24 [.slice none 0 0] (.slice none 0 0) (by kernel_rfl) rfl Try.underlying62 rfl rfl false (fun h => by cases h)
theorem Zql : TyOk Try.prog 66 ⟨.slice 3, 1, 24, [.slice none 0 0], false⟩ := TyOk.of (P := Try.prog) (t := 66) (.slice 3) 1 24 [.slice none 0 0] (.slice none 0 0) (by kernel_rfl) rfl Try.underlying66 rfl rfl false (fun h => by cases h)
theorem Zqm : TyOk Try.prog 67 ⟨.slice 70, 1, 24, [.slice none 0 0], false⟩ := TyOk.of (P := Try.prog) (t := 67) (.slice 70) 1 24 [.slice none 0 0] (.slice none 0 0) (by kernel_rfl) rfl Try.underlying67 rfl rfl false (fun h => by cases h)
theorem Zqn : TyOk Try.prog 70 ⟨.arr 3 3, 3, 24, [.int .i64 0, .int .i64 0, .int .i64 0], false⟩ := TyOk.of (P := Try.prog) (t := 70) (.arr 3 3) 3 24 [.int .i64 0, .int .i64 0, .int .i64 0] (.agg #[.int .i64 0, .int .i64 0, .int .i64 0]) (by kernel_rfl) rfl Try.underlying70 rfl rfl false (fun h => by cases h)
theorem Zqo : TyOk Try.prog 79 ⟨.struct [(0, 39), (8, 3), (9, 3)], 10, 80, [.int .i64 0, .int .i64 0, .int .i64 0, .int .i64 0, .int .i64 0, .int .i64 0, .int .i64 0, .bool false, .int .i64 0, .int .i64 0], false⟩ := TyOk.of (P := Try.prog) (t := 79) (.struct [(0, 39), (8, 3), (9, 3)]) 10 80 [.int .i64 0, .int .i64 0, .int .i64 0, .int .i64 0, .int .i64 0, .int .i64 0, .int .i64 0, .bool false, .int .i64 0, .int .i64 0] (.agg #[.int .i64 0, .int .i64 0, .int .i64 0, .int .i64 0, .int .i64 0, .int .i64 0, .int .i64 0, .bool false, .int .i64 0, .int .i64 0]) (by kernel_rfl) rfl ⟨_, Try.underlying79, rfl⟩ rfl rfl false (fun h => by cases h)
theorem Zqp : TyOk Try.prog 80 ⟨.struct [(0, 39), (8, 3), (9, 3)], 10, 80, [.int .i64 0, .int .i64 0, .int .i64 0, .int .i64 0, .int .i64 0, .int .i64 0, .int .i64 0, .bool false, .int .i64 0, .int .i64 0], true⟩ := TyOk.of (P := Try.prog) (t := 80) (.struct [(0, 39), (8, 3), (9, 3)]) 10 80 [.int .i64 0, .int .i64 0, .int .i64 0, .int .i64 0, .int .i64 0, .int .i64 0, .int .i64 0, .bool false, .int .i64 0, .int .i64 0] (.agg #[.int .i64 0, .int .i64 0, .int .i64 0, .int .i64 0, .int .i64 0, .int .i64 0, .int .i64 0, .bool false, .int .i64 0, .int .i64 0]) (by kernel_rfl) rfl ⟨_, Try.underlying80, rfl⟩ rfl rfl true (fun _ => by unfold Zhd; exact ⟨by kernel_rfl, by kernel_rfl, by kernel_rfl⟩)
theorem Zqq : TyOk Try.prog 83 ⟨.struct [(0, 42), (8, 3), (9, 3)], 10, 80, [.int .i64 0, .int .i64 0, .int .i64 0, .int .i64 0, .int .i64 0, .int .i64 0, .int .i64 0, .bool false, .int .i64 0, .int .i64 0], false⟩ := TyOk.of (P := Try.prog) (t := 83) (.struct [(0, 42), (8, 3), (9, 3)]) 10 80 [.int .i64 0, .int .i64 0, .int .i64 0, .int .i64 0, .int .i64 0, .int .i64 0, .int .i64 0, .bool false, .int .i64 0, .int .i64 0] (.agg #[.int .i64 0, .int .i64 0, .int .i64 0, .int .i64 0, .int .i64 0, .int .i64 0, .int .i64 0, .bool false, .int .i64 0, .int .i64 0]) (by kernel_rfl) rfl ⟨_, Try.underlying83, rfl⟩ rfl rfl false (fun h => by cases h)
theorem Zqr : TyOk Try.prog 84 ⟨.struct [(0, 42), (8, 3), (9, 3)], 10, 80, [.int .i64 0, .int .i64 0, .int .i64 0, .int .i64 0, .int .i64 0, .int .i64 0, .int .i64 0, .bool false, .int .i64 0, .int .i64 0], true⟩ := TyOk.of (P := Try.prog) (t := 84) (.struct [(0, 42), (8, 3), (9, 3)]) 10 80 [.int .i64 0, .int .i64 0, .int .i64 0, .int .i64 0, .int .i64 0, .int .i64 0, .int .i64 0, .bool false, .int .i64 0, .int .i64 0] (.agg #[.int .i64 0, .int .i64 0, .int .i64 0, .int .i64 0, .int .i64 0, .int .i64 0, .int .i64 0, .bool false, .int .i64 0, .int .i64 0]) (by kernel_rfl) rfl ⟨_, Try.underlying84, rfl⟩ rfl rfl true (fun _ => by unfold Zhd; exact ⟨by kernel_rfl, by kernel_rfl, by kernel_rfl⟩)
theorem Zqs : TyOk Try.prog 91 ⟨.int .u64, 1, 8, [.int .u64 0], false⟩ := TyOk.of (P := Try.prog) (t := 91) (.int .u64) 1 8 [.int .u64 0] (.int .u64 0) (by kernel_rfl) rfl Try.underlying91 rfl rfl false (fun h => by cases h)
theorem Zpg : TyOk Try.prog 104 ⟨.struct [(0, 22), (1, 3), (2, 3)], 3, 40, [.slice none 0 0, .int .i64 0, .int .i64 0], false⟩ := TyOk.of (P := Try.prog) (t := 104) (.struct [(0, 22), (1, 3), (2, 3)]) 3 40 [.slice none 0 0, .int .i64 0, .int .i64 0] (.agg #[.slice none 0 0, .int .i64 0, .int .i64 0]) (by kernel_rfl) rfl ⟨_, Try.underlying104, rfl⟩ rfl rfl false (fun h => by cases h)
theorem Zph : TyOk Try.prog 105 ⟨.struct [(0, 22), (1, 3), (2, 3)], 3, 40, [.slice none 0 0, .int .i64 0, .int .i64 0], false⟩ := TyOk.of (P := Try.prog) (t := 105) (.struct [(0, 22), (1, 3), (2, 3)]) 3 40 [.slice none 0 0, .int .i64 0, .int .i64 0] (.agg #[.slice none 0 0, .int .i64 0, .int .i64 0]) (by kernel_rfl) rfl ⟨_, Try.underlying105, rfl⟩ rfl rfl false (fun h => by cases h)
theorem Zpi : TyOk Try.prog 114 ⟨.arr 8 5, 8, 8, [.int .u8 0, .int .u8 0, .int .u8 0, .int .u8 0, .int .u8 0, .int .u8 0, .int .u8 0, .int .u8 0], false⟩ := TyOk.of (P := Try.prog) (t := 114) (.arr 8 5) 8 8 [.int .u8 0, .int .u8 0, .int .u8 0, .int .u8 0, .int .u8 0, .int .u8 0, .int .u8 0, .int .u8 0] (.agg #[.int .u8 0, .int .u8 0, .int .u8 0, .int .u8 0, .int .u8 0, .int .u8 0, .int .u8 0, .int .u8 0]) (by kernel_rfl) rfl Try.underlying114 rfl rfl false (fun h => by cases h)
theorem Zpj : TyOk Try.prog 118 ⟨.int .u32, 1, 4, [.int .u32 0], false⟩ := TyOk.of (P := Try.prog) (t := 118) (.int .u32) 1 4 [.int .u32 0] (.int .u32 0) (by kernel_rfl) rfl Try.underlying118 rfl rfl false (fun h => by cases h)
theorem Zpk : TyOk Try.prog 119 ⟨.arr 7 3, 7, 56, [.int .i64 0, .int .i64 0, .int .i64 0, .int .i64 0, .int .i64 0, .int .i64 0, .int .i64 0], false⟩ := TyOk.of (P := Try.prog) (t := 119) (.arr 7 3) 7 56 [.int .i64 0, .int .i64 0, .int .i64 0, .int .i64 0, .int .i64 0, .int .i64 0, .int .i64 0] (.agg #[.int .i64 0, .int .i64 0, .int .i64 0, .int .i64 0, .int .i64 0, .int .i64 0, .int .i64 0]) (by kernel_rfl) rfl Try.underlying119 rfl rfl false (fun h => by cases h)
theorem Zpl : TyOk Try.prog 121 ⟨.struct [(0, 17), (1, 17), (2, 17), (3, 9)], 4, 40, [.pointer none, .pointer none, .pointer none, .string ByteArray.empty], false⟩ := TyOk.of (P := Try.prog) (t := 121) (.struct [(0, 17), (1, 17), (2, 17), (3, 9)]) 4 40 [.pointer none, .pointer none, .pointer none, .string ByteArray.empty] (.agg #[.pointer none, .pointer none, .pointer none, .string ByteArray.empty]) (by kernel_rfl) rfl ⟨_, Try.underlying121, rfl⟩ rfl rfl false (fun h => by cases h)
theorem Zpm : TyOk Try.prog 122 ⟨.struct [(0, 17), (1, 17), (2, 17), (3, 9)], 4, 40, [.pointer none, .pointer none, .pointer none, .string ByteArray.empty], false⟩ := TyOk.of (P := Try.prog) (t := 122) (.struct [(0, 17), (1, 17), (2, 17), (3, 9)]) 4 40 [.pointer none, .pointer none, .pointer none, .string ByteArray.empty] (.agg #[.pointer none, .pointer none, .pointer none, .string ByteArray.empty]) (by kernel_rfl) rfl ⟨_, Try.underlying122, rfl⟩ rfl rfl false (fun h => by cases h)
theorem Zpn : TyOk Try.prog 126 ⟨.int .u8, 1, 1, [.int .u8 0], false⟩ := TyOk.of (P := Try.prog) (t := 126) (.int .u8) 1 1 [.int .u8 0] (.int .u8 0) (by kernel_rfl) rfl Try.underlying126 rfl rfl false (fun h => by cases h)
theorem Zpo : TyOk Try.prog 127 ⟨.int .u8, 1, 1, [.int .u8 0], false⟩ := TyOk.of (P := Try.prog) (t := 127) (.int .u8) 1 1 [.int .u8 0] (.int .u8 0) (by kernel_rfl) rfl Try.underlying127 rfl rfl false (fun h => by cases h)
theorem Zpp : TyOk Try.prog 129 ⟨.ptr 5, 1, 8, [.pointer none], false⟩ := TyOk.of (P := Try.prog) (t := 129) (.ptr 5) 1 8 [.pointer none] (.pointer none) (by kernel_rfl) rfl Try.underlying129 rfl rfl false (fun h => by cases h)
theorem Zpq : TyOk Try.prog 130 ⟨.int .i32, 1, 4, [.int .i32 0], false⟩ := TyOk.of (P := Try.prog) (t := 130) (.int .i32) 1 4 [.int .i32 0] (.int .i32 0) (by kernel_rfl) rfl Try.underlying130 rfl rfl false (fun h => by cases h)
theorem Zpr : TyOk Try.prog 131 ⟨.int .i32, 1, 4, [.int .i32 0], false⟩ := TyOk.of (P := Try.prog) (t := 131) (.int .i32) 1 4 [.int .i32 0] (.int .i32 0) (by kernel_rfl) rfl Try.underlying131 rfl rfl false (fun h => by cases h)
def tabL : List (Nat × TyI) := [(2, ⟨.int .i64, 1, 8, [.int .i64 0], false⟩),
 (3, ⟨.int .i64, 1, 8, [.int .i64 0], false⟩),
 (4, ⟨.bool, 1, 1, [.bool false], false⟩),
 (5, ⟨.int .u8, 1, 1, [.int .u8 0], false⟩),
 (6, ⟨.int .u8, 1, 1, [.int .u8 0], false⟩),
 (7, ⟨.struct [(0, 2), (1, 3), (2, 4), (3, 6)], 4, 24, [.int .i64 0, .int .i64 0, .bool false, .int .u8 0], false⟩),
 (8, ⟨.struct [(0, 2), (1, 3), (2, 4), (3, 6)], 4, 24, [.int .i64 0, .int .i64 0, .bool false, .int .u8 0], false⟩),
 (9, ⟨.str, 1, 16, [.string ByteArray.empty], false⟩),
 (10, ⟨.str, 1, 16, [.string ByteArray.empty], false⟩),
 (11, ⟨.str, 1, 16, [.string ByteArray.empty], false⟩),
 (12, ⟨.int .u64, 1, 8, [.int .u64 0], false⟩),
 (13, ⟨.struct [(0, 9), (1, 12)], 2, 24, [.string ByteArray.empty, .int .u64 0], false⟩),
 (14, ⟨.struct [(0, 9), (1, 12)], 2, 24, [.string ByteArray.empty, .int .u64 0], false⟩),
 (15, ⟨.ptr 122, 1, 8, [.pointer none], false⟩),
 (16, ⟨.ptr 125, 1, 8, [.pointer none], false⟩),
 (17, ⟨.ptr 133, 1, 8, [.pointer none], false⟩),
 (18, ⟨.struct [(0, 17)], 1, 8, [.pointer none], false⟩),
 (19, ⟨.struct [(0, 17)], 1, 8, [.pointer none], false⟩),
 (21, ⟨.int .i32, 1, 4, [.int .i32 0], false⟩),
 (22, ⟨.slice 62, 1, 24, [.slice none 0 0], false⟩),
 (23, ⟨.slice 5, 1, 24, [.slice none 0 0], false⟩),
 (28, ⟨.int .i64, 1, 8, [.int .i64 0], false⟩),
 (37, ⟨.int .u64, 1, 8, [.int .u64 0], false⟩),
 (38, ⟨.struct [(0, 3), (1, 3), (2, 3), (3, 3), (4, 3), (5, 3), (6, 3), (7, 4)], 8, 64, [.int .i64 0, .int .i64 0, .int .i64 0, .int .i64 0, .int .i64 0, .int .i64 0, .int .i64 0, .bool false], false⟩),
 (39, ⟨.struct [(0, 3), (1, 3), (2, 3), (3, 3), (4, 3), (5, 3), (6, 3), (7, 4)], 8, 64, [.int .i64 0, .int .i64 0, .int .i64 0, .int .i64 0, .int .i64 0, .int .i64 0, .int .i64 0, .bool false], true⟩),
 (42, ⟨.struct [(0, 3), (1, 3), (2, 3), (3, 3), (4, 3), (5, 3), (6, 3), (7, 4)], 8, 64, [.int .i64 0, .int .i64 0, .int .i64 0, .int .i64 0, .int .i64 0, .int .i64 0, .int .i64 0, .bool false], true⟩),
 (48, ⟨.slice 54, 1, 24, [.slice none 0 0], false⟩),
 (49, ⟨.ptr 105, 1, 8, [.pointer none], false⟩),
 (51, ⟨.ptr 58, 1, 8, [.pointer none], false⟩),
 (53, ⟨.struct [(0, 3), (1, 3), (2, 3), (3, 3), (4, 37)], 5, 40, [.int .i64 0, .int .i64 0, .int .i64 0, .int .i64 0, .int .u64 0], false⟩),
 (54, ⟨.struct [(0, 3), (1, 3), (2, 3), (3, 3), (4, 37)], 5, 40, [.int .i64 0, .int .i64 0, .int .i64 0, .int .i64 0, .int .u64 0], true⟩),
 (57, ⟨.struct [(0, 22), (1, 3), (2, 3), (3, 3)], 4, 48, [.slice none 0 0, .int .i64 0, .int .i64 0, .int .i64 0], false⟩),
 (58, ⟨.struct [(0, 22), (1, 3), (2, 3), (3, 3)], 4, 48, [.slice none 0 0, .int .i64 0, .int .i64 0, .int .i64 0], false⟩),
 (62, ⟨.slice 37, 1, 24, [.slice none 0 0], false⟩),
 (66, ⟨.slice 3, 1, 24, [.slice none 0 0], false⟩),
 (67, ⟨.slice 70, 1, 24, [.slice none 0 0], false⟩),
 (70, ⟨.arr 3 3, 3, 24, [.int .i64 0, .int .i64 0, .int .i64 0], false⟩),
 (79, ⟨.struct [(0, 39), (8, 3), (9, 3)], 10, 80, [.int .i64 0, .int .i64 0, .int .i64 0, .int .i64 0, .int .i64 0, .int .i64 0, .int .i64 0, .bool false, .int .i64 0, .int .i64 0], false⟩),
 (80, ⟨.struct [(0, 39), (8, 3), (9, 3)], 10, 80, [.int .i64 0, .int .i64 0, .int .i64 0, .int .i64 0, .int .i64 0, .int .i64 0, .int .i64 0, .bool false, .int .i64 0, .int .i64 0], true⟩),
 (83, ⟨.struct [(0, 42), (8, 3), (9, 3)], 10, 80, [.int .i64 0, .int .i64 0, .int .i64 0, .int .i64 0, .int .i64 0, .int .i64 0, .int .i64 0, .bool false, .int .i64 0, .int .i64 0], false⟩),
 (84, ⟨.struct [(0, 42), (8, 3), (9, 3)], 10, 80, [.int .i64 0, .int .i64 0, .int .i64 0, .int .i64 0, .int .i64 0, .int .i64 0, .int .i64 0, .bool false, .int .i64 0, .int .i64 0], true⟩),
 (91, ⟨.int .u64, 1, 8, [.int .u64 0], false⟩),
 (104, ⟨.struct [(0, 22), (1, 3), (2, 3)], 3, 40, [.slice none 0 0, .int .i64 0, .int .i64 0], false⟩),
 (105, ⟨.struct [(0, 22), (1, 3), (2, 3)], 3, 40, [.slice none 0 0, .int .i64 0, .int .i64 0], false⟩),
 (114, ⟨.arr 8 5, 8, 8, [.int .u8 0, .int .u8 0, .int .u8 0, .int .u8 0, .int .u8 0, .int .u8 0, .int .u8 0, .int .u8 0], false⟩),
 (118, ⟨.int .u32, 1, 4, [.int .u32 0], false⟩),
 (119, ⟨.arr 7 3, 7, 56, [.int .i64 0, .int .i64 0, .int .i64 0, .int .i64 0, .int .i64 0, .int .i64 0, .int .i64 0], false⟩),
 (121, ⟨.struct [(0, 17), (1, 17), (2, 17), (3, 9)], 4, 40, [.pointer none, .pointer none, .pointer none, .string ByteArray.empty], false⟩),
 (122, ⟨.struct [(0, 17), (1, 17), (2, 17), (3, 9)], 4, 40, [.pointer none, .pointer none, .pointer none, .string ByteArray.empty], false⟩),
 (126, ⟨.int .u8, 1, 1, [.int .u8 0], false⟩),
 (127, ⟨.int .u8, 1, 1, [.int .u8 0], false⟩),
 (129, ⟨.ptr 5, 1, 8, [.pointer none], false⟩),
 (130, ⟨.int .i32, 1, 4, [.int .i32 0], false⟩),
 (131, ⟨.int .i32, 1, 4, [.int .i32 0], false⟩)]
def Xf : Y6 := fun t => tabL.lookup t
theorem Zc : Yd Try.prog Xf := fun t i h => by
 have hm := Zbw _ h
 unfold tabL at hm
 simp only [List.mem_cons, Prod.mk.injEq, List.not_mem_nil, or_false] at hm
 rcases hm with ⟨rfl, rfl⟩ | ⟨rfl, rfl⟩ | ⟨rfl, rfl⟩ | ⟨rfl, rfl⟩ | ⟨rfl, rfl⟩ | ⟨rfl, rfl⟩ | ⟨rfl, rfl⟩ | ⟨rfl, rfl⟩ | ⟨rfl, rfl⟩ | ⟨rfl, rfl⟩ | ⟨rfl, rfl⟩ | ⟨rfl, rfl⟩ | ⟨rfl, rfl⟩ | ⟨rfl, rfl⟩ | ⟨rfl, rfl⟩ | ⟨rfl, rfl⟩ | ⟨rfl, rfl⟩ | ⟨rfl, rfl⟩ | ⟨rfl, rfl⟩ | ⟨rfl, rfl⟩ | ⟨rfl, rfl⟩ | ⟨rfl, rfl⟩ | ⟨rfl, rfl⟩ | ⟨rfl, rfl⟩ | ⟨rfl, rfl⟩ | ⟨rfl, rfl⟩ | ⟨rfl, rfl⟩ | ⟨rfl, rfl⟩ | ⟨rfl, rfl⟩ | ⟨rfl, rfl⟩ | ⟨rfl, rfl⟩ | ⟨rfl, rfl⟩ | ⟨rfl, rfl⟩ | ⟨rfl, rfl⟩ | ⟨rfl, rfl⟩ | ⟨rfl, rfl⟩ | ⟨rfl, rfl⟩ | ⟨rfl, rfl⟩ | ⟨rfl, rfl⟩ | ⟨rfl, rfl⟩ | ⟨rfl, rfl⟩ | ⟨rfl, rfl⟩ | ⟨rfl, rfl⟩ | ⟨rfl, rfl⟩ | ⟨rfl, rfl⟩ | ⟨rfl, rfl⟩ | ⟨rfl, rfl⟩ | ⟨rfl, rfl⟩ | ⟨rfl, rfl⟩ | ⟨rfl, rfl⟩ | ⟨rfl, rfl⟩ | ⟨rfl, rfl⟩ | ⟨rfl, rfl⟩ | ⟨rfl, rfl⟩
 ·exact ty2
 ·exact ty3
 ·exact ty4
 ·exact ty5
 ·exact ty6
 ·exact ty7
 ·exact ty8
 ·exact ty9
 ·exact Zpv
 ·exact Zpw
 ·exact Zpx
 ·exact Zpy
 ·exact Zpz
 ·exact Zp0
 ·exact Zp1
 ·exact Zp2
 ·exact Zp3
 ·exact Zp4
 ·exact Zp5
 ·exact Zp6
 ·exact Zp7
 ·exact Zp8
 ·exact Zp9
 ·exact Zqa
 ·exact Zqb
 ·exact Zqc
 ·exact Zqd
 ·exact Zqe
 ·exact Zqf
 ·exact Zqg
 ·exact Zqh
 ·exact Zqi
 ·exact Zqj
 ·exact Zqk
 ·exact Zql
 ·exact Zqm
 ·exact Zqn
 ·exact Zqo
 ·exact Zqp
 ·exact Zqq
 ·exact Zqr
 ·exact Zqs
 ·exact Zpg
 ·exact Zph
 ·exact Zpi
 ·exact Zpj
 ·exact Zpk
 ·exact Zpl
 ·exact Zpm
 ·exact Zpn
 ·exact Zpo
 ·exact Zpp
 ·exact Zpq
 exact Zpr
theorem Zpa : Xf 2 = some ⟨.int .i64, 1, 8, [.int .i64 0], false⟩ := rfl
theorem Zm8 : Xf 3 = some ⟨.int .i64, 1, 8, [.int .i64 0], false⟩ := rfl
theorem Zpb : Xf 4 = some ⟨.bool, 1, 1, [.bool false], false⟩ := rfl
theorem Ks : Xf 5 = some ⟨.int .u8, 1, 1, [.int .u8 0], false⟩ := rfl
theorem Zpc : Xf 6 = some ⟨.int .u8, 1, 1, [.int .u8 0], false⟩ := rfl
theorem Zpd : Xf 7 = some ⟨.struct [(0, 2), (1, 3), (2, 4), (3, 6)], 4, 24, [.int .i64 0, .int .i64 0, .bool false, .int .u8 0], false⟩ := rfl
theorem Zpe : Xf 8 = some ⟨.struct [(0, 2), (1, 3), (2, 4), (3, 6)], 4, 24, [.int .i64 0, .int .i64 0, .bool false, .int .u8 0], false⟩ := rfl
theorem Zpf : Xf 9 = some ⟨.str, 1, 16, [.string ByteArray.empty], false⟩ := rfl
theorem Zni : Xf 10 = some ⟨.str, 1, 16, [.string ByteArray.empty], false⟩ := rfl
theorem Znj : Xf 11 = some ⟨.str, 1, 16, [.string ByteArray.empty], false⟩ := rfl
theorem Znk : Xf 12 = some ⟨.int .u64, 1, 8, [.int .u64 0], false⟩ := rfl
theorem Znl : Xf 13 = some ⟨.struct [(0, 9), (1, 12)], 2, 24, [.string ByteArray.empty, .int .u64 0], false⟩ := rfl
theorem Znm : Xf 14 = some ⟨.struct [(0, 9), (1, 12)], 2, 24, [.string ByteArray.empty, .int .u64 0], false⟩ := rfl
theorem Znn : Xf 15 = some ⟨.ptr 122, 1, 8, [.pointer none], false⟩ := rfl
theorem Zno : Xf 16 = some ⟨.ptr 125, 1, 8, [.pointer none], false⟩ := rfl
theorem Znp : Xf 17 = some ⟨.ptr 133, 1, 8, [.pointer none], false⟩ := rfl
theorem Znq : Xf 18 = some ⟨.struct [(0, 17)], 1, 8, [.pointer none], false⟩ := rfl
theorem Znr : Xf 19 = some ⟨.struct [(0, 17)], 1, 8, [.pointer none], false⟩ := rfl
theorem Zns : Xf 21 = some ⟨.int .i32, 1, 4, [.int .i32 0], false⟩ := rfl
theorem Znt : Xf 22 = some ⟨.slice 62, 1, 24, [.slice none 0 0], false⟩ := rfl
theorem Znu : Xf 23 = some ⟨.slice 5, 1, 24, [.slice none 0 0], false⟩ := rfl
theorem Znv : Xf 28 = some ⟨.int .i64, 1, 8, [.int .i64 0], false⟩ := rfl
theorem Zcd : Xf 37 = some ⟨.int .u64, 1, 8, [.int .u64 0], false⟩ := rfl
theorem Znw : Xf 38 = some ⟨.struct [(0, 3), (1, 3), (2, 3), (3, 3), (4, 3), (5, 3), (6, 3), (7, 4)], 8, 64, [.int .i64 0, .int .i64 0, .int .i64 0, .int .i64 0, .int .i64 0, .int .i64 0, .int .i64 0, .bool false], false⟩ := rfl
theorem Znx : Xf 39 = some ⟨.struct [(0, 3), (1, 3), (2, 3), (3, 3), (4, 3), (5, 3), (6, 3), (7, 4)], 8, 64, [.int .i64 0, .int .i64 0, .int .i64 0, .int .i64 0, .int .i64 0, .int .i64 0, .int .i64 0, .bool false], true⟩ := rfl
theorem Zny : Xf 42 = some ⟨.struct [(0, 3), (1, 3), (2, 3), (3, 3), (4, 3), (5, 3), (6, 3), (7, 4)], 8, 64, [.int .i64 0, .int .i64 0, .int .i64 0, .int .i64 0, .int .i64 0, .int .i64 0, .int .i64 0, .bool false], true⟩ := rfl
theorem Znz : Xf 48 = some ⟨.slice 54, 1, 24, [.slice none 0 0], false⟩ := rfl
theorem Zn0 : Xf 49 = some ⟨.ptr 105, 1, 8, [.pointer none], false⟩ := rfl
theorem Zn1 : Xf 51 = some ⟨.ptr 58, 1, 8, [.pointer none], false⟩ := rfl
theorem Zn2 : Xf 53 = some ⟨.struct [(0, 3), (1, 3), (2, 3), (3, 3), (4, 37)], 5, 40, [.int .i64 0, .int .i64 0, .int .i64 0, .int .i64 0, .int .u64 0], false⟩ := rfl
theorem Zn3 : Xf 54 = some ⟨.struct [(0, 3), (1, 3), (2, 3), (3, 3), (4, 37)], 5, 40, [.int .i64 0, .int .i64 0, .int .i64 0, .int .i64 0, .int .u64 0], true⟩ := rfl
theorem Zn4 : Xf 57 = some ⟨.struct [(0, 22), (1, 3), (2, 3), (3, 3)], 4, 48, [.slice none 0 0, .int .i64 0, .int .i64 0, .int .i64 0], false⟩ := rfl
theorem Zn5 : Xf 58 = some ⟨.struct [(0, 22), (1, 3), (2, 3), (3, 3)], 4, 48, [.slice none 0 0, .int .i64 0, .int .i64 0, .int .i64 0], false⟩ := rfl
theorem V3 : Xf 62 = some ⟨.slice 37, 1, 24, [.slice none 0 0], false⟩ := rfl
theorem Zn6 : Xf 66 = some ⟨.slice 3, 1, 24, [.slice none 0 0], false⟩ := rfl
theorem Zn7 : Xf 67 = some ⟨.slice 70, 1, 24, [.slice none 0 0], false⟩ := rfl
theorem Zn8 : Xf 70 = some ⟨.arr 3 3, 3, 24, [.int .i64 0, .int .i64 0, .int .i64 0], false⟩ := rfl
theorem Zn9 : Xf 79 = some ⟨.struct [(0, 39), (8, 3), (9, 3)], 10, 80, [.int .i64 0, .int .i64 0, .int .i64 0, .int .i64 0, .int .i64 0, .int .i64 0, .int .i64 0, .bool false, .int .i64 0, .int .i64 0], false⟩ := rfl
theorem Zoa : Xf 80 = some ⟨.struct [(0, 39), (8, 3), (9, 3)], 10, 80, [.int .i64 0, .int .i64 0, .int .i64 0, .int .i64 0, .int .i64 0, .int .i64 0, .int .i64 0, .bool false, .int .i64 0, .int .i64 0], true⟩ := rfl
theorem Zob : Xf 83 = some ⟨.struct [(0, 42), (8, 3), (9, 3)], 10, 80, [.int .i64 0, .int .i64 0, .int .i64 0, .int .i64 0, .int .i64 0, .int .i64 0, .int .i64 0, .bool false, .int .i64 0, .int .i64 0], false⟩ := rfl
theorem Zoc : Xf 84 = some ⟨.struct [(0, 42), (8, 3), (9, 3)], 10, 80, [.int .i64 0, .int .i64 0, .int .i64 0, .int .i64 0, .int .i64 0, .int .i64 0, .int .i64 0, .bool false, .int .i64 0, .int .i64 0], true⟩ := rfl
theorem Zod : Xf 91 = some ⟨.int .u64, 1, 8, [.int .u64 0], false⟩ := rfl
theorem Zl2 : Xf 104 = some ⟨.struct [(0, 22), (1, 3), (2, 3)], 3, 40, [.slice none 0 0, .int .i64 0, .int .i64 0], false⟩ := rfl
theorem Zl3 : Xf 105 = some ⟨.struct [(0, 22), (1, 3), (2, 3)], 3, 40, [.slice none 0 0, .int .i64 0, .int .i64 0], false⟩ := rfl
theorem Uq : Xf 114 = some ⟨.arr 8 5, 8, 8, [.int .u8 0, .int .u8 0, .int .u8 0, .int .u8 0, .int .u8 0, .int .u8 0, .int .u8 0, .int .u8 0], false⟩ := rfl
theorem Zl4 : Zn Xf 2 = some (.int .i64) := rfl
theorem Zl5 : Zn Xf 3 = some (.int .i64) := rfl
theorem Zl6 : Zn Xf 4 = some (.bool) := rfl
theorem Zl7 : Zn Xf 5 = some (.int .u8) := rfl
theorem Zl8 : Zn Xf 6 = some (.int .u8) := rfl
theorem Zl9 : Zn Xf 7 = some (.struct [(0, 2), (1, 3), (2, 4), (3, 6)]) := rfl
theorem Zma : Zn Xf 8 = some (.struct [(0, 2), (1, 3), (2, 4), (3, 6)]) := rfl
theorem Zmb : Zn Xf 9 = some (.str) := rfl
theorem Zjm : Zn Xf 10 = some (.str) := rfl
theorem Zjn : Zn Xf 11 = some (.str) := rfl
theorem Zjo : Zn Xf 12 = some (.int .u64) := rfl
theorem Zjp : Zn Xf 13 = some (.struct [(0, 9), (1, 12)]) := rfl
theorem Zjq : Zn Xf 14 = some (.struct [(0, 9), (1, 12)]) := rfl
theorem Zjr : Zn Xf 15 = some (.ptr 122) := rfl
theorem Zjs : Zn Xf 16 = some (.ptr 125) := rfl
theorem Zjt : Zn Xf 17 = some (.ptr 133) := rfl
theorem Zju : Zn Xf 18 = some (.struct [(0, 17)]) := rfl
theorem Zjv : Zn Xf 19 = some (.struct [(0, 17)]) := rfl
theorem Zjw : Zn Xf 21 = some (.int .i32) := rfl
theorem Zjx : Zn Xf 22 = some (.slice 62) := rfl
theorem K3 : Zn Xf 23 = some (.slice 5) := rfl
theorem Zjy : Zn Xf 28 = some (.int .i64) := rfl
theorem Zjz : Zn Xf 37 = some (.int .u64) := rfl
theorem Zj0 : Zn Xf 38 = some (.struct [(0, 3), (1, 3), (2, 3), (3, 3), (4, 3), (5, 3), (6, 3), (7, 4)]) := rfl
theorem Zj1 : Zn Xf 39 = some (.struct [(0, 3), (1, 3), (2, 3), (3, 3), (4, 3), (5, 3), (6, 3), (7, 4)]) := rfl
theorem Zj2 : Zn Xf 42 = some (.struct [(0, 3), (1, 3), (2, 3), (3, 3), (4, 3), (5, 3), (6, 3), (7, 4)]) := rfl
theorem Zj3 : Zn Xf 48 = some (.slice 54) := rfl
theorem Zj4 : Zn Xf 49 = some (.ptr 105) := rfl
theorem Zj5 : Zn Xf 51 = some (.ptr 58) := rfl
theorem Zj6 : Zn Xf 53 = some (.struct [(0, 3), (1, 3), (2, 3), (3, 3), (4, 37)]) := rfl
theorem Zj7 : Zn Xf 54 = some (.struct [(0, 3), (1, 3), (2, 3), (3, 3), (4, 37)]) := rfl
theorem Zj8 : Zn Xf 57 = some (.struct [(0, 22), (1, 3), (2, 3), (3, 3)]) := rfl
theorem Zj9 : Zn Xf 58 = some (.struct [(0, 22), (1, 3), (2, 3), (3, 3)]) := rfl
theorem Zka : Zn Xf 62 = some (.slice 37) := rfl
theorem Zkb : Zn Xf 66 = some (.slice 3) := rfl
theorem Zkc : Zn Xf 67 = some (.slice 70) := rfl
theorem Zkd : Zn Xf 70 = some (.arr 3 3) := rfl
theorem Zke : Zn Xf 79 = some (.struct [(0, 39), (8, 3), (9, 3)]) := rfl
theorem Zkf : Zn Xf 80 = some (.struct [(0, 39), (8, 3), (9, 3)]) := rfl
theorem Zkg : Zn Xf 83 = some (.struct [(0, 42), (8, 3), (9, 3)]) := rfl
theorem Zkh : Zn Xf 84 = some (.struct [(0, 42), (8, 3), (9, 3)]) := rfl
theorem Zki : Zn Xf 91 = some (.int .u64) := rfl
theorem Zg5 : Zn Xf 104 = some (.struct [(0, 22), (1, 3), (2, 3)]) := rfl
theorem Zg6 : Zn Xf 105 = some (.struct [(0, 22), (1, 3), (2, 3)]) := rfl
theorem Vg : Zn Xf 114 = some (.arr 8 5) := rfl
end Go.Proofs.Ytgijkjifiekkmaa
