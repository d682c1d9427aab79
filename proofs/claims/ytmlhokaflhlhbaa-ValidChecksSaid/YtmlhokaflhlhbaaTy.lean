/- The types of this seat's program, as its dump has them, in the ghost memory's words; no condition. -/
import Derived.Test.YtmlhokaflhlhbaaRows
import Derived.Test.YtmlhokaflhlhbaaG16
namespace Go.Proofs.Ytmlhokaflhlhbaa
open Go.RowKit
set_option linter.unusedVariables false
set_option linter.unusedSimpArgs false
theorem TyOk.of {P : Program} {t : TypeId} (k : TK) (size bytes : Nat) (zero : List Value) (z : Value) (h : (P.info? t).map (fun i => (i.zero, i.size, i.bytes)) = some (some z, size, bytes)) (hz : z.cells.toList = zero) (hu : k.ok P t) (hl : zero.length = size) (h1 : zero.all Value.oneCell' = true) (eq : Bool) (he : eq = true → Zk6 P t) : TyOk P t ⟨k, size, bytes, zero, eq⟩ := by
 refine ⟨?_, hu, hl, fun v hv => List.all_eq_true.1 h1 v hv, he⟩
 cases hi : P.info? t with
 | none => rw [hi] at h; cases h
 | some i =>
  rw [hi] at h
  simp only [Option.map_some, Option.some.injEq, Prod.mk.injEq] at h
  exact ⟨i, z, rfl, h.2.1, h.2.2, h.1, hz⟩
theorem Zlw {α : Type} {t : Nat} {i : α} : ∀ (l : List (Nat × α)), l.lookup t = some i → (t, i) ∈ l
 | [], h => by simp at h
 | (a, b) :: l, h => by
  rw [List.lookup_cons] at h
  split at h
  ·rename_i he
   injection h with h
   have : t = a := by simpa using he
   subst h this
   exact .head _
  exact .tail _ (Zlw l h)
theorem ty2 : TyOk Try.prog 2 ⟨.int .i64, 1, 8, [.int .i64 0], false⟩ := TyOk.of (P := Try.prog) (t := 2) (.int .i64) 1 8 [.int .i64 0] (.int .i64 0) (by kernel_rfl) rfl Try.underlying2 rfl rfl false (fun h => by cases h)
theorem ty3 : TyOk Try.prog 3 ⟨.int .i64, 1, 8, [.int .i64 0], false⟩ := TyOk.of (P := Try.prog) (t := 3) (.int .i64) 1 8 [.int .i64 0] (.int .i64 0) (by kernel_rfl) rfl Try.underlying3 rfl rfl false (fun h => by cases h)
theorem ty4 : TyOk Try.prog 4 ⟨.bool, 1, 1, [.bool false], false⟩ := TyOk.of (P := Try.prog) (t := 4) (.bool) 1 1 [.bool false] (.bool false) (by kernel_rfl) rfl Try.underlying4 rfl rfl false (fun h => by cases h)
theorem ty5 : TyOk Try.prog 5 ⟨.int .u8, 1, 1, [.int .u8 0], false⟩ := TyOk.of (P := Try.prog) (t := 5) (.int .u8) 1 1 [.int .u8 0] (.int .u8 0) (by kernel_rfl) rfl Try.underlying5 rfl rfl false (fun h => by cases h)
theorem ty6 : TyOk Try.prog 6 ⟨.int .u8, 1, 1, [.int .u8 0], false⟩ := TyOk.of (P := Try.prog) (t := 6) (.int .u8) 1 1 [.int .u8 0] (.int .u8 0) (by kernel_rfl) rfl Try.underlying6 rfl rfl false (fun h => by cases h)
theorem ty7 : TyOk Try.prog 7 ⟨.struct [(0, 2), (1, 3), (2, 4), (3, 6)], 4, 24, [.int .i64 0, .int .i64 0, .bool false, .int .u8 0], false⟩ := TyOk.of (P := Try.prog) (t := 7) (.struct [(0, 2), (1, 3), (2, 4), (3, 6)]) 4 24 [.int .i64 0, .int .i64 0, .bool false, .int .u8 0] (.agg #[.int .i64 0, .int .i64 0, .bool false, .int .u8 0]) (by kernel_rfl) rfl ⟨_, Try.underlying7, rfl⟩ rfl rfl false (fun h => by cases h)
theorem ty8 : TyOk Try.prog 8 ⟨.struct [(0, 2), (1, 3), (2, 4), (3, 6)], 4, 24, [.int .i64 0, .int .i64 0, .bool false, .int .u8 0], false⟩ := TyOk.of (P := Try.prog) (t := 8) (.struct [(0, 2), (1, 3), (2, 4), (3, 6)]) 4 24 [.int .i64 0, .int .i64 0, .bool false, .int .u8 0] (.agg #[.int .i64 0, .int .i64 0, .bool false, .int .u8 0]) (by kernel_rfl) rfl ⟨_, Try.underlying8, rfl⟩ rfl rfl false (fun h => by cases h)
theorem ty9 : TyOk Try.prog 9 ⟨.str, 1, 16, [.string ByteArray.empty], false⟩ := TyOk.of (P := Try.prog) (t := 9) (.str) 1 16 [.string ByteArray.empty] (.string ByteArray.empty) (by kernel_rfl) rfl Try.underlying9 rfl rfl false (fun h => by cases h)
theorem Zxn : TyOk Try.prog 10 ⟨.str, 1, 16, [.string ByteArray.empty], false⟩ := TyOk.of (P := Try.prog) (t := 10) (.str) 1 16 [.string ByteArray.empty] (.string ByteArray.empty) (by kernel_rfl) rfl Try.underlying10 rfl rfl false (fun h => by cases h)
theorem Zxo : TyOk Try.prog 11 ⟨.str, 1, 16, [.string ByteArray.empty], false⟩ := TyOk.of (P := Try.prog) (t := 11) (.str) 1 16 [.string ByteArray.empty] (.string ByteArray.empty) (by kernel_rfl) rfl Try.underlying11 rfl rfl false (fun h => by cases h)
theorem Zxp : TyOk Try.prog 12 ⟨.int .u64, 1, 8, [.int .u64 0], false⟩ := TyOk.of (P := Try.prog) (t := 12) (.int .u64) 1 8 [.int .u64 0] (.int .u64 0) (by kernel_rfl) rfl Try.underlying12 rfl rfl false (fun h => by cases h)
theorem Zxq : TyOk Try.prog 13 ⟨.struct [(0, 9), (1, 12)], 2, 24, [.string ByteArray.empty, .int .u64 0], false⟩ := TyOk.of (P := Try.prog) (t := 13) (.struct [(0, 9), (1, 12)]) 2 24 [.string ByteArray.empty, .int .u64 0] (.agg #[.string ByteArray.empty, .int .u64 0]) (by kernel_rfl) rfl ⟨_, Try.underlying13, rfl⟩ rfl rfl false (fun h => by cases h)
theorem Zxr : TyOk Try.prog 14 ⟨.struct [(0, 9), (1, 12)], 2, 24, [.string ByteArray.empty, .int .u64 0], false⟩ := TyOk.of (P := Try.prog) (t := 14) (.struct [(0, 9), (1, 12)]) 2 24 [.string ByteArray.empty, .int .u64 0] (.agg #[.string ByteArray.empty, .int .u64 0]) (by kernel_rfl) rfl ⟨_, Try.underlying14, rfl⟩ rfl rfl false (fun h => by cases h)
theorem Zxs : TyOk Try.prog 15 ⟨.ptr 143, 1, 8, [.pointer none], false⟩ := TyOk.of (P := Try.prog) (t := 15) (.ptr 143) 1 8 [.pointer none] (.pointer none) (by kernel_rfl) rfl Try.underlying15 rfl rfl false (fun h => by cases h)
theorem Zxt : TyOk Try.prog 16 ⟨.ptr 146, 1, 8, [.pointer none], false⟩ := TyOk.of (P := Try.prog) (t := 16) (.ptr 146) 1 8 [.pointer none] (.pointer none) (by kernel_rfl) rfl Try.underlying16 rfl rfl false (fun h => by cases h)
theorem Zxu : TyOk Try.prog 17 ⟨.ptr 154, 1, 8, [.pointer none], false⟩ := TyOk.of (P := Try.prog) (t := 17) (.ptr 154) 1 8 [.pointer none] (.pointer none) (by kernel_rfl) rfl Try.underlying17 rfl rfl false (fun h => by cases h)
theorem Zxv : TyOk Try.prog 18 ⟨.struct [(0, 17)], 1, 8, [.pointer none], false⟩ := TyOk.of (P := Try.prog) (t := 18) (.struct [(0, 17)]) 1 8 [.pointer none] (.agg #[.pointer none]) (by kernel_rfl) rfl ⟨_, Try.underlying18, rfl⟩ rfl rfl false (fun h => by cases h)
theorem Zxw : TyOk Try.prog 19 ⟨.struct [(0, 17)], 1, 8, [.pointer none], false⟩ := TyOk.of (P := Try.prog) (t := 19) (.struct [(0, 17)]) 1 8 [.pointer none] (.agg #[.pointer none]) (by kernel_rfl) rfl ⟨_, Try.underlying19, rfl⟩ rfl rfl false (fun h => by cases h)
theorem Zxx : TyOk Try.prog 21 ⟨.int .i32, 1, 4, [.int .i32 0], false⟩ := TyOk.of (P := Try.prog) (t := 21) (.int .i32) 1 4 [.int .i32 0] (.int .i32 0) (by kernel_rfl) rfl Try.underlying21 rfl rfl false (fun h => by cases h)
theorem Zxy : TyOk Try.prog 22 ⟨.slice 42, 1, 24, [.slice none 0 0], false⟩ := TyOk.of (P := Try.prog) (t := 22) (.slice 42) 1 24 [.slice none 0 0] (.slice none 0 0) (by kernel_rfl) rfl Try.underlying22 rfl rfl false (fun h => by cases h)
theorem Zxz : TyOk Try.prog 23 ⟨.slice 3, 1, 24, [.slice none 0 0], false⟩ := TyOk.of (P := Try.prog) (t := 23) (.slice 3) 1 24 [.slice none 0 0] (.slice none 0 0) (by kernel_rfl) rfl Try.underlying23 rfl rfl false (fun h => by cases h)
theorem Zx0 : TyOk Try.prog 24 ⟨.ptr 81, 1, 8, [.pointer none], false⟩ := TyOk.of (P := Try.prog) (t := 24) (.ptr 81) 1 8 [.pointer none] (.pointer none) (by kernel_rfl) rfl Try.underlying24 rfl rfl false (fun h => by cases h)
theorem Zx1 : TyOk Try.prog 26 ⟨.struct [(0, 24), (1, 3), (2, 3), (3, 3), (4, 3), (5, 3), (6, 3), (7, 3), (8, 3)], 9, 72, [.pointer none, .int .i64 0, .int .i64 0, .int .i64 0, .int .i64 0, .int .i64 0, .int .i64 0, .int .i64 0, .int .i64 0], false⟩ := TyOk.of (P := Try.prog) (t := 26) (.struct [(0, 24), (1, 3), (2, 3), (3, 3), (4, 3), (5, 3), (6, 3), (7, 3), (8, 3)]) 9 72 [.pointer none, .int .i64 0, .int .i64 0, .int .i64 0, .int .i64 0, .int .i64 0, .int .i64 0, .int .i64 0, .int .i64 0] (.agg #[.pointer none, .int .i64 0, .int .i64 0, .int .i64 0, .int .i64 0, .int .i64 0, .int .i64 0, .int .i64 0, .int .i64 0]) (by kernel_rfl) rfl ⟨_, Try.underlying26, rfl⟩ rfl rfl false (fun h => by cases h)
theorem Zx2 : TyOk Try.prog 27 ⟨.struct [(0, 24), (1, 3), (2, 3), (3, 3), (4, 3), (5, 3), (6, 3), (7, 3), (8, 3)], 9, 72, [.pointer none, .int .i64 0, .int .i64 0, .int .i64 0, .int .i64 0, .int .i64 0, .int .i64 0, .int .i64 0, .int .i64 0], false⟩ := TyOk.of (P := Try.prog) (t := 27) (.struct [(0, 24), (1, 3), (2, 3), (3, 3), (4, 3), (5, 3), (6, 3), (7, 3), (8, 3)]) 9 72 [.pointer none, .int .i64 0, .int .i64 0, .int .i64 0, .int .i64 0, .int .i64 0, .int .i64 0, .int .i64 0, .int .i64 0] (.agg #[.pointer none, .int .i64 0, .int .i64 0, .int .i64 0, .int .i64 0, .int .i64 0, .int .i64 0, .int .i64 0, .int .i64 0]) (by kernel_rfl) rfl ⟨_, Try.underlying27, rfl⟩ rfl rfl false (fun h => by cases h)
theorem Zx3 : TyOk Try.prog 28 ⟨.int .i64, 1, 8, [.int .i64 0], false⟩ := TyOk.of (P := Try.prog) (t := 28) (.int .i64) 1 8 [.int .i64 0] (.int .i64 0) (by kernel_rfl) rfl Try.underlying28 rfl rfl false (fun h => by cases h)
theorem Zx4 : TyOk Try.prog 31 ⟨.int .u64, 1, 8, [.int .u64 0], false⟩ := TyOk.of (P := Try.prog) (t := 31) (.int .u64) 1 8 [.int .u64 0] (.int .u64 0) (by kernel_rfl) rfl Try.underlying31 rfl rfl false (fun h => by cases h)
theorem Zx5 : TyOk Try.prog 32 ⟨.struct [(0, 3), (1, 3), (2, 3), (3, 3), (4, 3), (5, 3), (6, 31)], 7, 56, [.int .i64 0, .int .i64 0, .int .i64 0, .int .i64 0, .int .i64 0, .int .i64 0, .int .u64 0], false⟩ := TyOk.of (P := Try.prog) (t := 32) (.struct [(0, 3), (1, 3), (2, 3), (3, 3), (4, 3), (5, 3), (6, 31)]) 7 56 [.int .i64 0, .int .i64 0, .int .i64 0, .int .i64 0, .int .i64 0, .int .i64 0, .int .u64 0] (.agg #[.int .i64 0, .int .i64 0, .int .i64 0, .int .i64 0, .int .i64 0, .int .i64 0, .int .u64 0]) (by kernel_rfl) rfl ⟨_, Try.underlying32, rfl⟩ rfl rfl false (fun h => by cases h)
theorem Zx6 : TyOk Try.prog 33 ⟨.struct [(0, 3), (1, 3), (2, 3), (3, 3), (4, 3), (5, 3), (6, 31)], 7, 56, [.int .i64 0, .int .i64 0, .int .i64 0, .int .i64 0, .int .i64 0, .int .i64 0, .int .u64 0], true⟩ := TyOk.of (P := Try.prog) (t := 33) (.struct [(0, 3), (1, 3), (2, 3), (3, 3), (4, 3), (5, 3), (6, 31)]) 7 56 [.int .i64 0, .int .i64 0, .int .i64 0, .int .i64 0, .int .i64 0, .int .i64 0, .int .u64 0] (.agg #[.int .i64 0, .int .i64 0, .int .i64 0, .int .i64 0, .int .i64 0, .int .i64 0, .int .u64 0]) (by kernel_rfl) rfl ⟨_, Try.underlying33, rfl⟩ rfl rfl true (fun _ => by unfold Zk6; exact ⟨by kernel_rfl, by kernel_rfl, by kernel_rfl⟩)
theorem Zx7 : TyOk Try.prog 42 ⟨.slice 31, 1, 24, [.slice none 0 0], false⟩ := TyOk.of (P := Try.prog) (t := 42) (.slice 31) 1 24 [.slice none 0 0] (.slice none 0 0) (by kernel_rfl) rfl Try.underlying42 rfl rfl false (fun h => by cases h)
theorem Zx8 : TyOk Try.prog 51 ⟨.struct [(0, 3), (1, 3), (2, 3), (3, 3)], 4, 32, [.int .i64 0, .int .i64 0, .int .i64 0, .int .i64 0], false⟩ := TyOk.of (P := Try.prog) (t := 51) (.struct [(0, 3), (1, 3), (2, 3), (3, 3)]) 4 32 [.int .i64 0, .int .i64 0, .int .i64 0, .int .i64 0] (.agg #[.int .i64 0, .int .i64 0, .int .i64 0, .int .i64 0]) (by kernel_rfl) rfl ⟨_, Try.underlying51, rfl⟩ rfl rfl false (fun h => by cases h)
theorem Zx9 : TyOk Try.prog 52 ⟨.struct [(0, 3), (1, 3), (2, 3), (3, 3)], 4, 32, [.int .i64 0, .int .i64 0, .int .i64 0, .int .i64 0], true⟩ := TyOk.of (P := Try.prog) (t := 52) (.struct [(0, 3), (1, 3), (2, 3), (3, 3)]) 4 32 [.int .i64 0, .int .i64 0, .int .i64 0, .int .i64 0] (.agg #[.int .i64 0, .int .i64 0, .int .i64 0, .int .i64 0]) (by kernel_rfl) rfl ⟨_, Try.underlying52, rfl⟩ rfl rfl true (fun _ => by unfold Zk6; exact ⟨by kernel_rfl, by kernel_rfl, by kernel_rfl⟩)
theorem Zya : TyOk Try.prog 56 ⟨.slice 58, 1, 24, [.slice none 0 0], false⟩ := TyOk.of (P := Try.prog) (t := 56) (.slice 58) 1 24 [.slice none 0 0] (.slice none 0 0) (by kernel_rfl) rfl Try.underlying56 rfl rfl false (fun h => by cases h)
theorem Zyb : TyOk Try.prog 57 ⟨.struct [(0, 3), (1, 42), (2, 56)], 3, 56, [.int .i64 0, .slice none 0 0, .slice none 0 0], false⟩ := TyOk.of (P := Try.prog) (t := 57) (.struct [(0, 3), (1, 42), (2, 56)]) 3 56 [.int .i64 0, .slice none 0 0, .slice none 0 0] (.agg #[.int .i64 0, .slice none 0 0, .slice none 0 0]) (by kernel_rfl) rfl ⟨_, Try.underlying57, rfl⟩ rfl rfl false (fun h => by cases h)
theorem Zyc : TyOk Try.prog 58 ⟨.struct [(0, 3), (1, 42), (2, 56)], 3, 56, [.int .i64 0, .slice none 0 0, .slice none 0 0], false⟩ := TyOk.of (P := Try.prog) (t := 58) (.struct [(0, 3), (1, 42), (2, 56)]) 3 56 [.int .i64 0, .slice none 0 0, .slice none 0 0] (.agg #[.int .i64 0, .slice none 0 0, .slice none 0 0]) (by kernel_rfl) rfl ⟨_, Try.underlying58, rfl⟩ rfl rfl false (fun h => by cases h)
theorem Zyd : TyOk Try.prog 66 ⟨.int .u32, 1, 4, [.int .u32 0], false⟩ := TyOk.of (P := Try.prog) (t := 66) (.int .u32) 1 4 [.int .u32 0] (.int .u32 0) (by kernel_rfl) rfl Try.underlying66 rfl rfl false (fun h => by cases h)
theorem Zye : TyOk Try.prog 67 ⟨.int .u64, 1, 8, [.int .u64 0], false⟩ := TyOk.of (P := Try.prog) (t := 67) (.int .u64) 1 8 [.int .u64 0] (.int .u64 0) (by kernel_rfl) rfl Try.underlying67 rfl rfl false (fun h => by cases h)
theorem Zyf : TyOk Try.prog 80 ⟨.struct [(0, 22), (1, 3), (2, 3)], 3, 40, [.slice none 0 0, .int .i64 0, .int .i64 0], false⟩ := TyOk.of (P := Try.prog) (t := 80) (.struct [(0, 22), (1, 3), (2, 3)]) 3 40 [.slice none 0 0, .int .i64 0, .int .i64 0] (.agg #[.slice none 0 0, .int .i64 0, .int .i64 0]) (by kernel_rfl) rfl ⟨_, Try.underlying80, rfl⟩ rfl rfl false (fun h => by cases h)
theorem Zyg : TyOk Try.prog 81 ⟨.struct [(0, 22), (1, 3), (2, 3)], 3, 40, [.slice none 0 0, .int .i64 0, .int .i64 0], false⟩ := TyOk.of (P := Try.prog) (t := 81) (.struct [(0, 22), (1, 3), (2, 3)]) 3 40 [.slice none 0 0, .int .i64 0, .int .i64 0] (.agg #[.slice none 0 0, .int .i64 0, .int .i64 0]) (by kernel_rfl) rfl ⟨_, Try.underlying81, rfl⟩ rfl rfl false (fun h => by cases h)
theorem Zyh : TyOk Try.prog 82 ⟨.struct [(0, 3), (1, 3), (2, 3), (3, 3), (4, 3), (5, 3), (6, 3), (7, 4)], 8, 64, [.int .i64 0, .int .i64 0, .int .i64 0, .int .i64 0, .int .i64 0, .int .i64 0, .int .i64 0, .bool false], false⟩ := TyOk.of (P := Try.prog) (t := 82) (.struct [(0, 3), (1, 3), (2, 3), (3, 3), (4, 3), (5, 3), (6, 3), (7, 4)]) 8 64 [.int .i64 0, .int .i64 0, .int .i64 0, .int .i64 0, .int .i64 0, .int .i64 0, .int .i64 0, .bool false] (.agg #[.int .i64 0, .int .i64 0, .int .i64 0, .int .i64 0, .int .i64 0, .int .i64 0, .int .i64 0, .bool false]) (by kernel_rfl) rfl ⟨_, Try.underlying82, rfl⟩ rfl rfl false (fun h => by cases h)
theorem Zyi : TyOk Try.prog 83 ⟨.struct [(0, 3), (1, 3), (2, 3), (3, 3), (4, 3), (5, 3), (6, 3), (7, 4)], 8, 64, [.int .i64 0, .int .i64 0, .int .i64 0, .int .i64 0, .int .i64 0, .int .i64 0, .int .i64 0, .bool false], true⟩ := TyOk.of (P := Try.prog) (t := 83) (.struct [(0, 3), (1, 3), (2, 3), (3, 3), (4, 3), (5, 3), (6, 3), (7, 4)]) 8 64 [.int .i64 0, .int .i64 0, .int .i64 0, .int .i64 0, .int .i64 0, .int .i64 0, .int .i64 0, .bool false] (.agg #[.int .i64 0, .int .i64 0, .int .i64 0, .int .i64 0, .int .i64 0, .int .i64 0, .int .i64 0, .bool false]) (by kernel_rfl) rfl ⟨_, Try.underlying83, rfl⟩ rfl rfl true (fun _ => by unfold Zk6; exact ⟨by kernel_rfl, by kernel_rfl, by kernel_rfl⟩)
theorem Zyj : TyOk Try.prog 84 ⟨.struct [(0, 83), (8, 3), (9, 3)], 10, 80, [.int .i64 0, .int .i64 0, .int .i64 0, .int .i64 0, .int .i64 0, .int .i64 0, .int .i64 0, .bool false, .int .i64 0, .int .i64 0], false⟩ := TyOk.of (P := Try.prog) (t := 84) (.struct [(0, 83), (8, 3), (9, 3)]) 10 80 [.int .i64 0, .int .i64 0, .int .i64 0, .int .i64 0, .int .i64 0, .int .i64 0, .int .i64 0, .bool false, .int .i64 0, .int .i64 0] (.agg #[.int .i64 0, .int .i64 0, .int .i64 0, .int .i64 0, .int .i64 0, .int .i64 0, .int .i64 0, .bool false, .int .i64 0, .int .i64 0]) (by kernel_rfl) rfl ⟨_, Try.underlying84, rfl⟩ rfl rfl false (fun h => by cases h)
theorem Zyk : TyOk Try.prog 85 ⟨.struct [(0, 83), (8, 3), (9, 3)], 10, 80, [.int .i64 0, .int .i64 0, .int .i64 0, .int .i64 0, .int .i64 0, .int .i64 0, .int .i64 0, .bool false, .int .i64 0, .int .i64 0], true⟩ := TyOk.of (P := Try.prog) (t := 85) (.struct [(0, 83), (8, 3), (9, 3)]) 10 80 [.int .i64 0, .int .i64 0, .int .i64 0, .int .i64 0, .int .i64 0, .int .i64 0, .int .i64 0, .bool false, .int .i64 0, .int .i64 0] (.agg #[.int .i64 0, .int .i64 0, .int .i64 0, .int .i64 0, .int .i64 0, .int .i64 0, .int .i64 0, .bool false, .int .i64 0, .int .i64 0]) (by kernel_rfl) rfl ⟨_, Try.underlying85, rfl⟩ rfl rfl true (fun _ => by unfold Zk6; exact ⟨by kernel_rfl, by kernel_rfl, by kernel_rfl⟩)
theorem Zyl : TyOk Try.prog 89 ⟨.struct [(0, 3), (1, 3), (2, 3), (3, 3), (4, 3), (5, 3), (6, 3), (7, 4)], 8, 64, [.int .i64 0, .int .i64 0, .int .i64 0, .int .i64 0, .int .i64 0, .int .i64 0, .int .i64 0, .bool false], true⟩ := TyOk.of (P := Try.prog) (t := 89) (.struct [(0, 3), (1, 3), (2, 3), (3, 3), (4, 3), (5, 3), (6, 3), (7, 4)]) 8 64 [.int .i64 0, .int .i64 0, .int .i64 0, .int .i64 0, .int .i64 0, .int .i64 0, .int .i64 0, .bool false] (.agg #[.int .i64 0, .int .i64 0, .int .i64 0, .int .i64 0, .int .i64 0, .int .i64 0, .int .i64 0, .bool false]) (by kernel_rfl) rfl ⟨_, Try.underlying89, rfl⟩ rfl rfl true (fun _ => by unfold Zk6; exact ⟨by kernel_rfl, by kernel_rfl, by kernel_rfl⟩)
theorem Zym : TyOk Try.prog 90 ⟨.struct [(0, 89), (8, 3), (9, 3)], 10, 80, [.int .i64 0, .int .i64 0, .int .i64 0, .int .i64 0, .int .i64 0, .int .i64 0, .int .i64 0, .bool false, .int .i64 0, .int .i64 0], false⟩ := TyOk.of (P := Try.prog) (t := 90) (.struct [(0, 89), (8, 3), (9, 3)]) 10 80 [.int .i64 0, .int .i64 0, .int .i64 0, .int .i64 0, .int .i64 0, .int .i64 0, .int .i64 0, .bool false, .int .i64 0, .int .i64 0] (.agg #[.int .i64 0, .int .i64 0, .int .i64 0, .int .i64 0, .int .i64 0, .int .i64 0, .int .i64 0, .bool false, .int .i64 0, .int .i64 0]) (by kernel_rfl) rfl ⟨_, Try.underlying90, rfl⟩ rfl rfl false (fun h => by cases h)
theorem Zyn : TyOk Try.prog 91 ⟨.struct [(0, 89), (8, 3), (9, 3)], 10, 80, [.int .i64 0, .int .i64 0, .int .i64 0, .int .i64 0, .int .i64 0, .int .i64 0, .int .i64 0, .bool false, .int .i64 0, .int .i64 0], true⟩ := TyOk.of (P := Try.prog) (t := 91) (.struct [(0, 89), (8, 3), (9, 3)]) 10 80 [.int .i64 0, .int .i64 0, .int .i64 0, .int .i64 0, .int .i64 0, .int .i64 0, .int .i64 0, .bool false, .int .i64 0, .int .i64 0] (.agg #[.int .i64 0, .int .i64 0, .int .i64 0, .int .i64 0, .int .i64 0, .int .i64 0, .int .i64 0, .bool false, .int .i64 0, .int .i64 0]) (by kernel_rfl) rfl ⟨_, Try.underlying91, rfl⟩ rfl rfl true (fun _ => by unfold Zk6; exact ⟨by kernel_rfl, by kernel_rfl, by kernel_rfl⟩)
theorem Zwx : TyOk Try.prog 106 ⟨.struct [(0, 3)], 1, 8, [.int .i64 0], false⟩ := TyOk.of (P := Try.prog) (t := 106) (.struct [(0, 3)]) 1 8 [.int .i64 0] (.agg #[.int .i64 0]) (by kernel_rfl) rfl ⟨_, Try.underlying106, rfl⟩ rfl rfl false (fun h => by cases h)
theorem Zwy : TyOk Try.prog 107 ⟨.struct [(0, 3)], 1, 8, [.int .i64 0], true⟩ := TyOk.of (P := Try.prog) (t := 107) (.struct [(0, 3)]) 1 8 [.int .i64 0] (.agg #[.int .i64 0]) (by kernel_rfl) rfl ⟨_, Try.underlying107, rfl⟩ rfl rfl true (fun _ => by unfold Zk6; exact ⟨by kernel_rfl, by kernel_rfl, by kernel_rfl⟩)
theorem Zwz : TyOk Try.prog 111 ⟨.struct [(0, 3)], 1, 8, [.int .i64 0], false⟩ := TyOk.of (P := Try.prog) (t := 111) (.struct [(0, 3)]) 1 8 [.int .i64 0] (.agg #[.int .i64 0]) (by kernel_rfl) rfl ⟨_, Try.underlying111, rfl⟩ rfl rfl false (fun h => by cases h)
theorem Zw0 : TyOk Try.prog 112 ⟨.struct [(0, 3)], 1, 8, [.int .i64 0], true⟩ := TyOk.of (P := Try.prog) (t := 112) (.struct [(0, 3)]) 1 8 [.int .i64 0] (.agg #[.int .i64 0]) (by kernel_rfl) rfl ⟨_, Try.underlying112, rfl⟩ rfl rfl true (fun _ => by unfold Zk6; exact ⟨by kernel_rfl, by kernel_rfl, by kernel_rfl⟩)
theorem Zw1 : TyOk Try.prog 114 ⟨.struct [(0, 3)], 1, 8, [.int .i64 0], false⟩ := TyOk.of (P := Try.prog) (t := 114) (.struct [(0, 3)]) 1 8 [.int .i64 0] (.agg #[.int .i64 0]) (by kernel_rfl) rfl ⟨_, Try.underlying114, rfl⟩ rfl rfl false (fun h => by cases h)
theorem Zw2 : TyOk Try.prog 115 ⟨.struct [(0, 3)], 1, 8, [.int .i64 0], true⟩ := TyOk.of (P := Try.prog) (t := 115) (.struct [(0, 3)]) 1 8 [.int .i64 0] (.agg #[.int .i64 0]) (by kernel_rfl) rfl ⟨_, Try.underlying115, rfl⟩ rfl rfl true (fun _ => by unfold Zk6; exact ⟨by kernel_rfl, by kernel_rfl, by kernel_rfl⟩)
theorem Zw3 : TyOk Try.prog 126 ⟨.ptr 107, 1, 8, [.pointer none], false⟩ := TyOk.of (P := Try.prog) (t := 126) (.ptr 107) 1 8 [.pointer none] (.pointer none) (by kernel_rfl) rfl Try.underlying126 rfl rfl false (fun h => by cases h)
theorem Zw4 : TyOk Try.prog 129 ⟨.ptr 112, 1, 8, [.pointer none], false⟩ := TyOk.of (P := Try.prog) (t := 129) (.ptr 112) 1 8 [.pointer none] (.pointer none) (by kernel_rfl) rfl Try.underlying129 rfl rfl false (fun h => by cases h)
theorem Zw5 : TyOk Try.prog 131 ⟨.ptr 115, 1, 8, [.pointer none], false⟩ := TyOk.of (P := Try.prog) (t := 131) (.ptr 115) 1 8 [.pointer none] (.pointer none) (by kernel_rfl) rfl Try.underlying131 rfl rfl false (fun h => by cases h)
theorem Zw6 : TyOk Try.prog 138 ⟨.arr 6 3, 6, 48, [.int .i64 0, .int .i64 0, .int .i64 0, .int .i64 0, .int .i64 0, .int .i64 0], false⟩ := TyOk.of (P := Try.prog) (t := 138) (.arr 6 3) 6 48 [.int .i64 0, .int .i64 0, .int .i64 0, .int .i64 0, .int .i64 0, .int .i64 0] (.agg #[.int .i64 0, .int .i64 0, .int .i64 0, .int .i64 0, .int .i64 0, .int .i64 0]) (by kernel_rfl) rfl Try.underlying138 rfl rfl false (fun h => by cases h)
theorem Zw7 : TyOk Try.prog 140 ⟨.arr 7 3, 7, 56, [.int .i64 0, .int .i64 0, .int .i64 0, .int .i64 0, .int .i64 0, .int .i64 0, .int .i64 0], false⟩ := TyOk.of (P := Try.prog) (t := 140) (.arr 7 3) 7 56 [.int .i64 0, .int .i64 0, .int .i64 0, .int .i64 0, .int .i64 0, .int .i64 0, .int .i64 0] (.agg #[.int .i64 0, .int .i64 0, .int .i64 0, .int .i64 0, .int .i64 0, .int .i64 0, .int .i64 0]) (by kernel_rfl) rfl Try.underlying140 rfl rfl false (fun h => by cases h)
theorem Zw8 : TyOk Try.prog 142 ⟨.struct [(0, 17), (1, 17), (2, 17), (3, 9)], 4, 40, [.pointer none, .pointer none, .pointer none, .string ByteArray.empty], false⟩ := TyOk.of (P := Try.prog) (t := 142) (.struct [(0, 17), (1, 17), (2, 17), (3, 9)]) 4 40 [.pointer none, .pointer none, .pointer none, .string ByteArray.empty] (.agg #[.pointer none, .pointer none, .pointer none, .string ByteArray.empty]) (by kernel_rfl) rfl ⟨_, Try.underlying142, rfl⟩ rfl rfl false (fun h => by cases h)
theorem Zw9 : TyOk Try.prog 143 ⟨.struct [(0, 17), (1, 17), (2, 17), (3, 9)], 4, 40, [.pointer none, .pointer none, .pointer none, .string ByteArray.empty], false⟩ := TyOk.of (P := Try.prog) (t := 143) (.struct [(0, 17), (1, 17), (2, 17), (3, 9)]) 4 40 [.pointer none, .pointer none, .pointer none, .string ByteArray.empty] (.agg #[.pointer none, .pointer none, .pointer none, .string ByteArray.empty]) (by kernel_rfl) rfl ⟨_, Try.underlying143, rfl⟩ rfl rfl false (fun h => by cases h)
theorem Zxa : TyOk Try.prog 147 ⟨.int .u8, 1, 1, [.int .u8 0], false⟩ := TyOk.of (P := Try.prog) (t := 147) (.int .u8) 1 1 [.int .u8 0] (.int .u8 0) (by kernel_rfl) rfl Try.underlying147 rfl rfl false (fun h => by cases h)
theorem Zxb : TyOk Try.prog 148 ⟨.int .u8, 1, 1, [.int .u8 0], false⟩ := TyOk.of (P := Try.prog) (t := 148) (.int .u8) 1 1 [.int .u8 0] (.int .u8 0) (by kernel_rfl) rfl Try.underlying148 rfl rfl false (fun h => by cases h)
theorem Zxc : TyOk Try.prog 150 ⟨.ptr 5, 1, 8, [.pointer none], false⟩ := TyOk.of (P := Try.prog) (t := 150) (.ptr 5) 1 8 [.pointer none] (.pointer none) (by kernel_rfl) rfl Try.underlying150 rfl rfl false (fun h => by cases h)
theorem Zxd : TyOk Try.prog 151 ⟨.int .i32, 1, 4, [.int .i32 0], false⟩ := TyOk.of (P := Try.prog) (t := 151) (.int .i32) 1 4 [.int .i32 0] (.int .i32 0) (by kernel_rfl) rfl Try.underlying151 rfl rfl false (fun h => by cases h)
theorem Zxe : TyOk Try.prog 152 ⟨.int .i32, 1, 4, [.int .i32 0], false⟩ := TyOk.of (P := Try.prog) (t := 152) (.int .i32) 1 4 [.int .i32 0] (.int .i32 0) (by kernel_rfl) rfl Try.underlying152 rfl rfl false (fun h => by cases h)
def tabL : List (Nat × TyI) := [(2, ⟨.int .i64, 1, 8, [.int .i64 0], false⟩),
 (3, ⟨.int .i64, 1, 8, [.int .i64 0], false⟩),
 (4, ⟨.bool, 1, 1, [.bool false], false⟩),
 (5, ⟨.int .u8, 1, 1, [.int .u8 0], false⟩),
 (6, ⟨.int .u8, 1, 1, [.int .u8 0], false⟩),
 (7, ⟨.struct [(0, 2), (1, 3), (2, 4), (3, 6)], 4, 24, [.int .i64 0, .int .i64 0, .bool false, .int .u8 0], false⟩),
 (8, ⟨.struct [(0, 2), (1, 3), (2, 4), (3, 6)], 4, 24, [.int .i64 0, .int .i64 0, .bool false, .int .u8 0], false⟩),
 (9, ⟨.str, 1, 16, [.string ByteArray.empty], false⟩),
 (10, ⟨.str, 1, 16, [.string ByteArray.empty], false⟩),
 (11, ⟨.str, 1, 16, [.string ByteArray.empty], false⟩),
 (12, ⟨.int .u64, 1, 8, [.int .u64 0], false⟩),
 (13, ⟨.struct [(0, 9), (1, 12)], 2, 24, [.string ByteArray.empty, .int .u64 0], false⟩),
 (14, ⟨.struct [(0, 9), (1, 12)], 2, 24, [.string ByteArray.empty, .int .u64 0], false⟩),
 (15, ⟨.ptr 143, 1, 8, [.pointer none], false⟩),
 (16, ⟨.ptr 146, 1, 8, [.pointer none], false⟩),
 (17, ⟨.ptr 154, 1, 8, [.pointer none], false⟩),
 (18, ⟨.struct [(0, 17)], 1, 8, [.pointer none], false⟩),
 (19, ⟨.struct [(0, 17)], 1, 8, [.pointer none], false⟩),
 (21, ⟨.int .i32, 1, 4, [.int .i32 0], false⟩),
 (22, ⟨.slice 42, 1, 24, [.slice none 0 0], false⟩),
 (23, ⟨.slice 3, 1, 24, [.slice none 0 0], false⟩),
 (24, ⟨.ptr 81, 1, 8, [.pointer none], false⟩),
 (26, ⟨.struct [(0, 24), (1, 3), (2, 3), (3, 3), (4, 3), (5, 3), (6, 3), (7, 3), (8, 3)], 9, 72, [.pointer none, .int .i64 0, .int .i64 0, .int .i64 0, .int .i64 0, .int .i64 0, .int .i64 0, .int .i64 0, .int .i64 0], false⟩),
 (27, ⟨.struct [(0, 24), (1, 3), (2, 3), (3, 3), (4, 3), (5, 3), (6, 3), (7, 3), (8, 3)], 9, 72, [.pointer none, .int .i64 0, .int .i64 0, .int .i64 0, .int .i64 0, .int .i64 0, .int .i64 0, .int .i64 0, .int .i64 0], false⟩),
 (28, ⟨.int .i64, 1, 8, [.int .i64 0], false⟩),
 (31, ⟨.int .u64, 1, 8, [.int .u64 0], false⟩),
 (32, ⟨.struct [(0, 3), (1, 3), (2, 3), (3, 3), (4, 3), (5, 3), (6, 31)], 7, 56, [.int .i64 0, .int .i64 0, .int .i64 0, .int .i64 0, .int .i64 0, .int .i64 0, .int .u64 0], false⟩),
 (33, ⟨.struct [(0, 3), (1, 3), (2, 3), (3, 3), (4, 3), (5, 3), (6, 31)], 7, 56, [.int .i64 0, .int .i64 0, .int .i64 0, .int .i64 0, .int .i64 0, .int .i64 0, .int .u64 0], true⟩),
 (42, ⟨.slice 31, 1, 24, [.slice none 0 0], false⟩),
 (51, ⟨.struct [(0, 3), (1, 3), (2, 3), (3, 3)], 4, 32, [.int .i64 0, .int .i64 0, .int .i64 0, .int .i64 0], false⟩),
 (52, ⟨.struct [(0, 3), (1, 3), (2, 3), (3, 3)], 4, 32, [.int .i64 0, .int .i64 0, .int .i64 0, .int .i64 0], true⟩),
 (56, ⟨.slice 58, 1, 24, [.slice none 0 0], false⟩),
 (57, ⟨.struct [(0, 3), (1, 42), (2, 56)], 3, 56, [.int .i64 0, .slice none 0 0, .slice none 0 0], false⟩),
 (58, ⟨.struct [(0, 3), (1, 42), (2, 56)], 3, 56, [.int .i64 0, .slice none 0 0, .slice none 0 0], false⟩),
 (66, ⟨.int .u32, 1, 4, [.int .u32 0], false⟩),
 (67, ⟨.int .u64, 1, 8, [.int .u64 0], false⟩),
 (80, ⟨.struct [(0, 22), (1, 3), (2, 3)], 3, 40, [.slice none 0 0, .int .i64 0, .int .i64 0], false⟩),
 (81, ⟨.struct [(0, 22), (1, 3), (2, 3)], 3, 40, [.slice none 0 0, .int .i64 0, .int .i64 0], false⟩),
 (82, ⟨.struct [(0, 3), (1, 3), (2, 3), (3, 3), (4, 3), (5, 3), (6, 3), (7, 4)], 8, 64, [.int .i64 0, .int .i64 0, .int .i64 0, .int .i64 0, .int .i64 0, .int .i64 0, .int .i64 0, .bool false], false⟩),
 (83, ⟨.struct [(0, 3), (1, 3), (2, 3), (3, 3), (4, 3), (5, 3), (6, 3), (7, 4)], 8, 64, [.int .i64 0, .int .i64 0, .int .i64 0, .int .i64 0, .int .i64 0, .int .i64 0, .int .i64 0, .bool false], true⟩),
 (84, ⟨.struct [(0, 83), (8, 3), (9, 3)], 10, 80, [.int .i64 0, .int .i64 0, .int .i64 0, .int .i64 0, .int .i64 0, .int .i64 0, .int .i64 0, .bool false, .int .i64 0, .int .i64 0], false⟩),
 (85, ⟨.struct [(0, 83), (8, 3), (9, 3)], 10, 80, [.int .i64 0, .int .i64 0, .int .i64 0, .int .i64 0, .int .i64 0, .int .i64 0, .int .i64 0, .bool false, .int .i64 0, .int .i64 0], true⟩),
 (89, ⟨.struct [(0, 3), (1, 3), (2, 3), (3, 3), (4, 3), (5, 3), (6, 3), (7, 4)], 8, 64, [.int .i64 0, .int .i64 0, .int .i64 0, .int .i64 0, .int .i64 0, .int .i64 0, .int .i64 0, .bool false], true⟩),
 (90, ⟨.struct [(0, 89), (8, 3), (9, 3)], 10, 80, [.int .i64 0, .int .i64 0, .int .i64 0, .int .i64 0, .int .i64 0, .int .i64 0, .int .i64 0, .bool false, .int .i64 0, .int .i64 0], false⟩),
 (91, ⟨.struct [(0, 89), (8, 3), (9, 3)], 10, 80, [.int .i64 0, .int .i64 0, .int .i64 0, .int .i64 0, .int .i64 0, .int .i64 0, .int .i64 0, .bool false, .int .i64 0, .int .i64 0], true⟩),
 (106, ⟨.struct [(0, 3)], 1, 8, [.int .i64 0], false⟩),
 (107, ⟨.struct [(0, 3)], 1, 8, [.int .i64 0], true⟩),
 (111, ⟨.struct [(0, 3)], 1, 8, [.int .i64 0], false⟩),
 (112, ⟨.struct [(0, 3)], 1, 8, [.int .i64 0], true⟩),
 (114, ⟨.struct [(0, 3)], 1, 8, [.int .i64 0], false⟩),
 (115, ⟨.struct [(0, 3)], 1, 8, [.int .i64 0], true⟩),
 (126, ⟨.ptr 107, 1, 8, [.pointer none], false⟩),
 (129, ⟨.ptr 112, 1, 8, [.pointer none], false⟩),
 (131, ⟨.ptr 115, 1, 8, [.pointer none], false⟩),
 (138, ⟨.arr 6 3, 6, 48, [.int .i64 0, .int .i64 0, .int .i64 0, .int .i64 0, .int .i64 0, .int .i64 0], false⟩),
 (140, ⟨.arr 7 3, 7, 56, [.int .i64 0, .int .i64 0, .int .i64 0, .int .i64 0, .int .i64 0, .int .i64 0, .int .i64 0], false⟩),
 (142, ⟨.struct [(0, 17), (1, 17), (2, 17), (3, 9)], 4, 40, [.pointer none, .pointer none, .pointer none, .string ByteArray.empty], false⟩),
 (143, ⟨.struct [(0, 17), (1, 17), (2, 17), (3, 9)], 4, 40, [.pointer none, .pointer none, .pointer none, .string ByteArray.empty], false⟩),
 (147, ⟨.int .u8, 1, 1, [.int .u8 0], false⟩),
 (148, ⟨.int .u8, 1, 1, [.int .u8 0], false⟩),
 (150, ⟨.ptr 5, 1, 8, [.pointer none], false⟩),
 (151, ⟨.int .i32, 1, 4, [.int .i32 0], false⟩),
 (152, ⟨.int .i32, 1, 4, [.int .i32 0], false⟩)]
def Xs : Qi := fun t => tabL.lookup t
theorem Zc : Xb Try.prog Xs := fun t i h => by
 have hm := Zlw _ h
 unfold tabL at hm
 simp only [List.mem_cons, Prod.mk.injEq, List.not_mem_nil, or_false] at hm
 rcases hm with ⟨rfl, rfl⟩ | ⟨rfl, rfl⟩ | ⟨rfl, rfl⟩ | ⟨rfl, rfl⟩ | ⟨rfl, rfl⟩ | ⟨rfl, rfl⟩ | ⟨rfl, rfl⟩ | ⟨rfl, rfl⟩ | ⟨rfl, rfl⟩ | ⟨rfl, rfl⟩ | ⟨rfl, rfl⟩ | ⟨rfl, rfl⟩ | ⟨rfl, rfl⟩ | ⟨rfl, rfl⟩ | ⟨rfl, rfl⟩ | ⟨rfl, rfl⟩ | ⟨rfl, rfl⟩ | ⟨rfl, rfl⟩ | ⟨rfl, rfl⟩ | ⟨rfl, rfl⟩ | ⟨rfl, rfl⟩ | ⟨rfl, rfl⟩ | ⟨rfl, rfl⟩ | ⟨rfl, rfl⟩ | ⟨rfl, rfl⟩ | ⟨rfl, rfl⟩ | ⟨rfl, rfl⟩ | ⟨rfl, rfl⟩ | ⟨rfl, rfl⟩ | ⟨rfl, rfl⟩ | ⟨rfl, rfl⟩ | ⟨rfl, rfl⟩ | ⟨rfl, rfl⟩ | ⟨rfl, rfl⟩ | ⟨rfl, rfl⟩ | ⟨rfl, rfl⟩ | ⟨rfl, rfl⟩ | ⟨rfl, rfl⟩ | ⟨rfl, rfl⟩ | ⟨rfl, rfl⟩ | ⟨rfl, rfl⟩ | ⟨rfl, rfl⟩ | ⟨rfl, rfl⟩ | ⟨rfl, rfl⟩ | ⟨rfl, rfl⟩ | ⟨rfl, rfl⟩ | ⟨rfl, rfl⟩ | ⟨rfl, rfl⟩ | ⟨rfl, rfl⟩ | ⟨rfl, rfl⟩ | ⟨rfl, rfl⟩ | ⟨rfl, rfl⟩ | ⟨rfl, rfl⟩ | ⟨rfl, rfl⟩ | ⟨rfl, rfl⟩ | ⟨rfl, rfl⟩ | ⟨rfl, rfl⟩ | ⟨rfl, rfl⟩ | ⟨rfl, rfl⟩ | ⟨rfl, rfl⟩ | ⟨rfl, rfl⟩ | ⟨rfl, rfl⟩ | ⟨rfl, rfl⟩
 ·exact ty2
 ·exact ty3
 ·exact ty4
 ·exact ty5
 ·exact ty6
 ·exact ty7
 ·exact ty8
 ·exact ty9
 ·exact Zxn
 ·exact Zxo
 ·exact Zxp
 ·exact Zxq
 ·exact Zxr
 ·exact Zxs
 ·exact Zxt
 ·exact Zxu
 ·exact Zxv
 ·exact Zxw
 ·exact Zxx
 ·exact Zxy
 ·exact Zxz
 ·exact Zx0
 ·exact Zx1
 ·exact Zx2
 ·exact Zx3
 ·exact Zx4
 ·exact Zx5
 ·exact Zx6
 ·exact Zx7
 ·exact Zx8
 ·exact Zx9
 ·exact Zya
 ·exact Zyb
 ·exact Zyc
 ·exact Zyd
 ·exact Zye
 ·exact Zyf
 ·exact Zyg
 ·exact Zyh
 ·exact Zyi
 ·exact Zyj
 ·exact Zyk
 ·exact Zyl
 ·exact Zym
 ·exact Zyn
 ·exact Zwx
 ·exact Zwy
 ·exact Zwz
 ·exact Zw0
 ·exact Zw1
 ·exact Zw2
 ·exact Zw3
 ·exact Zw4
 ·exact Zw5
 ·exact Zw6
 ·exact Zw7
 ·exact Zw8
 ·exact Zw9
 ·exact Zxa
 ·exact Zxb
 ·exact Zxc
 ·exact Zxd
 exact Zxe
theorem Zu1 : Xs 2 = some ⟨.int .i64, 1, 8, [.int .i64 0], false⟩ := rfl
theorem Ztq : Xs 3 = some ⟨.int .i64, 1, 8, [.int .i64 0], false⟩ := rfl
theorem Zu2 : Xs 4 = some ⟨.bool, 1, 1, [.bool false], false⟩ := rfl
theorem Zu3 : Xs 5 = some ⟨.int .u8, 1, 1, [.int .u8 0], false⟩ := rfl
theorem Zu4 : Xs 6 = some ⟨.int .u8, 1, 1, [.int .u8 0], false⟩ := rfl
theorem Zu5 : Xs 7 = some ⟨.struct [(0, 2), (1, 3), (2, 4), (3, 6)], 4, 24, [.int .i64 0, .int .i64 0, .bool false, .int .u8 0], false⟩ := rfl
theorem Zu6 : Xs 8 = some ⟨.struct [(0, 2), (1, 3), (2, 4), (3, 6)], 4, 24, [.int .i64 0, .int .i64 0, .bool false, .int .u8 0], false⟩ := rfl
theorem Zu7 : Xs 9 = some ⟨.str, 1, 16, [.string ByteArray.empty], false⟩ := rfl
theorem Zqf : Xs 10 = some ⟨.str, 1, 16, [.string ByteArray.empty], false⟩ := rfl
theorem Zqg : Xs 11 = some ⟨.str, 1, 16, [.string ByteArray.empty], false⟩ := rfl
theorem Zqh : Xs 12 = some ⟨.int .u64, 1, 8, [.int .u64 0], false⟩ := rfl
theorem Zqi : Xs 13 = some ⟨.struct [(0, 9), (1, 12)], 2, 24, [.string ByteArray.empty, .int .u64 0], false⟩ := rfl
theorem Zqj : Xs 14 = some ⟨.struct [(0, 9), (1, 12)], 2, 24, [.string ByteArray.empty, .int .u64 0], false⟩ := rfl
theorem Zqk : Xs 15 = some ⟨.ptr 143, 1, 8, [.pointer none], false⟩ := rfl
theorem Zql : Xs 16 = some ⟨.ptr 146, 1, 8, [.pointer none], false⟩ := rfl
theorem Zqm : Xs 17 = some ⟨.ptr 154, 1, 8, [.pointer none], false⟩ := rfl
theorem Zqn : Xs 18 = some ⟨.struct [(0, 17)], 1, 8, [.pointer none], false⟩ := rfl
theorem Zqo : Xs 19 = some ⟨.struct [(0, 17)], 1, 8, [.pointer none], false⟩ := rfl
theorem Zqp : Xs 21 = some ⟨.int .i32, 1, 4, [.int .i32 0], false⟩ := rfl
theorem Zqq : Xs 22 = some ⟨.slice 42, 1, 24, [.slice none 0 0], false⟩ := rfl
theorem Zqr : Xs 23 = some ⟨.slice 3, 1, 24, [.slice none 0 0], false⟩ := rfl
theorem Zqs : Xs 24 = some ⟨.ptr 81, 1, 8, [.pointer none], false⟩ := rfl
theorem Zqt : Xs 26 = some ⟨.struct [(0, 24), (1, 3), (2, 3), (3, 3), (4, 3), (5, 3), (6, 3), (7, 3), (8, 3)], 9, 72, [.pointer none, .int .i64 0, .int .i64 0, .int .i64 0, .int .i64 0, .int .i64 0, .int .i64 0, .int .i64 0, .int .i64 0], false⟩ := rfl
theorem Zqu : Xs 27 = some ⟨.struct [(0, 24), (1, 3), (2, 3), (3, 3), (4, 3), (5, 3), (6, 3), (7, 3), (8, 3)], 9, 72, [.pointer none, .int .i64 0, .int .i64 0, .int .i64 0, .int .i64 0, .int .i64 0, .int .i64 0, .int .i64 0, .int .i64 0], false⟩ := rfl
theorem Zqv : Xs 28 = some ⟨.int .i64, 1, 8, [.int .i64 0], false⟩ := rfl
theorem Zag : Xs 31 = some ⟨.int .u64, 1, 8, [.int .u64 0], false⟩ := rfl
theorem Zqw : Xs 32 = some ⟨.struct [(0, 3), (1, 3), (2, 3), (3, 3), (4, 3), (5, 3), (6, 31)], 7, 56, [.int .i64 0, .int .i64 0, .int .i64 0, .int .i64 0, .int .i64 0, .int .i64 0, .int .u64 0], false⟩ := rfl
theorem Zqx : Xs 33 = some ⟨.struct [(0, 3), (1, 3), (2, 3), (3, 3), (4, 3), (5, 3), (6, 31)], 7, 56, [.int .i64 0, .int .i64 0, .int .i64 0, .int .i64 0, .int .i64 0, .int .i64 0, .int .u64 0], true⟩ := rfl
theorem U0 : Xs 42 = some ⟨.slice 31, 1, 24, [.slice none 0 0], false⟩ := rfl
theorem Zqy : Xs 51 = some ⟨.struct [(0, 3), (1, 3), (2, 3), (3, 3)], 4, 32, [.int .i64 0, .int .i64 0, .int .i64 0, .int .i64 0], false⟩ := rfl
theorem Zqz : Xs 52 = some ⟨.struct [(0, 3), (1, 3), (2, 3), (3, 3)], 4, 32, [.int .i64 0, .int .i64 0, .int .i64 0, .int .i64 0], true⟩ := rfl
theorem Zq0 : Xs 56 = some ⟨.slice 58, 1, 24, [.slice none 0 0], false⟩ := rfl
theorem Zq1 : Xs 57 = some ⟨.struct [(0, 3), (1, 42), (2, 56)], 3, 56, [.int .i64 0, .slice none 0 0, .slice none 0 0], false⟩ := rfl
theorem Zq2 : Xs 58 = some ⟨.struct [(0, 3), (1, 42), (2, 56)], 3, 56, [.int .i64 0, .slice none 0 0, .slice none 0 0], false⟩ := rfl
theorem Zq3 : Xs 66 = some ⟨.int .u32, 1, 4, [.int .u32 0], false⟩ := rfl
theorem Zq4 : Xs 67 = some ⟨.int .u64, 1, 8, [.int .u64 0], false⟩ := rfl
theorem Zq5 : Xs 80 = some ⟨.struct [(0, 22), (1, 3), (2, 3)], 3, 40, [.slice none 0 0, .int .i64 0, .int .i64 0], false⟩ := rfl
theorem Zq6 : Xs 81 = some ⟨.struct [(0, 22), (1, 3), (2, 3)], 3, 40, [.slice none 0 0, .int .i64 0, .int .i64 0], false⟩ := rfl
theorem Zq7 : Xs 82 = some ⟨.struct [(0, 3), (1, 3), (2, 3), (3, 3), (4, 3), (5, 3), (6, 3), (7, 4)], 8, 64, [.int .i64 0, .int .i64 0, .int .i64 0, .int .i64 0, .int .i64 0, .int .i64 0, .int .i64 0, .bool false], false⟩ := rfl
theorem Zq8 : Xs 83 = some ⟨.struct [(0, 3), (1, 3), (2, 3), (3, 3), (4, 3), (5, 3), (6, 3), (7, 4)], 8, 64, [.int .i64 0, .int .i64 0, .int .i64 0, .int .i64 0, .int .i64 0, .int .i64 0, .int .i64 0, .bool false], true⟩ := rfl
theorem Zq9 : Xs 84 = some ⟨.struct [(0, 83), (8, 3), (9, 3)], 10, 80, [.int .i64 0, .int .i64 0, .int .i64 0, .int .i64 0, .int .i64 0, .int .i64 0, .int .i64 0, .bool false, .int .i64 0, .int .i64 0], false⟩ := rfl
theorem Zra : Xs 85 = some ⟨.struct [(0, 83), (8, 3), (9, 3)], 10, 80, [.int .i64 0, .int .i64 0, .int .i64 0, .int .i64 0, .int .i64 0, .int .i64 0, .int .i64 0, .bool false, .int .i64 0, .int .i64 0], true⟩ := rfl
theorem Zrb : Xs 89 = some ⟨.struct [(0, 3), (1, 3), (2, 3), (3, 3), (4, 3), (5, 3), (6, 3), (7, 4)], 8, 64, [.int .i64 0, .int .i64 0, .int .i64 0, .int .i64 0, .int .i64 0, .int .i64 0, .int .i64 0, .bool false], true⟩ := rfl
theorem Zrc : Xs 90 = some ⟨.struct [(0, 89), (8, 3), (9, 3)], 10, 80, [.int .i64 0, .int .i64 0, .int .i64 0, .int .i64 0, .int .i64 0, .int .i64 0, .int .i64 0, .bool false, .int .i64 0, .int .i64 0], false⟩ := rfl
theorem Zrd : Xs 91 = some ⟨.struct [(0, 89), (8, 3), (9, 3)], 10, 80, [.int .i64 0, .int .i64 0, .int .i64 0, .int .i64 0, .int .i64 0, .int .i64 0, .int .i64 0, .bool false, .int .i64 0, .int .i64 0], true⟩ := rfl
theorem Zmd : Xs 106 = some ⟨.struct [(0, 3)], 1, 8, [.int .i64 0], false⟩ := rfl
theorem Zme : Xs 107 = some ⟨.struct [(0, 3)], 1, 8, [.int .i64 0], true⟩ := rfl
theorem Zmf : Xs 111 = some ⟨.struct [(0, 3)], 1, 8, [.int .i64 0], false⟩ := rfl
theorem Zmg : Xs 112 = some ⟨.struct [(0, 3)], 1, 8, [.int .i64 0], true⟩ := rfl
theorem Zmh : Xs 114 = some ⟨.struct [(0, 3)], 1, 8, [.int .i64 0], false⟩ := rfl
theorem Zmi : Xs 115 = some ⟨.struct [(0, 3)], 1, 8, [.int .i64 0], true⟩ := rfl
theorem Zmj : Xs 126 = some ⟨.ptr 107, 1, 8, [.pointer none], false⟩ := rfl
theorem Zmk : Xs 129 = some ⟨.ptr 112, 1, 8, [.pointer none], false⟩ := rfl
theorem Zml : Xs 131 = some ⟨.ptr 115, 1, 8, [.pointer none], false⟩ := rfl
theorem Zmm : Xs 138 = some ⟨.arr 6 3, 6, 48, [.int .i64 0, .int .i64 0, .int .i64 0, .int .i64 0, .int .i64 0, .int .i64 0], false⟩ := rfl
theorem Zmn : Xs 140 = some ⟨.arr 7 3, 7, 56, [.int .i64 0, .int .i64 0, .int .i64 0, .int .i64 0, .int .i64 0, .int .i64 0, .int .i64 0], false⟩ := rfl
theorem Zmo : Xs 142 = some ⟨.struct [(0, 17), (1, 17), (2, 17), (3, 9)], 4, 40, [.pointer none, .pointer none, .pointer none, .string ByteArray.empty], false⟩ := rfl
theorem Zmp : Xs 143 = some ⟨.struct [(0, 17), (1, 17), (2, 17), (3, 9)], 4, 40, [.pointer none, .pointer none, .pointer none, .string ByteArray.empty], false⟩ := rfl
theorem Zmq : Xs 147 = some ⟨.int .u8, 1, 1, [.int .u8 0], false⟩ := rfl
theorem Zmr : Xs 148 = some ⟨.int .u8, 1, 1, [.int .u8 0], false⟩ := rfl
theorem Zms : Xs 151 = some ⟨.int .i32, 1, 4, [.int .i32 0], false⟩ := rfl
theorem Zmt : Xs 152 = some ⟨.int .i32, 1, 4, [.int .i32 0], false⟩ := rfl
theorem Zmu : Yb Xs 2 = some (.int .i64) := rfl
theorem Zmv : Yb Xs 3 = some (.int .i64) := rfl
theorem Zmw : Yb Xs 4 = some (.bool) := rfl
theorem Zmx : Yb Xs 5 = some (.int .u8) := rfl
theorem Zmy : Yb Xs 6 = some (.int .u8) := rfl
theorem Zmz : Yb Xs 7 = some (.struct [(0, 2), (1, 3), (2, 4), (3, 6)]) := rfl
theorem Zm0 : Yb Xs 8 = some (.struct [(0, 2), (1, 3), (2, 4), (3, 6)]) := rfl
theorem Zm1 : Yb Xs 9 = some (.str) := rfl
theorem Zi2 : Yb Xs 10 = some (.str) := rfl
theorem Zi3 : Yb Xs 11 = some (.str) := rfl
theorem Zi4 : Yb Xs 12 = some (.int .u64) := rfl
theorem Zi5 : Yb Xs 13 = some (.struct [(0, 9), (1, 12)]) := rfl
theorem Zi6 : Yb Xs 14 = some (.struct [(0, 9), (1, 12)]) := rfl
theorem Zi7 : Yb Xs 15 = some (.ptr 143) := rfl
theorem Zi8 : Yb Xs 16 = some (.ptr 146) := rfl
theorem Zi9 : Yb Xs 17 = some (.ptr 154) := rfl
theorem Zja : Yb Xs 18 = some (.struct [(0, 17)]) := rfl
theorem Zjb : Yb Xs 19 = some (.struct [(0, 17)]) := rfl
theorem Zjc : Yb Xs 21 = some (.int .i32) := rfl
theorem Zjd : Yb Xs 22 = some (.slice 42) := rfl
theorem Zje : Yb Xs 23 = some (.slice 3) := rfl
theorem Zgn : Yb Xs 24 = some (.ptr 81) := rfl
theorem Zjf : Yb Xs 26 = some (.struct [(0, 24), (1, 3), (2, 3), (3, 3), (4, 3), (5, 3), (6, 3), (7, 3), (8, 3)]) := rfl
theorem Zjg : Yb Xs 27 = some (.struct [(0, 24), (1, 3), (2, 3), (3, 3), (4, 3), (5, 3), (6, 3), (7, 3), (8, 3)]) := rfl
theorem Zjh : Yb Xs 28 = some (.int .i64) := rfl
theorem Zji : Yb Xs 31 = some (.int .u64) := rfl
theorem Zjj : Yb Xs 32 = some (.struct [(0, 3), (1, 3), (2, 3), (3, 3), (4, 3), (5, 3), (6, 31)]) := rfl
theorem Zjk : Yb Xs 33 = some (.struct [(0, 3), (1, 3), (2, 3), (3, 3), (4, 3), (5, 3), (6, 31)]) := rfl
theorem Zch : Yb Xs 42 = some (.slice 31) := rfl
theorem Zjl : Yb Xs 51 = some (.struct [(0, 3), (1, 3), (2, 3), (3, 3)]) := rfl
theorem Zjm : Yb Xs 52 = some (.struct [(0, 3), (1, 3), (2, 3), (3, 3)]) := rfl
theorem Zjn : Yb Xs 56 = some (.slice 58) := rfl
theorem Zjo : Yb Xs 57 = some (.struct [(0, 3), (1, 42), (2, 56)]) := rfl
theorem Zjp : Yb Xs 58 = some (.struct [(0, 3), (1, 42), (2, 56)]) := rfl
theorem Zjq : Yb Xs 66 = some (.int .u32) := rfl
theorem Zjr : Yb Xs 67 = some (.int .u64) := rfl
theorem Zjs : Yb Xs 80 = some (.struct [(0, 22), (1, 3), (2, 3)]) := rfl
theorem Zjt : Yb Xs 81 = some (.struct [(0, 22), (1, 3), (2, 3)]) := rfl
theorem Zju : Yb Xs 82 = some (.struct [(0, 3), (1, 3), (2, 3), (3, 3), (4, 3), (5, 3), (6, 3), (7, 4)]) := rfl
theorem Zjv : Yb Xs 83 = some (.struct [(0, 3), (1, 3), (2, 3), (3, 3), (4, 3), (5, 3), (6, 3), (7, 4)]) := rfl
theorem Zjw : Yb Xs 84 = some (.struct [(0, 83), (8, 3), (9, 3)]) := rfl
theorem Zjx : Yb Xs 85 = some (.struct [(0, 83), (8, 3), (9, 3)]) := rfl
theorem Zjy : Yb Xs 89 = some (.struct [(0, 3), (1, 3), (2, 3), (3, 3), (4, 3), (5, 3), (6, 3), (7, 4)]) := rfl
theorem Zjz : Yb Xs 90 = some (.struct [(0, 89), (8, 3), (9, 3)]) := rfl
theorem Zj0 : Yb Xs 91 = some (.struct [(0, 89), (8, 3), (9, 3)]) := rfl
theorem Zfs : Yb Xs 106 = some (.struct [(0, 3)]) := rfl
theorem Zft : Yb Xs 107 = some (.struct [(0, 3)]) := rfl
theorem Zfu : Yb Xs 111 = some (.struct [(0, 3)]) := rfl
theorem Zfv : Yb Xs 112 = some (.struct [(0, 3)]) := rfl
theorem Zfw : Yb Xs 114 = some (.struct [(0, 3)]) := rfl
theorem Zfx : Yb Xs 115 = some (.struct [(0, 3)]) := rfl
theorem Zfy : Yb Xs 126 = some (.ptr 107) := rfl
theorem Zfz : Yb Xs 129 = some (.ptr 112) := rfl
theorem Zf0 : Yb Xs 131 = some (.ptr 115) := rfl
theorem Zf1 : Yb Xs 138 = some (.arr 6 3) := rfl
theorem Zf2 : Yb Xs 140 = some (.arr 7 3) := rfl
theorem Zf3 : Yb Xs 142 = some (.struct [(0, 17), (1, 17), (2, 17), (3, 9)]) := rfl
theorem Zf4 : Yb Xs 143 = some (.struct [(0, 17), (1, 17), (2, 17), (3, 9)]) := rfl
theorem Zf5 : Yb Xs 147 = some (.int .u8) := rfl
theorem Zf6 : Yb Xs 148 = some (.int .u8) := rfl
theorem Zf7 : Yb Xs 151 = some (.int .i32) := rfl
theorem Zf8 : Yb Xs 152 = some (.int .i32) := rfl
end Go.Proofs.Ytmlhokaflhlhbaa
