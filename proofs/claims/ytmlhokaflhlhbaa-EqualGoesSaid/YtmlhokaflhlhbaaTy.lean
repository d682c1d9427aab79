/- The types of this seat's program, as its dump has them, in the ghost memory's words; no condition. -/
import Derived.Test.YtmlhokaflhlhbaaRows
import Derived.Test.YtmlhokaflhlhbaaG16
namespace Go.Proofs.Ytmlhokaflhlhbaa
open Go.RowKit
set_option linter.unusedVariables false
set_option linter.unusedSimpArgs false
theorem TyOk.of {P : Program} {t : TypeId} (k : TK) (size bytes : Nat) (zero : List Value) (z : Value) (h : (P.info? t).map (fun i => (i.zero, i.size, i.bytes)) = some (some z, size, bytes)) (hz : z.cells.toList = zero) (hu : k.ok P t) (hl : zero.length = size) (h1 : zero.all Value.oneCell' = true) (eq : Bool) (he : eq = true → Zh2 P t) : TyOk P t ⟨k, size, bytes, zero, eq⟩ := by
 refine ⟨?_, hu, hl, fun v hv => List.all_eq_true.1 h1 v hv, he⟩
 cases hi : P.info? t with
 | none => rw [hi] at h; cases h
 | some i =>
  rw [hi] at h
  simp only [Option.map_some, Option.some.injEq, Prod.mk.injEq] at h
  exact ⟨i, z, rfl, h.2.1, h.2.2, h.1, hz⟩
theorem Zjc {α : Type} {t : Nat} {i : α} : ∀ (l : List (Nat × α)), l.lookup t = some i → (t, i) ∈ l
 | [], h => by simp at h
 | (a, b) :: l, h => by
  rw [List.lookup_cons] at h
  split at h
  ·rename_i he
   injection h with h
   have : t = a := by simpa using he
   subst h this
   exact .head _
  exact .tail _ (Zjc l h)
theorem ty2 : TyOk Try.prog 2 ⟨.int .i64, 1, 8, [.int .i64 0], false⟩ := TyOk.of (P := Try.prog) (t := 2) (.int .i64) 1 8 [.int .i64 0] (.int .i64 0) (by kernel_rfl) rfl Try.underlying2 rfl rfl false (fun h => by cases h)
theorem ty3 : TyOk Try.prog 3 ⟨.int .i64, 1, 8, [.int .i64 0], false⟩ := TyOk.of (P := Try.prog) (t := 3) (.int .i64) 1 8 [.int .i64 0] (.int .i64 0) (by kernel_rfl) rfl Try.underlying3 rfl rfl false (fun h => by cases h)
theorem ty4 : TyOk Try.prog 4 ⟨.bool, 1, 1, [.bool false], false⟩ := TyOk.of (P := Try.prog) (t := 4) (.bool) 1 1 [.bool false] (.bool false) (by kernel_rfl) rfl Try.underlying4 rfl rfl false (fun h => by cases h)
theorem ty5 : TyOk Try.prog 5 ⟨.int .u8, 1, 1, [.int .u8 0], false⟩ := TyOk.of (P := Try.prog) (t := 5) (.int .u8) 1 1 [.int .u8 0] (.int .u8 0) (by kernel_rfl) rfl Try.underlying5 rfl rfl false (fun h => by cases h)
theorem ty6 : TyOk Try.prog 6 ⟨.int .u8, 1, 1, [.int .u8 0], false⟩ := TyOk.of (P := Try.prog) (t := 6) (.int .u8) 1 1 [.int .u8 0] (.int .u8 0) (by kernel_rfl) rfl Try.underlying6 rfl rfl false (fun h => by cases h)
theorem ty7 : TyOk Try.prog 7 ⟨.struct [(0, 2), (1, 3), (2, 4), (3, 6)], 4, 24, [.int .i64 0, .int .i64 0, .bool false, .int .u8 0], false⟩ := TyOk.of (P := Try.prog) (t := 7) (.struct [(0, 2), (1, 3), (2, 4), (3, 6)]) 4 24 [.int .i64 0, .int .i64 0, .bool false, .int .u8 0] (.agg #[.int .i64 0, .int .i64 0, .bool false, .int .u8 0]) (by kernel_rfl) rfl ⟨_, Try.underlying7, rfl⟩ rfl rfl false (fun h => by cases h)
theorem ty8 : TyOk Try.prog 8 ⟨.struct [(0, 2), (1, 3), (2, 4), (3, 6)], 4, 24, [.int .i64 0, .int .i64 0, .bool false, .int .u8 0], false⟩ := TyOk.of (P := Try.prog) (t := 8) (.struct [(0, 2), (1, 3), (2, 4), (3, 6)]) 4 24 [.int .i64 0, .int .i64 0, .bool false, .int .u8 0] (.agg #[.int .i64 0, .int .i64 0, .bool false, .int .u8 0]) (by kernel_rfl) rfl ⟨_, Try.underlying8, rfl⟩ rfl rfl false (fun h => by cases h)
theorem ty9 : TyOk Try.prog 9 ⟨.str, 1, 16, [.string ByteArray.empty], false⟩ := TyOk.of (P := Try.prog) (t := 9) (.str) 1 16 [.string ByteArray.empty] (.string ByteArray.empty) (by kernel_rfl) rfl Try.underlying9 rfl rfl false (fun h => by cases h)
theorem Zzj : TyOk Try.prog 10 ⟨.str, 1, 16, [.string ByteArray.empty], false⟩ := TyOk.of (P := Try.prog) (t := 10) (.str) 1 16 [.string ByteArray.empty] (.string ByteArray.empty) (by kernel_rfl) rfl Try.underlying10 rfl rfl false (fun h => by cases h)
theorem Zzk : TyOk Try.prog 11 ⟨.str, 1, 16, [.string ByteArray.empty], false⟩ := TyOk.of (P := Try.prog) (t := 11) (.str) 1 16 [.string ByteArray.empty] (.string ByteArray.empty) (by kernel_rfl) rfl Try.underlying11 rfl rfl false (fun h => by cases h)
theorem Zzl : TyOk Try.prog 12 ⟨.int .u64, 1, 8, [.int .u64 0], false⟩ := TyOk.of (P := Try.prog) (t := 12) (.int .u64) 1 8 [.int .u64 0] (.int .u64 0) (by kernel_rfl) rfl Try.underlying12 rfl rfl false (fun h => by cases h)
theorem Zzm : TyOk Try.prog 13 ⟨.struct [(0, 9), (1, 12)], 2, 24, [.string ByteArray.empty, .int .u64 0], false⟩ := TyOk.of (P := Try.prog) (t := 13) (.struct [(0, 9), (1, 12)]) 2 24 [.string ByteArray.empty, .int .u64 0] (.agg #[.string ByteArray.empty, .int .u64 0]) (by kernel_rfl) rfl ⟨_, Try.underlying13, rfl⟩ rfl rfl false (fun h => by cases h)
theorem Zzn : TyOk Try.prog 14 ⟨.struct [(0, 9), (1, 12)], 2, 24, [.string ByteArray.empty, .int .u64 0], false⟩ := TyOk.of (P := Try.prog) (t := 14) (.struct [(0, 9), (1, 12)]) 2 24 [.string ByteArray.empty, .int .u64 0] (.agg #[.string ByteArray.empty, .int .u64 0]) (by kernel_rfl) rfl ⟨_, Try.underlying14, rfl⟩ rfl rfl false (fun h => by cases h)
theorem Zzo : TyOk Try.prog 15 ⟨.ptr 143, 1, 8, [.pointer none], false⟩ := TyOk.of (P := Try.prog) (t := 15) (.ptr 143) 1 8 [.pointer none] (.pointer none) (by kernel_rfl) rfl Try.underlying15 rfl rfl false (fun h => by cases h)
theorem Zzp : TyOk Try.prog 16 ⟨.ptr 146, 1, 8, [.pointer none], false⟩ := TyOk.of (P := Try.prog) (t := 16) (.ptr 146) 1 8 [.pointer none] (.pointer none) (by kernel_rfl) rfl Try.underlying16 rfl rfl false (fun h => by cases h)
theorem Zzq : TyOk Try.prog 17 ⟨.ptr 154, 1, 8, [.pointer none], false⟩ := TyOk.of (P := Try.prog) (t := 17) (.ptr 154) 1 8 [.pointer none] (.pointer none) (by kernel_rfl) rfl Try.underlying17 rfl rfl false (fun h => by cases h)
theorem Zzr : TyOk Try.prog 18 ⟨.struct [(0, 17)], 1, 8, [.pointer none], false⟩ := TyOk.of (P := Try.prog) (t := 18) (.struct [(0, 17)]) 1 8 [.pointer none] (.agg #[.pointer none]) (by kernel_rfl) rfl ⟨_, Try.underlying18, rfl⟩ rfl rfl false (fun h => by cases h)
theorem Zzs : TyOk Try.prog 19 ⟨.struct [(0, 17)], 1, 8, [.pointer none], false⟩ := TyOk.of (P := Try.prog) (t := 19) (.struct [(0, 17)]) 1 8 [.pointer none] (.agg #[.pointer none]) (by kernel_rfl) rfl ⟨_, Try.underlying19, rfl⟩ rfl rfl false (fun h => by cases h)
theorem Zzt : TyOk Try.prog 21 ⟨.int .i32, 1, 4, [.int .i32 0], false⟩ := TyOk.of (P := Try.prog) (t := 21) (.int .i32) 1 4 [.int .i32 0] (.int .i32 0) (by kernel_rfl) rfl Try.underlying21 rfl rfl false (fun h => by cases h)
theorem Zzu : TyOk Try.prog 22 ⟨.slice 42, 1, 24, [.slice none 0 0], false⟩ := TyOk.of (P := Try.prog) (t := 22) (.slice 42) 1 24 [.slice none 0 0] (.slice none 0 0) (by kernel_rfl) rfl Try.underlying22 rfl rfl false (fun h => by cases h)
theorem Zzv : TyOk Try.prog 23 ⟨.slice 3, 1, 24, [.slice none 0 0], false⟩ := TyOk.of (P := Try.prog) (t := 23) (.slice 3) 1 24 [.slice none 0 0] (.slice none 0 0) (by kernel_rfl) rfl Try.underlying23 rfl rfl false (fun h => by cases h)
theorem Zzw : TyOk Try.prog 24 ⟨.ptr 81, 1, 8, [.pointer none], false⟩ := TyOk.of (P := Try.prog) (t := 24) (.ptr 81) 1 8 [.pointer none] (.pointer none) (by kernel_rfl) rfl Try.underlying24 rfl rfl false (fun h => by cases h)
theorem Zzx : TyOk Try.prog 26 ⟨.struct [(0, 24), (1, 3), (2, 3), (3, 3), (4, 3), (5, 3), (6, 3), (7, 3), (8, 3)], 9, 72, [.pointer none, .int .i64 0, .int .i64 0, .int .i64 0, .int .i64 0, .int .i64 0, .int .i64 0, .int .i64 0, .int .i64 0], false⟩ := TyOk.of (P := Try.prog) (t := 26) (.struct [(0, 24), (1, 3), (2, 3), (3, 3), (4, 3), (5, 3), (6, 3), (7, 3), (8, 3)]) 9 72 [.pointer none, .int .i64 0, .int .i64 0, .int .i64 0, .int .i64 0, .int .i64 0, .int .i64 0, .int .i64 0, .int .i64 0] (.agg #[.pointer none, .int .i64 0, .int .i64 0, .int .i64 0, .int .i64 0, .int .i64 0, .int .i64 0, .int .i64 0, .int .i64 0]) (by kernel_rfl) rfl ⟨_, Try.underlying26, rfl⟩ rfl rfl false (fun h => by cases h)
theorem Zzy : TyOk Try.prog 27 ⟨.struct [(0, 24), (1, 3), (2, 3), (3, 3), (4, 3), (5, 3), (6, 3), (7, 3), (8, 3)], 9, 72, [.pointer none, .int .i64 0, .int .i64 0, .int .i64 0, .int .i64 0, .int .i64 0, .int .i64 0, .int .i64 0, .int .i64 0], false⟩ := TyOk.of (P := Try.prog) (t := 27) (.struct [(0, 24), (1, 3), (2, 3), (3, 3), (4, 3), (5, 3), (6, 3), (7, 3), (8, 3)]) 9 72 [.pointer none, .int .i64 0, .int .i64 0, .int .i64 0, .int .i64 0, .int .i64 0, .int .i64 0, .int .i64 0, .int .i64 0] (.agg #[.pointer none, .int .i64 0, .int .i64 0, .int .i64 0, .int .i64 0, .int .i64 0, .int .i64 0, .int .i64 0, .int .i64 0]) (by kernel_rfl) rfl ⟨_, Try.underlying27, rfl⟩ rfl rfl false (fun h => by cases h)
theorem Zzz : TyOk Try.prog 28 ⟨.int .i64, 1, 8, [.int .i64 0], false⟩ := TyOk.of (P := Try.prog) (t := 28) (.int .i64) 1 8 [.int .i64 0] (.int .i64 0) (by kernel_rfl) rfl Try.underlying28 rfl rfl false (fun h => by cases h)
theorem Zz0 : TyOk Try.prog 31 ⟨.int .u64, 1, 8, [.int .u64 0], false⟩ := TyOk.of (P := Try.prog) (t := 31) (.int .u64) 1 8 [.int .u64 0] (.int .u64 0) (by kernel_rfl) rfl Try.underlying31 rfl rfl false (fun h => by cases h)
theorem Zz1 : TyOk Try.prog 32 ⟨.struct [(0, 3), (1, 3), (2, 3), (3, 3), (4, 3), (5, 3), (6, 31)], 7, 56, [.int .i64 0, .int .i64 0, .int .i64 0, .int .i64 0, .int .i64 0, .int .i64 0, .int .u64 0], false⟩ := TyOk.of (P := Try.prog) (t := 32) (.struct [(0, 3), (1, 3), (2, 3), (3, 3), (4, 3), (5, 3), (6, 31)]) 7 56 [.int .i64 0, .int .i64 0, .int .i64 0, .int .i64 0, .int .i64 0, .int .i64 0, .int .u64 0] (.agg #[.int .i64 0, .int .i64 0, .int .i64 0, .int .i64 0, .int .i64 0, .int .i64 0, .int .u64 0]) (by kernel_rfl) rfl ⟨_, Try.underlying32, rfl⟩ rfl rfl false (fun h => by cases h)
theorem Zz2 : TyOk Try.prog 33 ⟨.struct [(0, 3), (1, 3), (2, 3), (3, 3), (4, 3), (5, 3), (6, 31)], 7, 56, [.int .i64 0, .int .i64 0, .int .i64 0, .int .i64 0, .int .i64 0, .int .i64 0, .int .u64 0], true⟩ := TyOk.of (P := Try.prog) (t := 33) (.struct [(0, 3), (1, 3), (2, 3), (3, 3), (4, 3), (5, 3), (6, 31)]) 7 56 [.int .i64 0, .int .i64 0, .int .i64 0, .int .i64 0, .int .i64 0, .int .i64 0, .int .u64 0] (.agg #[.int .i64 0, .int .i64 0, .int .i64 0, .int .i64 0, .int .i64 0, .int .i64 0, .int .u64 0]) (by kernel_rfl) rfl ⟨_, Try.underlying33, rfl⟩ rfl rfl true (fun _ => by unfold Zh2; exact ⟨by kernel_rfl, by kernel_rfl, by kernel_rfl⟩)
theorem Zz3 : TyOk Try.prog 42 ⟨.slice 31, 1, 24, [.slice none 0 0], false⟩ := TyOk.of (P := Try.prog) (t := 42) (.slice 31) 1 24 [.slice none 0 0] (.slice none 0 0) (by kernel_rfl) rfl Try.underlying42 rfl rfl false (fun h => by cases h)
theorem Zz4 : TyOk Try.prog 51 ⟨.struct [(0, 3), (1, 3), (2, 3), (3, 3)], 4, 32, [.int .i64 0, .int .i64 0, .int .i64 0, .int .i64 0], false⟩ := TyOk.of (P := Try.prog) (t := 51) (.struct [(0, 3), (1, 3), (2, 3), (3, 3)]) 4 32 [.int .i64 0, .int .i64 0, .int .i64 0, .int .i64 0] (.agg #[.int .i64 0, .int .i64 0, .int .i64 0, .int .i64 0]) (by kernel_rfl) rfl ⟨_, Try.underlying51, rfl⟩ rfl rfl false (fun h => by cases h)
theorem Zz5 : TyOk Try.prog 52 ⟨.struct [(0, 3), (1, 3), (2, 3), (3, 3)], 4, 32, [.int .i64 0, .int .i64 0, .int .i64 0, .int .i64 0], true⟩ := TyOk.of (P := Try.prog) (t := 52) (.struct [(0, 3), (1, 3), (2, 3), (3, 3)]) 4 32 [.int .i64 0, .int .i64 0, .int .i64 0, .int .i64 0] (.agg #[.int .i64 0, .int .i64 0, .int .i64 0, .int .i64 0]) (by kernel_rfl) rfl ⟨_, Try.underlying52, rfl⟩ rfl rfl true (fun _ => by unfold Zh2; exact ⟨by kernel_rfl, by kernel_rfl, by kernel_rfl⟩)
theorem Zz6 : TyOk Try.prog 56 ⟨.slice 58, 1, 24, [.slice none 0 0], false⟩ := TyOk.of (P := Try.prog) (t := 56) (.slice 58) 1 24 [.slice none 0 0] (.slice none 0 0) (by kernel_rfl) rfl Try.underlying56 rfl rfl false (fun h => by cases h)
theorem Zz7 : TyOk Try.prog 57 ⟨.struct [(0, 3), (1, 42), (2, 56)], 3, 56, [.int .i64 0, .slice none 0 0, .slice none 0 0], false⟩ := TyOk.of (P := Try.prog) (t := 57) (.struct [(0, 3), (1, 42), (2, 56)]) 3 56 [.int .i64 0, .slice none 0 0, .slice none 0 0] (.agg #[.int .i64 0, .slice none 0 0, .slice none 0 0]) (by kernel_rfl) rfl ⟨_, Try.underlying57, rfl⟩ rfl rfl false (fun h => by cases h)
theorem Zz8 : TyOk Try.prog 58 ⟨.struct [(0, 3), (1, 42), (2, 56)], 3, 56, [.int .i64 0, .slice none 0 0, .slice none 0 0], false⟩ := TyOk.of (P := Try.prog) (t := 58) (.struct [(0, 3), (1, 42), (2, 56)]) 3 56 [.int .i64 0, .slice none 0 0, .slice none 0 0] (.agg #[.int .i64 0, .slice none 0 0, .slice none 0 0]) (by kernel_rfl) rfl ⟨_, Try.underlying58, rfl⟩ rfl rfl false (fun h => by cases h)
theorem Zz9 : TyOk Try.prog 66 ⟨.int .u32, 1, 4, [.int .u32 0], false⟩ := TyOk.of (P := Try.prog) (t := 66) (.int .u32) 1 4 [.int .u32 0] (.int .u32 0) (by kernel_rfl) rfl Try.underlying66 rfl rfl false (fun h => by cases h)
theorem Z0a : TyOk Try.prog 67 ⟨.int .u64, 1, 8, [.int .u64 0], false⟩ := TyOk.of (P := Try.prog) (t := 67) (.int .u64) 1 8 [.int .u64 0] (.int .u64 0) (by kernel_rfl) rfl Try.underlying67 rfl rfl false (fun h => by cases h)
theorem Z0b : TyOk Try.prog 80 ⟨.struct [(0, 22), (1, 3), (2, 3)], 3, 40, [.slice none 0 0, .int .i64 0, .int .i64 0], false⟩ := TyOk.of (P := Try.prog) (t := 80) (.struct [(0, 22), (1, 3), (2, 3)]) 3 40 [.slice none 0 0, .int .i64 0, .int .i64 0] (.agg #[.slice none 0 0, .int .i64 0, .int .i64 0]) (by kernel_rfl) rfl ⟨_, Try.underlying80, rfl⟩ rfl rfl false (fun h => by cases h)
theorem Z0c : TyOk Try.prog 81 ⟨.struct [(0, 22), (1, 3), (2, 3)], 3, 40, [.slice none 0 0, .int .i64 0, .int .i64 0], false⟩ := TyOk.of (P := Try.prog) (t := 81) (.struct [(0, 22), (1, 3), (2, 3)]) 3 40 [.slice none 0 0, .int .i64 0, .int .i64 0] (.agg #[.slice none 0 0, .int .i64 0, .int .i64 0]) (by kernel_rfl) rfl ⟨_, Try.underlying81, rfl⟩ rfl rfl false (fun h => by cases h)
theorem Z0d : TyOk Try.prog 82 ⟨.struct [(0, 3), (1, 3), (2, 3), (3, 3), (4, 3), (5, 3), (6, 3), (7, 4)], 8, 64, [.int .i64 0, .int .i64 0, .int .i64 0, .int .i64 0, .int .i64 0, .int .i64 0, .int .i64 0, .bool false], false⟩ := TyOk.of (P := Try.prog) (t := 82) (.struct [(0, 3), (1, 3), (2, 3), (3, 3), (4, 3), (5, 3), (6, 3), (7, 4)]) 8 64 [.int .i64 0, .int .i64 0, .int .i64 0, .int .i64 0, .int .i64 0, .int .i64 0, .int .i64 0, .bool false] (.agg #[.int .i64 0, .int .i64 0, .int .i64 0, .int .i64 0, .int .i64 0, .int .i64 0, .int .i64 0, .bool false]) (by kernel_rfl) rfl ⟨_, Try.underlying82, rfl⟩ rfl rfl false (fun h => by cases h)
theorem Z0e : TyOk Try.prog 83 ⟨.struct [(0, 3), (1, 3), (2, 3), (3, 3), (4, 3), (5, 3), (6, 3), (7, 4)], 8, 64, [.int .i64 0, .int .i64 0, .int .i64 0, .int .i64 0, .int .i64 0, .int .i64 0, .int .i64 0, .bool false], true⟩ := TyOk.of (P := Try.prog) (t := 83) (.struct [(0, 3), (1, 3), (2, 3), (3, 3), (4, 3), (5, 3), (6, 3), (7, 4)]) 8 64 [.int .i64 0, .int .i64 0, .int .i64 0, .int .i64 0, .int .i64 0, .int .i64 0, .int .i64 0, .bool false] (.agg #[.int .i64 0, .int .i64 0, .int .i64 0, .int .i64 0, .int .i64 0, .int .i64 0, .int .i64 0, .bool false]) (by kernel_rfl) rfl ⟨_, Try.underlying83, rfl⟩ rfl rfl true (fun _ => by unfold Zh2; exact ⟨by kernel_rfl, by kernel_rfl, by kernel_rfl⟩)
theorem Z0f : TyOk Try.prog 84 ⟨.struct [(0, 83), (8, 3), (9, 3)], 10, 80, [.int .i64 0, .int .i64 0, .int .i64 0, .int .i64 0, .int .i64 0, .int .i64 0, .int .i64 0, .bool false, .int .i64 0, .int .i64 0], false⟩ := TyOk.of (P := Try.prog) (t := 84) (.struct [(0, 83), (8, 3), (9, 3)]) 10 80 [.int .i64 0, .int .i64 0, .int .i64 0, .int .i64 0, .int .i64 0, .int .i64 0, .int .i64 0, .bool false, .int .i64 0, .int .i64 0] (.agg #[.int .i64 0, .int .i64 0, .int .i64 0, .int .i64 0, .int .i64 0, .int .i64 0, .int .i64 0, .bool false, .int .i64 0, .int .i64 0]) (by kernel_rfl) rfl ⟨_, Try.underlying84, rfl⟩ rfl rfl false (fun h => by cases h)
theorem Z0g : TyOk Try.prog 85 ⟨.struct [(0, 83), (8, 3), (9, 3)], 10, 80, [.int .i64 0, .int .i64 0, .int .i64 0, .int .i64 0, .int .i64 0, .int .i64 0, .int .i64 0, .bool false, .int .i64 0, .int .i64 0], true⟩ := TyOk.of (P := Try.prog) (t := 85) (.struct [(0, 83), (8, 3), (9, 3)]) 10 80 [.int .i64 0, .int .i64 0, .int .i64 0, .int .i64 0, .int .i64 0, .int .i64 0, .int .i64 0, .bool false, .int .i64 0, .int .i64 0] (.agg #[.int .i64 0, .int .i64 0, .int .i64 0, .int .i64 0, .int .i64 0, .int .i64 0, .int .i64 0, .bool false, .int .i64 0, .int .i64 0]) (by kernel_rfl) rfl ⟨_, Try.underlying85, rfl⟩ rfl rfl true (fun _ => by unfold Zh2; exact ⟨by kernel_rfl, by kernel_rfl, by kernel_rfl⟩)
theorem Z0h : TyOk Try.prog 89 ⟨.struct [(0, 3), (1, 3), (2, 3), (3, 3), (4, 3), (5, 3), (6, 3), (7, 4)], 8, 64, [.int .i64 0, .int .i64 0, .int .i64 0, .int .i64 0, .int .i64 0, .int .i64 0, .int .i64 0, .bool false], true⟩ := TyOk.of (P := Try.prog) (t := 89) (.struct [(0, 3), (1, 3), (2, 3), (3, 3), (4, 3), (5, 3), (6, 3), (7, 4)]) 8 64 [.int .i64 0, .int .i64 0, .int .i64 0, .int .i64 0, .int .i64 0, .int .i64 0, .int .i64 0, .bool false] (.agg #[.int .i64 0, .int .i64 0, .int .i64 0, .int .i64 0, .int .i64 0, .int .i64 0, .int .i64 0, .bool false]) (by kernel_rfl) rfl ⟨_, Try.underlying89, rfl⟩ rfl rfl true (fun _ => by unfold Zh2; exact ⟨by kernel_rfl, by kernel_rfl, by kernel_rfl⟩)
theorem Z0i : TyOk Try.prog 90 ⟨.struct [(0, 89), (8, 3), (9, 3)], 10, 80, [.int .i64 0, .int .i64 0, .int .i64 0, .int .i64 0, .int .i64 0, .int .i64 0, .int .i64 0, .bool false, .int .i64 0, .int .i64 0], false⟩ := TyOk.of (P := Try.prog) (t := 90) (.struct [(0, 89), (8, 3), (9, 3)]) 10 80 [.int .i64 0, .int .i64 0, .int .i64 0, .int .i64 0, .int .i64 0, .int .i64 0, .int .i64 0, .bool false, .int .i64 0, .int .i64 0] (.agg #[.int .i64 0, .int .i64 0, .int .i64 0, .int .i64 0, .int .i64 0, .int .i64 0, .int .i64 0, .bool false, .int .i64 0, .int .i64 0]) (by kernel_rfl) rfl ⟨_, Try.underlying90, rfl⟩ rfl rfl false (fun h => by cases h)
theorem Z0j : TyOk Try.prog 91 ⟨.struct [(0, 89), (8, 3), (9, 3)], 10, 80, [.int .i64 0, .int .i64 0, .int .i64 0, .int .i64 0, .int .i64 0, .int .i64 0, .int .i64 0, .bool false, .int .i64 0, .int .i64 0], true⟩ := TyOk.of (P := Try.prog) (t := 91) (.struct [(0, 89), (8, 3), (9, 3)]) 10 80 [.int .i64 0, .int .i64 0, .int .i64 0, .int .i64 0, .int .i64 0, .int .i64 0, .int .i64 0, .bool false, .int .i64 0, .int .i64 0] (.agg #[.int .i64 0, .int .i64 0, .int .i64 0, .int .i64 0, .int .i64 0, .int .i64 0, .int .i64 0, .bool false, .int .i64 0, .int .i64 0]) (by kernel_rfl) rfl ⟨_, Try.underlying91, rfl⟩ rfl rfl true (fun _ => by unfold Zh2; exact ⟨by kernel_rfl, by kernel_rfl, by kernel_rfl⟩)
theorem Zyx : TyOk Try.prog 106 ⟨.struct [(0, 3)], 1, 8, [.int .i64 0], false⟩ := TyOk.of (P := Try.prog) (t := 106) (.struct [(0, 3)]) 1 8 [.int .i64 0] (.agg #[.int .i64 0]) (by kernel_rfl) rfl ⟨_, Try.underlying106, rfl⟩ rfl rfl false (fun h => by cases h)
theorem Zyy : TyOk Try.prog 107 ⟨.struct [(0, 3)], 1, 8, [.int .i64 0], true⟩ := TyOk.of (P := Try.prog) (t := 107) (.struct [(0, 3)]) 1 8 [.int .i64 0] (.agg #[.int .i64 0]) (by kernel_rfl) rfl ⟨_, Try.underlying107, rfl⟩ rfl rfl true (fun _ => by unfold Zh2; exact ⟨by kernel_rfl, by kernel_rfl, by kernel_rfl⟩)
theorem Zyz : TyOk Try.prog 111 ⟨.struct [(0, 3)], 1, 8, [.int .i64 0], false⟩ := TyOk.of (P := Try.prog) (t := 111) (.struct [(0, 3)]) 1 8 [.int .i64 0] (.agg #[.int .i64 0]) (by kernel_rfl) rfl ⟨_, Try.underlying111, rfl⟩ rfl rfl false (fun h => by cases h)
theorem Zy0 : TyOk Try.prog 112 ⟨.struct [(0, 3)], 1, 8, [.int .i64 0], true⟩ := TyOk.of (P := Try.prog) (t := 112) (.struct [(0, 3)]) 1 8 [.int .i64 0] (.agg #[.int .i64 0]) (by kernel_rfl) rfl ⟨_, Try.underlying112, rfl⟩ rfl rfl true (fun _ => by unfold Zh2; exact ⟨by kernel_rfl, by kernel_rfl, by kernel_rfl⟩)
theorem Zy1 : TyOk Try.prog 114 ⟨.struct [(0, 3)], 1, 8, [.int .i64 0], false⟩ := TyOk.of (P := Try.prog) (t := 114) (.struct [(0, 3)]) 1 8 [.int .i64 0] (.agg #[.int .i64 0]) (by kernel_rfl) rfl ⟨_, Try.underlying114, rfl⟩ rfl rfl false (fun h => by cases h)
theorem Zy2 : TyOk Try.prog 115 ⟨.struct [(0, 3)], 1, 8, [.int .i64 0], true⟩ := TyOk.of (P := Try.prog) (t := 115) (.struct [(0, 3)]) 1 8 [.int .i64 0] (.agg #[.int .i64 0]) (by kernel_rfl) rfl ⟨_, Try.underlying115, rfl⟩ rfl rfl true (fun _ => by unfold Zh2; exact ⟨by kernel_rfl, by kernel_rfl, by kernel_rfl⟩)
theorem Zy3 : TyOk Try.prog 126 ⟨.ptr 107, 1, 8, [.pointer none], false⟩ := TyOk.of (P := Try.prog) (t := 126) (.ptr 107) 1 8 [.pointer none] (.pointer none) (by kernel_rfl) rfl Try.underlying126 rfl rfl false (fun h => by cases h)
theorem Zy4 : TyOk Try.prog 129 ⟨.ptr 112, 1, 8, [.pointer none], false⟩ := TyOk.of (P := Try.prog) (t := 129) (.ptr 112) 1 8 [.pointer none] (.pointer none) (by kernel_rfl) rfl Try.underlying129 rfl rfl false (fun h => by cases h)
theorem Zy5 : TyOk Try.prog 131 ⟨.ptr 115, 1, 8, [.pointer none], false⟩ := TyOk.of (P := Try.prog) (t := 131) (.ptr 115) 1 8 [.pointer none] (.pointer none) (by kernel_rfl) rfl Try.underlying131 rfl rfl false (fun h => by cases h)
theorem Zy6 : TyOk Try.prog 138 ⟨.arr 6 3, 6, 48, [.int .i64 0, .int .i64 0, .int .i64 0, .int .i64 0, .int .i64 0, .int .i64 0], false⟩ := TyOk.of (P := Try.prog) (t := 138) (.arr 6 3) 6 48 [.int .i64 0, .int .i64 0, .int .i64 0, .int .i64 0, .int .i64 0, .int .i64 0] (.agg #[.int .i64 0, .int .i64 0, .int .i64 0, .int .i64 0, .int .i64 0, .int .i64 0]) (by kernel_rfl) rfl Try.underlying138 rfl rfl false (fun h => by cases h)
theorem Zy7 : TyOk Try.prog 140 ⟨.arr 7 3, 7, 56, [.int .i64 0, .int .i64 0, .int .i64 0, .int .i64 0, .int .i64 0, .int .i64 0, .int .i64 0], false⟩ := TyOk.of (P := Try.prog) (t := 140) (.arr 7 3) 7 56 [.int .i64 0, .int .i64 0, .int .i64 0, .int .i64 0, .int .i64 0, .int .i64 0, .int .i64 0] (.agg #[.int .i64 0, .int .i64 0, .int .i64 0, .int .i64 0, .int .i64 0, .int .i64 0, .int .i64 0]) (by kernel_rfl) rfl Try.underlying140 rfl rfl false (fun h => by cases h)
theorem Zy8 : TyOk Try.prog 142 ⟨.struct [(0, 17), (1, 17), (2, 17), (3, 9)], 4, 40, [.pointer none, .pointer none, .pointer none, .string ByteArray.empty], false⟩ := TyOk.of (P := Try.prog) (t := 142) (.struct [(0, 17), (1, 17), (2, 17), (3, 9)]) 4 40 [.pointer none, .pointer none, .pointer none, .string ByteArray.empty] (.agg #[.pointer none, .pointer none, .pointer none, .string ByteArray.empty]) (by kernel_rfl) rfl ⟨_, Try.underlying142, rfl⟩ rfl rfl false (fun h => by cases h)
theorem Zy9 : TyOk Try.prog 143 ⟨.struct [(0, 17), (1, 17), (2, 17), (3, 9)], 4, 40, [.pointer none, .pointer none, .pointer none, .string ByteArray.empty], false⟩ := TyOk.of (P := Try.prog) (t := 143) (.struct [(0, 17), (1, 17), (2, 17), (3, 9)]) 4 40 [.pointer none, .pointer none, .pointer none, .string ByteArray.empty] (.agg #[.pointer none, .pointer none, .pointer none, .string ByteArray.empty]) (by kernel_rfl) rfl ⟨_, Try.underlying143, rfl⟩ rfl rfl false (fun h => by cases h)
theorem Zza : TyOk Try.prog 147 ⟨.int .u8, 1, 1, [.int .u8 0], false⟩ := TyOk.of (P := Try.prog) (t := 147) (.int .u8) 1 1 [.int .u8 0] (.int .u8 0) (by kernel_rfl) rfl Try.underlying147 rfl rfl false (fun h => by cases h)
theorem Zzb : TyOk Try.prog 148 ⟨.int .u8, 1, 1, [.int .u8 0], false⟩ := TyOk.of (P := Try.prog) (t := 148) (.int .u8) 1 1 [.int .u8 0] (.int .u8 0) (by kernel_rfl) rfl Try.underlying148 rfl rfl false (fun h => by cases h)
theorem Zzc : TyOk Try.prog 150 ⟨.ptr 5, 1, 8, [.pointer none], false⟩ := TyOk.of (P := Try.prog) (t := 150) (.ptr 5) 1 8 [.pointer none] (.pointer none) (by kernel_rfl) rfl Try.underlying150 rfl rfl false (fun h => by cases h)
theorem Zzd : TyOk Try.prog 151 ⟨.int .i32, 1, 4, [.int .i32 0], false⟩ := TyOk.of (P := Try.prog) (t := 151) (.int .i32) 1 4 [.int .i32 0] (.int .i32 0) (by kernel_rfl) rfl Try.underlying151 rfl rfl false (fun h => by cases h)
theorem Zze : TyOk Try.prog 152 ⟨.int .i32, 1, 4, [.int .i32 0], false⟩ := TyOk.of (P := Try.prog) (t := 152) (.int .i32) 1 4 [.int .i32 0] (.int .i32 0) (by kernel_rfl) rfl Try.underlying152 rfl rfl false (fun h => by cases h)
def tabL : List (Nat × TyI) := [(2, ⟨.int .i64, 1, 8, [.int .i64 0], false⟩),
 (3, ⟨.int .i64, 1, 8, [.int .i64 0], false⟩),
 (4, ⟨.bool, 1, 1, [.bool false], false⟩),
 (5, ⟨.int .u8, 1, 1, [.int .u8 0], false⟩),
 (6, ⟨.int .u8, 1, 1, [.int .u8 0], false⟩),
 (7, ⟨.struct [(0, 2), (1, 3), (2, 4), (3, 6)], 4, 24, [.int .i64 0, .int .i64 0, .bool false, .int .u8 0], false⟩),
 (8, ⟨.struct [(0, 2), (1, 3), (2, 4), (3, 6)], 4, 24, [.int .i64 0, .int .i64 0, .bool false, .int .u8 0], false⟩),
 (9, ⟨.str, 1, 16, [.string ByteArray.empty], false⟩),
 (10, ⟨.str, 1, 16, [.string ByteArray.empty], false⟩),
 (11, ⟨.str, 1, 16, [.string ByteArray.empty], false⟩),
 (12, ⟨.int .u64, 1, 8, [.int .u64 0], false⟩),
 (13, ⟨.struct [(0, 9), (1, 12)], 2, 24, [.string ByteArray.empty, .int .u64 0], false⟩),
 (14, ⟨.struct [(0, 9), (1, 12)], 2, 24, [.string ByteArray.empty, .int .u64 0], false⟩),
 (15, ⟨.ptr 143, 1, 8, [.pointer none], false⟩),
 (16, ⟨.ptr 146, 1, 8, [.pointer none], false⟩),
 (17, ⟨.ptr 154, 1, 8, [.pointer none], false⟩),
 (18, ⟨.struct [(0, 17)], 1, 8, [.pointer none], false⟩),
 (19, ⟨.struct [(0, 17)], 1, 8, [.pointer none], false⟩),
 (21, ⟨.int .i32, 1, 4, [.int .i32 0], false⟩),
 (22, ⟨.slice 42, 1, 24, [.slice none 0 0], false⟩),
 (23, ⟨.slice 3, 1, 24, [.slice none 0 0], false⟩),
 (24, ⟨.ptr 81, 1, 8, [.pointer none], false⟩),
 (26, ⟨.struct [(0, 24), (1, 3), (2, 3), (3, 3), (4, 3), (5, 3), (6, 3), (7, 3), (8, 3)], 9, 72, [.pointer none, .int .i64 0, .int .i64 0, .int .i64 0, .int .i64 0, .int .i64 0, .int .i64 0, .int .i64 0, .int .i64 0], false⟩),
 (27, ⟨.struct [(0, 24), (1, 3), (2, 3), (3, 3), (4, 3), (5, 3), (6, 3), (7, 3), (8, 3)], 9, 72, [.pointer none, .int .i64 0, .int .i64 0, .int .i64 0, .int .i64 0, .int .i64 0, .int .i64 0, .int .i64 0, .int .i64 0], false⟩),
 (28, ⟨.int .i64, 1, 8, [.int .i64 0], false⟩),
 (31, ⟨.int .u64, 1, 8, [.int .u64 0], false⟩),
 (32, ⟨.struct [(0, 3), (1, 3), (2, 3), (3, 3), (4, 3), (5, 3), (6, 31)], 7, 56, [.int .i64 0, .int .i64 0, .int .i64 0, .int .i64 0, .int .i64 0, .int .i64 0, .int .u64 0], false⟩),
 (33, ⟨.struct [(0, 3), (1, 3), (2, 3), (3, 3), (4, 3), (5, 3), (6, 31)], 7, 56, [.int .i64 0, .int .i64 0, .int .i64 0, .int .i64 0, .int .i64 0, .int .i64 0, .int .u64 0], true⟩),
 (42, ⟨.slice 31, 1, 24, [.slice none 0 0], false⟩),
 (51, ⟨.struct [(0, 3), (1, 3), (2, 3), (3, 3)], 4, 32, [.int .i64 0, .int .i64 0, .int .i64 0, .int .i64 0], false⟩),
 (52, ⟨.struct [(0, 3), (1, 3), (2, 3), (3, 3)], 4, 32, [.int .i64 0, .int .i64 0, .int .i64 0, .int .i64 0], true⟩),
 (56, ⟨.slice 58, 1, 24, [.slice none 0 0], false⟩),
 (57, ⟨.struct [(0, 3), (1, 42), (2, 56)], 3, 56, [.int .i64 0, .slice none 0 0, .slice none 0 0], false⟩),
 (58, ⟨.struct [(0, 3), (1, 42), (2, 56)], 3, 56, [.int .i64 0, .slice none 0 0, .slice none 0 0], false⟩),
 (66, ⟨.int .u32, 1, 4, [.int .u32 0], false⟩),
 (67, ⟨.int .u64, 1, 8, [.int .u64 0], false⟩),
 (80, ⟨.struct [(0, 22), (1, 3), (2, 3)], 3, 40, [.slice none 0 0, .int .i64 0, .int .i64 0], false⟩),
 (81, ⟨.struct [(0, 22), (1, 3), (2, 3)], 3, 40, [.slice none 0 0, .int .i64 0, .int .i64 0], false⟩),
 (82, ⟨.struct [(0, 3), (1, 3), (2, 3), (3, 3), (4, 3), (5, 3), (6, 3), (7, 4)], 8, 64, [.int .i64 0, .int .i64 0, .int .i64 0, .int .i64 0, .int .i64 0, .int .i64 0, .int .i64 0, .bool false], false⟩),
 (83, ⟨.struct [(0, 3), (1, 3), (2, 3), (3, 3), (4, 3), (5, 3), (6, 3), (7, 4)], 8, 64, [.int .i64 0, .int .i64 0, .int .i64 0, .int .i64 0, .int .i64 0, .int .i64 0, .int .i64 0, .bool false], true⟩),
 (84, ⟨.struct [(0, 83), (8, 3), (9, 3)], 10, 80, [.int .i64 0, .int .i64 0, .int .i64 0, .int .i64 0, .int .i64 0, .int .i64 0, .int .i64 0, .bool false, .int .i64 0, .int .i64 0], false⟩),
 (85, ⟨.struct [(0, 83), (8, 3), (9, 3)], 10, 80, [.int .i64 0, .int .i64 0, .int .i64 0, .int .i64 0, .int .i64 0, .int .i64 0, .int .i64 0, .bool false, .int .i64 0, .int .i64 0], true⟩),
 (89, ⟨.struct [(0, 3), (1, 3), (2, 3), (3, 3), (4, 3), (5, 3), (6, 3), (7, 4)], 8, 64, [.int .i64 0, .int .i64 0, .int .i64 0, .int .i64 0, .int .i64 0, .int .i64 0, .int .i64 0, .bool false], true⟩),
 (90, ⟨.struct [(0, 89), (8, 3), (9, 3)], 10, 80, [.int .i64 0, .int .i64 0, .int .i64 0, .int .i64 0, .int .i64 0, .int .i64 0, .int .i64 0, .bool false, .int .i64 0, .int .i64 0], false⟩),
 (91, ⟨.struct [(0, 89), (8, 3), (9, 3)], 10, 80, [.int .i64 0, .int .i64 0, .int .i64 0, .int .i64 0, .int .i64 0, .int .i64 0, .int .i64 0, .bool false, .int .i64 0, .int .i64 0], true⟩),
 (106, ⟨.struct [(0, 3)], 1, 8, [.int .i64 0], false⟩),
 (107, ⟨.struct [(0, 3)], 1, 8, [.int .i64 0], true⟩),
 (111, ⟨.struct [(0, 3)], 1, 8, [.int .i64 0], false⟩),
 (112, ⟨.struct [(0, 3)], 1, 8, [.int .i64 0], true⟩),
 (114, ⟨.struct [(0, 3)], 1, 8, [.int .i64 0], false⟩),
 (115, ⟨.struct [(0, 3)], 1, 8, [.int .i64 0], true⟩),
 (126, ⟨.ptr 107, 1, 8, [.pointer none], false⟩),
 (129, ⟨.ptr 112, 1, 8, [.pointer none], false⟩),
 (131, ⟨.ptr 115, 1, 8, [.pointer none], false⟩),
 (138, ⟨.arr 6 3, 6, 48, [.int .i64 0, .int .i64 0, .int .i64 0, .int .i64 0, .int .i64 0, .int .i64 0], false⟩),
 (140, ⟨.arr 7 3, 7, 56, [.int .i64 0, .int .i64 0, .int .i64 0, .int .i64 0, .int .i64 0, .int .i64 0, .int .i64 0], false⟩),
 (142, ⟨.struct [(0, 17), (1, 17), (2, 17), (3, 9)], 4, 40, [.pointer none, .pointer none, .pointer none, .string ByteArray.empty], false⟩),
 (143, ⟨.struct [(0, 17), (1, 17), (2, 17), (3, 9)], 4, 40, [.pointer none, .pointer none, .pointer none, .string ByteArray.empty], false⟩),
 (147, ⟨.int .u8, 1, 1, [.int .u8 0], false⟩),
 (148, ⟨.int .u8, 1, 1, [.int .u8 0], false⟩),
 (150, ⟨.ptr 5, 1, 8, [.pointer none], false⟩),
 (151, ⟨.int .i32, 1, 4, [.int .i32 0], false⟩),
 (152, ⟨.int .i32, 1, 4, [.int .i32 0], false⟩)]
def Xv : Qe := fun t => tabL.lookup t
theorem Zc : Xg Try.prog Xv := fun t i h => by
 have hm := Zjc _ h
 unfold tabL at hm
 simp only [List.mem_cons, Prod.mk.injEq, List.not_mem_nil, or_false] at hm
 rcases hm with ⟨rfl, rfl⟩ | ⟨rfl, rfl⟩ | ⟨rfl, rfl⟩ | ⟨rfl, rfl⟩ | ⟨rfl, rfl⟩ | ⟨rfl, rfl⟩ | ⟨rfl, rfl⟩ | ⟨rfl, rfl⟩ | ⟨rfl, rfl⟩ | ⟨rfl, rfl⟩ | ⟨rfl, rfl⟩ | ⟨rfl, rfl⟩ | ⟨rfl, rfl⟩ | ⟨rfl, rfl⟩ | ⟨rfl, rfl⟩ | ⟨rfl, rfl⟩ | ⟨rfl, rfl⟩ | ⟨rfl, rfl⟩ | ⟨rfl, rfl⟩ | ⟨rfl, rfl⟩ | ⟨rfl, rfl⟩ | ⟨rfl, rfl⟩ | ⟨rfl, rfl⟩ | ⟨rfl, rfl⟩ | ⟨rfl, rfl⟩ | ⟨rfl, rfl⟩ | ⟨rfl, rfl⟩ | ⟨rfl, rfl⟩ | ⟨rfl, rfl⟩ | ⟨rfl, rfl⟩ | ⟨rfl, rfl⟩ | ⟨rfl, rfl⟩ | ⟨rfl, rfl⟩ | ⟨rfl, rfl⟩ | ⟨rfl, rfl⟩ | ⟨rfl, rfl⟩ | ⟨rfl, rfl⟩ | ⟨rfl, rfl⟩ | ⟨rfl, rfl⟩ | ⟨rfl, rfl⟩ | ⟨rfl, rfl⟩ | ⟨rfl, rfl⟩ | ⟨rfl, rfl⟩ | ⟨rfl, rfl⟩ | ⟨rfl, rfl⟩ | ⟨rfl, rfl⟩ | ⟨rfl, rfl⟩ | ⟨rfl, rfl⟩ | ⟨rfl, rfl⟩ | ⟨rfl, rfl⟩ | ⟨rfl, rfl⟩ | ⟨rfl, rfl⟩ | ⟨rfl, rfl⟩ | ⟨rfl, rfl⟩ | ⟨rfl, rfl⟩ | ⟨rfl, rfl⟩ | ⟨rfl, rfl⟩ | ⟨rfl, rfl⟩ | ⟨rfl, rfl⟩ | ⟨rfl, rfl⟩ | ⟨rfl, rfl⟩ | ⟨rfl, rfl⟩ | ⟨rfl, rfl⟩
 ·exact ty2
 ·exact ty3
 ·exact ty4
 ·exact ty5
 ·exact ty6
 ·exact ty7
 ·exact ty8
 ·exact ty9
 ·exact Zzj
 ·exact Zzk
 ·exact Zzl
 ·exact Zzm
 ·exact Zzn
 ·exact Zzo
 ·exact Zzp
 ·exact Zzq
 ·exact Zzr
 ·exact Zzs
 ·exact Zzt
 ·exact Zzu
 ·exact Zzv
 ·exact Zzw
 ·exact Zzx
 ·exact Zzy
 ·exact Zzz
 ·exact Zz0
 ·exact Zz1
 ·exact Zz2
 ·exact Zz3
 ·exact Zz4
 ·exact Zz5
 ·exact Zz6
 ·exact Zz7
 ·exact Zz8
 ·exact Zz9
 ·exact Z0a
 ·exact Z0b
 ·exact Z0c
 ·exact Z0d
 ·exact Z0e
 ·exact Z0f
 ·exact Z0g
 ·exact Z0h
 ·exact Z0i
 ·exact Z0j
 ·exact Zyx
 ·exact Zyy
 ·exact Zyz
 ·exact Zy0
 ·exact Zy1
 ·exact Zy2
 ·exact Zy3
 ·exact Zy4
 ·exact Zy5
 ·exact Zy6
 ·exact Zy7
 ·exact Zy8
 ·exact Zy9
 ·exact Zza
 ·exact Zzb
 ·exact Zzc
 ·exact Zzd
 exact Zze
theorem Zx1 : Xv 2 = some ⟨.int .i64, 1, 8, [.int .i64 0], false⟩ := rfl
theorem Zvi : Xv 3 = some ⟨.int .i64, 1, 8, [.int .i64 0], false⟩ := rfl
theorem Zx2 : Xv 4 = some ⟨.bool, 1, 1, [.bool false], false⟩ := rfl
theorem Zx3 : Xv 5 = some ⟨.int .u8, 1, 1, [.int .u8 0], false⟩ := rfl
theorem Zx4 : Xv 6 = some ⟨.int .u8, 1, 1, [.int .u8 0], false⟩ := rfl
theorem Zx5 : Xv 7 = some ⟨.struct [(0, 2), (1, 3), (2, 4), (3, 6)], 4, 24, [.int .i64 0, .int .i64 0, .bool false, .int .u8 0], false⟩ := rfl
theorem Zx6 : Xv 8 = some ⟨.struct [(0, 2), (1, 3), (2, 4), (3, 6)], 4, 24, [.int .i64 0, .int .i64 0, .bool false, .int .u8 0], false⟩ := rfl
theorem Zx7 : Xv 9 = some ⟨.str, 1, 16, [.string ByteArray.empty], false⟩ := rfl
theorem Zu1 : Xv 10 = some ⟨.str, 1, 16, [.string ByteArray.empty], false⟩ := rfl
theorem Zu2 : Xv 11 = some ⟨.str, 1, 16, [.string ByteArray.empty], false⟩ := rfl
theorem Zu3 : Xv 12 = some ⟨.int .u64, 1, 8, [.int .u64 0], false⟩ := rfl
theorem Zu4 : Xv 13 = some ⟨.struct [(0, 9), (1, 12)], 2, 24, [.string ByteArray.empty, .int .u64 0], false⟩ := rfl
theorem Zu5 : Xv 14 = some ⟨.struct [(0, 9), (1, 12)], 2, 24, [.string ByteArray.empty, .int .u64 0], false⟩ := rfl
theorem Zu6 : Xv 15 = some ⟨.ptr 143, 1, 8, [.pointer none], false⟩ := rfl
theorem Zu7 : Xv 16 = some ⟨.ptr 146, 1, 8, [.pointer none], false⟩ := rfl
theorem Zu8 : Xv 17 = some ⟨.ptr 154, 1, 8, [.pointer none], false⟩ := rfl
theorem Zu9 : Xv 18 = some ⟨.struct [(0, 17)], 1, 8, [.pointer none], false⟩ := rfl
theorem Zva : Xv 19 = some ⟨.struct [(0, 17)], 1, 8, [.pointer none], false⟩ := rfl
theorem Zvb : Xv 21 = some ⟨.int .i32, 1, 4, [.int .i32 0], false⟩ := rfl
theorem Zvc : Xv 22 = some ⟨.slice 42, 1, 24, [.slice none 0 0], false⟩ := rfl
theorem Zvd : Xv 23 = some ⟨.slice 3, 1, 24, [.slice none 0 0], false⟩ := rfl
theorem Zve : Xv 24 = some ⟨.ptr 81, 1, 8, [.pointer none], false⟩ := rfl
theorem Zvf : Xv 26 = some ⟨.struct [(0, 24), (1, 3), (2, 3), (3, 3), (4, 3), (5, 3), (6, 3), (7, 3), (8, 3)], 9, 72, [.pointer none, .int .i64 0, .int .i64 0, .int .i64 0, .int .i64 0, .int .i64 0, .int .i64 0, .int .i64 0, .int .i64 0], false⟩ := rfl
theorem Zvg : Xv 27 = some ⟨.struct [(0, 24), (1, 3), (2, 3), (3, 3), (4, 3), (5, 3), (6, 3), (7, 3), (8, 3)], 9, 72, [.pointer none, .int .i64 0, .int .i64 0, .int .i64 0, .int .i64 0, .int .i64 0, .int .i64 0, .int .i64 0, .int .i64 0], false⟩ := rfl
theorem Zvh : Xv 28 = some ⟨.int .i64, 1, 8, [.int .i64 0], false⟩ := rfl
theorem Gm : Xv 31 = some ⟨.int .u64, 1, 8, [.int .u64 0], false⟩ := rfl
theorem Zvj : Xv 32 = some ⟨.struct [(0, 3), (1, 3), (2, 3), (3, 3), (4, 3), (5, 3), (6, 31)], 7, 56, [.int .i64 0, .int .i64 0, .int .i64 0, .int .i64 0, .int .i64 0, .int .i64 0, .int .u64 0], false⟩ := rfl
theorem Zvk : Xv 33 = some ⟨.struct [(0, 3), (1, 3), (2, 3), (3, 3), (4, 3), (5, 3), (6, 31)], 7, 56, [.int .i64 0, .int .i64 0, .int .i64 0, .int .i64 0, .int .i64 0, .int .i64 0, .int .u64 0], true⟩ := rfl
theorem Gn : Xv 42 = some ⟨.slice 31, 1, 24, [.slice none 0 0], false⟩ := rfl
theorem Zvl : Xv 51 = some ⟨.struct [(0, 3), (1, 3), (2, 3), (3, 3)], 4, 32, [.int .i64 0, .int .i64 0, .int .i64 0, .int .i64 0], false⟩ := rfl
theorem Zvm : Xv 52 = some ⟨.struct [(0, 3), (1, 3), (2, 3), (3, 3)], 4, 32, [.int .i64 0, .int .i64 0, .int .i64 0, .int .i64 0], true⟩ := rfl
theorem Zvn : Xv 56 = some ⟨.slice 58, 1, 24, [.slice none 0 0], false⟩ := rfl
theorem Zvo : Xv 57 = some ⟨.struct [(0, 3), (1, 42), (2, 56)], 3, 56, [.int .i64 0, .slice none 0 0, .slice none 0 0], false⟩ := rfl
theorem Zvp : Xv 58 = some ⟨.struct [(0, 3), (1, 42), (2, 56)], 3, 56, [.int .i64 0, .slice none 0 0, .slice none 0 0], false⟩ := rfl
theorem Zvq : Xv 66 = some ⟨.int .u32, 1, 4, [.int .u32 0], false⟩ := rfl
theorem Zvr : Xv 67 = some ⟨.int .u64, 1, 8, [.int .u64 0], false⟩ := rfl
theorem Zvs : Xv 80 = some ⟨.struct [(0, 22), (1, 3), (2, 3)], 3, 40, [.slice none 0 0, .int .i64 0, .int .i64 0], false⟩ := rfl
theorem Zvt : Xv 81 = some ⟨.struct [(0, 22), (1, 3), (2, 3)], 3, 40, [.slice none 0 0, .int .i64 0, .int .i64 0], false⟩ := rfl
theorem Zvu : Xv 82 = some ⟨.struct [(0, 3), (1, 3), (2, 3), (3, 3), (4, 3), (5, 3), (6, 3), (7, 4)], 8, 64, [.int .i64 0, .int .i64 0, .int .i64 0, .int .i64 0, .int .i64 0, .int .i64 0, .int .i64 0, .bool false], false⟩ := rfl
theorem Zvv : Xv 83 = some ⟨.struct [(0, 3), (1, 3), (2, 3), (3, 3), (4, 3), (5, 3), (6, 3), (7, 4)], 8, 64, [.int .i64 0, .int .i64 0, .int .i64 0, .int .i64 0, .int .i64 0, .int .i64 0, .int .i64 0, .bool false], true⟩ := rfl
theorem Zvw : Xv 84 = some ⟨.struct [(0, 83), (8, 3), (9, 3)], 10, 80, [.int .i64 0, .int .i64 0, .int .i64 0, .int .i64 0, .int .i64 0, .int .i64 0, .int .i64 0, .bool false, .int .i64 0, .int .i64 0], false⟩ := rfl
theorem Zvx : Xv 85 = some ⟨.struct [(0, 83), (8, 3), (9, 3)], 10, 80, [.int .i64 0, .int .i64 0, .int .i64 0, .int .i64 0, .int .i64 0, .int .i64 0, .int .i64 0, .bool false, .int .i64 0, .int .i64 0], true⟩ := rfl
theorem Zvy : Xv 89 = some ⟨.struct [(0, 3), (1, 3), (2, 3), (3, 3), (4, 3), (5, 3), (6, 3), (7, 4)], 8, 64, [.int .i64 0, .int .i64 0, .int .i64 0, .int .i64 0, .int .i64 0, .int .i64 0, .int .i64 0, .bool false], true⟩ := rfl
theorem Zvz : Xv 90 = some ⟨.struct [(0, 89), (8, 3), (9, 3)], 10, 80, [.int .i64 0, .int .i64 0, .int .i64 0, .int .i64 0, .int .i64 0, .int .i64 0, .int .i64 0, .bool false, .int .i64 0, .int .i64 0], false⟩ := rfl
theorem Zv0 : Xv 91 = some ⟨.struct [(0, 89), (8, 3), (9, 3)], 10, 80, [.int .i64 0, .int .i64 0, .int .i64 0, .int .i64 0, .int .i64 0, .int .i64 0, .int .i64 0, .bool false, .int .i64 0, .int .i64 0], true⟩ := rfl
theorem Zrb : Xv 106 = some ⟨.struct [(0, 3)], 1, 8, [.int .i64 0], false⟩ := rfl
theorem Zrc : Xv 107 = some ⟨.struct [(0, 3)], 1, 8, [.int .i64 0], true⟩ := rfl
theorem Zrd : Xv 111 = some ⟨.struct [(0, 3)], 1, 8, [.int .i64 0], false⟩ := rfl
theorem Zre : Xv 112 = some ⟨.struct [(0, 3)], 1, 8, [.int .i64 0], true⟩ := rfl
theorem Zrf : Xv 114 = some ⟨.struct [(0, 3)], 1, 8, [.int .i64 0], false⟩ := rfl
theorem Zrg : Xv 115 = some ⟨.struct [(0, 3)], 1, 8, [.int .i64 0], true⟩ := rfl
theorem Zrh : Xv 126 = some ⟨.ptr 107, 1, 8, [.pointer none], false⟩ := rfl
theorem Zri : Xv 129 = some ⟨.ptr 112, 1, 8, [.pointer none], false⟩ := rfl
theorem Zrj : Xv 131 = some ⟨.ptr 115, 1, 8, [.pointer none], false⟩ := rfl
theorem Zrk : Xv 138 = some ⟨.arr 6 3, 6, 48, [.int .i64 0, .int .i64 0, .int .i64 0, .int .i64 0, .int .i64 0, .int .i64 0], false⟩ := rfl
theorem Zrl : Xv 140 = some ⟨.arr 7 3, 7, 56, [.int .i64 0, .int .i64 0, .int .i64 0, .int .i64 0, .int .i64 0, .int .i64 0, .int .i64 0], false⟩ := rfl
theorem Zrm : Xv 142 = some ⟨.struct [(0, 17), (1, 17), (2, 17), (3, 9)], 4, 40, [.pointer none, .pointer none, .pointer none, .string ByteArray.empty], false⟩ := rfl
theorem Zrn : Xv 143 = some ⟨.struct [(0, 17), (1, 17), (2, 17), (3, 9)], 4, 40, [.pointer none, .pointer none, .pointer none, .string ByteArray.empty], false⟩ := rfl
theorem Zro : Xv 147 = some ⟨.int .u8, 1, 1, [.int .u8 0], false⟩ := rfl
theorem Zrp : Xv 148 = some ⟨.int .u8, 1, 1, [.int .u8 0], false⟩ := rfl
theorem Zrr : Z7 Xv 2 = some (.int .i64) := rfl
theorem Zrs : Z7 Xv 3 = some (.int .i64) := rfl
theorem Zrt : Z7 Xv 4 = some (.bool) := rfl
theorem Zru : Z7 Xv 5 = some (.int .u8) := rfl
theorem Zrv : Z7 Xv 6 = some (.int .u8) := rfl
theorem Zrw : Z7 Xv 7 = some (.struct [(0, 2), (1, 3), (2, 4), (3, 6)]) := rfl
theorem Zrx : Z7 Xv 8 = some (.struct [(0, 2), (1, 3), (2, 4), (3, 6)]) := rfl
theorem Zry : Z7 Xv 9 = some (.str) := rfl
theorem Zno : Z7 Xv 10 = some (.str) := rfl
theorem Znp : Z7 Xv 11 = some (.str) := rfl
theorem Znq : Z7 Xv 12 = some (.int .u64) := rfl
theorem Znr : Z7 Xv 13 = some (.struct [(0, 9), (1, 12)]) := rfl
theorem Zns : Z7 Xv 14 = some (.struct [(0, 9), (1, 12)]) := rfl
theorem Znt : Z7 Xv 15 = some (.ptr 143) := rfl
theorem Znu : Z7 Xv 16 = some (.ptr 146) := rfl
theorem Znv : Z7 Xv 17 = some (.ptr 154) := rfl
theorem Znw : Z7 Xv 18 = some (.struct [(0, 17)]) := rfl
theorem Znx : Z7 Xv 19 = some (.struct [(0, 17)]) := rfl
theorem Zny : Z7 Xv 21 = some (.int .i32) := rfl
theorem Znz : Z7 Xv 22 = some (.slice 42) := rfl
theorem Zn0 : Z7 Xv 23 = some (.slice 3) := rfl
theorem Zh1 : Z7 Xv 24 = some (.ptr 81) := rfl
theorem Zn1 : Z7 Xv 26 = some (.struct [(0, 24), (1, 3), (2, 3), (3, 3), (4, 3), (5, 3), (6, 3), (7, 3), (8, 3)]) := rfl
theorem Zn2 : Z7 Xv 27 = some (.struct [(0, 24), (1, 3), (2, 3), (3, 3), (4, 3), (5, 3), (6, 3), (7, 3), (8, 3)]) := rfl
theorem Zn3 : Z7 Xv 28 = some (.int .i64) := rfl
theorem Zn4 : Z7 Xv 31 = some (.int .u64) := rfl
theorem Zn5 : Z7 Xv 32 = some (.struct [(0, 3), (1, 3), (2, 3), (3, 3), (4, 3), (5, 3), (6, 31)]) := rfl
theorem Zn6 : Z7 Xv 33 = some (.struct [(0, 3), (1, 3), (2, 3), (3, 3), (4, 3), (5, 3), (6, 31)]) := rfl
theorem Zdv : Z7 Xv 42 = some (.slice 31) := rfl
theorem Zn7 : Z7 Xv 51 = some (.struct [(0, 3), (1, 3), (2, 3), (3, 3)]) := rfl
theorem Zn8 : Z7 Xv 52 = some (.struct [(0, 3), (1, 3), (2, 3), (3, 3)]) := rfl
theorem Zn9 : Z7 Xv 56 = some (.slice 58) := rfl
theorem Zoa : Z7 Xv 57 = some (.struct [(0, 3), (1, 42), (2, 56)]) := rfl
theorem Zob : Z7 Xv 58 = some (.struct [(0, 3), (1, 42), (2, 56)]) := rfl
theorem Zoc : Z7 Xv 66 = some (.int .u32) := rfl
theorem Zod : Z7 Xv 67 = some (.int .u64) := rfl
theorem Zoe : Z7 Xv 80 = some (.struct [(0, 22), (1, 3), (2, 3)]) := rfl
theorem Zof : Z7 Xv 81 = some (.struct [(0, 22), (1, 3), (2, 3)]) := rfl
theorem Zog : Z7 Xv 82 = some (.struct [(0, 3), (1, 3), (2, 3), (3, 3), (4, 3), (5, 3), (6, 3), (7, 4)]) := rfl
theorem Zoh : Z7 Xv 83 = some (.struct [(0, 3), (1, 3), (2, 3), (3, 3), (4, 3), (5, 3), (6, 3), (7, 4)]) := rfl
theorem Zoi : Z7 Xv 84 = some (.struct [(0, 83), (8, 3), (9, 3)]) := rfl
theorem Zoj : Z7 Xv 85 = some (.struct [(0, 83), (8, 3), (9, 3)]) := rfl
theorem Zok : Z7 Xv 89 = some (.struct [(0, 3), (1, 3), (2, 3), (3, 3), (4, 3), (5, 3), (6, 3), (7, 4)]) := rfl
theorem Zol : Z7 Xv 90 = some (.struct [(0, 89), (8, 3), (9, 3)]) := rfl
theorem Zom : Z7 Xv 91 = some (.struct [(0, 89), (8, 3), (9, 3)]) := rfl
theorem Zj2 : Z7 Xv 106 = some (.struct [(0, 3)]) := rfl
theorem Zj3 : Z7 Xv 107 = some (.struct [(0, 3)]) := rfl
theorem Zj4 : Z7 Xv 111 = some (.struct [(0, 3)]) := rfl
theorem Zj5 : Z7 Xv 112 = some (.struct [(0, 3)]) := rfl
theorem Zj6 : Z7 Xv 114 = some (.struct [(0, 3)]) := rfl
theorem Zj7 : Z7 Xv 115 = some (.struct [(0, 3)]) := rfl
theorem Zj8 : Z7 Xv 126 = some (.ptr 107) := rfl
theorem Zj9 : Z7 Xv 129 = some (.ptr 112) := rfl
theorem Zka : Z7 Xv 131 = some (.ptr 115) := rfl
theorem Zkb : Z7 Xv 138 = some (.arr 6 3) := rfl
theorem Zkc : Z7 Xv 140 = some (.arr 7 3) := rfl
theorem Zkd : Z7 Xv 142 = some (.struct [(0, 17), (1, 17), (2, 17), (3, 9)]) := rfl
theorem Zke : Z7 Xv 143 = some (.struct [(0, 17), (1, 17), (2, 17), (3, 9)]) := rfl
theorem Zkf : Z7 Xv 147 = some (.int .u8) := rfl
theorem Zkg : Z7 Xv 148 = some (.int .u8) := rfl
end Go.Proofs.Ytmlhokaflhlhbaa
