/- The types of this seat's program, as its dump has them, in the ghost memory's words; no condition. -/
import Derived.Test.YtmlhokaflhlhbaaRows
import Derived.Test.YtmlhokaflhlhbaaG16
namespace Go.Proofs.Ytmlhokaflhlhbaa
open Go.RowKit
set_option linter.unusedVariables false
set_option linter.unusedSimpArgs false
theorem TyOk.of {P : Program} {t : TypeId} (k : TK) (size bytes : Nat) (zero : List Value) (z : Value) (h : (P.info? t).map (fun i => (i.zero, i.size, i.bytes)) = some (some z, size, bytes)) (hz : z.cells.toList = zero) (hu : k.ok P t) (hl : zero.length = size) (h1 : zero.all Value.oneCell' = true) (eq : Bool) (he : eq = true → Zix P t) : TyOk P t ⟨k, size, bytes, zero, eq⟩ := by
 refine ⟨?_, hu, hl, fun v hv => List.all_eq_true.1 h1 v hv, he⟩
 cases hi : P.info? t with
 | none => rw [hi] at h; cases h
 | some i =>
  rw [hi] at h
  simp only [Option.map_some, Option.some.injEq, Prod.mk.injEq] at h
  exact ⟨i, z, rfl, h.2.1, h.2.2, h.1, hz⟩
theorem Zjm {α : Type} {t : Nat} {i : α} : ∀ (l : List (Nat × α)), l.lookup t = some i → (t, i) ∈ l
 | [], h => by simp at h
 | (a, b) :: l, h => by
  rw [List.lookup_cons] at h
  split at h
  ·rename_i he
   injection h with h
   have : t = a := by simpa using he
   subst h this
   exact .head _
  exact .tail _ (Zjm l h)
theorem ty2 : TyOk Try.prog 2 ⟨.int .i64, 1, 8, [.int .i64 0], false⟩ := TyOk.of (P := Try.prog) (t := 2) (.int .i64) 1 8 [.int .i64 0] (.int .i64 0) (by kernel_rfl) rfl Try.underlying2 rfl rfl false (fun h => by cases h)
theorem ty3 : TyOk Try.prog 3 ⟨.int .i64, 1, 8, [.int .i64 0], false⟩ := TyOk.of (P := Try.prog) (t := 3) (.int .i64) 1 8 [.int .i64 0] (.int .i64 0) (by kernel_rfl) rfl Try.underlying3 rfl rfl false (fun h => by cases h)
theorem ty4 : TyOk Try.prog 4 ⟨.bool, 1, 1, [.bool false], false⟩ := TyOk.of (P := Try.prog) (t := 4) (.bool) 1 1 [.bool false] (.bool false) (by kernel_rfl) rfl Try.underlying4 rfl rfl false (fun h => by cases h)
theorem ty5 : TyOk Try.prog 5 ⟨.int .u8, 1, 1, [.int .u8 0], false⟩ := TyOk.of (P := Try.prog) (t := 5) (.int .u8) 1 1 [.int .u8 0] (.int .u8 0) (by kernel_rfl) rfl Try.underlying5 rfl rfl false (fun h => by cases h)
theorem ty6 : TyOk Try.prog 6 ⟨.int .u8, 1, 1, [.int .u8 0], false⟩ := TyOk.of (P := Try.prog) (t := 6) (.int .u8) 1 1 [.int .u8 0] (.int .u8 0) (by kernel_rfl) rfl Try.underlying6 rfl rfl false (fun h => by cases h)
theorem ty7 : TyOk Try.prog 7 ⟨.struct [(0, 2), (1, 3), (2, 4), (3, 6)], 4, 24, [.int .i64 0, .int .i64 0, .bool false, .int .u8 0], false⟩ := TyOk.of (P := Try.prog) (t := 7) (.struct [(0, 2), (1, 3), (2, 4), (3, 6)]) 4 24 [.int .i64 0, .int .i64 0, .bool false, .int .u8 0] (.agg #[.int .i64 0, .int .i64 0, .bool false, .int .u8 0]) (by kernel_rfl) rfl ⟨_, Try.underlying7, rfl⟩ rfl rfl false (fun h => by cases h)
theorem ty8 : TyOk Try.prog 8 ⟨.struct [(0, 2), (1, 3), (2, 4), (3, 6)], 4, 24, [.int .i64 0, .int .i64 0, .bool false, .int .u8 0], false⟩ := TyOk.of (P := Try.prog) (t := 8) (.struct [(0, 2), (1, 3), (2, 4), (3, 6)]) 4 24 [.int .i64 0, .int .i64 0, .bool false, .int .u8 0] (.agg #[.int .i64 0, .int .i64 0, .bool false, .int .u8 0]) (by kernel_rfl) rfl ⟨_, Try.underlying8, rfl⟩ rfl rfl false (fun h => by cases h)
theorem ty9 : TyOk Try.prog 9 ⟨.str, 1, 16, [.string ByteArray.empty], false⟩ := TyOk.of (P := Try.prog) (t := 9) (.str) 1 16 [.string ByteArray.empty] (.string ByteArray.empty) (by kernel_rfl) rfl Try.underlying9 rfl rfl false (fun h => by cases h)
theorem Zuj : TyOk Try.prog 10 ⟨.str, 1, 16, [.string ByteArray.empty], false⟩ := TyOk.of (P := Try.prog) (t := 10) (.str) 1 16 [.string ByteArray.empty] (.string ByteArray.empty) (by kernel_rfl) rfl Try.underlying10 rfl rfl false (fun h => by cases h)
theorem Zuk : TyOk Try.prog 11 ⟨.str, 1, 16, [.string ByteArray.empty], false⟩ := TyOk.of (P := Try.prog) (t := 11) (.str) 1 16 [.string ByteArray.empty] (.string ByteArray.empty) (by kernel_rfl) rfl Try.underlying11 rfl rfl false (fun h => by cases h)
theorem Zul : TyOk Try.prog 12 ⟨.int .u64, 1, 8, [.int .u64 0], false⟩ := TyOk.of (P := Try.prog) (t := 12) (.int .u64) 1 8 [.int .u64 0] (.int .u64 0) (by kernel_rfl) rfl Try.underlying12 rfl rfl false (fun h => by cases h)
theorem Zum : TyOk Try.prog 13 ⟨.struct [(0, 9), (1, 12)], 2, 24, [.string ByteArray.empty, .int .u64 0], false⟩ := TyOk.of (P := Try.prog) (t := 13) (.struct [(0, 9), (1, 12)]) 2 24 [.string ByteArray.empty, .int .u64 0] (.agg #[.string ByteArray.empty, .int .u64 0]) (by kernel_rfl) rfl ⟨_, Try.underlying13, rfl⟩ rfl rfl false (fun h => by cases h)
theorem Zun : TyOk Try.prog 14 ⟨.struct [(0, 9), (1, 12)], 2, 24, [.string ByteArray.empty, .int .u64 0], false⟩ := TyOk.of (P := Try.prog) (t := 14) (.struct [(0, 9), (1, 12)]) 2 24 [.string ByteArray.empty, .int .u64 0] (.agg #[.string ByteArray.empty, .int .u64 0]) (by kernel_rfl) rfl ⟨_, Try.underlying14, rfl⟩ rfl rfl false (fun h => by cases h)
theorem Zuo : TyOk Try.prog 15 ⟨.ptr 143, 1, 8, [.pointer none], false⟩ := TyOk.of (P := Try.prog) (t := 15) (.ptr 143) 1 8 [.pointer none] (.pointer none) (by kernel_rfl) rfl Try.underlying15 rfl rfl false (fun h => by cases h)
theorem Zup : TyOk Try.prog 16 ⟨.ptr 146, 1, 8, [.pointer none], false⟩ := TyOk.of (P := Try.prog) (t := 16) (.ptr 146) 1 8 [.pointer none] (.pointer none) (by kernel_rfl) rfl Try.underlying16 rfl rfl false (fun h => by cases h)
theorem Zuq : TyOk Try.prog 17 ⟨.ptr 154, 1, 8, [.pointer none], false⟩ := TyOk.of (P := Try.prog) (t := 17) (.ptr 154) 1 8 [.pointer none] (.pointer none) (by kernel_rfl) rfl Try.underlying17 rfl rfl false (fun h => by cases h)
theorem Zur : TyOk Try.prog 18 ⟨.struct [(0, 17)], 1, 8, [.pointer none], false⟩ := TyOk.of (P := Try.prog) (t := 18) (.struct [(0, 17)]) 1 8 [.pointer none] (.agg #[.pointer none]) (by kernel_rfl) rfl ⟨_, Try.underlying18, rfl⟩ rfl rfl false (fun h => by cases h)
theorem Zus : TyOk Try.prog 19 ⟨.struct [(0, 17)], 1, 8, [.pointer none], false⟩ := TyOk.of (P := Try.prog) (t := 19) (.struct [(0, 17)]) 1 8 [.pointer none] (.agg #[.pointer none]) (by kernel_rfl) rfl ⟨_, Try.underlying19, rfl⟩ rfl rfl false (fun h => by cases h)
theorem Zut : TyOk Try.prog 21 ⟨.int .i32, 1, 4, [.int .i32 0], false⟩ := TyOk.of (P := Try.prog) (t := 21) (.int .i32) 1 4 [.int .i32 0] (.int .i32 0) (by kernel_rfl) rfl Try.underlying21 rfl rfl false (fun h => by cases h)
theorem Zuu : TyOk Try.prog 22 ⟨.slice 42, 1, 24, [.slice none 0 0], false⟩ := TyOk.of (P := Try.prog) (t := 22) (.slice 42) 1 24 [.slice none 0 0] (.slice none 0 0) (by kernel_rfl) rfl Try.underlying22 rfl rfl false (fun h => by cases h)
theorem Zuv : TyOk Try.prog 23 ⟨.slice 3, 1, 24, [.slice none 0 0], false⟩ := TyOk.of (P := Try.prog) (t := 23) (.slice 3) 1 24 [.slice none 0 0] (.slice none 0 0) (by kernel_rfl) rfl Try.underlying23 rfl rfl false (fun h => by cases h)
theorem Zuw : TyOk Try.prog 24 ⟨.ptr 81, 1, 8, [.pointer none], false⟩ := TyOk.of (P := Try.prog) (t := 24) (.ptr 81) 1 8 [.pointer none] (.pointer none) (by kernel_rfl) rfl Try.underlying24 rfl rfl false (fun h => by cases h)
theorem Zux : TyOk Try.prog 26 ⟨.struct [(0, 24), (1, 3), (2, 3), (3, 3), (4, 3), (5, 3), (6, 3), (7, 3), (8, 3)], 9, 72, [.pointer none, .int .i64 0, .int .i64 0, .int .i64 0, .int .i64 0, .int .i64 0, .int .i64 0, .int .i64 0, .int .i64 0], false⟩ := TyOk.of (P := Try.prog) (t := 26) (.struct [(0, 24), (1, 3), (2, 3), (3, 3), (4, 3), (5, 3), (6, 3), (7, 3), (8, 3)]) 9 72 [.pointer none, .int .i64 0, .int .i64 0, .int .i64 0, .int .i64 0, .int .i64 0, .int .i64 0, .int .i64 0, .int .i64 0] (.agg #[.pointer none, .int .i64 0, .int .i64 0, .int .i64 0, .int .i64 0, .int .i64 0, .int .i64 0, .int .i64 0, .int .i64 0]) (by kernel_rfl) rfl ⟨_, Try.underlying26, rfl⟩ rfl rfl false (fun h => by cases h)
theorem Zuy : TyOk Try.prog 27 ⟨.struct [(0, 24), (1, 3), (2, 3), (3, 3), (4, 3), (5, 3), (6, 3), (7, 3), (8, 3)], 9, 72, [.pointer none, .int .i64 0, .int .i64 0, .int .i64 0, .int .i64 0, .int .i64 0, .int .i64 0, .int .i64 0, .int .i64 0], false⟩ := TyOk.of (P := Try.prog) (t := 27) (.struct [(0, 24), (1, 3), (2, 3), (3, 3), (4, 3), (5, 3), (6, 3), (7, 3), (8, 3)]) 9 72 [.pointer none, .int .i64 0, .int .i64 0, .int .i64 0, .int .i64 0, .int .i64 0, .int .i64 0, .int .i64 0, .int .i64 0] (.agg #[.pointer none, .int .i64 0, .int .i64 0, .int .i64 0, .int .i64 0, .int .i64 0, .int .i64 0, .int .i64 0, .int .i64 0]) (by kernel_rfl) rfl ⟨_, Try.underlying27, rfl⟩ rfl rfl false (fun h => by cases h)
theorem Zuz : TyOk Try.prog 28 ⟨.int .i64, 1, 8, [.int .i64 0], false⟩ := TyOk.of (P := Try.prog) (t := 28) (.int .i64) 1 8 [.int .i64 0] (.int .i64 0) (by kernel_rfl) rfl Try.underlying28 rfl rfl false (fun h => by cases h)
theorem Zu0 : TyOk Try.prog 31 ⟨.int .u64, 1, 8, [.int .u64 0], false⟩ := TyOk.of (P := Try.prog) (t := 31) (.int .u64) 1 8 [.int .u64 0] (.int .u64 0) (by kernel_rfl) rfl Try.underlying31 rfl rfl false (fun h => by cases h)
theorem Zu1 : TyOk Try.prog 32 ⟨.struct [(0, 3), (1, 3), (2, 3), (3, 3), (4, 3), (5, 3), (6, 31)], 7, 56, [.int .i64 0, .int .i64 0, .int .i64 0, .int .i64 0, .int .i64 0, .int .i64 0, .int .u64 0], false⟩ := TyOk.of (P := Try.prog) (t := 32) (.struct [(0, 3), (1, 3), (2, 3), (3, 3), (4, 3), (5, 3), (6, 31)]) 7 56 [.int .i64 0, .int .i64 0, .int .i64 0, .int .i64 0, .int .i64 0, .int .i64 0, .int .u64 0] (.agg #[.int .i64 0, .int .i64 0, .int .i64 0, .int .i64 0, .int .i64 0, .int .i64 0, .int .u64 0]) (by kernel_rfl) rfl ⟨_, Try.underlying32, rfl⟩ rfl rfl false (fun h => by cases h)
theorem Zu2 : TyOk Try.prog 33 ⟨.struct [(0, 3), (1, 3), (2, 3), (3, 3), (4, 3), (5, 3), (6, 31)], 7, 56, [.int .i64 0, .int .i64 0, .int .i64 0, .int .i64 0, .int .i64 0, .int .i64 0, .int .u64 0], true⟩ := TyOk.of (P := Try.prog) (t := 33) (.struct [(0, 3), (1, 3), (2, 3), (3, 3), (4, 3), (5, 3), (6, 31)]) 7 56 [.int .i64 0, .int .i64 0, .int .i64 0, .int .i64 0, .int .i64 0, .int .i64 0, .int .u64 0] (.agg #[.int .i64 0, .int .i64 0, .int .i64 0, .int .i64 0, .int .i64 0, .int .i64 0, .int .u64 0]) (by kernel_rfl) rfl ⟨_, Try.underlying33, rfl⟩ rfl rfl true (fun _ => by unfold Zix; exact ⟨by kernel_rfl, by kernel_rfl, by kernel_rfl⟩)
theorem Zu3 : TyOk Try.prog 42 ⟨.slice 31, 1, 24, [.slice none 0 0], false⟩ := TyOk.of (P := Try.prog) (t := 42) (.slice 31) 1 24 [.slice none 0 0] (.slice none 0 0) (by kernel_rfl) rfl Try.underlying42 rfl rfl false (fun h => by cases h)
theorem Zu4 : TyOk Try.prog 51 ⟨.struct [(0, 3), (1, 3), (2, 3), (3, 3)], 4, 32, [.int .i64 0, .int .i64 0, .int .i64 0, .int .i64 0], false⟩ := TyOk.of (P := Try.prog) (t := 51) (.struct [(0, 3), (1, 3), (2, 3), (3, 3)]) 4 32 [.int .i64 0, .int .i64 0, .int .i64 0, .int .i64 0] (.agg #[.int .i64 0, .int .i64 0, .int .i64 0, .int .i64 0]) (by kernel_rfl) rfl ⟨_, Try.underlying51, rfl⟩ rfl rfl false (fun h => by cases h)
theorem Zu5 : TyOk Try.prog 52 ⟨.struct [(0, 3), (1, 3), (2, 3), (3, 3)], 4, 32, [.int .i64 0, .int .i64 0, .int .i64 0, .int .i64 0], true⟩ := TyOk.of (P := Try.prog) (t := 52) (.struct [(0, 3), (1, 3), (2, 3), (3, 3)]) 4 32 [.int .i64 0, .int .i64 0, .int .i64 0, .int .i64 0] (.agg #[.int .i64 0, .int .i64 0, .int .i64 0, .int .i64 0]) (by kernel_rfl) rfl ⟨_, Try.underlying52, rfl⟩ rfl rfl true (fun _ => by unfold Zix; exact ⟨by kernel_rfl, by kernel_rfl, by kernel_rfl⟩)
theorem Zu6 : TyOk Try.prog 56 ⟨.slice 58, 1, 24, [.slice none 0 0], false⟩ := TyOk.of (P := Try.prog) (t := 56) (.slice 58) 1 24 [.slice none 0 0] (.slice none 0 0) (by kernel_rfl) rfl Try.underlying56 rfl rfl false (fun h => by cases h)
theorem Zu7 : TyOk Try.prog 57 ⟨.struct [(0, 3), (1, 42), (2, 56)], 3, 56, [.int .i64 0, .slice none 0 0, .slice none 0 0], false⟩ := TyOk.of (P := Try.prog) (t := 57) (.struct [(0, 3), (1, 42), (2, 56)]) 3 56 [.int .i64 0, .slice none 0 0, .slice none 0 0] (.agg #[.int .i64 0, .slice none 0 0, .slice none 0 0]) (by kernel_rfl) rfl ⟨_, Try.underlying57, rfl⟩ rfl rfl false (fun h => by cases h)
theorem Zu8 : TyOk Try.prog 58 ⟨.struct [(0, 3), (1, 42), (2, 56)], 3, 56, [.int .i64 0, .slice none 0 0, .slice none 0 0], false⟩ := TyOk.of (P := Try.prog) (t := 58) (.struct [(0, 3), (1, 42), (2, 56)]) 3 56 [.int .i64 0, .slice none 0 0, .slice none 0 0] (.agg #[.int .i64 0, .slice none 0 0, .slice none 0 0]) (by kernel_rfl) rfl ⟨_, Try.underlying58, rfl⟩ rfl rfl false (fun h => by cases h)
theorem Zu9 : TyOk Try.prog 66 ⟨.int .u32, 1, 4, [.int .u32 0], false⟩ := TyOk.of (P := Try.prog) (t := 66) (.int .u32) 1 4 [.int .u32 0] (.int .u32 0) (by kernel_rfl) rfl Try.underlying66 rfl rfl false (fun h => by cases h)
theorem Zva : TyOk Try.prog 67 ⟨.int .u64, 1, 8, [.int .u64 0], false⟩ := TyOk.of (P := Try.prog) (t := 67) (.int .u64) 1 8 [.int .u64 0] (.int .u64 0) (by kernel_rfl) rfl Try.underlying67 rfl rfl false (fun h => by cases h)
theorem Zvb : TyOk Try.prog 80 ⟨.struct [(0, 22), (1, 3), (2, 3)], 3, 40, [.slice none 0 0, .int .i64 0, .int .i64 0], false⟩ := TyOk.of (P := Try.prog) (t := 80) (.struct [(0, 22), (1, 3), (2, 3)]) 3 40 [.slice none 0 0, .int .i64 0, .int .i64 0] (.agg #[.slice none 0 0, .int .i64 0, .int .i64 0]) (by kernel_rfl) rfl ⟨_, Try.underlying80, rfl⟩ rfl rfl false (fun h => by cases h)
theorem Zvc : TyOk Try.prog 81 ⟨.struct [(0, 22), (1, 3), (2, 3)], 3, 40, [.slice none 0 0, .int .i64 0, .int .i64 0], false⟩ := TyOk.of (P := Try.prog) (t := 81) (.struct [(0, 22), (1, 3), (2, 3)]) 3 40 [.slice none 0 0, .int .i64 0, .int .i64 0] (.agg #[.slice none 0 0, .int .i64 0, .int .i64 0]) (by kernel_rfl) rfl ⟨_, Try.underlying81, rfl⟩ rfl rfl false (fun h => by cases h)
theorem Zvd : TyOk Try.prog 82 ⟨.struct [(0, 3), (1, 3), (2, 3), (3, 3), (4, 3), (5, 3), (6, 3), (7, 4)], 8, 64, [.int .i64 0, .int .i64 0, .int .i64 0, .int .i64 0, .int .i64 0, .int .i64 0, .int .i64 0, .bool false], false⟩ := TyOk.of (P := Try.prog) (t := 82) (.struct [(0, 3), (1, 3), (2, 3), (3, 3), (4, 3), (5, 3), (6, 3), (7, 4)]) 8 64 [.int .i64 0, .int .i64 0, .int .i64 0, .int .i64 0, .int .i64 0, .int .i64 0, .int .i64 0, .bool false] (.agg #[.int .i64 0, .int .i64 0, .int .i64 0, .int .i64 0, .int .i64 0, .int .i64 0, .int .i64 0, .bool false]) (by kernel_rfl) rfl ⟨_, Try.underlying82, rfl⟩ rfl rfl false (fun h => by cases h)
theorem Zve : TyOk Try.prog 83 ⟨.struct [(0, 3), (1, 3), (2, 3), (3, 3), (4, 3), (5, 3), (6, 3), (7, 4)], 8, 64, [.int .i64 0, .int .i64 0, .int .i64 0, .int .i64 0, .int .i64 0, .int .i64 0, .int .i64 0, .bool false], true⟩ := TyOk.of (P := Try.prog) (t := 83) (.struct [(0, 3), (1, 3), (2, 3), (3, 3), (4, 3), (5, 3), (6, 3), (7, 4)]) 8 64 [.int .i64 0, .int .i64 0, .int .i64 0, .int .i64 0, .int .i64 0, .int .i64 0, .int .i64 0, .bool false] (.agg #[.int .i64 0, .int .i64 0, .int .i64 0, .int .i64 0, .int .i64 0, .int .i64 0, .int .i64 0, .bool false]) (by kernel_rfl) rfl ⟨_, Try.underlying83, rfl⟩ rfl rfl true (fun _ => by unfold Zix; exact ⟨by kernel_rfl, by kernel_rfl, by kernel_rfl⟩)
theorem Zvf : TyOk Try.prog 84 ⟨.struct [(0, 83), (8, 3), (9, 3)], 10, 80, [.int .i64 0, .int .i64 0, .int .i64 0, .int .i64 0, .int .i64 0, .int .i64 0, .int .i64 0, .bool false, .int .i64 0, .int .i64 0], false⟩ := TyOk.of (P := Try.prog) (t := 84) (.struct [(0, 83), (8, 3), (9, 3)]) 10 80 [.int .i64 0, .int .i64 0, .int .i64 0, .int .i64 0, .int .i64 0, .int .i64 0, .int .i64 0, .bool false, .int .i64 0, .int .i64 0] (.agg #[.int .i64 0, .int .i64 0, .int .i64 0, .int .i64 0, .int .i64 0, .int .i64 0, .int .i64 0, .bool false, .int .i64 0, .int .i64 0]) (by kernel_rfl) rfl ⟨_, Try.underlying84, rfl⟩ rfl rfl false (fun h => by cases h)
theorem Zvg : TyOk Try.prog 85 ⟨.struct [(0, 83), (8, 3), (9, 3)], 10, 80, [.int .i64 0, .int .i64 0, .int .i64 0, .int .i64 0, .int .i64 0, .int .i64 0, .int .i64 0, .bool false, .int .i64 0, .int .i64 0], true⟩ := TyOk.of (P := Try.prog) (t := 85) (.struct [(0, 83), (8, 3), (9, 3)]) 10 80 [.int .i64 0, .int .i64 0, .int .i64 0, .int .i64 0, .int .i64 0, .int .i64 0, .int .i64 0, .bool false, .int .i64 0, .int .i64 0] (.agg #[.int .i64 0, .int .i64 0, .int .i64 0, .int .i64 0, .int .i64 0, .int .i64 0, .int .i64 0, .bool false, .int .i64 0, .int .i64 0]) (by kernel_rfl) rfl ⟨_, Try.underlying85, rfl⟩ rfl rfl true (fun _ => by unfold Zix; exact ⟨by kernel_rfl, by kernel_rfl, by kernel_rfl⟩)
theorem Zvh : TyOk Try.prog 89 ⟨.struct [(0, 3), (1, 3), (2, 3), (3, 3), (4, 3), (5, 3), (6, 3), (7, 4)], 8, 64, [.int .i64 0, .int .i64 0, .int .i64 0, .int .i64 0, .int .i64 0, .int .i64 0, .int .i64 0, .bool false], true⟩ := TyOk.of (P := Try.prog) (t := 89) (.struct [(0, 3), (1, 3), (2, 3), (3, 3), (4, 3), (5, 3), (6, 3), (7, 4)]) 8 64 [.int .i64 0, .int .i64 0, .int .i64 0, .int .i64 0, .int .i64 0, .int .i64 0, .int .i64 0, .bool false] (.agg #[.int .i64 0, .int .i64 0, .int .i64 0, .int .i64 0, .int .i64 0, .int .i64 0, .int .i64 0, .bool false]) (by kernel_rfl) rfl ⟨_, Try.underlying89, rfl⟩ rfl rfl true (fun _ => by unfold Zix; exact ⟨by kernel_rfl, by kernel_rfl, by kernel_rfl⟩)
theorem Zvi : TyOk Try.prog 90 ⟨.struct [(0, 89), (8, 3), (9, 3)], 10, 80, [.int .i64 0, .int .i64 0, .int .i64 0, .int .i64 0, .int .i64 0, .int .i64 0, .int .i64 0, .bool false, .int .i64 0, .int .i64 0], false⟩ := TyOk.of (P := Try.prog) (t := 90) (.struct [(0, 89), (8, 3), (9, 3)]) 10 80 [.int .i64 0, .int .i64 0, .int .i64 0, .int .i64 0, .int .i64 0, .int .i64 0, .int .i64 0, .bool false, .int .i64 0, .int .i64 0] (.agg #[.int .i64 0, .int .i64 0, .int .i64 0, .int .i64 0, .int .i64 0, .int .i64 0, .int .i64 0, .bool false, .int .i64 0, .int .i64 0]) (by kernel_rfl) rfl ⟨_, Try.underlying90, rfl⟩ rfl rfl false (fun h => by cases h)
theorem Zvj : TyOk Try.prog 91 ⟨.struct [(0, 89), (8, 3), (9, 3)], 10, 80, [.int .i64 0, .int .i64 0, .int .i64 0, .int .i64 0, .int .i64 0, .int .i64 0, .int .i64 0, .bool false, .int .i64 0, .int .i64 0], true⟩ := TyOk.of (P := Try.prog) (t := 91) (.struct [(0, 89), (8, 3), (9, 3)]) 10 80 [.int .i64 0, .int .i64 0, .int .i64 0, .int .i64 0, .int .i64 0, .int .i64 0, .int .i64 0, .bool false, .int .i64 0, .int .i64 0] (.agg #[.int .i64 0, .int .i64 0, .int .i64 0, .int .i64 0, .int .i64 0, .int .i64 0, .int .i64 0, .bool false, .int .i64 0, .int .i64 0]) (by kernel_rfl) rfl ⟨_, Try.underlying91, rfl⟩ rfl rfl true (fun _ => by unfold Zix; exact ⟨by kernel_rfl, by kernel_rfl, by kernel_rfl⟩)
theorem Ztu : TyOk Try.prog 106 ⟨.struct [(0, 3)], 1, 8, [.int .i64 0], false⟩ := TyOk.of (P := Try.prog) (t := 106) (.struct [(0, 3)]) 1 8 [.int .i64 0] (.agg #[.int .i64 0]) (by kernel_rfl) rfl ⟨_, Try.underlying106, rfl⟩ rfl rfl false (fun h => by cases h)
theorem Ztv : TyOk Try.prog 107 ⟨.struct [(0, 3)], 1, 8, [.int .i64 0], true⟩ := TyOk.of (P := Try.prog) (t := 107) (.struct [(0, 3)]) 1 8 [.int .i64 0] (.agg #[.int .i64 0]) (by kernel_rfl) rfl ⟨_, Try.underlying107, rfl⟩ rfl rfl true (fun _ => by unfold Zix; exact ⟨by kernel_rfl, by kernel_rfl, by kernel_rfl⟩)
theorem Ztw : TyOk Try.prog 111 ⟨.struct [(0, 3)], 1, 8, [.int .i64 0], false⟩ := TyOk.of (P := Try.prog) (t := 111) (.struct [(0, 3)]) 1 8 [.int .i64 0] (.agg #[.int .i64 0]) (by kernel_rfl) rfl ⟨_, Try.underlying111, rfl⟩ rfl rfl false (fun h => by cases h)
theorem Ztx : TyOk Try.prog 112 ⟨.struct [(0, 3)], 1, 8, [.int .i64 0], true⟩ := TyOk.of (P := Try.prog) (t := 112) (.struct [(0, 3)]) 1 8 [.int .i64 0] (.agg #[.int .i64 0]) (by kernel_rfl) rfl ⟨_, Try.underlying112, rfl⟩ rfl rfl true (fun _ => by unfold Zix; exact ⟨by kernel_rfl, by kernel_rfl, by kernel_rfl⟩)
theorem Zty : TyOk Try.prog 114 ⟨.struct [(0, 3)], 1, 8, [.int .i64 0], false⟩ := TyOk.of (P := Try.prog) (t := 114) (.struct [(0, 3)]) 1 8 [.int .i64 0] (.agg #[.int .i64 0]) (by kernel_rfl) rfl ⟨_, Try.underlying114, rfl⟩ rfl rfl false (fun h => by cases h)
theorem Ztz : TyOk Try.prog 115 ⟨.struct [(0, 3)], 1, 8, [.int .i64 0], true⟩ := TyOk.of (P := Try.prog) (t := 115) (.struct [(0, 3)]) 1 8 [.int .i64 0] (.agg #[.int .i64 0]) (by kernel_rfl) rfl ⟨_, Try.underlying115, rfl⟩ rfl rfl true (fun _ => by unfold Zix; exact ⟨by kernel_rfl, by kernel_rfl, by kernel_rfl⟩)
theorem Zt0 : TyOk Try.prog 126 ⟨.ptr 107, 1, 8, [.pointer none], false⟩ := TyOk.of (P := Try.prog) (t := 126) (.ptr 107) 1 8 [.pointer none] (.pointer none) (by kernel_rfl) rfl Try.underlying126 rfl rfl false (fun h => by cases h)
theorem Zt1 : TyOk Try.prog 129 ⟨.ptr 112, 1, 8, [.pointer none], false⟩ := TyOk.of (P := Try.prog) (t := 129) (.ptr 112) 1 8 [.pointer none] (.pointer none) (by kernel_rfl) rfl Try.underlying129 rfl rfl false (fun h => by cases h)
theorem Zt2 : TyOk Try.prog 131 ⟨.ptr 115, 1, 8, [.pointer none], false⟩ := TyOk.of (P := Try.prog) (t := 131) (.ptr 115) 1 8 [.pointer none] (.pointer none) (by kernel_rfl) rfl Try.underlying131 rfl rfl false (fun h => by cases h)
theorem Zt3 : TyOk Try.prog 138 ⟨.arr 6 3, 6, 48, [.int .i64 0, .int .i64 0, .int .i64 0, .int .i64 0, .int .i64 0, .int .i64 0], false⟩ := TyOk.of (P := Try.prog) (t := 138) (.arr 6 3) 6 48 [.int .i64 0, .int .i64 0, .int .i64 0, .int .i64 0, .int .i64 0, .int .i64 0] (.agg #[.int .i64 0, .int .i64 0, .int .i64 0, .int .i64 0, .int .i64 0, .int .i64 0]) (by kernel_rfl) rfl Try.underlying138 rfl rfl false (fun h => by cases h)
theorem Zt4 : TyOk Try.prog 140 ⟨.arr 7 3, 7, 56, [.int .i64 0, .int .i64 0, .int .i64 0, .int .i64 0, .int .i64 0, .int .i64 0, .int .i64 0], false⟩ := TyOk.of (P := Try.prog) (t := 140) (.arr 7 3) 7 56 [.int .i64 0, .int .i64 0, .int .i64 0, .int .i64 0, .int .i64 0, .int .i64 0, .int .i64 0] (.agg #[.int .i64 0, .int .i64 0, .int .i64 0, .int .i64 0, .int .i64 0, .int .i64 0, .int .i64 0]) (by kernel_rfl) rfl Try.underlying140 rfl rfl false (fun h => by cases h)
theorem Zt5 : TyOk Try.prog 142 ⟨.struct [(0, 17), (1, 17), (2, 17), (3, 9)], 4, 40, [.pointer none, .pointer none, .pointer none, .string ByteArray.empty], false⟩ := TyOk.of (P := Try.prog) (t := 142) (.struct [(0, 17), (1, 17), (2, 17), (3, 9)]) 4 40 [.pointer none, .pointer none, .pointer none, .string ByteArray.empty] (.agg #[.pointer none, .pointer none, .pointer none, .string ByteArray.empty]) (by kernel_rfl) rfl ⟨_, Try.underlying142, rfl⟩ rfl rfl false (fun h => by cases h)
theorem Zt6 : TyOk Try.prog 143 ⟨.struct [(0, 17), (1, 17), (2, 17), (3, 9)], 4, 40, [.pointer none, .pointer none, .pointer none, .string ByteArray.empty], false⟩ := TyOk.of (P := Try.prog) (t := 143) (.struct [(0, 17), (1, 17), (2, 17), (3, 9)]) 4 40 [.pointer none, .pointer none, .pointer none, .string ByteArray.empty] (.agg #[.pointer none, .pointer none, .pointer none, .string ByteArray.empty]) (by kernel_rfl) rfl ⟨_, Try.underlying143, rfl⟩ rfl rfl false (fun h => by cases h)
theorem Zt7 : TyOk Try.prog 147 ⟨.int .u8, 1, 1, [.int .u8 0], false⟩ := TyOk.of (P := Try.prog) (t := 147) (.int .u8) 1 1 [.int .u8 0] (.int .u8 0) (by kernel_rfl) rfl Try.underlying147 rfl rfl false (fun h => by cases h)
theorem Zt8 : TyOk Try.prog 148 ⟨.int .u8, 1, 1, [.int .u8 0], false⟩ := TyOk.of (P := Try.prog) (t := 148) (.int .u8) 1 1 [.int .u8 0] (.int .u8 0) (by kernel_rfl) rfl Try.underlying148 rfl rfl false (fun h => by cases h)
theorem Zt9 : TyOk Try.prog 150 ⟨.ptr 5, 1, 8, [.pointer none], false⟩ := TyOk.of (P := Try.prog) (t := 150) (.ptr 5) 1 8 [.pointer none] (.pointer none) (by kernel_rfl) rfl Try.underlying150 rfl rfl false (fun h => by cases h)
theorem Zua : TyOk Try.prog 151 ⟨.int .i32, 1, 4, [.int .i32 0], false⟩ := TyOk.of (P := Try.prog) (t := 151) (.int .i32) 1 4 [.int .i32 0] (.int .i32 0) (by kernel_rfl) rfl Try.underlying151 rfl rfl false (fun h => by cases h)
theorem Zub : TyOk Try.prog 152 ⟨.int .i32, 1, 4, [.int .i32 0], false⟩ := TyOk.of (P := Try.prog) (t := 152) (.int .i32) 1 4 [.int .i32 0] (.int .i32 0) (by kernel_rfl) rfl Try.underlying152 rfl rfl false (fun h => by cases h)
def tabL : List (Nat × TyI) := [(2, ⟨.int .i64, 1, 8, [.int .i64 0], false⟩),
 (3, ⟨.int .i64, 1, 8, [.int .i64 0], false⟩),
 (4, ⟨.bool, 1, 1, [.bool false], false⟩),
 (5, ⟨.int .u8, 1, 1, [.int .u8 0], false⟩),
 (6, ⟨.int .u8, 1, 1, [.int .u8 0], false⟩),
 (7, ⟨.struct [(0, 2), (1, 3), (2, 4), (3, 6)], 4, 24, [.int .i64 0, .int .i64 0, .bool false, .int .u8 0], false⟩),
 (8, ⟨.struct [(0, 2), (1, 3), (2, 4), (3, 6)], 4, 24, [.int .i64 0, .int .i64 0, .bool false, .int .u8 0], false⟩),
 (9, ⟨.str, 1, 16, [.string ByteArray.empty], false⟩),
 (10, ⟨.str, 1, 16, [.string ByteArray.empty], false⟩),
 (11, ⟨.str, 1, 16, [.string ByteArray.empty], false⟩),
 (12, ⟨.int .u64, 1, 8, [.int .u64 0], false⟩),
 (13, ⟨.struct [(0, 9), (1, 12)], 2, 24, [.string ByteArray.empty, .int .u64 0], false⟩),
 (14, ⟨.struct [(0, 9), (1, 12)], 2, 24, [.string ByteArray.empty, .int .u64 0], false⟩),
 (15, ⟨.ptr 143, 1, 8, [.pointer none], false⟩),
 (16, ⟨.ptr 146, 1, 8, [.pointer none], false⟩),
 (17, ⟨.ptr 154, 1, 8, [.pointer none], false⟩),
 (18, ⟨.struct [(0, 17)], 1, 8, [.pointer none], false⟩),
 (19, ⟨.struct [(0, 17)], 1, 8, [.pointer none], false⟩),
 (21, ⟨.int .i32, 1, 4, [.int .i32 0], false⟩),
 (22, ⟨.slice 42, 1, 24, [.slice none 0 0], false⟩),
 (23, ⟨.slice 3, 1, 24, [.slice none 0 0], false⟩),
 (24, ⟨.ptr 81, 1, 8, [.pointer none], false⟩),
 (26, ⟨.struct [(0, 24), (1, 3), (2, 3), (3, 3), (4, 3), (5, 3), (6, 3), (7, 3), (8, 3)], 9, 72, [.pointer none, .int .i64 0, .int .i64 0, .int .i64 0, .int .i64 0, .int .i64 0, .int .i64 0, .int .i64 0, .int .i64 0], false⟩),
 (27, ⟨.struct [(0, 24), (1, 3), (2, 3), (3, 3), (4, 3), (5, 3), (6, 3), (7, 3), (8, 3)], 9, 72, [.pointer none, .int .i64 0, .int .i64 0, .int .i64 0, .int .i64 0, .int .i64 0, .int .i64 0, .int .i64 0, .int .i64 0], false⟩),
 (28, ⟨.int .i64, 1, 8, [.int .i64 0], false⟩),
 (31, ⟨.int .u64, 1, 8, [.int .u64 0], false⟩),
 (32, ⟨.struct [(0, 3), (1, 3), (2, 3), (3, 3), (4, 3), (5, 3), (6, 31)], 7, 56, [.int .i64 0, .int .i64 0, .int .i64 0, .int .i64 0, .int .i64 0, .int .i64 0, .int .u64 0], false⟩),
 (33, ⟨.struct [(0, 3), (1, 3), (2, 3), (3, 3), (4, 3), (5, 3), (6, 31)], 7, 56, [.int .i64 0, .int .i64 0, .int .i64 0, .int .i64 0, .int .i64 0, .int .i64 0, .int .u64 0], true⟩),
 (42, ⟨.slice 31, 1, 24, [.slice none 0 0], false⟩),
 (51, ⟨.struct [(0, 3), (1, 3), (2, 3), (3, 3)], 4, 32, [.int .i64 0, .int .i64 0, .int .i64 0, .int .i64 0], false⟩),
 (52, ⟨.struct [(0, 3), (1, 3), (2, 3), (3, 3)], 4, 32, [.int .i64 0, .int .i64 0, .int .i64 0, .int .i64 0], true⟩),
 (56, ⟨.slice 58, 1, 24, [.slice none 0 0], false⟩),
 (57, ⟨.struct [(0, 3), (1, 42), (2, 56)], 3, 56, [.int .i64 0, .slice none 0 0, .slice none 0 0], false⟩),
 (58, ⟨.struct [(0, 3), (1, 42), (2, 56)], 3, 56, [.int .i64 0, .slice none 0 0, .slice none 0 0], false⟩),
 (66, ⟨.int .u32, 1, 4, [.int .u32 0], false⟩),
 (67, ⟨.int .u64, 1, 8, [.int .u64 0], false⟩),
 (80, ⟨.struct [(0, 22), (1, 3), (2, 3)], 3, 40, [.slice none 0 0, .int .i64 0, .int .i64 0], false⟩),
 (81, ⟨.struct [(0, 22), (1, 3), (2, 3)], 3, 40, [.slice none 0 0, .int .i64 0, .int .i64 0], false⟩),
 (82, ⟨.struct [(0, 3), (1, 3), (2, 3), (3, 3), (4, 3), (5, 3), (6, 3), (7, 4)], 8, 64, [.int .i64 0, .int .i64 0, .int .i64 0, .int .i64 0, .int .i64 0, .int .i64 0, .int .i64 0, .bool false], false⟩),
 (83, ⟨.struct [(0, 3), (1, 3), (2, 3), (3, 3), (4, 3), (5, 3), (6, 3), (7, 4)], 8, 64, [.int .i64 0, .int .i64 0, .int .i64 0, .int .i64 0, .int .i64 0, .int .i64 0, .int .i64 0, .bool false], true⟩),
 (84, ⟨.struct [(0, 83), (8, 3), (9, 3)], 10, 80, [.int .i64 0, .int .i64 0, .int .i64 0, .int .i64 0, .int .i64 0, .int .i64 0, .int .i64 0, .bool false, .int .i64 0, .int .i64 0], false⟩),
 (85, ⟨.struct [(0, 83), (8, 3), (9, 3)], 10, 80, [.int .i64 0, .int .i64 0, .int .i64 0, .int .i64 0, .int .i64 0, .int .i64 0, .int .i64 0, .bool false, .int .i64 0, .int .i64 0], true⟩),
 (89, ⟨.struct [(0, 3), (1, 3), (2, 3), (3, 3), (4, 3), (5, 3), (6, 3), (7, 4)], 8, 64, [.int .i64 0, .int .i64 0, .int .i64 0, .int .i64 0, .int .i64 0, .int .i64 0, .int .i64 0, .bool false], true⟩),
 (90, ⟨.struct [(0, 89), (8, 3), (9, 3)], 10, 80, [.int .i64 0, .int .i64 0, .int .i64 0, .int .i64 0, .int .i64 0, .int .i64 0, .int .i64 0, .bool false, .int .i64 0, .int .i64 0], false⟩),
 (91, ⟨.struct [(0, 89), (8, 3), (9, 3)], 10, 80, [.int .i64 0, .int .i64 0, .int .i64 0, .int .i64 0, .int .i64 0, .int .i64 0, .int .i64 0, .bool false, .int .i64 0, .int .i64 0], true⟩),
 (106, ⟨.struct [(0, 3)], 1, 8, [.int .i64 0], false⟩),
 (107, ⟨.struct [(0, 3)], 1, 8, [.int .i64 0], true⟩),
 (111, ⟨.struct [(0, 3)], 1, 8, [.int .i64 0], false⟩),
 (112, ⟨.struct [(0, 3)], 1, 8, [.int .i64 0], true⟩),
 (114, ⟨.struct [(0, 3)], 1, 8, [.int .i64 0], false⟩),
 (115, ⟨.struct [(0, 3)], 1, 8, [.int .i64 0], true⟩),
 (126, ⟨.ptr 107, 1, 8, [.pointer none], false⟩),
 (129, ⟨.ptr 112, 1, 8, [.pointer none], false⟩),
 (131, ⟨.ptr 115, 1, 8, [.pointer none], false⟩),
 (138, ⟨.arr 6 3, 6, 48, [.int .i64 0, .int .i64 0, .int .i64 0, .int .i64 0, .int .i64 0, .int .i64 0], false⟩),
 (140, ⟨.arr 7 3, 7, 56, [.int .i64 0, .int .i64 0, .int .i64 0, .int .i64 0, .int .i64 0, .int .i64 0, .int .i64 0], false⟩),
 (142, ⟨.struct [(0, 17), (1, 17), (2, 17), (3, 9)], 4, 40, [.pointer none, .pointer none, .pointer none, .string ByteArray.empty], false⟩),
 (143, ⟨.struct [(0, 17), (1, 17), (2, 17), (3, 9)], 4, 40, [.pointer none, .pointer none, .pointer none, .string ByteArray.empty], false⟩),
 (147, ⟨.int .u8, 1, 1, [.int .u8 0], false⟩),
 (148, ⟨.int .u8, 1, 1, [.int .u8 0], false⟩),
 (150, ⟨.ptr 5, 1, 8, [.pointer none], false⟩),
 (151, ⟨.int .i32, 1, 4, [.int .i32 0], false⟩),
 (152, ⟨.int .i32, 1, 4, [.int .i32 0], false⟩)]
def Y2 : Xq := fun t => tabL.lookup t
theorem Ze : Yr Try.prog Y2 := fun t i h => by
 have hm := Zjm _ h
 unfold tabL at hm
 simp only [List.mem_cons, Prod.mk.injEq, List.not_mem_nil, or_false] at hm
 rcases hm with ⟨rfl, rfl⟩ | ⟨rfl, rfl⟩ | ⟨rfl, rfl⟩ | ⟨rfl, rfl⟩ | ⟨rfl, rfl⟩ | ⟨rfl, rfl⟩ | ⟨rfl, rfl⟩ | ⟨rfl, rfl⟩ | ⟨rfl, rfl⟩ | ⟨rfl, rfl⟩ | ⟨rfl, rfl⟩ | ⟨rfl, rfl⟩ | ⟨rfl, rfl⟩ | ⟨rfl, rfl⟩ | ⟨rfl, rfl⟩ | ⟨rfl, rfl⟩ | ⟨rfl, rfl⟩ | ⟨rfl, rfl⟩ | ⟨rfl, rfl⟩ | ⟨rfl, rfl⟩ | ⟨rfl, rfl⟩ | ⟨rfl, rfl⟩ | ⟨rfl, rfl⟩ | ⟨rfl, rfl⟩ | ⟨rfl, rfl⟩ | ⟨rfl, rfl⟩ | ⟨rfl, rfl⟩ | ⟨rfl, rfl⟩ | ⟨rfl, rfl⟩ | ⟨rfl, rfl⟩ | ⟨rfl, rfl⟩ | ⟨rfl, rfl⟩ | ⟨rfl, rfl⟩ | ⟨rfl, rfl⟩ | ⟨rfl, rfl⟩ | ⟨rfl, rfl⟩ | ⟨rfl, rfl⟩ | ⟨rfl, rfl⟩ | ⟨rfl, rfl⟩ | ⟨rfl, rfl⟩ | ⟨rfl, rfl⟩ | ⟨rfl, rfl⟩ | ⟨rfl, rfl⟩ | ⟨rfl, rfl⟩ | ⟨rfl, rfl⟩ | ⟨rfl, rfl⟩ | ⟨rfl, rfl⟩ | ⟨rfl, rfl⟩ | ⟨rfl, rfl⟩ | ⟨rfl, rfl⟩ | ⟨rfl, rfl⟩ | ⟨rfl, rfl⟩ | ⟨rfl, rfl⟩ | ⟨rfl, rfl⟩ | ⟨rfl, rfl⟩ | ⟨rfl, rfl⟩ | ⟨rfl, rfl⟩ | ⟨rfl, rfl⟩ | ⟨rfl, rfl⟩ | ⟨rfl, rfl⟩ | ⟨rfl, rfl⟩ | ⟨rfl, rfl⟩ | ⟨rfl, rfl⟩
 ·exact ty2
 ·exact ty3
 ·exact ty4
 ·exact ty5
 ·exact ty6
 ·exact ty7
 ·exact ty8
 ·exact ty9
 ·exact Zuj
 ·exact Zuk
 ·exact Zul
 ·exact Zum
 ·exact Zun
 ·exact Zuo
 ·exact Zup
 ·exact Zuq
 ·exact Zur
 ·exact Zus
 ·exact Zut
 ·exact Zuu
 ·exact Zuv
 ·exact Zuw
 ·exact Zux
 ·exact Zuy
 ·exact Zuz
 ·exact Zu0
 ·exact Zu1
 ·exact Zu2
 ·exact Zu3
 ·exact Zu4
 ·exact Zu5
 ·exact Zu6
 ·exact Zu7
 ·exact Zu8
 ·exact Zu9
 ·exact Zva
 ·exact Zvb
 ·exact Zvc
 ·exact Zvd
 ·exact Zve
 ·exact Zvf
 ·exact Zvg
 ·exact Zvh
 ·exact Zvi
 ·exact Zvj
 ·exact Ztu
 ·exact Ztv
 ·exact Ztw
 ·exact Ztx
 ·exact Zty
 ·exact Ztz
 ·exact Zt0
 ·exact Zt1
 ·exact Zt2
 ·exact Zt3
 ·exact Zt4
 ·exact Zt5
 ·exact Zt6
 ·exact Zt7
 ·exact Zt8
 ·exact Zt9
 ·exact Zua
 exact Zub
theorem Zrx : Y2 2 = some ⟨.int .i64, 1, 8, [.int .i64 0], false⟩ := rfl
theorem Zqr : Y2 3 = some ⟨.int .i64, 1, 8, [.int .i64 0], false⟩ := rfl
theorem Zry : Y2 4 = some ⟨.bool, 1, 1, [.bool false], false⟩ := rfl
theorem Zrz : Y2 5 = some ⟨.int .u8, 1, 1, [.int .u8 0], false⟩ := rfl
theorem Zr0 : Y2 6 = some ⟨.int .u8, 1, 1, [.int .u8 0], false⟩ := rfl
theorem Zr1 : Y2 7 = some ⟨.struct [(0, 2), (1, 3), (2, 4), (3, 6)], 4, 24, [.int .i64 0, .int .i64 0, .bool false, .int .u8 0], false⟩ := rfl
theorem Zr2 : Y2 8 = some ⟨.struct [(0, 2), (1, 3), (2, 4), (3, 6)], 4, 24, [.int .i64 0, .int .i64 0, .bool false, .int .u8 0], false⟩ := rfl
theorem Zr3 : Y2 9 = some ⟨.str, 1, 16, [.string ByteArray.empty], false⟩ := rfl
theorem Zns : Y2 10 = some ⟨.str, 1, 16, [.string ByteArray.empty], false⟩ := rfl
theorem Znt : Y2 11 = some ⟨.str, 1, 16, [.string ByteArray.empty], false⟩ := rfl
theorem Znu : Y2 12 = some ⟨.int .u64, 1, 8, [.int .u64 0], false⟩ := rfl
theorem Znv : Y2 13 = some ⟨.struct [(0, 9), (1, 12)], 2, 24, [.string ByteArray.empty, .int .u64 0], false⟩ := rfl
theorem Znw : Y2 14 = some ⟨.struct [(0, 9), (1, 12)], 2, 24, [.string ByteArray.empty, .int .u64 0], false⟩ := rfl
theorem Znx : Y2 15 = some ⟨.ptr 143, 1, 8, [.pointer none], false⟩ := rfl
theorem Zny : Y2 16 = some ⟨.ptr 146, 1, 8, [.pointer none], false⟩ := rfl
theorem Znz : Y2 17 = some ⟨.ptr 154, 1, 8, [.pointer none], false⟩ := rfl
theorem Zn0 : Y2 18 = some ⟨.struct [(0, 17)], 1, 8, [.pointer none], false⟩ := rfl
theorem Zn1 : Y2 19 = some ⟨.struct [(0, 17)], 1, 8, [.pointer none], false⟩ := rfl
theorem Zn2 : Y2 21 = some ⟨.int .i32, 1, 4, [.int .i32 0], false⟩ := rfl
theorem Zn3 : Y2 22 = some ⟨.slice 42, 1, 24, [.slice none 0 0], false⟩ := rfl
theorem Zn4 : Y2 23 = some ⟨.slice 3, 1, 24, [.slice none 0 0], false⟩ := rfl
theorem Zn5 : Y2 24 = some ⟨.ptr 81, 1, 8, [.pointer none], false⟩ := rfl
theorem Zn6 : Y2 26 = some ⟨.struct [(0, 24), (1, 3), (2, 3), (3, 3), (4, 3), (5, 3), (6, 3), (7, 3), (8, 3)], 9, 72, [.pointer none, .int .i64 0, .int .i64 0, .int .i64 0, .int .i64 0, .int .i64 0, .int .i64 0, .int .i64 0, .int .i64 0], false⟩ := rfl
theorem Zn7 : Y2 27 = some ⟨.struct [(0, 24), (1, 3), (2, 3), (3, 3), (4, 3), (5, 3), (6, 3), (7, 3), (8, 3)], 9, 72, [.pointer none, .int .i64 0, .int .i64 0, .int .i64 0, .int .i64 0, .int .i64 0, .int .i64 0, .int .i64 0, .int .i64 0], false⟩ := rfl
theorem Zn8 : Y2 28 = some ⟨.int .i64, 1, 8, [.int .i64 0], false⟩ := rfl
theorem Zgz : Y2 31 = some ⟨.int .u64, 1, 8, [.int .u64 0], false⟩ := rfl
theorem Zn9 : Y2 32 = some ⟨.struct [(0, 3), (1, 3), (2, 3), (3, 3), (4, 3), (5, 3), (6, 31)], 7, 56, [.int .i64 0, .int .i64 0, .int .i64 0, .int .i64 0, .int .i64 0, .int .i64 0, .int .u64 0], false⟩ := rfl
theorem Zoa : Y2 33 = some ⟨.struct [(0, 3), (1, 3), (2, 3), (3, 3), (4, 3), (5, 3), (6, 31)], 7, 56, [.int .i64 0, .int .i64 0, .int .i64 0, .int .i64 0, .int .i64 0, .int .i64 0, .int .u64 0], true⟩ := rfl
theorem Zez : Y2 42 = some ⟨.slice 31, 1, 24, [.slice none 0 0], false⟩ := rfl
theorem Zob : Y2 51 = some ⟨.struct [(0, 3), (1, 3), (2, 3), (3, 3)], 4, 32, [.int .i64 0, .int .i64 0, .int .i64 0, .int .i64 0], false⟩ := rfl
theorem Zoc : Y2 52 = some ⟨.struct [(0, 3), (1, 3), (2, 3), (3, 3)], 4, 32, [.int .i64 0, .int .i64 0, .int .i64 0, .int .i64 0], true⟩ := rfl
theorem Zod : Y2 56 = some ⟨.slice 58, 1, 24, [.slice none 0 0], false⟩ := rfl
theorem Zoe : Y2 57 = some ⟨.struct [(0, 3), (1, 42), (2, 56)], 3, 56, [.int .i64 0, .slice none 0 0, .slice none 0 0], false⟩ := rfl
theorem Zof : Y2 58 = some ⟨.struct [(0, 3), (1, 42), (2, 56)], 3, 56, [.int .i64 0, .slice none 0 0, .slice none 0 0], false⟩ := rfl
theorem Zog : Y2 66 = some ⟨.int .u32, 1, 4, [.int .u32 0], false⟩ := rfl
theorem Zoh : Y2 67 = some ⟨.int .u64, 1, 8, [.int .u64 0], false⟩ := rfl
theorem Zoi : Y2 80 = some ⟨.struct [(0, 22), (1, 3), (2, 3)], 3, 40, [.slice none 0 0, .int .i64 0, .int .i64 0], false⟩ := rfl
theorem Zoj : Y2 81 = some ⟨.struct [(0, 22), (1, 3), (2, 3)], 3, 40, [.slice none 0 0, .int .i64 0, .int .i64 0], false⟩ := rfl
theorem Zok : Y2 82 = some ⟨.struct [(0, 3), (1, 3), (2, 3), (3, 3), (4, 3), (5, 3), (6, 3), (7, 4)], 8, 64, [.int .i64 0, .int .i64 0, .int .i64 0, .int .i64 0, .int .i64 0, .int .i64 0, .int .i64 0, .bool false], false⟩ := rfl
theorem Zol : Y2 83 = some ⟨.struct [(0, 3), (1, 3), (2, 3), (3, 3), (4, 3), (5, 3), (6, 3), (7, 4)], 8, 64, [.int .i64 0, .int .i64 0, .int .i64 0, .int .i64 0, .int .i64 0, .int .i64 0, .int .i64 0, .bool false], true⟩ := rfl
theorem Zom : Y2 84 = some ⟨.struct [(0, 83), (8, 3), (9, 3)], 10, 80, [.int .i64 0, .int .i64 0, .int .i64 0, .int .i64 0, .int .i64 0, .int .i64 0, .int .i64 0, .bool false, .int .i64 0, .int .i64 0], false⟩ := rfl
theorem Zon : Y2 85 = some ⟨.struct [(0, 83), (8, 3), (9, 3)], 10, 80, [.int .i64 0, .int .i64 0, .int .i64 0, .int .i64 0, .int .i64 0, .int .i64 0, .int .i64 0, .bool false, .int .i64 0, .int .i64 0], true⟩ := rfl
theorem Zoo : Y2 89 = some ⟨.struct [(0, 3), (1, 3), (2, 3), (3, 3), (4, 3), (5, 3), (6, 3), (7, 4)], 8, 64, [.int .i64 0, .int .i64 0, .int .i64 0, .int .i64 0, .int .i64 0, .int .i64 0, .int .i64 0, .bool false], true⟩ := rfl
theorem Zop : Y2 90 = some ⟨.struct [(0, 89), (8, 3), (9, 3)], 10, 80, [.int .i64 0, .int .i64 0, .int .i64 0, .int .i64 0, .int .i64 0, .int .i64 0, .int .i64 0, .bool false, .int .i64 0, .int .i64 0], false⟩ := rfl
theorem Zoq : Y2 91 = some ⟨.struct [(0, 89), (8, 3), (9, 3)], 10, 80, [.int .i64 0, .int .i64 0, .int .i64 0, .int .i64 0, .int .i64 0, .int .i64 0, .int .i64 0, .bool false, .int .i64 0, .int .i64 0], true⟩ := rfl
theorem Zj1 : Y2 106 = some ⟨.struct [(0, 3)], 1, 8, [.int .i64 0], false⟩ := rfl
theorem Zj2 : Y2 107 = some ⟨.struct [(0, 3)], 1, 8, [.int .i64 0], true⟩ := rfl
theorem Zj3 : Y2 111 = some ⟨.struct [(0, 3)], 1, 8, [.int .i64 0], false⟩ := rfl
theorem Zj4 : Y2 112 = some ⟨.struct [(0, 3)], 1, 8, [.int .i64 0], true⟩ := rfl
theorem Zj5 : Y2 114 = some ⟨.struct [(0, 3)], 1, 8, [.int .i64 0], false⟩ := rfl
theorem Zj6 : Y2 115 = some ⟨.struct [(0, 3)], 1, 8, [.int .i64 0], true⟩ := rfl
theorem Zj7 : Y2 126 = some ⟨.ptr 107, 1, 8, [.pointer none], false⟩ := rfl
theorem Zj8 : Y2 129 = some ⟨.ptr 112, 1, 8, [.pointer none], false⟩ := rfl
theorem Zj9 : Y2 131 = some ⟨.ptr 115, 1, 8, [.pointer none], false⟩ := rfl
theorem Zka : Y2 138 = some ⟨.arr 6 3, 6, 48, [.int .i64 0, .int .i64 0, .int .i64 0, .int .i64 0, .int .i64 0, .int .i64 0], false⟩ := rfl
theorem Zkb : Y2 140 = some ⟨.arr 7 3, 7, 56, [.int .i64 0, .int .i64 0, .int .i64 0, .int .i64 0, .int .i64 0, .int .i64 0, .int .i64 0], false⟩ := rfl
theorem Zkc : Y2 142 = some ⟨.struct [(0, 17), (1, 17), (2, 17), (3, 9)], 4, 40, [.pointer none, .pointer none, .pointer none, .string ByteArray.empty], false⟩ := rfl
theorem Zkd : Y2 143 = some ⟨.struct [(0, 17), (1, 17), (2, 17), (3, 9)], 4, 40, [.pointer none, .pointer none, .pointer none, .string ByteArray.empty], false⟩ := rfl
theorem Zke : Y2 147 = some ⟨.int .u8, 1, 1, [.int .u8 0], false⟩ := rfl
theorem Zkf : Y2 148 = some ⟨.int .u8, 1, 1, [.int .u8 0], false⟩ := rfl
theorem Zkg : Y2 151 = some ⟨.int .i32, 1, 4, [.int .i32 0], false⟩ := rfl
theorem Zkh : Y2 152 = some ⟨.int .i32, 1, 4, [.int .i32 0], false⟩ := rfl
theorem Zki : Zt Y2 2 = some (.int .i64) := rfl
theorem Zkj : Zt Y2 3 = some (.int .i64) := rfl
theorem Zkk : Zt Y2 4 = some (.bool) := rfl
theorem Zkl : Zt Y2 5 = some (.int .u8) := rfl
theorem Zkm : Zt Y2 6 = some (.int .u8) := rfl
theorem Zkn : Zt Y2 7 = some (.struct [(0, 2), (1, 3), (2, 4), (3, 6)]) := rfl
theorem Zko : Zt Y2 8 = some (.struct [(0, 2), (1, 3), (2, 4), (3, 6)]) := rfl
theorem Zkp : Zt Y2 9 = some (.str) := rfl
theorem Zg0 : Zt Y2 10 = some (.str) := rfl
theorem Zg1 : Zt Y2 11 = some (.str) := rfl
theorem Zg2 : Zt Y2 12 = some (.int .u64) := rfl
theorem Zg3 : Zt Y2 13 = some (.struct [(0, 9), (1, 12)]) := rfl
theorem Zg4 : Zt Y2 14 = some (.struct [(0, 9), (1, 12)]) := rfl
theorem Zg5 : Zt Y2 15 = some (.ptr 143) := rfl
theorem Zg6 : Zt Y2 16 = some (.ptr 146) := rfl
theorem Zg7 : Zt Y2 17 = some (.ptr 154) := rfl
theorem Zg8 : Zt Y2 18 = some (.struct [(0, 17)]) := rfl
theorem Zg9 : Zt Y2 19 = some (.struct [(0, 17)]) := rfl
theorem Zha : Zt Y2 21 = some (.int .i32) := rfl
theorem Zhb : Zt Y2 22 = some (.slice 42) := rfl
theorem Zhc : Zt Y2 23 = some (.slice 3) := rfl
theorem Zep : Zt Y2 24 = some (.ptr 81) := rfl
theorem Zhd : Zt Y2 26 = some (.struct [(0, 24), (1, 3), (2, 3), (3, 3), (4, 3), (5, 3), (6, 3), (7, 3), (8, 3)]) := rfl
theorem Zhe : Zt Y2 27 = some (.struct [(0, 24), (1, 3), (2, 3), (3, 3), (4, 3), (5, 3), (6, 3), (7, 3), (8, 3)]) := rfl
theorem Zhf : Zt Y2 28 = some (.int .i64) := rfl
theorem Zhg : Zt Y2 31 = some (.int .u64) := rfl
theorem Zhh : Zt Y2 32 = some (.struct [(0, 3), (1, 3), (2, 3), (3, 3), (4, 3), (5, 3), (6, 31)]) := rfl
theorem Zhi : Zt Y2 33 = some (.struct [(0, 3), (1, 3), (2, 3), (3, 3), (4, 3), (5, 3), (6, 31)]) := rfl
theorem Zeq : Zt Y2 42 = some (.slice 31) := rfl
theorem Zhj : Zt Y2 51 = some (.struct [(0, 3), (1, 3), (2, 3), (3, 3)]) := rfl
theorem Zhk : Zt Y2 52 = some (.struct [(0, 3), (1, 3), (2, 3), (3, 3)]) := rfl
theorem Zhl : Zt Y2 56 = some (.slice 58) := rfl
theorem Zhm : Zt Y2 57 = some (.struct [(0, 3), (1, 42), (2, 56)]) := rfl
theorem Zhn : Zt Y2 58 = some (.struct [(0, 3), (1, 42), (2, 56)]) := rfl
theorem Zho : Zt Y2 66 = some (.int .u32) := rfl
theorem Zhp : Zt Y2 67 = some (.int .u64) := rfl
theorem Zhq : Zt Y2 80 = some (.struct [(0, 22), (1, 3), (2, 3)]) := rfl
theorem Zhr : Zt Y2 81 = some (.struct [(0, 22), (1, 3), (2, 3)]) := rfl
theorem Zhs : Zt Y2 82 = some (.struct [(0, 3), (1, 3), (2, 3), (3, 3), (4, 3), (5, 3), (6, 3), (7, 4)]) := rfl
theorem Zht : Zt Y2 83 = some (.struct [(0, 3), (1, 3), (2, 3), (3, 3), (4, 3), (5, 3), (6, 3), (7, 4)]) := rfl
theorem Zhu : Zt Y2 84 = some (.struct [(0, 83), (8, 3), (9, 3)]) := rfl
theorem Zhv : Zt Y2 85 = some (.struct [(0, 83), (8, 3), (9, 3)]) := rfl
theorem Zhw : Zt Y2 89 = some (.struct [(0, 3), (1, 3), (2, 3), (3, 3), (4, 3), (5, 3), (6, 3), (7, 4)]) := rfl
theorem Zhx : Zt Y2 90 = some (.struct [(0, 89), (8, 3), (9, 3)]) := rfl
theorem Zhy : Zt Y2 91 = some (.struct [(0, 89), (8, 3), (9, 3)]) := rfl
theorem Zdx : Zt Y2 106 = some (.struct [(0, 3)]) := rfl
theorem Zdy : Zt Y2 107 = some (.struct [(0, 3)]) := rfl
theorem Zdz : Zt Y2 111 = some (.struct [(0, 3)]) := rfl
theorem Zd0 : Zt Y2 112 = some (.struct [(0, 3)]) := rfl
theorem Zd1 : Zt Y2 114 = some (.struct [(0, 3)]) := rfl
theorem Zd2 : Zt Y2 115 = some (.struct [(0, 3)]) := rfl
theorem Zd3 : Zt Y2 126 = some (.ptr 107) := rfl
theorem Zd4 : Zt Y2 129 = some (.ptr 112) := rfl
theorem Zd5 : Zt Y2 131 = some (.ptr 115) := rfl
theorem Zd6 : Zt Y2 138 = some (.arr 6 3) := rfl
theorem Zd7 : Zt Y2 140 = some (.arr 7 3) := rfl
theorem Zd8 : Zt Y2 142 = some (.struct [(0, 17), (1, 17), (2, 17), (3, 9)]) := rfl
theorem Zd9 : Zt Y2 143 = some (.struct [(0, 17), (1, 17), (2, 17), (3, 9)]) := rfl
theorem Zea : Zt Y2 147 = some (.int .u8) := rfl
theorem Zeb : Zt Y2 148 = some (.int .u8) := rfl
theorem Zec : Zt Y2 151 = some (.int .i32) := rfl
theorem Zed : Zt Y2 152 = some (.int .i32) := rfl
end Go.Proofs.Ytmlhokaflhlhbaa
