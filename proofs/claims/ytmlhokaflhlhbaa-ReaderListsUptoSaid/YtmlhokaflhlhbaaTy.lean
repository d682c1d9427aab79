/- The types of this seat's program, as its dump has them, in the ghost memory's words; no condition. -/
import Derived.Test.YtmlhokaflhlhbaaRows
import Derived.Test.YtmlhokaflhlhbaaG16
namespace Go.Proofs.Ytmlhokaflhlhbaa
open Go.RowKit
set_option linter.unusedVariables false
set_option linter.unusedSimpArgs false
theorem TyOk.of {P : Program} {t : TypeId} (k : TK) (size bytes : Nat) (zero : List Value) (z : Value) (h : (P.info? t).map (fun i => (i.zero, i.size, i.bytes)) = some (some z, size, bytes)) (hz : z.cells.toList = zero) (hu : k.ok P t) (hl : zero.length = size) (h1 : zero.all Value.oneCell' = true) (eq : Bool) (he : eq = true → Zh0 P t) : TyOk P t ⟨k, size, bytes, zero, eq⟩ := by
 refine ⟨?_, hu, hl, fun v hv => List.all_eq_true.1 h1 v hv, he⟩
 cases hi : P.info? t with
 | none => rw [hi] at h; cases h
 | some i =>
  rw [hi] at h
  simp only [Option.map_some, Option.some.injEq, Prod.mk.injEq] at h
  exact ⟨i, z, rfl, h.2.1, h.2.2, h.1, hz⟩
theorem Zin {α : Type} {t : Nat} {i : α} : ∀ (l : List (Nat × α)), l.lookup t = some i → (t, i) ∈ l
 | [], h => by simp at h
 | (a, b) :: l, h => by
  rw [List.lookup_cons] at h
  split at h
  ·rename_i he
   injection h with h
   have : t = a := by simpa using he
   subst h this
   exact .head _
  exact .tail _ (Zin l h)
theorem ty2 : TyOk Try.prog 2 ⟨.int .i64, 1, 8, [.int .i64 0], false⟩ := TyOk.of (P := Try.prog) (t := 2) (.int .i64) 1 8 [.int .i64 0] (.int .i64 0) (by kernel_rfl) rfl Try.underlying2 rfl rfl false (fun h => by cases h)
theorem ty3 : TyOk Try.prog 3 ⟨.int .i64, 1, 8, [.int .i64 0], false⟩ := TyOk.of (P := Try.prog) (t := 3) (.int .i64) 1 8 [.int .i64 0] (.int .i64 0) (by kernel_rfl) rfl Try.underlying3 rfl rfl false (fun h => by cases h)
theorem ty4 : TyOk Try.prog 4 ⟨.bool, 1, 1, [.bool false], false⟩ := TyOk.of (P := Try.prog) (t := 4) (.bool) 1 1 [.bool false] (.bool false) (by kernel_rfl) rfl Try.underlying4 rfl rfl false (fun h => by cases h)
theorem ty5 : TyOk Try.prog 5 ⟨.int .u8, 1, 1, [.int .u8 0], false⟩ := TyOk.of (P := Try.prog) (t := 5) (.int .u8) 1 1 [.int .u8 0] (.int .u8 0) (by kernel_rfl) rfl Try.underlying5 rfl rfl false (fun h => by cases h)
theorem ty6 : TyOk Try.prog 6 ⟨.int .u8, 1, 1, [.int .u8 0], false⟩ := TyOk.of (P := Try.prog) (t := 6) (.int .u8) 1 1 [.int .u8 0] (.int .u8 0) (by kernel_rfl) rfl Try.underlying6 rfl rfl false (fun h => by cases h)
theorem ty7 : TyOk Try.prog 7 ⟨.struct [(0, 2), (1, 3), (2, 4), (3, 6)], 4, 24, [.int .i64 0, .int .i64 0, .bool false, .int .u8 0], false⟩ := TyOk.of (P := Try.prog) (t := 7) (.struct [(0, 2), (1, 3), (2, 4), (3, 6)]) 4 24 [.int .i64 0, .int .i64 0, .bool false, .int .u8 0] (.agg #[.int .i64 0, .int .i64 0, .bool false, .int .u8 0]) (by kernel_rfl) rfl ⟨_, Try.underlying7, rfl⟩ rfl rfl false (fun h => by cases h)
theorem ty8 : TyOk Try.prog 8 ⟨.struct [(0, 2), (1, 3), (2, 4), (3, 6)], 4, 24, [.int .i64 0, .int .i64 0, .bool false, .int .u8 0], false⟩ := TyOk.of (P := Try.prog) (t := 8) (.struct [(0, 2), (1, 3), (2, 4), (3, 6)]) 4 24 [.int .i64 0, .int .i64 0, .bool false, .int .u8 0] (.agg #[.int .i64 0, .int .i64 0, .bool false, .int .u8 0]) (by kernel_rfl) rfl ⟨_, Try.underlying8, rfl⟩ rfl rfl false (fun h => by cases h)
theorem ty9 : TyOk Try.prog 9 ⟨.str, 1, 16, [.string ByteArray.empty], false⟩ := TyOk.of (P := Try.prog) (t := 9) (.str) 1 16 [.string ByteArray.empty] (.string ByteArray.empty) (by kernel_rfl) rfl Try.underlying9 rfl rfl false (fun h => by cases h)
theorem Ztk : TyOk Try.prog 10 ⟨.str, 1, 16, [.string ByteArray.empty], false⟩ := TyOk.of (P := Try.prog) (t := 10) (.str) 1 16 [.string ByteArray.empty] (.string ByteArray.empty) (by kernel_rfl) rfl Try.underlying10 rfl rfl false (fun h => by cases h)
theorem Ztl : TyOk Try.prog 11 ⟨.str, 1, 16, [.string ByteArray.empty], false⟩ := TyOk.of (P := Try.prog) (t := 11) (.str) 1 16 [.string ByteArray.empty] (.string ByteArray.empty) (by kernel_rfl) rfl Try.underlying11 rfl rfl false (fun h => by cases h)
theorem Ztm : TyOk Try.prog 12 ⟨.int .u64, 1, 8, [.int .u64 0], false⟩ := TyOk.of (P := Try.prog) (t := 12) (.int .u64) 1 8 [.int .u64 0] (.int .u64 0) (by kernel_rfl) rfl Try.underlying12 rfl rfl false (fun h => by cases h)
theorem Ztn : TyOk Try.prog 13 ⟨.struct [(0, 9), (1, 12)], 2, 24, [.string ByteArray.empty, .int .u64 0], false⟩ := TyOk.of (P := Try.prog) (t := 13) (.struct [(0, 9), (1, 12)]) 2 24 [.string ByteArray.empty, .int .u64 0] (.agg #[.string ByteArray.empty, .int .u64 0]) (by kernel_rfl) rfl ⟨_, Try.underlying13, rfl⟩ rfl rfl false (fun h => by cases h)
theorem Zto : TyOk Try.prog 14 ⟨.struct [(0, 9), (1, 12)], 2, 24, [.string ByteArray.empty, .int .u64 0], false⟩ := TyOk.of (P := Try.prog) (t := 14) (.struct [(0, 9), (1, 12)]) 2 24 [.string ByteArray.empty, .int .u64 0] (.agg #[.string ByteArray.empty, .int .u64 0]) (by kernel_rfl) rfl ⟨_, Try.underlying14, rfl⟩ rfl rfl false (fun h => by cases h)
theorem Ztp : TyOk Try.prog 15 ⟨.ptr 143, 1, 8, [.pointer none], false⟩ := TyOk.of (P := Try.prog) (t := 15) (.ptr 143) 1 8 [.pointer none] (.pointer none) (by kernel_rfl) rfl Try.underlying15 rfl rfl false (fun h => by cases h)
theorem Ztq : TyOk Try.prog 16 ⟨.ptr 146, 1, 8, [.pointer none], false⟩ := TyOk.of (P := Try.prog) (t := 16) (.ptr 146) 1 8 [.pointer none] (.pointer none) (by kernel_rfl) rfl Try.underlying16 rfl rfl false (fun h => by cases h)
theorem Ztr : TyOk Try.prog 17 ⟨.ptr 154, 1, 8, [.pointer none], false⟩ := TyOk.of (P := Try.prog) (t := 17) (.ptr 154) 1 8 [.pointer none] (.pointer none) (by kernel_rfl) rfl Try.underlying17 rfl rfl false (fun h => by cases h)
theorem Zts : TyOk Try.prog 18 ⟨.struct [(0, 17)], 1, 8, [.pointer none], false⟩ := TyOk.of (P := Try.prog) (t := 18) (.struct [(0, 17)]) 1 8 [.pointer none] (.agg #[.pointer none]) (by kernel_rfl) rfl ⟨_, Try.underlying18, rfl⟩ rfl rfl false (fun h => by cases h)
theorem Ztt : TyOk Try.prog 19 ⟨.struct [(0, 17)], 1, 8, [.pointer none], false⟩ := TyOk.of (P := Try.prog) (t := 19) (.struct [(0, 17)]) 1 8 [.pointer none] (.agg #[.pointer none]) (by kernel_rfl) rfl ⟨_, Try.underlying19, rfl⟩ rfl rfl false (fun h => by cases h)
theorem Ztu : TyOk Try.prog 21 ⟨.int .i32, 1, 4, [.int .i32 0], false⟩ := TyOk.of (P := Try.prog) (t := 21) (.int .i32) 1 4 [.int .i32 0] (.int .i32 0) (by kernel_rfl) rfl Try.underlying21 rfl rfl false (fun h => by cases h)
theorem Ztv : TyOk Try.prog 22 ⟨.slice 42, 1, 24, [.slice none 0 0], false⟩ := TyOk.of (P := Try.prog) (t := 22) (.slice 42) 1 24 [.slice none 0 0] (.slice none 0 0) (by kernel_rfl) rfl Try.underlying22 rfl rfl false (fun h => by cases h)
theorem Ztw : TyOk Try.prog 23 ⟨.slice 3, 1, 24, [.slice none 0 0], false⟩ := TyOk.of (P := Try.prog) (t := 23) (.slice 3) 1 24 [.slice none 0 0] (.slice none 0 0) (by kernel_rfl) rfl Try.underlying23 rfl rfl false (fun h => by cases h)
theorem Ztx : TyOk Try.prog 24 ⟨.ptr 81, 1, 8, [.pointer none], false⟩ := TyOk.of (P := Try.prog) (t := 24) (.ptr 81) 1 8 [.pointer none] (.pointer none) (by kernel_rfl) rfl Try.underlying24 rfl rfl false (fun h => by cases h)
theorem Zty : TyOk Try.prog 26 ⟨.struct [(0, 24), (1, 3), (2, 3), (3, 3), (4, 3), (5, 3), (6, 3), (7, 3), (8, 3)], 9, 72, [.pointer none, .int .i64 0, .int .i64 0, .int .i64 0, .int .i64 0, .int .i64 0, .int .i64 0, .int .i64 0, .int .i64 0], false⟩ := TyOk.of (P := Try.prog) (t := 26) (.struct [(0, 24), (1, 3), (2, 3), (3, 3), (4, 3), (5, 3), (6, 3), (7, 3), (8, 3)]) 9 72 [.pointer none, .int .i64 0, .int .i64 0, .int .i64 0, .int .i64 0, .int .i64 0, .int .i64 0, .int .i64 0, .int .i64 0] (.agg #[.pointer none, .int .i64 0, .int .i64 0, .int .i64 0, .int .i64 0, .int .i64 0, .int .i64 0, .int .i64 0, .int .i64 0]) (by kernel_rfl) rfl ⟨_, Try.underlying26, rfl⟩ rfl rfl false (fun h => by cases h)
theorem Ztz : TyOk Try.prog 27 ⟨.struct [(0, 24), (1, 3), (2, 3), (3, 3), (4, 3), (5, 3), (6, 3), (7, 3), (8, 3)], 9, 72, [.pointer none, .int .i64 0, .int .i64 0, .int .i64 0, .int .i64 0, .int .i64 0, .int .i64 0, .int .i64 0, .int .i64 0], false⟩ := TyOk.of (P := Try.prog) (t := 27) (.struct [(0, 24), (1, 3), (2, 3), (3, 3), (4, 3), (5, 3), (6, 3), (7, 3), (8, 3)]) 9 72 [.pointer none, .int .i64 0, .int .i64 0, .int .i64 0, .int .i64 0, .int .i64 0, .int .i64 0, .int .i64 0, .int .i64 0] (.agg #[.pointer none, .int .i64 0, .int .i64 0, .int .i64 0, .int .i64 0, .int .i64 0, .int .i64 0, .int .i64 0, .int .i64 0]) (by kernel_rfl) rfl ⟨_, Try.underlying27, rfl⟩ rfl rfl false (fun h => by cases h)
theorem Zt0 : TyOk Try.prog 28 ⟨.int .i64, 1, 8, [.int .i64 0], false⟩ := TyOk.of (P := Try.prog) (t := 28) (.int .i64) 1 8 [.int .i64 0] (.int .i64 0) (by kernel_rfl) rfl Try.underlying28 rfl rfl false (fun h => by cases h)
theorem Zt1 : TyOk Try.prog 31 ⟨.int .u64, 1, 8, [.int .u64 0], false⟩ := TyOk.of (P := Try.prog) (t := 31) (.int .u64) 1 8 [.int .u64 0] (.int .u64 0) (by kernel_rfl) rfl Try.underlying31 rfl rfl false (fun h => by cases h)
theorem Zt2 : TyOk Try.prog 32 ⟨.struct [(0, 3), (1, 3), (2, 3), (3, 3), (4, 3), (5, 3), (6, 31)], 7, 56, [.int .i64 0, .int .i64 0, .int .i64 0, .int .i64 0, .int .i64 0, .int .i64 0, .int .u64 0], false⟩ := TyOk.of (P := Try.prog) (t := 32) (.struct [(0, 3), (1, 3), (2, 3), (3, 3), (4, 3), (5, 3), (6, 31)]) 7 56 [.int .i64 0, .int .i64 0, .int .i64 0, .int .i64 0, .int .i64 0, .int .i64 0, .int .u64 0] (.agg #[.int .i64 0, .int .i64 0, .int .i64 0, .int .i64 0, .int .i64 0, .int .i64 0, .int .u64 0]) (by kernel_rfl) rfl ⟨_, Try.underlying32, rfl⟩ rfl rfl false (fun h => by cases h)
theorem Zt3 : TyOk Try.prog 33 ⟨.struct [(0, 3), (1, 3), (2, 3), (3, 3), (4, 3), (5, 3), (6, 31)], 7, 56, [.int .i64 0, .int .i64 0, .int .i64 0, .int .i64 0, .int .i64 0, .int .i64 0, .int .u64 0], true⟩ := TyOk.of (P := Try.prog) (t := 33) (.struct [(0, 3), (1, 3), (2, 3), (3, 3), (4, 3), (5, 3), (6, 31)]) 7 56 [.int .i64 0, .int .i64 0, .int .i64 0, .int .i64 0, .int .i64 0, .int .i64 0, .int .u64 0] (.agg #[.int .i64 0, .int .i64 0, .int .i64 0, .int .i64 0, .int .i64 0, .int .i64 0, .int .u64 0]) (by kernel_rfl) rfl ⟨_, Try.underlying33, rfl⟩ rfl rfl true (fun _ => by unfold Zh0; exact ⟨by kernel_rfl, by kernel_rfl, by kernel_rfl⟩)
theorem Zt4 : TyOk Try.prog 42 ⟨.slice 31, 1, 24, [.slice none 0 0], false⟩ := TyOk.of (P := Try.prog) (t := 42) (.slice 31) 1 24 [.slice none 0 0] (.slice none 0 0) (by kernel_rfl) rfl Try.underlying42 rfl rfl false (fun h => by cases h)
theorem Zt5 : TyOk Try.prog 51 ⟨.struct [(0, 3), (1, 3), (2, 3), (3, 3)], 4, 32, [.int .i64 0, .int .i64 0, .int .i64 0, .int .i64 0], false⟩ := TyOk.of (P := Try.prog) (t := 51) (.struct [(0, 3), (1, 3), (2, 3), (3, 3)]) 4 32 [.int .i64 0, .int .i64 0, .int .i64 0, .int .i64 0] (.agg #[.int .i64 0, .int .i64 0, .int .i64 0, .int .i64 0]) (by kernel_rfl) rfl ⟨_, Try.underlying51, rfl⟩ rfl rfl false (fun h => by cases h)
theorem Zt6 : TyOk Try.prog 52 ⟨.struct [(0, 3), (1, 3), (2, 3), (3, 3)], 4, 32, [.int .i64 0, .int .i64 0, .int .i64 0, .int .i64 0], true⟩ := TyOk.of (P := Try.prog) (t := 52) (.struct [(0, 3), (1, 3), (2, 3), (3, 3)]) 4 32 [.int .i64 0, .int .i64 0, .int .i64 0, .int .i64 0] (.agg #[.int .i64 0, .int .i64 0, .int .i64 0, .int .i64 0]) (by kernel_rfl) rfl ⟨_, Try.underlying52, rfl⟩ rfl rfl true (fun _ => by unfold Zh0; exact ⟨by kernel_rfl, by kernel_rfl, by kernel_rfl⟩)
theorem Zt7 : TyOk Try.prog 56 ⟨.slice 58, 1, 24, [.slice none 0 0], false⟩ := TyOk.of (P := Try.prog) (t := 56) (.slice 58) 1 24 [.slice none 0 0] (.slice none 0 0) (by kernel_rfl) rfl Try.underlying56 rfl rfl false (fun h => by cases h)
theorem Zt8 : TyOk Try.prog 57 ⟨.struct [(0, 3), (1, 42), (2, 56)], 3, 56, [.int .i64 0, .slice none 0 0, .slice none 0 0], false⟩ := TyOk.of (P := Try.prog) (t := 57) (.struct [(0, 3), (1, 42), (2, 56)]) 3 56 [.int .i64 0, .slice none 0 0, .slice none 0 0] (.agg #[.int .i64 0, .slice none 0 0, .slice none 0 0]) (by kernel_rfl) rfl ⟨_, Try.underlying57, rfl⟩ rfl rfl false (fun h => by cases h)
theorem Zt9 : TyOk Try.prog 58 ⟨.struct [(0, 3), (1, 42), (2, 56)], 3, 56, [.int .i64 0, .slice none 0 0, .slice none 0 0], false⟩ := TyOk.of (P := Try.prog) (t := 58) (.struct [(0, 3), (1, 42), (2, 56)]) 3 56 [.int .i64 0, .slice none 0 0, .slice none 0 0] (.agg #[.int .i64 0, .slice none 0 0, .slice none 0 0]) (by kernel_rfl) rfl ⟨_, Try.underlying58, rfl⟩ rfl rfl false (fun h => by cases h)
theorem Zua : TyOk Try.prog 66 ⟨.int .u32, 1, 4, [.int .u32 0], false⟩ := TyOk.of (P := Try.prog) (t := 66) (.int .u32) 1 4 [.int .u32 0] (.int .u32 0) (by kernel_rfl) rfl Try.underlying66 rfl rfl false (fun h => by cases h)
theorem Zub : TyOk Try.prog 67 ⟨.int .u64, 1, 8, [.int .u64 0], false⟩ := TyOk.of (P := Try.prog) (t := 67) (.int .u64) 1 8 [.int .u64 0] (.int .u64 0) (by kernel_rfl) rfl Try.underlying67 rfl rfl false (fun h => by cases h)
theorem Zuc : TyOk Try.prog 80 ⟨.struct [(0, 22), (1, 3), (2, 3)], 3, 40, [.slice none 0 0, .int .i64 0, .int .i64 0], false⟩ := TyOk.of (P := Try.prog) (t := 80) (.struct [(0, 22), (1, 3), (2, 3)]) 3 40 [.slice none 0 0, .int .i64 0, .int .i64 0] (.agg #[.slice none 0 0, .int .i64 0, .int .i64 0]) (by kernel_rfl) rfl ⟨_, Try.underlying80, rfl⟩ rfl rfl false (fun h => by cases h)
theorem Zud : TyOk Try.prog 81 ⟨.struct [(0, 22), (1, 3), (2, 3)], 3, 40, [.slice none 0 0, .int .i64 0, .int .i64 0], false⟩ := TyOk.of (P := Try.prog) (t := 81) (.struct [(0, 22), (1, 3), (2, 3)]) 3 40 [.slice none 0 0, .int .i64 0, .int .i64 0] (.agg #[.slice none 0 0, .int .i64 0, .int .i64 0]) (by kernel_rfl) rfl ⟨_, Try.underlying81, rfl⟩ rfl rfl false (fun h => by cases h)
theorem Zue : TyOk Try.prog 82 ⟨.struct [(0, 3), (1, 3), (2, 3), (3, 3), (4, 3), (5, 3), (6, 3), (7, 4)], 8, 64, [.int .i64 0, .int .i64 0, .int .i64 0, .int .i64 0, .int .i64 0, .int .i64 0, .int .i64 0, .bool false], false⟩ := TyOk.of (P := Try.prog) (t := 82) (.struct [(0, 3), (1, 3), (2, 3), (3, 3), (4, 3), (5, 3), (6, 3), (7, 4)]) 8 64 [.int .i64 0, .int .i64 0, .int .i64 0, .int .i64 0, .int .i64 0, .int .i64 0, .int .i64 0, .bool false] (.agg #[.int .i64 0, .int .i64 0, .int .i64 0, .int .i64 0, .int .i64 0, .int .i64 0, .int .i64 0, .bool false]) (by kernel_rfl) rfl ⟨_, Try.underlying82, rfl⟩ rfl rfl false (fun h => by cases h)
theorem Zuf : TyOk Try.prog 83 ⟨.struct [(0, 3), (1, 3), (2, 3), (3, 3), (4, 3), (5, 3), (6, 3), (7, 4)], 8, 64, [.int .i64 0, .int .i64 0, .int .i64 0, .int .i64 0, .int .i64 0, .int .i64 0, .int .i64 0, .bool false], true⟩ := TyOk.of (P := Try.prog) (t := 83) (.struct [(0, 3), (1, 3), (2, 3), (3, 3), (4, 3), (5, 3), (6, 3), (7, 4)]) 8 64 [.int .i64 0, .int .i64 0, .int .i64 0, .int .i64 0, .int .i64 0, .int .i64 0, .int .i64 0, .bool false] (.agg #[.int .i64 0, .int .i64 0, .int .i64 0, .int .i64 0, .int .i64 0, .int .i64 0, .int .i64 0, .bool false]) (by kernel_rfl) rfl ⟨_, Try.underlying83, rfl⟩ rfl rfl true (fun _ => by unfold Zh0; exact ⟨by kernel_rfl, by kernel_rfl, by kernel_rfl⟩)
theorem Zug : TyOk Try.prog 84 ⟨.struct [(0, 83), (8, 3), (9, 3)], 10, 80, [.int .i64 0, .int .i64 0, .int .i64 0, .int .i64 0, .int .i64 0, .int .i64 0, .int .i64 0, .bool false, .int .i64 0, .int .i64 0], false⟩ := TyOk.of (P := Try.prog) (t := 84) (.struct [(0, 83), (8, 3), (9, 3)]) 10 80 [.int .i64 0, .int .i64 0, .int .i64 0, .int .i64 0, .int .i64 0, .int .i64 0, .int .i64 0, .bool false, .int .i64 0, .int .i64 0] (.agg #[.int .i64 0, .int .i64 0, .int .i64 0, .int .i64 0, .int .i64 0, .int .i64 0, .int .i64 0, .bool false, .int .i64 0, .int .i64 0]) (by kernel_rfl) rfl ⟨_, Try.underlying84, rfl⟩ rfl rfl false (fun h => by cases h)
theorem Zuh : TyOk Try.prog 85 ⟨.struct [(0, 83), (8, 3), (9, 3)], 10, 80, [.int .i64 0, .int .i64 0, .int .i64 0, .int .i64 0, .int .i64 0, .int .i64 0, .int .i64 0, .bool false, .int .i64 0, .int .i64 0], true⟩ := TyOk.of (P := Try.prog) (t := 85) (.struct [(0, 83), (8, 3), (9, 3)]) 10 80 [.int .i64 0, .int .i64 0, .int .i64 0, .int .i64 0, .int .i64 0, .int .i64 0, .int .i64 0, .bool false, .int .i64 0, .int .i64 0] (.agg #[.int .i64 0, .int .i64 0, .int .i64 0, .int .i64 0, .int .i64 0, .int .i64 0, .int .i64 0, .bool false, .int .i64 0, .int .i64 0]) (by kernel_rfl) rfl ⟨_, Try.underlying85, rfl⟩ rfl rfl true (fun _ => by unfold Zh0; exact ⟨by kernel_rfl, by kernel_rfl, by kernel_rfl⟩)
theorem Zui : TyOk Try.prog 89 ⟨.struct [(0, 3), (1, 3), (2, 3), (3, 3), (4, 3), (5, 3), (6, 3), (7, 4)], 8, 64, [.int .i64 0, .int .i64 0, .int .i64 0, .int .i64 0, .int .i64 0, .int .i64 0, .int .i64 0, .bool false], true⟩ := TyOk.of (P := Try.prog) (t := 89) (.struct [(0, 3), (1, 3), (2, 3), (3, 3), (4, 3), (5, 3), (6, 3), (7, 4)]) 8 64 [.int .i64 0, .int .i64 0, .int .i64 0, .int .i64 0, .int .i64 0, .int .i64 0, .int .i64 0, .bool false] (.agg #[.int .i64 0, .int .i64 0, .int .i64 0, .int .i64 0, .int .i64 0, .int .i64 0, .int .i64 0, .bool false]) (by kernel_rfl) rfl ⟨_, Try.underlying89, rfl⟩ rfl rfl true (fun _ => by unfold Zh0; exact ⟨by kernel_rfl, by kernel_rfl, by kernel_rfl⟩)
theorem Zuj : TyOk Try.prog 90 ⟨.struct [(0, 89), (8, 3), (9, 3)], 10, 80, [.int .i64 0, .int .i64 0, .int .i64 0, .int .i64 0, .int .i64 0, .int .i64 0, .int .i64 0, .bool false, .int .i64 0, .int .i64 0], false⟩ := TyOk.of (P := Try.prog) (t := 90) (.struct [(0, 89), (8, 3), (9, 3)]) 10 80 [.int .i64 0, .int .i64 0, .int .i64 0, .int .i64 0, .int .i64 0, .int .i64 0, .int .i64 0, .bool false, .int .i64 0, .int .i64 0] (.agg #[.int .i64 0, .int .i64 0, .int .i64 0, .int .i64 0, .int .i64 0, .int .i64 0, .int .i64 0, .bool false, .int .i64 0, .int .i64 0]) (by kernel_rfl) rfl ⟨_, Try.underlying90, rfl⟩ rfl rfl false (fun h => by cases h)
theorem Zuk : TyOk Try.prog 91 ⟨.struct [(0, 89), (8, 3), (9, 3)], 10, 80, [.int .i64 0, .int .i64 0, .int .i64 0, .int .i64 0, .int .i64 0, .int .i64 0, .int .i64 0, .bool false, .int .i64 0, .int .i64 0], true⟩ := TyOk.of (P := Try.prog) (t := 91) (.struct [(0, 89), (8, 3), (9, 3)]) 10 80 [.int .i64 0, .int .i64 0, .int .i64 0, .int .i64 0, .int .i64 0, .int .i64 0, .int .i64 0, .bool false, .int .i64 0, .int .i64 0] (.agg #[.int .i64 0, .int .i64 0, .int .i64 0, .int .i64 0, .int .i64 0, .int .i64 0, .int .i64 0, .bool false, .int .i64 0, .int .i64 0]) (by kernel_rfl) rfl ⟨_, Try.underlying91, rfl⟩ rfl rfl true (fun _ => by unfold Zh0; exact ⟨by kernel_rfl, by kernel_rfl, by kernel_rfl⟩)
theorem Zsw : TyOk Try.prog 106 ⟨.struct [(0, 3)], 1, 8, [.int .i64 0], false⟩ := TyOk.of (P := Try.prog) (t := 106) (.struct [(0, 3)]) 1 8 [.int .i64 0] (.agg #[.int .i64 0]) (by kernel_rfl) rfl ⟨_, Try.underlying106, rfl⟩ rfl rfl false (fun h => by cases h)
theorem Zsx : TyOk Try.prog 107 ⟨.struct [(0, 3)], 1, 8, [.int .i64 0], true⟩ := TyOk.of (P := Try.prog) (t := 107) (.struct [(0, 3)]) 1 8 [.int .i64 0] (.agg #[.int .i64 0]) (by kernel_rfl) rfl ⟨_, Try.underlying107, rfl⟩ rfl rfl true (fun _ => by unfold Zh0; exact ⟨by kernel_rfl, by kernel_rfl, by kernel_rfl⟩)
theorem Zsy : TyOk Try.prog 111 ⟨.struct [(0, 3)], 1, 8, [.int .i64 0], false⟩ := TyOk.of (P := Try.prog) (t := 111) (.struct [(0, 3)]) 1 8 [.int .i64 0] (.agg #[.int .i64 0]) (by kernel_rfl) rfl ⟨_, Try.underlying111, rfl⟩ rfl rfl false (fun h => by cases h)
theorem Zsz : TyOk Try.prog 112 ⟨.struct [(0, 3)], 1, 8, [.int .i64 0], true⟩ := TyOk.of (P := Try.prog) (t := 112) (.struct [(0, 3)]) 1 8 [.int .i64 0] (.agg #[.int .i64 0]) (by kernel_rfl) rfl ⟨_, Try.underlying112, rfl⟩ rfl rfl true (fun _ => by unfold Zh0; exact ⟨by kernel_rfl, by kernel_rfl, by kernel_rfl⟩)
theorem Zs0 : TyOk Try.prog 114 ⟨.struct [(0, 3)], 1, 8, [.int .i64 0], false⟩ := TyOk.of (P := Try.prog) (t := 114) (.struct [(0, 3)]) 1 8 [.int .i64 0] (.agg #[.int .i64 0]) (by kernel_rfl) rfl ⟨_, Try.underlying114, rfl⟩ rfl rfl false (fun h => by cases h)
theorem Zs1 : TyOk Try.prog 115 ⟨.struct [(0, 3)], 1, 8, [.int .i64 0], true⟩ := TyOk.of (P := Try.prog) (t := 115) (.struct [(0, 3)]) 1 8 [.int .i64 0] (.agg #[.int .i64 0]) (by kernel_rfl) rfl ⟨_, Try.underlying115, rfl⟩ rfl rfl true (fun _ => by unfold Zh0; exact ⟨by kernel_rfl, by kernel_rfl, by kernel_rfl⟩)
theorem Zs2 : TyOk Try.prog 126 ⟨.ptr 107, 1, 8, [.pointer none], false⟩ := TyOk.of (P := Try.prog) (t := 126) (.ptr 107) 1 8 [.pointer none] (.pointer none) (by kernel_rfl) rfl Try.underlying126 rfl rfl false (fun h => by cases h)
theorem Zs3 : TyOk Try.prog 129 ⟨.ptr 112, 1, 8, [.pointer none], false⟩ := TyOk.of (P := Try.prog) (t := 129) (.ptr 112) 1 8 [.pointer none] (.pointer none) (by kernel_rfl) rfl Try.underlying129 rfl rfl false (fun h => by cases h)
theorem Zs4 : TyOk Try.prog 131 ⟨.ptr 115, 1, 8, [.pointer none], false⟩ := TyOk.of (P := Try.prog) (t := 131) (.ptr 115) 1 8 [.pointer none] (.pointer none) (by kernel_rfl) rfl Try.underlying131 rfl rfl false (fun h => by cases h)
theorem Zs5 : TyOk Try.prog 138 ⟨.arr 6 3, 6, 48, [.int .i64 0, .int .i64 0, .int .i64 0, .int .i64 0, .int .i64 0, .int .i64 0], false⟩ := TyOk.of (P := Try.prog) (t := 138) (.arr 6 3) 6 48 [.int .i64 0, .int .i64 0, .int .i64 0, .int .i64 0, .int .i64 0, .int .i64 0] (.agg #[.int .i64 0, .int .i64 0, .int .i64 0, .int .i64 0, .int .i64 0, .int .i64 0]) (by kernel_rfl) rfl Try.underlying138 rfl rfl false (fun h => by cases h)
theorem Zs6 : TyOk Try.prog 140 ⟨.arr 7 3, 7, 56, [.int .i64 0, .int .i64 0, .int .i64 0, .int .i64 0, .int .i64 0, .int .i64 0, .int .i64 0], false⟩ := TyOk.of (P := Try.prog) (t := 140) (.arr 7 3) 7 56 [.int .i64 0, .int .i64 0, .int .i64 0, .int .i64 0, .int .i64 0, .int .i64 0, .int .i64 0] (.agg #[.int .i64 0, .int .i64 0, .int .i64 0, .int .i64 0, .int .i64 0, .int .i64 0, .int .i64 0]) (by kernel_rfl) rfl Try.underlying140 rfl rfl false (fun h => by cases h)
theorem Zs7 : TyOk Try.prog 142 ⟨.struct [(0, 17), (1, 17), (2, 17), (3, 9)], 4, 40, [.pointer none, .pointer none, .pointer none, .string ByteArray.empty], false⟩ := TyOk.of (P := Try.prog) (t := 142) (.struct [(0, 17), (1, 17), (2, 17), (3, 9)]) 4 40 [.pointer none, .pointer none, .pointer none, .string ByteArray.empty] (.agg #[.pointer none, .pointer none, .pointer none, .string ByteArray.empty]) (by kernel_rfl) rfl ⟨_, Try.underlying142, rfl⟩ rfl rfl false (fun h => by cases h)
theorem Zs8 : TyOk Try.prog 143 ⟨.struct [(0, 17), (1, 17), (2, 17), (3, 9)], 4, 40, [.pointer none, .pointer none, .pointer none, .string ByteArray.empty], false⟩ := TyOk.of (P := Try.prog) (t := 143) (.struct [(0, 17), (1, 17), (2, 17), (3, 9)]) 4 40 [.pointer none, .pointer none, .pointer none, .string ByteArray.empty] (.agg #[.pointer none, .pointer none, .pointer none, .string ByteArray.empty]) (by kernel_rfl) rfl ⟨_, Try.underlying143, rfl⟩ rfl rfl false (fun h => by cases h)
theorem Zs9 : TyOk Try.prog 147 ⟨.int .u8, 1, 1, [.int .u8 0], false⟩ := TyOk.of (P := Try.prog) (t := 147) (.int .u8) 1 1 [.int .u8 0] (.int .u8 0) (by kernel_rfl) rfl Try.underlying147 rfl rfl false (fun h => by cases h)
theorem Zta : TyOk Try.prog 148 ⟨.int .u8, 1, 1, [.int .u8 0], false⟩ := TyOk.of (P := Try.prog) (t := 148) (.int .u8) 1 1 [.int .u8 0] (.int .u8 0) (by kernel_rfl) rfl Try.underlying148 rfl rfl false (fun h => by cases h)
theorem Ztb : TyOk Try.prog 150 ⟨.ptr 5, 1, 8, [.pointer none], false⟩ := TyOk.of (P := Try.prog) (t := 150) (.ptr 5) 1 8 [.pointer none] (.pointer none) (by kernel_rfl) rfl Try.underlying150 rfl rfl false (fun h => by cases h)
theorem Ztc : TyOk Try.prog 151 ⟨.int .i32, 1, 4, [.int .i32 0], false⟩ := TyOk.of (P := Try.prog) (t := 151) (.int .i32) 1 4 [.int .i32 0] (.int .i32 0) (by kernel_rfl) rfl Try.underlying151 rfl rfl false (fun h => by cases h)
theorem Ztd : TyOk Try.prog 152 ⟨.int .i32, 1, 4, [.int .i32 0], false⟩ := TyOk.of (P := Try.prog) (t := 152) (.int .i32) 1 4 [.int .i32 0] (.int .i32 0) (by kernel_rfl) rfl Try.underlying152 rfl rfl false (fun h => by cases h)
def tabL : List (Nat × TyI) := [(2, ⟨.int .i64, 1, 8, [.int .i64 0], false⟩),
 (3, ⟨.int .i64, 1, 8, [.int .i64 0], false⟩),
 (4, ⟨.bool, 1, 1, [.bool false], false⟩),
 (5, ⟨.int .u8, 1, 1, [.int .u8 0], false⟩),
 (6, ⟨.int .u8, 1, 1, [.int .u8 0], false⟩),
 (7, ⟨.struct [(0, 2), (1, 3), (2, 4), (3, 6)], 4, 24, [.int .i64 0, .int .i64 0, .bool false, .int .u8 0], false⟩),
 (8, ⟨.struct [(0, 2), (1, 3), (2, 4), (3, 6)], 4, 24, [.int .i64 0, .int .i64 0, .bool false, .int .u8 0], false⟩),
 (9, ⟨.str, 1, 16, [.string ByteArray.empty], false⟩),
 (10, ⟨.str, 1, 16, [.string ByteArray.empty], false⟩),
 (11, ⟨.str, 1, 16, [.string ByteArray.empty], false⟩),
 (12, ⟨.int .u64, 1, 8, [.int .u64 0], false⟩),
 (13, ⟨.struct [(0, 9), (1, 12)], 2, 24, [.string ByteArray.empty, .int .u64 0], false⟩),
 (14, ⟨.struct [(0, 9), (1, 12)], 2, 24, [.string ByteArray.empty, .int .u64 0], false⟩),
 (15, ⟨.ptr 143, 1, 8, [.pointer none], false⟩),
 (16, ⟨.ptr 146, 1, 8, [.pointer none], false⟩),
 (17, ⟨.ptr 154, 1, 8, [.pointer none], false⟩),
 (18, ⟨.struct [(0, 17)], 1, 8, [.pointer none], false⟩),
 (19, ⟨.struct [(0, 17)], 1, 8, [.pointer none], false⟩),
 (21, ⟨.int .i32, 1, 4, [.int .i32 0], false⟩),
 (22, ⟨.slice 42, 1, 24, [.slice none 0 0], false⟩),
 (23, ⟨.slice 3, 1, 24, [.slice none 0 0], false⟩),
 (24, ⟨.ptr 81, 1, 8, [.pointer none], false⟩),
 (26, ⟨.struct [(0, 24), (1, 3), (2, 3), (3, 3), (4, 3), (5, 3), (6, 3), (7, 3), (8, 3)], 9, 72, [.pointer none, .int .i64 0, .int .i64 0, .int .i64 0, .int .i64 0, .int .i64 0, .int .i64 0, .int .i64 0, .int .i64 0], false⟩),
 (27, ⟨.struct [(0, 24), (1, 3), (2, 3), (3, 3), (4, 3), (5, 3), (6, 3), (7, 3), (8, 3)], 9, 72, [.pointer none, .int .i64 0, .int .i64 0, .int .i64 0, .int .i64 0, .int .i64 0, .int .i64 0, .int .i64 0, .int .i64 0], false⟩),
 (28, ⟨.int .i64, 1, 8, [.int .i64 0], false⟩),
 (31, ⟨.int .u64, 1, 8, [.int .u64 0], false⟩),
 (32, ⟨.struct [(0, 3), (1, 3), (2, 3), (3, 3), (4, 3), (5, 3), (6, 31)], 7, 56, [.int .i64 0, .int .i64 0, .int .i64 0, .int .i64 0, .int .i64 0, .int .i64 0, .int .u64 0], false⟩),
 (33, ⟨.struct [(0, 3), (1, 3), (2, 3), (3, 3), (4, 3), (5, 3), (6, 31)], 7, 56, [.int .i64 0, .int .i64 0, .int .i64 0, .int .i64 0, .int .i64 0, .int .i64 0, .int .u64 0], true⟩),
 (42, ⟨.slice 31, 1, 24, [.slice none 0 0], false⟩),
 (51, ⟨.struct [(0, 3), (1, 3), (2, 3), (3, 3)], 4, 32, [.int .i64 0, .int .i64 0, .int .i64 0, .int .i64 0], false⟩),
 (52, ⟨.struct [(0, 3), (1, 3), (2, 3), (3, 3)], 4, 32, [.int .i64 0, .int .i64 0, .int .i64 0, .int .i64 0], true⟩),
 (56, ⟨.slice 58, 1, 24, [.slice none 0 0], false⟩),
 (57, ⟨.struct [(0, 3), (1, 42), (2, 56)], 3, 56, [.int .i64 0, .slice none 0 0, .slice none 0 0], false⟩),
 (58, ⟨.struct [(0, 3), (1, 42), (2, 56)], 3, 56, [.int .i64 0, .slice none 0 0, .slice none 0 0], false⟩),
 (66, ⟨.int .u32, 1, 4, [.int .u32 0], false⟩),
 (67, ⟨.int .u64, 1, 8, [.int .u64 0], false⟩),
 (80, ⟨.struct [(0, 22), (1, 3), (2, 3)], 3, 40, [.slice none 0 0, .int .i64 0, .int .i64 0], false⟩),
 (81, ⟨.struct [(0, 22), (1, 3), (2, 3)], 3, 40, [.slice none 0 0, .int .i64 0, .int .i64 0], false⟩),
 (82, ⟨.struct [(0, 3), (1, 3), (2, 3), (3, 3), (4, 3), (5, 3), (6, 3), (7, 4)], 8, 64, [.int .i64 0, .int .i64 0, .int .i64 0, .int .i64 0, .int .i64 0, .int .i64 0, .int .i64 0, .bool false], false⟩),
 (83, ⟨.struct [(0, 3), (1, 3), (2, 3), (3, 3), (4, 3), (5, 3), (6, 3), (7, 4)], 8, 64, [.int .i64 0, .int .i64 0, .int .i64 0, .int .i64 0, .int .i64 0, .int .i64 0, .int .i64 0, .bool false], true⟩),
 (84, ⟨.struct [(0, 83), (8, 3), (9, 3)], 10, 80, [.int .i64 0, .int .i64 0, .int .i64 0, .int .i64 0, .int .i64 0, .int .i64 0, .int .i64 0, .bool false, .int .i64 0, .int .i64 0], false⟩),
 (85, ⟨.struct [(0, 83), (8, 3), (9, 3)], 10, 80, [.int .i64 0, .int .i64 0, .int .i64 0, .int .i64 0, .int .i64 0, .int .i64 0, .int .i64 0, .bool false, .int .i64 0, .int .i64 0], true⟩),
 (89, ⟨.struct [(0, 3), (1, 3), (2, 3), (3, 3), (4, 3), (5, 3), (6, 3), (7, 4)], 8, 64, [.int .i64 0, .int .i64 0, .int .i64 0, .int .i64 0, .int .i64 0, .int .i64 0, .int .i64 0, .bool false], true⟩),
 (90, ⟨.struct [(0, 89), (8, 3), (9, 3)], 10, 80, [.int .i64 0, .int .i64 0, .int .i64 0, .int .i64 0, .int .i64 0, .int .i64 0, .int .i64 0, .bool false, .int .i64 0, .int .i64 0], false⟩),
 (91, ⟨.struct [(0, 89), (8, 3), (9, 3)], 10, 80, [.int .i64 0, .int .i64 0, .int .i64 0, .int .i64 0, .int .i64 0, .int .i64 0, .int .i64 0, .bool false, .int .i64 0, .int .i64 0], true⟩),
 (106, ⟨.struct [(0, 3)], 1, 8, [.int .i64 0], false⟩),
 (107, ⟨.struct [(0, 3)], 1, 8, [.int .i64 0], true⟩),
 (111, ⟨.struct [(0, 3)], 1, 8, [.int .i64 0], false⟩),
 (112, ⟨.struct [(0, 3)], 1, 8, [.int .i64 0], true⟩),
 (114, ⟨.struct [(0, 3)], 1, 8, [.int .i64 0], false⟩),
 (115, ⟨.struct [(0, 3)], 1, 8, [.int .i64 0], true⟩),
 (126, ⟨.ptr 107, 1, 8, [.pointer none], false⟩),
 (129, ⟨.ptr 112, 1, 8, [.pointer none], false⟩),
 (131, ⟨.ptr 115, 1, 8, [.pointer none], false⟩),
 (138, ⟨.arr 6 3, 6, 48, [.int .i64 0, .int .i64 0, .int .i64 0, .int .i64 0, .int .i64 0, .int .i64 0], false⟩),
 (140, ⟨.arr 7 3, 7, 56, [.int .i64 0, .int .i64 0, .int .i64 0, .int .i64 0, .int .i64 0, .int .i64 0, .int .i64 0], false⟩),
 (142, ⟨.struct [(0, 17), (1, 17), (2, 17), (3, 9)], 4, 40, [.pointer none, .pointer none, .pointer none, .string ByteArray.empty], false⟩),
 (143, ⟨.struct [(0, 17), (1, 17), (2, 17), (3, 9)], 4, 40, [.pointer none, .pointer none, .pointer none, .string ByteArray.empty], false⟩),
 (147, ⟨.int .u8, 1, 1, [.int .u8 0], false⟩),
 (148, ⟨.int .u8, 1, 1, [.int .u8 0], false⟩),
 (150, ⟨.ptr 5, 1, 8, [.pointer none], false⟩),
 (151, ⟨.int .i32, 1, 4, [.int .i32 0], false⟩),
 (152, ⟨.int .i32, 1, 4, [.int .i32 0], false⟩)]
def Yq : Xk := fun t => tabL.lookup t
theorem Zc : Ym Try.prog Yq := fun t i h => by
 have hm := Zin _ h
 unfold tabL at hm
 simp only [List.mem_cons, Prod.mk.injEq, List.not_mem_nil, or_false] at hm
 rcases hm with ⟨rfl, rfl⟩ | ⟨rfl, rfl⟩ | ⟨rfl, rfl⟩ | ⟨rfl, rfl⟩ | ⟨rfl, rfl⟩ | ⟨rfl, rfl⟩ | ⟨rfl, rfl⟩ | ⟨rfl, rfl⟩ | ⟨rfl, rfl⟩ | ⟨rfl, rfl⟩ | ⟨rfl, rfl⟩ | ⟨rfl, rfl⟩ | ⟨rfl, rfl⟩ | ⟨rfl, rfl⟩ | ⟨rfl, rfl⟩ | ⟨rfl, rfl⟩ | ⟨rfl, rfl⟩ | ⟨rfl, rfl⟩ | ⟨rfl, rfl⟩ | ⟨rfl, rfl⟩ | ⟨rfl, rfl⟩ | ⟨rfl, rfl⟩ | ⟨rfl, rfl⟩ | ⟨rfl, rfl⟩ | ⟨rfl, rfl⟩ | ⟨rfl, rfl⟩ | ⟨rfl, rfl⟩ | ⟨rfl, rfl⟩ | ⟨rfl, rfl⟩ | ⟨rfl, rfl⟩ | ⟨rfl, rfl⟩ | ⟨rfl, rfl⟩ | ⟨rfl, rfl⟩ | ⟨rfl, rfl⟩ | ⟨rfl, rfl⟩ | ⟨rfl, rfl⟩ | ⟨rfl, rfl⟩ | ⟨rfl, rfl⟩ | ⟨rfl, rfl⟩ | ⟨rfl, rfl⟩ | ⟨rfl, rfl⟩ | ⟨rfl, rfl⟩ | ⟨rfl, rfl⟩ | ⟨rfl, rfl⟩ | ⟨rfl, rfl⟩ | ⟨rfl, rfl⟩ | ⟨rfl, rfl⟩ | ⟨rfl, rfl⟩ | ⟨rfl, rfl⟩ | ⟨rfl, rfl⟩ | ⟨rfl, rfl⟩ | ⟨rfl, rfl⟩ | ⟨rfl, rfl⟩ | ⟨rfl, rfl⟩ | ⟨rfl, rfl⟩ | ⟨rfl, rfl⟩ | ⟨rfl, rfl⟩ | ⟨rfl, rfl⟩ | ⟨rfl, rfl⟩ | ⟨rfl, rfl⟩ | ⟨rfl, rfl⟩ | ⟨rfl, rfl⟩ | ⟨rfl, rfl⟩
 ·exact ty2
 ·exact ty3
 ·exact ty4
 ·exact ty5
 ·exact ty6
 ·exact ty7
 ·exact ty8
 ·exact ty9
 ·exact Ztk
 ·exact Ztl
 ·exact Ztm
 ·exact Ztn
 ·exact Zto
 ·exact Ztp
 ·exact Ztq
 ·exact Ztr
 ·exact Zts
 ·exact Ztt
 ·exact Ztu
 ·exact Ztv
 ·exact Ztw
 ·exact Ztx
 ·exact Zty
 ·exact Ztz
 ·exact Zt0
 ·exact Zt1
 ·exact Zt2
 ·exact Zt3
 ·exact Zt4
 ·exact Zt5
 ·exact Zt6
 ·exact Zt7
 ·exact Zt8
 ·exact Zt9
 ·exact Zua
 ·exact Zub
 ·exact Zuc
 ·exact Zud
 ·exact Zue
 ·exact Zuf
 ·exact Zug
 ·exact Zuh
 ·exact Zui
 ·exact Zuj
 ·exact Zuk
 ·exact Zsw
 ·exact Zsx
 ·exact Zsy
 ·exact Zsz
 ·exact Zs0
 ·exact Zs1
 ·exact Zs2
 ·exact Zs3
 ·exact Zs4
 ·exact Zs5
 ·exact Zs6
 ·exact Zs7
 ·exact Zs8
 ·exact Zs9
 ·exact Zta
 ·exact Ztb
 ·exact Ztc
 exact Ztd
theorem Zqs : Yq 2 = some ⟨.int .i64, 1, 8, [.int .i64 0], false⟩ := rfl
theorem Zoc : Yq 3 = some ⟨.int .i64, 1, 8, [.int .i64 0], false⟩ := rfl
theorem Zqt : Yq 4 = some ⟨.bool, 1, 1, [.bool false], false⟩ := rfl
theorem Zqu : Yq 5 = some ⟨.int .u8, 1, 1, [.int .u8 0], false⟩ := rfl
theorem Zqv : Yq 6 = some ⟨.int .u8, 1, 1, [.int .u8 0], false⟩ := rfl
theorem Zqw : Yq 7 = some ⟨.struct [(0, 2), (1, 3), (2, 4), (3, 6)], 4, 24, [.int .i64 0, .int .i64 0, .bool false, .int .u8 0], false⟩ := rfl
theorem Zqx : Yq 8 = some ⟨.struct [(0, 2), (1, 3), (2, 4), (3, 6)], 4, 24, [.int .i64 0, .int .i64 0, .bool false, .int .u8 0], false⟩ := rfl
theorem Zqy : Yq 9 = some ⟨.str, 1, 16, [.string ByteArray.empty], false⟩ := rfl
theorem Zmq : Yq 10 = some ⟨.str, 1, 16, [.string ByteArray.empty], false⟩ := rfl
theorem Zmr : Yq 11 = some ⟨.str, 1, 16, [.string ByteArray.empty], false⟩ := rfl
theorem Zms : Yq 12 = some ⟨.int .u64, 1, 8, [.int .u64 0], false⟩ := rfl
theorem Zmt : Yq 13 = some ⟨.struct [(0, 9), (1, 12)], 2, 24, [.string ByteArray.empty, .int .u64 0], false⟩ := rfl
theorem Zmu : Yq 14 = some ⟨.struct [(0, 9), (1, 12)], 2, 24, [.string ByteArray.empty, .int .u64 0], false⟩ := rfl
theorem Zmv : Yq 15 = some ⟨.ptr 143, 1, 8, [.pointer none], false⟩ := rfl
theorem Zmw : Yq 16 = some ⟨.ptr 146, 1, 8, [.pointer none], false⟩ := rfl
theorem Zmx : Yq 17 = some ⟨.ptr 154, 1, 8, [.pointer none], false⟩ := rfl
theorem Zmy : Yq 18 = some ⟨.struct [(0, 17)], 1, 8, [.pointer none], false⟩ := rfl
theorem Zmz : Yq 19 = some ⟨.struct [(0, 17)], 1, 8, [.pointer none], false⟩ := rfl
theorem Zm0 : Yq 21 = some ⟨.int .i32, 1, 4, [.int .i32 0], false⟩ := rfl
theorem Zm1 : Yq 22 = some ⟨.slice 42, 1, 24, [.slice none 0 0], false⟩ := rfl
theorem Zm2 : Yq 23 = some ⟨.slice 3, 1, 24, [.slice none 0 0], false⟩ := rfl
theorem Zm3 : Yq 24 = some ⟨.ptr 81, 1, 8, [.pointer none], false⟩ := rfl
theorem Zm4 : Yq 26 = some ⟨.struct [(0, 24), (1, 3), (2, 3), (3, 3), (4, 3), (5, 3), (6, 3), (7, 3), (8, 3)], 9, 72, [.pointer none, .int .i64 0, .int .i64 0, .int .i64 0, .int .i64 0, .int .i64 0, .int .i64 0, .int .i64 0, .int .i64 0], false⟩ := rfl
theorem Zm5 : Yq 27 = some ⟨.struct [(0, 24), (1, 3), (2, 3), (3, 3), (4, 3), (5, 3), (6, 3), (7, 3), (8, 3)], 9, 72, [.pointer none, .int .i64 0, .int .i64 0, .int .i64 0, .int .i64 0, .int .i64 0, .int .i64 0, .int .i64 0, .int .i64 0], false⟩ := rfl
theorem Zm6 : Yq 28 = some ⟨.int .i64, 1, 8, [.int .i64 0], false⟩ := rfl
theorem Za4 : Yq 31 = some ⟨.int .u64, 1, 8, [.int .u64 0], false⟩ := rfl
theorem Zm7 : Yq 32 = some ⟨.struct [(0, 3), (1, 3), (2, 3), (3, 3), (4, 3), (5, 3), (6, 31)], 7, 56, [.int .i64 0, .int .i64 0, .int .i64 0, .int .i64 0, .int .i64 0, .int .i64 0, .int .u64 0], false⟩ := rfl
theorem Zm8 : Yq 33 = some ⟨.struct [(0, 3), (1, 3), (2, 3), (3, 3), (4, 3), (5, 3), (6, 31)], 7, 56, [.int .i64 0, .int .i64 0, .int .i64 0, .int .i64 0, .int .i64 0, .int .i64 0, .int .u64 0], true⟩ := rfl
theorem Zdu : Yq 42 = some ⟨.slice 31, 1, 24, [.slice none 0 0], false⟩ := rfl
theorem Zm9 : Yq 51 = some ⟨.struct [(0, 3), (1, 3), (2, 3), (3, 3)], 4, 32, [.int .i64 0, .int .i64 0, .int .i64 0, .int .i64 0], false⟩ := rfl
theorem Zna : Yq 52 = some ⟨.struct [(0, 3), (1, 3), (2, 3), (3, 3)], 4, 32, [.int .i64 0, .int .i64 0, .int .i64 0, .int .i64 0], true⟩ := rfl
theorem Znb : Yq 56 = some ⟨.slice 58, 1, 24, [.slice none 0 0], false⟩ := rfl
theorem Znc : Yq 57 = some ⟨.struct [(0, 3), (1, 42), (2, 56)], 3, 56, [.int .i64 0, .slice none 0 0, .slice none 0 0], false⟩ := rfl
theorem Znd : Yq 58 = some ⟨.struct [(0, 3), (1, 42), (2, 56)], 3, 56, [.int .i64 0, .slice none 0 0, .slice none 0 0], false⟩ := rfl
theorem Zne : Yq 66 = some ⟨.int .u32, 1, 4, [.int .u32 0], false⟩ := rfl
theorem Znf : Yq 67 = some ⟨.int .u64, 1, 8, [.int .u64 0], false⟩ := rfl
theorem Zng : Yq 80 = some ⟨.struct [(0, 22), (1, 3), (2, 3)], 3, 40, [.slice none 0 0, .int .i64 0, .int .i64 0], false⟩ := rfl
theorem Znh : Yq 81 = some ⟨.struct [(0, 22), (1, 3), (2, 3)], 3, 40, [.slice none 0 0, .int .i64 0, .int .i64 0], false⟩ := rfl
theorem Zni : Yq 82 = some ⟨.struct [(0, 3), (1, 3), (2, 3), (3, 3), (4, 3), (5, 3), (6, 3), (7, 4)], 8, 64, [.int .i64 0, .int .i64 0, .int .i64 0, .int .i64 0, .int .i64 0, .int .i64 0, .int .i64 0, .bool false], false⟩ := rfl
theorem Znj : Yq 83 = some ⟨.struct [(0, 3), (1, 3), (2, 3), (3, 3), (4, 3), (5, 3), (6, 3), (7, 4)], 8, 64, [.int .i64 0, .int .i64 0, .int .i64 0, .int .i64 0, .int .i64 0, .int .i64 0, .int .i64 0, .bool false], true⟩ := rfl
theorem Znk : Yq 84 = some ⟨.struct [(0, 83), (8, 3), (9, 3)], 10, 80, [.int .i64 0, .int .i64 0, .int .i64 0, .int .i64 0, .int .i64 0, .int .i64 0, .int .i64 0, .bool false, .int .i64 0, .int .i64 0], false⟩ := rfl
theorem Znl : Yq 85 = some ⟨.struct [(0, 83), (8, 3), (9, 3)], 10, 80, [.int .i64 0, .int .i64 0, .int .i64 0, .int .i64 0, .int .i64 0, .int .i64 0, .int .i64 0, .bool false, .int .i64 0, .int .i64 0], true⟩ := rfl
theorem Znm : Yq 89 = some ⟨.struct [(0, 3), (1, 3), (2, 3), (3, 3), (4, 3), (5, 3), (6, 3), (7, 4)], 8, 64, [.int .i64 0, .int .i64 0, .int .i64 0, .int .i64 0, .int .i64 0, .int .i64 0, .int .i64 0, .bool false], true⟩ := rfl
theorem Znn : Yq 90 = some ⟨.struct [(0, 89), (8, 3), (9, 3)], 10, 80, [.int .i64 0, .int .i64 0, .int .i64 0, .int .i64 0, .int .i64 0, .int .i64 0, .int .i64 0, .bool false, .int .i64 0, .int .i64 0], false⟩ := rfl
theorem Zno : Yq 91 = some ⟨.struct [(0, 89), (8, 3), (9, 3)], 10, 80, [.int .i64 0, .int .i64 0, .int .i64 0, .int .i64 0, .int .i64 0, .int .i64 0, .int .i64 0, .bool false, .int .i64 0, .int .i64 0], true⟩ := rfl
theorem Ziz : Yq 106 = some ⟨.struct [(0, 3)], 1, 8, [.int .i64 0], false⟩ := rfl
theorem Zi0 : Yq 107 = some ⟨.struct [(0, 3)], 1, 8, [.int .i64 0], true⟩ := rfl
theorem Zi1 : Yq 111 = some ⟨.struct [(0, 3)], 1, 8, [.int .i64 0], false⟩ := rfl
theorem Zi2 : Yq 112 = some ⟨.struct [(0, 3)], 1, 8, [.int .i64 0], true⟩ := rfl
theorem Zi3 : Yq 114 = some ⟨.struct [(0, 3)], 1, 8, [.int .i64 0], false⟩ := rfl
theorem Zi4 : Yq 115 = some ⟨.struct [(0, 3)], 1, 8, [.int .i64 0], true⟩ := rfl
theorem Zi5 : Yq 126 = some ⟨.ptr 107, 1, 8, [.pointer none], false⟩ := rfl
theorem Zi6 : Yq 129 = some ⟨.ptr 112, 1, 8, [.pointer none], false⟩ := rfl
theorem Zi7 : Yq 131 = some ⟨.ptr 115, 1, 8, [.pointer none], false⟩ := rfl
theorem Zi8 : Yq 138 = some ⟨.arr 6 3, 6, 48, [.int .i64 0, .int .i64 0, .int .i64 0, .int .i64 0, .int .i64 0, .int .i64 0], false⟩ := rfl
theorem Zi9 : Yq 140 = some ⟨.arr 7 3, 7, 56, [.int .i64 0, .int .i64 0, .int .i64 0, .int .i64 0, .int .i64 0, .int .i64 0, .int .i64 0], false⟩ := rfl
theorem Zja : Yq 142 = some ⟨.struct [(0, 17), (1, 17), (2, 17), (3, 9)], 4, 40, [.pointer none, .pointer none, .pointer none, .string ByteArray.empty], false⟩ := rfl
theorem Zjb : Yq 143 = some ⟨.struct [(0, 17), (1, 17), (2, 17), (3, 9)], 4, 40, [.pointer none, .pointer none, .pointer none, .string ByteArray.empty], false⟩ := rfl
theorem Zjc : Yq 147 = some ⟨.int .u8, 1, 1, [.int .u8 0], false⟩ := rfl
theorem Zjd : Yq 148 = some ⟨.int .u8, 1, 1, [.int .u8 0], false⟩ := rfl
theorem Zje : Yq 151 = some ⟨.int .i32, 1, 4, [.int .i32 0], false⟩ := rfl
theorem Zjf : Yq 152 = some ⟨.int .i32, 1, 4, [.int .i32 0], false⟩ := rfl
theorem Zjg : Zp Yq 2 = some (.int .i64) := rfl
theorem Zjh : Zp Yq 3 = some (.int .i64) := rfl
theorem Zji : Zp Yq 4 = some (.bool) := rfl
theorem Zjj : Zp Yq 5 = some (.int .u8) := rfl
theorem Zjk : Zp Yq 6 = some (.int .u8) := rfl
theorem Zjl : Zp Yq 7 = some (.struct [(0, 2), (1, 3), (2, 4), (3, 6)]) := rfl
theorem Zjm : Zp Yq 8 = some (.struct [(0, 2), (1, 3), (2, 4), (3, 6)]) := rfl
theorem Zjn : Zp Yq 9 = some (.str) := rfl
theorem Zfw : Zp Yq 10 = some (.str) := rfl
theorem Zfx : Zp Yq 11 = some (.str) := rfl
theorem Zfy : Zp Yq 12 = some (.int .u64) := rfl
theorem Zfz : Zp Yq 13 = some (.struct [(0, 9), (1, 12)]) := rfl
theorem Zf0 : Zp Yq 14 = some (.struct [(0, 9), (1, 12)]) := rfl
theorem Zf1 : Zp Yq 15 = some (.ptr 143) := rfl
theorem Zf2 : Zp Yq 16 = some (.ptr 146) := rfl
theorem Zf3 : Zp Yq 17 = some (.ptr 154) := rfl
theorem Zf4 : Zp Yq 18 = some (.struct [(0, 17)]) := rfl
theorem Zf5 : Zp Yq 19 = some (.struct [(0, 17)]) := rfl
theorem Zf6 : Zp Yq 21 = some (.int .i32) := rfl
theorem Zf7 : Zp Yq 22 = some (.slice 42) := rfl
theorem Zf8 : Zp Yq 23 = some (.slice 3) := rfl
theorem Zdm : Zp Yq 24 = some (.ptr 81) := rfl
theorem Zf9 : Zp Yq 26 = some (.struct [(0, 24), (1, 3), (2, 3), (3, 3), (4, 3), (5, 3), (6, 3), (7, 3), (8, 3)]) := rfl
theorem Zga : Zp Yq 27 = some (.struct [(0, 24), (1, 3), (2, 3), (3, 3), (4, 3), (5, 3), (6, 3), (7, 3), (8, 3)]) := rfl
theorem Zgb : Zp Yq 28 = some (.int .i64) := rfl
theorem Zgc : Zp Yq 31 = some (.int .u64) := rfl
theorem Zgd : Zp Yq 32 = some (.struct [(0, 3), (1, 3), (2, 3), (3, 3), (4, 3), (5, 3), (6, 31)]) := rfl
theorem Zge : Zp Yq 33 = some (.struct [(0, 3), (1, 3), (2, 3), (3, 3), (4, 3), (5, 3), (6, 31)]) := rfl
theorem Zdn : Zp Yq 42 = some (.slice 31) := rfl
theorem Zgf : Zp Yq 51 = some (.struct [(0, 3), (1, 3), (2, 3), (3, 3)]) := rfl
theorem Zgg : Zp Yq 52 = some (.struct [(0, 3), (1, 3), (2, 3), (3, 3)]) := rfl
theorem Zgh : Zp Yq 56 = some (.slice 58) := rfl
theorem Zgi : Zp Yq 57 = some (.struct [(0, 3), (1, 42), (2, 56)]) := rfl
theorem Zgj : Zp Yq 58 = some (.struct [(0, 3), (1, 42), (2, 56)]) := rfl
theorem Zgk : Zp Yq 66 = some (.int .u32) := rfl
theorem Zgl : Zp Yq 67 = some (.int .u64) := rfl
theorem Zgm : Zp Yq 80 = some (.struct [(0, 22), (1, 3), (2, 3)]) := rfl
theorem Zgn : Zp Yq 81 = some (.struct [(0, 22), (1, 3), (2, 3)]) := rfl
theorem Zgo : Zp Yq 82 = some (.struct [(0, 3), (1, 3), (2, 3), (3, 3), (4, 3), (5, 3), (6, 3), (7, 4)]) := rfl
theorem Zgp : Zp Yq 83 = some (.struct [(0, 3), (1, 3), (2, 3), (3, 3), (4, 3), (5, 3), (6, 3), (7, 4)]) := rfl
theorem Zgq : Zp Yq 84 = some (.struct [(0, 83), (8, 3), (9, 3)]) := rfl
theorem Zgr : Zp Yq 85 = some (.struct [(0, 83), (8, 3), (9, 3)]) := rfl
theorem Zgs : Zp Yq 89 = some (.struct [(0, 3), (1, 3), (2, 3), (3, 3), (4, 3), (5, 3), (6, 3), (7, 4)]) := rfl
theorem Zgt : Zp Yq 90 = some (.struct [(0, 89), (8, 3), (9, 3)]) := rfl
theorem Zgu : Zp Yq 91 = some (.struct [(0, 89), (8, 3), (9, 3)]) := rfl
theorem Zct : Zp Yq 106 = some (.struct [(0, 3)]) := rfl
theorem Zcu : Zp Yq 107 = some (.struct [(0, 3)]) := rfl
theorem Zcv : Zp Yq 111 = some (.struct [(0, 3)]) := rfl
theorem Zcw : Zp Yq 112 = some (.struct [(0, 3)]) := rfl
theorem Zcx : Zp Yq 114 = some (.struct [(0, 3)]) := rfl
theorem Zcy : Zp Yq 115 = some (.struct [(0, 3)]) := rfl
theorem Zcz : Zp Yq 126 = some (.ptr 107) := rfl
theorem Zc0 : Zp Yq 129 = some (.ptr 112) := rfl
theorem Zc1 : Zp Yq 131 = some (.ptr 115) := rfl
theorem Zc2 : Zp Yq 138 = some (.arr 6 3) := rfl
theorem Zc3 : Zp Yq 140 = some (.arr 7 3) := rfl
theorem Zc4 : Zp Yq 142 = some (.struct [(0, 17), (1, 17), (2, 17), (3, 9)]) := rfl
theorem Zc5 : Zp Yq 143 = some (.struct [(0, 17), (1, 17), (2, 17), (3, 9)]) := rfl
theorem Zc6 : Zp Yq 147 = some (.int .u8) := rfl
theorem Zc7 : Zp Yq 148 = some (.int .u8) := rfl
theorem Zc8 : Zp Yq 151 = some (.int .i32) := rfl
theorem Zc9 : Zp Yq 152 = some (.int .i32) := rfl
end Go.Proofs.Ytmlhokaflhlhbaa
