/- The types of this seat's program, as its dump has them, in the ghost memory's words; no condition. -/
import Derived.Test.YtpfbdlcnfekdkaaRows
import Derived.Test.YtpfbdlcnfekdkaaG16
namespace Go.Proofs.Ytpfbdlcnfekdkaa
open Go.RowKit
set_option linter.unusedVariables false
set_option linter.unusedSimpArgs false
theorem TyOk.of {P : Program} {t : TypeId} (k : TK) (size bytes : Nat) (zero : List Value) (z : Value) (h : (P.info? t).map (fun i => (i.zero, i.size, i.bytes)) = some (some z, size, bytes)) (hz : z.cells.toList = zero) (hu : k.ok P t) (hl : zero.length = size) (h1 : zero.all Value.oneCell' = true) (eq : Bool) (he : eq = true → EqTy P t) : TyOk P t ⟨k, size, bytes, zero, eq⟩ := by
  refine ⟨?_, hu, hl, fun v hv => List.all_eq_true.1 h1 v hv, he⟩
  cases hi : P.info? t with
  | none => rw [hi] at h; cases h
  | some i =>
    rw [hi] at h
    simp only [Option.map_some, Option.some.injEq, Prod.mk.injEq] at h
    exact ⟨i, z, rfl, h.2.1, h.2.2, h.1, hz⟩
theorem lookup_mem {α : Type} {t : Nat} {i : α} : ∀ (l : List (Nat × α)), l.lookup t = some i → (t, i) ∈ l
  | [], h => by simp at h
  | (a, b) :: l, h => by
    rw [List.lookup_cons] at h
    split at h
    · rename_i he
      injection h with h
      have : t = a := by simpa using he
      subst h this
      exact .head _
    · exact .tail _ (lookup_mem l h)
theorem ty2 : TyOk Try.prog 2 ⟨.int .i64, 1, 8, [.int .i64 0], false⟩ := TyOk.of (P := Try.prog) (t := 2) (.int .i64) 1 8 [.int .i64 0] (.int .i64 0) (by kernel_rfl) rfl Try.underlying2 rfl rfl false (fun h => by cases h)
theorem ty3 : TyOk Try.prog 3 ⟨.int .i64, 1, 8, [.int .i64 0], false⟩ := TyOk.of (P := Try.prog) (t := 3) (.int .i64) 1 8 [.int .i64 0] (.int .i64 0) (by kernel_rfl) rfl Try.underlying3 rfl rfl false (fun h => by cases h)
theorem ty4 : TyOk Try.prog 4 ⟨.bool, 1, 1, [.bool false], false⟩ := TyOk.of (P := Try.prog) (t := 4) (.bool) 1 1 [.bool false] (.bool false) (by kernel_rfl) rfl Try.underlying4 rfl rfl false (fun h => by cases h)
theorem ty5 : TyOk Try.prog 5 ⟨.int .u8, 1, 1, [.int .u8 0], false⟩ := TyOk.of (P := Try.prog) (t := 5) (.int .u8) 1 1 [.int .u8 0] (.int .u8 0) (by kernel_rfl) rfl Try.underlying5 rfl rfl false (fun h => by cases h)
theorem ty6 : TyOk Try.prog 6 ⟨.int .u8, 1, 1, [.int .u8 0], false⟩ := TyOk.of (P := Try.prog) (t := 6) (.int .u8) 1 1 [.int .u8 0] (.int .u8 0) (by kernel_rfl) rfl Try.underlying6 rfl rfl false (fun h => by cases h)
theorem ty7 : TyOk Try.prog 7 ⟨.struct [(0, 2), (1, 3), (2, 4), (3, 6)], 4, 24, [.int .i64 0, .int .i64 0, .bool false, .int .u8 0], false⟩ := TyOk.of (P := Try.prog) (t := 7) (.struct [(0, 2), (1, 3), (2, 4), (3, 6)]) 4 24 [.int .i64 0, .int .i64 0, .bool false, .int .u8 0] (.agg #[.int .i64 0, .int .i64 0, .bool false, .int .u8 0]) (by kernel_rfl) rfl ⟨_, Try.underlying7, rfl⟩ rfl rfl false (fun h => by cases h)
theorem ty8 : TyOk Try.prog 8 ⟨.struct [(0, 2), (1, 3), (2, 4), (3, 6)], 4, 24, [.int .i64 0, .int .i64 0, .bool false, .int .u8 0], false⟩ := TyOk.of (P := Try.prog) (t := 8) (.struct [(0, 2), (1, 3), (2, 4), (3, 6)]) 4 24 [.int .i64 0, .int .i64 0, .bool false, .int .u8 0] (.agg #[.int .i64 0, .int .i64 0, .bool false, .int .u8 0]) (by kernel_rfl) rfl ⟨_, Try.underlying8, rfl⟩ rfl rfl false (fun h => by cases h)
theorem ty9 : TyOk Try.prog 9 ⟨.str, 1, 16, [.string ByteArray.empty], false⟩ := TyOk.of (P := Try.prog) (t := 9) (.str) 1 16 [.string ByteArray.empty] (.string ByteArray.empty) (by kernel_rfl) rfl Try.underlying9 rfl rfl false (fun h => by cases h)
theorem ty10 : TyOk Try.prog 10 ⟨.str, 1, 16, [.string ByteArray.empty], false⟩ := TyOk.of (P := Try.prog) (t := 10) (.str) 1 16 [.string ByteArray.empty] (.string ByteArray.empty) (by kernel_rfl) rfl Try.underlying10 rfl rfl false (fun h => by cases h)
theorem ty11 : TyOk Try.prog 11 ⟨.str, 1, 16, [.string ByteArray.empty], false⟩ := TyOk.of (P := Try.prog) (t := 11) (.str) 1 16 [.string ByteArray.empty] (.string ByteArray.empty) (by kernel_rfl) rfl Try.underlying11 rfl rfl false (fun h => by cases h)
theorem ty12 : TyOk Try.prog 12 ⟨.int .u64, 1, 8, [.int .u64 0], false⟩ := TyOk.of (P := Try.prog) (t := 12) (.int .u64) 1 8 [.int .u64 0] (.int .u64 0) (by kernel_rfl) rfl Try.underlying12 rfl rfl false (fun h => by cases h)
theorem ty13 : TyOk Try.prog 13 ⟨.struct [(0, 9), (1, 12)], 2, 24, [.string ByteArray.empty, .int .u64 0], false⟩ := TyOk.of (P := Try.prog) (t := 13) (.struct [(0, 9), (1, 12)]) 2 24 [.string ByteArray.empty, .int .u64 0] (.agg #[.string ByteArray.empty, .int .u64 0]) (by kernel_rfl) rfl ⟨_, Try.underlying13, rfl⟩ rfl rfl false (fun h => by cases h)
theorem ty14 : TyOk Try.prog 14 ⟨.struct [(0, 9), (1, 12)], 2, 24, [.string ByteArray.empty, .int .u64 0], false⟩ := TyOk.of (P := Try.prog) (t := 14) (.struct [(0, 9), (1, 12)]) 2 24 [.string ByteArray.empty, .int .u64 0] (.agg #[.string ByteArray.empty, .int .u64 0]) (by kernel_rfl) rfl ⟨_, Try.underlying14, rfl⟩ rfl rfl false (fun h => by cases h)
theorem ty15 : TyOk Try.prog 15 ⟨.ptr 162, 1, 8, [.pointer none], false⟩ := TyOk.of (P := Try.prog) (t := 15) (.ptr 162) 1 8 [.pointer none] (.pointer none) (by kernel_rfl) rfl Try.underlying15 rfl rfl false (fun h => by cases h)
theorem ty16 : TyOk Try.prog 16 ⟨.ptr 165, 1, 8, [.pointer none], false⟩ := TyOk.of (P := Try.prog) (t := 16) (.ptr 165) 1 8 [.pointer none] (.pointer none) (by kernel_rfl) rfl Try.underlying16 rfl rfl false (fun h => by cases h)
theorem ty17 : TyOk Try.prog 17 ⟨.ptr 173, 1, 8, [.pointer none], false⟩ := TyOk.of (P := Try.prog) (t := 17) (.ptr 173) 1 8 [.pointer none] (.pointer none) (by kernel_rfl) rfl Try.underlying17 rfl rfl false (fun h => by cases h)
theorem ty18 : TyOk Try.prog 18 ⟨.struct [(0, 17)], 1, 8, [.pointer none], false⟩ := TyOk.of (P := Try.prog) (t := 18) (.struct [(0, 17)]) 1 8 [.pointer none] (.agg #[.pointer none]) (by kernel_rfl) rfl ⟨_, Try.underlying18, rfl⟩ rfl rfl false (fun h => by cases h)
theorem ty19 : TyOk Try.prog 19 ⟨.struct [(0, 17)], 1, 8, [.pointer none], false⟩ := TyOk.of (P := Try.prog) (t := 19) (.struct [(0, 17)]) 1 8 [.pointer none] (.agg #[.pointer none]) (by kernel_rfl) rfl ⟨_, Try.underlying19, rfl⟩ rfl rfl false (fun h => by cases h)
theorem ty21 : TyOk Try.prog 21 ⟨.int .i32, 1, 4, [.int .i32 0], false⟩ := TyOk.of (P := Try.prog) (t := 21) (.int .i32) 1 4 [.int .i32 0] (.int .i32 0) (by kernel_rfl) rfl Try.underlying21 rfl rfl false (fun h => by cases h)
theorem ty22 : TyOk Try.prog 22 ⟨.slice 26, 1, 24, [.slice none 0 0], false⟩ := TyOk.of (P := Try.prog) (t := 22) (.slice 26) 1 24 [.slice none 0 0] (.slice none 0 0) (by kernel_rfl) rfl Try.underlying22 rfl rfl false (fun h => by cases h)
theorem ty23 : TyOk Try.prog 23 ⟨.struct [(0, 3), (1, 3), (2, 3), (3, 3)], 4, 32, [.int .i64 0, .int .i64 0, .int .i64 0, .int .i64 0], false⟩ := TyOk.of (P := Try.prog) (t := 23) (.struct [(0, 3), (1, 3), (2, 3), (3, 3)]) 4 32 [.int .i64 0, .int .i64 0, .int .i64 0, .int .i64 0] (.agg #[.int .i64 0, .int .i64 0, .int .i64 0, .int .i64 0]) (by kernel_rfl) rfl ⟨_, Try.underlying23, rfl⟩ rfl rfl false (fun h => by cases h)
theorem ty24 : TyOk Try.prog 24 ⟨.struct [(0, 3), (1, 3), (2, 3), (3, 3)], 4, 32, [.int .i64 0, .int .i64 0, .int .i64 0, .int .i64 0], true⟩ := TyOk.of (P := Try.prog) (t := 24) (.struct [(0, 3), (1, 3), (2, 3), (3, 3)]) 4 32 [.int .i64 0, .int .i64 0, .int .i64 0, .int .i64 0] (.agg #[.int .i64 0, .int .i64 0, .int .i64 0, .int .i64 0]) (by kernel_rfl) rfl ⟨_, Try.underlying24, rfl⟩ rfl rfl true (fun _ => by unfold EqTy; exact ⟨by kernel_rfl, by kernel_rfl, by kernel_rfl⟩)
theorem ty26 : TyOk Try.prog 26 ⟨.slice 63, 1, 24, [.slice none 0 0], false⟩ := TyOk.of (P := Try.prog) (t := 26) (.slice 63) 1 24 [.slice none 0 0] (.slice none 0 0) (by kernel_rfl) rfl Try.underlying26 rfl rfl false (fun h => by cases h)
theorem ty27 : TyOk Try.prog 27 ⟨.slice 29, 1, 24, [.slice none 0 0], false⟩ := TyOk.of (P := Try.prog) (t := 27) (.slice 29) 1 24 [.slice none 0 0] (.slice none 0 0) (by kernel_rfl) rfl Try.underlying27 rfl rfl false (fun h => by cases h)
theorem ty28 : TyOk Try.prog 28 ⟨.struct [(0, 3), (1, 26), (2, 27)], 3, 56, [.int .i64 0, .slice none 0 0, .slice none 0 0], false⟩ := TyOk.of (P := Try.prog) (t := 28) (.struct [(0, 3), (1, 26), (2, 27)]) 3 56 [.int .i64 0, .slice none 0 0, .slice none 0 0] (.agg #[.int .i64 0, .slice none 0 0, .slice none 0 0]) (by kernel_rfl) rfl ⟨_, Try.underlying28, rfl⟩ rfl rfl false (fun h => by cases h)
theorem ty29 : TyOk Try.prog 29 ⟨.struct [(0, 3), (1, 26), (2, 27)], 3, 56, [.int .i64 0, .slice none 0 0, .slice none 0 0], false⟩ := TyOk.of (P := Try.prog) (t := 29) (.struct [(0, 3), (1, 26), (2, 27)]) 3 56 [.int .i64 0, .slice none 0 0, .slice none 0 0] (.agg #[.int .i64 0, .slice none 0 0, .slice none 0 0]) (by kernel_rfl) rfl ⟨_, Try.underlying29, rfl⟩ rfl rfl false (fun h => by cases h)
theorem ty30 : TyOk Try.prog 30 ⟨.int .i64, 1, 8, [.int .i64 0], false⟩ := TyOk.of (P := Try.prog) (t := 30) (.int .i64) 1 8 [.int .i64 0] (.int .i64 0) (by kernel_rfl) rfl Try.underlying30 rfl rfl false (fun h => by cases h)
theorem ty33 : TyOk Try.prog 33 ⟨.ptr 62, 1, 8, [.pointer none], false⟩ := TyOk.of (P := Try.prog) (t := 33) (.ptr 62) 1 8 [.pointer none] (.pointer none) (by kernel_rfl) rfl Try.underlying33 rfl rfl false (fun h => by cases h)
theorem ty46 : TyOk Try.prog 46 ⟨.slice 3, 1, 24, [.slice none 0 0], false⟩ := TyOk.of (P := Try.prog) (t := 46) (.slice 3) 1 24 [.slice none 0 0] (.slice none 0 0) (by kernel_rfl) rfl Try.underlying46 rfl rfl false (fun h => by cases h)
theorem ty49 : TyOk Try.prog 49 ⟨.struct [(0, 33), (1, 3), (2, 3), (3, 3), (4, 3), (5, 3), (6, 3), (7, 3), (8, 3)], 9, 72, [.pointer none, .int .i64 0, .int .i64 0, .int .i64 0, .int .i64 0, .int .i64 0, .int .i64 0, .int .i64 0, .int .i64 0], false⟩ := TyOk.of (P := Try.prog) (t := 49) (.struct [(0, 33), (1, 3), (2, 3), (3, 3), (4, 3), (5, 3), (6, 3), (7, 3), (8, 3)]) 9 72 [.pointer none, .int .i64 0, .int .i64 0, .int .i64 0, .int .i64 0, .int .i64 0, .int .i64 0, .int .i64 0, .int .i64 0] (.agg #[.pointer none, .int .i64 0, .int .i64 0, .int .i64 0, .int .i64 0, .int .i64 0, .int .i64 0, .int .i64 0, .int .i64 0]) (by kernel_rfl) rfl ⟨_, Try.underlying49, rfl⟩ rfl rfl false (fun h => by cases h)
theorem ty50 : TyOk Try.prog 50 ⟨.struct [(0, 33), (1, 3), (2, 3), (3, 3), (4, 3), (5, 3), (6, 3), (7, 3), (8, 3)], 9, 72, [.pointer none, .int .i64 0, .int .i64 0, .int .i64 0, .int .i64 0, .int .i64 0, .int .i64 0, .int .i64 0, .int .i64 0], false⟩ := TyOk.of (P := Try.prog) (t := 50) (.struct [(0, 33), (1, 3), (2, 3), (3, 3), (4, 3), (5, 3), (6, 3), (7, 3), (8, 3)]) 9 72 [.pointer none, .int .i64 0, .int .i64 0, .int .i64 0, .int .i64 0, .int .i64 0, .int .i64 0, .int .i64 0, .int .i64 0] (.agg #[.pointer none, .int .i64 0, .int .i64 0, .int .i64 0, .int .i64 0, .int .i64 0, .int .i64 0, .int .i64 0, .int .i64 0]) (by kernel_rfl) rfl ⟨_, Try.underlying50, rfl⟩ rfl rfl false (fun h => by cases h)
theorem ty61 : TyOk Try.prog 61 ⟨.struct [(0, 22), (1, 3), (2, 3)], 3, 40, [.slice none 0 0, .int .i64 0, .int .i64 0], false⟩ := TyOk.of (P := Try.prog) (t := 61) (.struct [(0, 22), (1, 3), (2, 3)]) 3 40 [.slice none 0 0, .int .i64 0, .int .i64 0] (.agg #[.slice none 0 0, .int .i64 0, .int .i64 0]) (by kernel_rfl) rfl ⟨_, Try.underlying61, rfl⟩ rfl rfl false (fun h => by cases h)
theorem ty62 : TyOk Try.prog 62 ⟨.struct [(0, 22), (1, 3), (2, 3)], 3, 40, [.slice none 0 0, .int .i64 0, .int .i64 0], false⟩ := TyOk.of (P := Try.prog) (t := 62) (.struct [(0, 22), (1, 3), (2, 3)]) 3 40 [.slice none 0 0, .int .i64 0, .int .i64 0] (.agg #[.slice none 0 0, .int .i64 0, .int .i64 0]) (by kernel_rfl) rfl ⟨_, Try.underlying62, rfl⟩ rfl rfl false (fun h => by cases h)
theorem ty63 : TyOk Try.prog 63 ⟨.int .u64, 1, 8, [.int .u64 0], false⟩ := TyOk.of (P := Try.prog) (t := 63) (.int .u64) 1 8 [.int .u64 0] (.int .u64 0) (by kernel_rfl) rfl Try.underlying63 rfl rfl false (fun h => by cases h)
theorem ty65 : TyOk Try.prog 65 ⟨.struct [(0, 26), (1, 3)], 2, 32, [.slice none 0 0, .int .i64 0], false⟩ := TyOk.of (P := Try.prog) (t := 65) (.struct [(0, 26), (1, 3)]) 2 32 [.slice none 0 0, .int .i64 0] (.agg #[.slice none 0 0, .int .i64 0]) (by kernel_rfl) rfl ⟨_, Try.underlying65, rfl⟩ rfl rfl false (fun h => by cases h)
theorem ty66 : TyOk Try.prog 66 ⟨.struct [(0, 26), (1, 3)], 2, 32, [.slice none 0 0, .int .i64 0], false⟩ := TyOk.of (P := Try.prog) (t := 66) (.struct [(0, 26), (1, 3)]) 2 32 [.slice none 0 0, .int .i64 0] (.agg #[.slice none 0 0, .int .i64 0]) (by kernel_rfl) rfl ⟨_, Try.underlying66, rfl⟩ rfl rfl false (fun h => by cases h)
theorem ty74 : TyOk Try.prog 74 ⟨.struct [(0, 3), (1, 3), (2, 3), (3, 3), (4, 3), (5, 3), (6, 63)], 7, 56, [.int .i64 0, .int .i64 0, .int .i64 0, .int .i64 0, .int .i64 0, .int .i64 0, .int .u64 0], false⟩ := TyOk.of (P := Try.prog) (t := 74) (.struct [(0, 3), (1, 3), (2, 3), (3, 3), (4, 3), (5, 3), (6, 63)]) 7 56 [.int .i64 0, .int .i64 0, .int .i64 0, .int .i64 0, .int .i64 0, .int .i64 0, .int .u64 0] (.agg #[.int .i64 0, .int .i64 0, .int .i64 0, .int .i64 0, .int .i64 0, .int .i64 0, .int .u64 0]) (by kernel_rfl) rfl ⟨_, Try.underlying74, rfl⟩ rfl rfl false (fun h => by cases h)
theorem ty75 : TyOk Try.prog 75 ⟨.struct [(0, 3), (1, 3), (2, 3), (3, 3), (4, 3), (5, 3), (6, 63)], 7, 56, [.int .i64 0, .int .i64 0, .int .i64 0, .int .i64 0, .int .i64 0, .int .i64 0, .int .u64 0], true⟩ := TyOk.of (P := Try.prog) (t := 75) (.struct [(0, 3), (1, 3), (2, 3), (3, 3), (4, 3), (5, 3), (6, 63)]) 7 56 [.int .i64 0, .int .i64 0, .int .i64 0, .int .i64 0, .int .i64 0, .int .i64 0, .int .u64 0] (.agg #[.int .i64 0, .int .i64 0, .int .i64 0, .int .i64 0, .int .i64 0, .int .i64 0, .int .u64 0]) (by kernel_rfl) rfl ⟨_, Try.underlying75, rfl⟩ rfl rfl true (fun _ => by unfold EqTy; exact ⟨by kernel_rfl, by kernel_rfl, by kernel_rfl⟩)
theorem ty84 : TyOk Try.prog 84 ⟨.struct [(0, 3)], 1, 8, [.int .i64 0], false⟩ := TyOk.of (P := Try.prog) (t := 84) (.struct [(0, 3)]) 1 8 [.int .i64 0] (.agg #[.int .i64 0]) (by kernel_rfl) rfl ⟨_, Try.underlying84, rfl⟩ rfl rfl false (fun h => by cases h)
theorem ty85 : TyOk Try.prog 85 ⟨.struct [(0, 3)], 1, 8, [.int .i64 0], true⟩ := TyOk.of (P := Try.prog) (t := 85) (.struct [(0, 3)]) 1 8 [.int .i64 0] (.agg #[.int .i64 0]) (by kernel_rfl) rfl ⟨_, Try.underlying85, rfl⟩ rfl rfl true (fun _ => by unfold EqTy; exact ⟨by kernel_rfl, by kernel_rfl, by kernel_rfl⟩)
theorem ty87 : TyOk Try.prog 87 ⟨.struct [(0, 3)], 1, 8, [.int .i64 0], false⟩ := TyOk.of (P := Try.prog) (t := 87) (.struct [(0, 3)]) 1 8 [.int .i64 0] (.agg #[.int .i64 0]) (by kernel_rfl) rfl ⟨_, Try.underlying87, rfl⟩ rfl rfl false (fun h => by cases h)
theorem ty88 : TyOk Try.prog 88 ⟨.struct [(0, 3)], 1, 8, [.int .i64 0], true⟩ := TyOk.of (P := Try.prog) (t := 88) (.struct [(0, 3)]) 1 8 [.int .i64 0] (.agg #[.int .i64 0]) (by kernel_rfl) rfl ⟨_, Try.underlying88, rfl⟩ rfl rfl true (fun _ => by unfold EqTy; exact ⟨by kernel_rfl, by kernel_rfl, by kernel_rfl⟩)
theorem ty91 : TyOk Try.prog 91 ⟨.ptr 66, 1, 8, [.pointer none], false⟩ := TyOk.of (P := Try.prog) (t := 91) (.ptr 66) 1 8 [.pointer none] (.pointer none) (by kernel_rfl) rfl Try.underlying91 rfl rfl false (fun h => by cases h)
theorem ty92 : TyOk Try.prog 92 ⟨.struct [(0, 3), (1, 3), (2, 3), (3, 3), (4, 3), (5, 3), (6, 3), (7, 4)], 8, 64, [.int .i64 0, .int .i64 0, .int .i64 0, .int .i64 0, .int .i64 0, .int .i64 0, .int .i64 0, .bool false], false⟩ := TyOk.of (P := Try.prog) (t := 92) (.struct [(0, 3), (1, 3), (2, 3), (3, 3), (4, 3), (5, 3), (6, 3), (7, 4)]) 8 64 [.int .i64 0, .int .i64 0, .int .i64 0, .int .i64 0, .int .i64 0, .int .i64 0, .int .i64 0, .bool false] (.agg #[.int .i64 0, .int .i64 0, .int .i64 0, .int .i64 0, .int .i64 0, .int .i64 0, .int .i64 0, .bool false]) (by kernel_rfl) rfl ⟨_, Try.underlying92, rfl⟩ rfl rfl false (fun h => by cases h)
theorem ty93 : TyOk Try.prog 93 ⟨.struct [(0, 3), (1, 3), (2, 3), (3, 3), (4, 3), (5, 3), (6, 3), (7, 4)], 8, 64, [.int .i64 0, .int .i64 0, .int .i64 0, .int .i64 0, .int .i64 0, .int .i64 0, .int .i64 0, .bool false], true⟩ := TyOk.of (P := Try.prog) (t := 93) (.struct [(0, 3), (1, 3), (2, 3), (3, 3), (4, 3), (5, 3), (6, 3), (7, 4)]) 8 64 [.int .i64 0, .int .i64 0, .int .i64 0, .int .i64 0, .int .i64 0, .int .i64 0, .int .i64 0, .bool false] (.agg #[.int .i64 0, .int .i64 0, .int .i64 0, .int .i64 0, .int .i64 0, .int .i64 0, .int .i64 0, .bool false]) (by kernel_rfl) rfl ⟨_, Try.underlying93, rfl⟩ rfl rfl true (fun _ => by unfold EqTy; exact ⟨by kernel_rfl, by kernel_rfl, by kernel_rfl⟩)
theorem ty104 : TyOk Try.prog 104 ⟨.struct [(0, 3), (1, 3), (2, 3), (3, 3), (4, 3), (5, 3), (6, 3), (7, 4)], 8, 64, [.int .i64 0, .int .i64 0, .int .i64 0, .int .i64 0, .int .i64 0, .int .i64 0, .int .i64 0, .bool false], true⟩ := TyOk.of (P := Try.prog) (t := 104) (.struct [(0, 3), (1, 3), (2, 3), (3, 3), (4, 3), (5, 3), (6, 3), (7, 4)]) 8 64 [.int .i64 0, .int .i64 0, .int .i64 0, .int .i64 0, .int .i64 0, .int .i64 0, .int .i64 0, .bool false] (.agg #[.int .i64 0, .int .i64 0, .int .i64 0, .int .i64 0, .int .i64 0, .int .i64 0, .int .i64 0, .bool false]) (by kernel_rfl) rfl ⟨_, Try.underlying104, rfl⟩ rfl rfl true (fun _ => by unfold EqTy; exact ⟨by kernel_rfl, by kernel_rfl, by kernel_rfl⟩)
theorem ty105 : TyOk Try.prog 105 ⟨.struct [(0, 104), (8, 3), (9, 3)], 10, 80, [.int .i64 0, .int .i64 0, .int .i64 0, .int .i64 0, .int .i64 0, .int .i64 0, .int .i64 0, .bool false, .int .i64 0, .int .i64 0], false⟩ := TyOk.of (P := Try.prog) (t := 105) (.struct [(0, 104), (8, 3), (9, 3)]) 10 80 [.int .i64 0, .int .i64 0, .int .i64 0, .int .i64 0, .int .i64 0, .int .i64 0, .int .i64 0, .bool false, .int .i64 0, .int .i64 0] (.agg #[.int .i64 0, .int .i64 0, .int .i64 0, .int .i64 0, .int .i64 0, .int .i64 0, .int .i64 0, .bool false, .int .i64 0, .int .i64 0]) (by kernel_rfl) rfl ⟨_, Try.underlying105, rfl⟩ rfl rfl false (fun h => by cases h)
theorem ty106 : TyOk Try.prog 106 ⟨.struct [(0, 104), (8, 3), (9, 3)], 10, 80, [.int .i64 0, .int .i64 0, .int .i64 0, .int .i64 0, .int .i64 0, .int .i64 0, .int .i64 0, .bool false, .int .i64 0, .int .i64 0], true⟩ := TyOk.of (P := Try.prog) (t := 106) (.struct [(0, 104), (8, 3), (9, 3)]) 10 80 [.int .i64 0, .int .i64 0, .int .i64 0, .int .i64 0, .int .i64 0, .int .i64 0, .int .i64 0, .bool false, .int .i64 0, .int .i64 0] (.agg #[.int .i64 0, .int .i64 0, .int .i64 0, .int .i64 0, .int .i64 0, .int .i64 0, .int .i64 0, .bool false, .int .i64 0, .int .i64 0]) (by kernel_rfl) rfl ⟨_, Try.underlying106, rfl⟩ rfl rfl true (fun _ => by unfold EqTy; exact ⟨by kernel_rfl, by kernel_rfl, by kernel_rfl⟩)
theorem ty112 : TyOk Try.prog 112 ⟨.struct [(0, 3)], 1, 8, [.int .i64 0], false⟩ := TyOk.of (P := Try.prog) (t := 112) (.struct [(0, 3)]) 1 8 [.int .i64 0] (.agg #[.int .i64 0]) (by kernel_rfl) rfl ⟨_, Try.underlying112, rfl⟩ rfl rfl false (fun h => by cases h)
theorem ty113 : TyOk Try.prog 113 ⟨.struct [(0, 3)], 1, 8, [.int .i64 0], true⟩ := TyOk.of (P := Try.prog) (t := 113) (.struct [(0, 3)]) 1 8 [.int .i64 0] (.agg #[.int .i64 0]) (by kernel_rfl) rfl ⟨_, Try.underlying113, rfl⟩ rfl rfl true (fun _ => by unfold EqTy; exact ⟨by kernel_rfl, by kernel_rfl, by kernel_rfl⟩)
theorem ty116 : TyOk Try.prog 116 ⟨.struct [(0, 26), (1, 3)], 2, 32, [.slice none 0 0, .int .i64 0], false⟩ := TyOk.of (P := Try.prog) (t := 116) (.struct [(0, 26), (1, 3)]) 2 32 [.slice none 0 0, .int .i64 0] (.agg #[.slice none 0 0, .int .i64 0]) (by kernel_rfl) rfl ⟨_, Try.underlying116, rfl⟩ rfl rfl false (fun h => by cases h)
theorem ty117 : TyOk Try.prog 117 ⟨.struct [(0, 26), (1, 3)], 2, 32, [.slice none 0 0, .int .i64 0], false⟩ := TyOk.of (P := Try.prog) (t := 117) (.struct [(0, 26), (1, 3)]) 2 32 [.slice none 0 0, .int .i64 0] (.agg #[.slice none 0 0, .int .i64 0]) (by kernel_rfl) rfl ⟨_, Try.underlying117, rfl⟩ rfl rfl false (fun h => by cases h)
theorem ty119 : TyOk Try.prog 119 ⟨.struct [(0, 93), (8, 3), (9, 3)], 10, 80, [.int .i64 0, .int .i64 0, .int .i64 0, .int .i64 0, .int .i64 0, .int .i64 0, .int .i64 0, .bool false, .int .i64 0, .int .i64 0], false⟩ := TyOk.of (P := Try.prog) (t := 119) (.struct [(0, 93), (8, 3), (9, 3)]) 10 80 [.int .i64 0, .int .i64 0, .int .i64 0, .int .i64 0, .int .i64 0, .int .i64 0, .int .i64 0, .bool false, .int .i64 0, .int .i64 0] (.agg #[.int .i64 0, .int .i64 0, .int .i64 0, .int .i64 0, .int .i64 0, .int .i64 0, .int .i64 0, .bool false, .int .i64 0, .int .i64 0]) (by kernel_rfl) rfl ⟨_, Try.underlying119, rfl⟩ rfl rfl false (fun h => by cases h)
theorem ty120 : TyOk Try.prog 120 ⟨.struct [(0, 93), (8, 3), (9, 3)], 10, 80, [.int .i64 0, .int .i64 0, .int .i64 0, .int .i64 0, .int .i64 0, .int .i64 0, .int .i64 0, .bool false, .int .i64 0, .int .i64 0], true⟩ := TyOk.of (P := Try.prog) (t := 120) (.struct [(0, 93), (8, 3), (9, 3)]) 10 80 [.int .i64 0, .int .i64 0, .int .i64 0, .int .i64 0, .int .i64 0, .int .i64 0, .int .i64 0, .bool false, .int .i64 0, .int .i64 0] (.agg #[.int .i64 0, .int .i64 0, .int .i64 0, .int .i64 0, .int .i64 0, .int .i64 0, .int .i64 0, .bool false, .int .i64 0, .int .i64 0]) (by kernel_rfl) rfl ⟨_, Try.underlying120, rfl⟩ rfl rfl true (fun _ => by unfold EqTy; exact ⟨by kernel_rfl, by kernel_rfl, by kernel_rfl⟩)
theorem ty126 : TyOk Try.prog 126 ⟨.ptr 85, 1, 8, [.pointer none], false⟩ := TyOk.of (P := Try.prog) (t := 126) (.ptr 85) 1 8 [.pointer none] (.pointer none) (by kernel_rfl) rfl Try.underlying126 rfl rfl false (fun h => by cases h)
theorem ty127 : TyOk Try.prog 127 ⟨.ptr 88, 1, 8, [.pointer none], false⟩ := TyOk.of (P := Try.prog) (t := 127) (.ptr 88) 1 8 [.pointer none] (.pointer none) (by kernel_rfl) rfl Try.underlying127 rfl rfl false (fun h => by cases h)
theorem ty141 : TyOk Try.prog 141 ⟨.ptr 113, 1, 8, [.pointer none], false⟩ := TyOk.of (P := Try.prog) (t := 141) (.ptr 113) 1 8 [.pointer none] (.pointer none) (by kernel_rfl) rfl Try.underlying141 rfl rfl false (fun h => by cases h)
theorem ty142 : TyOk Try.prog 142 ⟨.ptr 117, 1, 8, [.pointer none], false⟩ := TyOk.of (P := Try.prog) (t := 142) (.ptr 117) 1 8 [.pointer none] (.pointer none) (by kernel_rfl) rfl Try.underlying142 rfl rfl false (fun h => by cases h)
theorem ty149 : TyOk Try.prog 149 ⟨.arr 7 3, 7, 56, [.int .i64 0, .int .i64 0, .int .i64 0, .int .i64 0, .int .i64 0, .int .i64 0, .int .i64 0], true⟩ := TyOk.of (P := Try.prog) (t := 149) (.arr 7 3) 7 56 [.int .i64 0, .int .i64 0, .int .i64 0, .int .i64 0, .int .i64 0, .int .i64 0, .int .i64 0] (.agg #[.int .i64 0, .int .i64 0, .int .i64 0, .int .i64 0, .int .i64 0, .int .i64 0, .int .i64 0]) (by kernel_rfl) rfl Try.underlying149 rfl rfl true (fun _ => by unfold EqTy; exact ⟨by kernel_rfl, by kernel_rfl, by kernel_rfl⟩)
theorem ty150 : TyOk Try.prog 150 ⟨.int .u32, 1, 4, [.int .u32 0], false⟩ := TyOk.of (P := Try.prog) (t := 150) (.int .u32) 1 4 [.int .u32 0] (.int .u32 0) (by kernel_rfl) rfl Try.underlying150 rfl rfl false (fun h => by cases h)
theorem ty151 : TyOk Try.prog 151 ⟨.int .u64, 1, 8, [.int .u64 0], false⟩ := TyOk.of (P := Try.prog) (t := 151) (.int .u64) 1 8 [.int .u64 0] (.int .u64 0) (by kernel_rfl) rfl Try.underlying151 rfl rfl false (fun h => by cases h)
theorem ty159 : TyOk Try.prog 159 ⟨.arr 6 3, 6, 48, [.int .i64 0, .int .i64 0, .int .i64 0, .int .i64 0, .int .i64 0, .int .i64 0], true⟩ := TyOk.of (P := Try.prog) (t := 159) (.arr 6 3) 6 48 [.int .i64 0, .int .i64 0, .int .i64 0, .int .i64 0, .int .i64 0, .int .i64 0] (.agg #[.int .i64 0, .int .i64 0, .int .i64 0, .int .i64 0, .int .i64 0, .int .i64 0]) (by kernel_rfl) rfl Try.underlying159 rfl rfl true (fun _ => by unfold EqTy; exact ⟨by kernel_rfl, by kernel_rfl, by kernel_rfl⟩)
theorem ty161 : TyOk Try.prog 161 ⟨.struct [(0, 17), (1, 17), (2, 17), (3, 9)], 4, 40, [.pointer none, .pointer none, .pointer none, .string ByteArray.empty], false⟩ := TyOk.of (P := Try.prog) (t := 161) (.struct [(0, 17), (1, 17), (2, 17), (3, 9)]) 4 40 [.pointer none, .pointer none, .pointer none, .string ByteArray.empty] (.agg #[.pointer none, .pointer none, .pointer none, .string ByteArray.empty]) (by kernel_rfl) rfl ⟨_, Try.underlying161, rfl⟩ rfl rfl false (fun h => by cases h)
theorem ty162 : TyOk Try.prog 162 ⟨.struct [(0, 17), (1, 17), (2, 17), (3, 9)], 4, 40, [.pointer none, .pointer none, .pointer none, .string ByteArray.empty], false⟩ := TyOk.of (P := Try.prog) (t := 162) (.struct [(0, 17), (1, 17), (2, 17), (3, 9)]) 4 40 [.pointer none, .pointer none, .pointer none, .string ByteArray.empty] (.agg #[.pointer none, .pointer none, .pointer none, .string ByteArray.empty]) (by kernel_rfl) rfl ⟨_, Try.underlying162, rfl⟩ rfl rfl false (fun h => by cases h)
theorem ty166 : TyOk Try.prog 166 ⟨.int .u8, 1, 1, [.int .u8 0], false⟩ := TyOk.of (P := Try.prog) (t := 166) (.int .u8) 1 1 [.int .u8 0] (.int .u8 0) (by kernel_rfl) rfl Try.underlying166 rfl rfl false (fun h => by cases h)
theorem ty167 : TyOk Try.prog 167 ⟨.int .u8, 1, 1, [.int .u8 0], false⟩ := TyOk.of (P := Try.prog) (t := 167) (.int .u8) 1 1 [.int .u8 0] (.int .u8 0) (by kernel_rfl) rfl Try.underlying167 rfl rfl false (fun h => by cases h)
theorem ty169 : TyOk Try.prog 169 ⟨.ptr 5, 1, 8, [.pointer none], false⟩ := TyOk.of (P := Try.prog) (t := 169) (.ptr 5) 1 8 [.pointer none] (.pointer none) (by kernel_rfl) rfl Try.underlying169 rfl rfl false (fun h => by cases h)
theorem ty170 : TyOk Try.prog 170 ⟨.int .i32, 1, 4, [.int .i32 0], false⟩ := TyOk.of (P := Try.prog) (t := 170) (.int .i32) 1 4 [.int .i32 0] (.int .i32 0) (by kernel_rfl) rfl Try.underlying170 rfl rfl false (fun h => by cases h)
theorem ty171 : TyOk Try.prog 171 ⟨.int .i32, 1, 4, [.int .i32 0], false⟩ := TyOk.of (P := Try.prog) (t := 171) (.int .i32) 1 4 [.int .i32 0] (.int .i32 0) (by kernel_rfl) rfl Try.underlying171 rfl rfl false (fun h => by cases h)
def tabL : List (Nat × TyI) := [(2, ⟨.int .i64, 1, 8, [.int .i64 0], false⟩),
  (3, ⟨.int .i64, 1, 8, [.int .i64 0], false⟩),
  (4, ⟨.bool, 1, 1, [.bool false], false⟩),
  (5, ⟨.int .u8, 1, 1, [.int .u8 0], false⟩),
  (6, ⟨.int .u8, 1, 1, [.int .u8 0], false⟩),
  (7, ⟨.struct [(0, 2), (1, 3), (2, 4), (3, 6)], 4, 24, [.int .i64 0, .int .i64 0, .bool false, .int .u8 0], false⟩),
  (8, ⟨.struct [(0, 2), (1, 3), (2, 4), (3, 6)], 4, 24, [.int .i64 0, .int .i64 0, .bool false, .int .u8 0], false⟩),
  (9, ⟨.str, 1, 16, [.string ByteArray.empty], false⟩),
  (10, ⟨.str, 1, 16, [.string ByteArray.empty], false⟩),
  (11, ⟨.str, 1, 16, [.string ByteArray.empty], false⟩),
  (12, ⟨.int .u64, 1, 8, [.int .u64 0], false⟩),
  (13, ⟨.struct [(0, 9), (1, 12)], 2, 24, [.string ByteArray.empty, .int .u64 0], false⟩),
  (14, ⟨.struct [(0, 9), (1, 12)], 2, 24, [.string ByteArray.empty, .int .u64 0], false⟩),
  (15, ⟨.ptr 162, 1, 8, [.pointer none], false⟩),
  (16, ⟨.ptr 165, 1, 8, [.pointer none], false⟩),
  (17, ⟨.ptr 173, 1, 8, [.pointer none], false⟩),
  (18, ⟨.struct [(0, 17)], 1, 8, [.pointer none], false⟩),
  (19, ⟨.struct [(0, 17)], 1, 8, [.pointer none], false⟩),
  (21, ⟨.int .i32, 1, 4, [.int .i32 0], false⟩),
  (22, ⟨.slice 26, 1, 24, [.slice none 0 0], false⟩),
  (23, ⟨.struct [(0, 3), (1, 3), (2, 3), (3, 3)], 4, 32, [.int .i64 0, .int .i64 0, .int .i64 0, .int .i64 0], false⟩),
  (24, ⟨.struct [(0, 3), (1, 3), (2, 3), (3, 3)], 4, 32, [.int .i64 0, .int .i64 0, .int .i64 0, .int .i64 0], true⟩),
  (26, ⟨.slice 63, 1, 24, [.slice none 0 0], false⟩),
  (27, ⟨.slice 29, 1, 24, [.slice none 0 0], false⟩),
  (28, ⟨.struct [(0, 3), (1, 26), (2, 27)], 3, 56, [.int .i64 0, .slice none 0 0, .slice none 0 0], false⟩),
  (29, ⟨.struct [(0, 3), (1, 26), (2, 27)], 3, 56, [.int .i64 0, .slice none 0 0, .slice none 0 0], false⟩),
  (30, ⟨.int .i64, 1, 8, [.int .i64 0], false⟩),
  (33, ⟨.ptr 62, 1, 8, [.pointer none], false⟩),
  (46, ⟨.slice 3, 1, 24, [.slice none 0 0], false⟩),
  (49, ⟨.struct [(0, 33), (1, 3), (2, 3), (3, 3), (4, 3), (5, 3), (6, 3), (7, 3), (8, 3)], 9, 72, [.pointer none, .int .i64 0, .int .i64 0, .int .i64 0, .int .i64 0, .int .i64 0, .int .i64 0, .int .i64 0, .int .i64 0], false⟩),
  (50, ⟨.struct [(0, 33), (1, 3), (2, 3), (3, 3), (4, 3), (5, 3), (6, 3), (7, 3), (8, 3)], 9, 72, [.pointer none, .int .i64 0, .int .i64 0, .int .i64 0, .int .i64 0, .int .i64 0, .int .i64 0, .int .i64 0, .int .i64 0], false⟩),
  (61, ⟨.struct [(0, 22), (1, 3), (2, 3)], 3, 40, [.slice none 0 0, .int .i64 0, .int .i64 0], false⟩),
  (62, ⟨.struct [(0, 22), (1, 3), (2, 3)], 3, 40, [.slice none 0 0, .int .i64 0, .int .i64 0], false⟩),
  (63, ⟨.int .u64, 1, 8, [.int .u64 0], false⟩),
  (65, ⟨.struct [(0, 26), (1, 3)], 2, 32, [.slice none 0 0, .int .i64 0], false⟩),
  (66, ⟨.struct [(0, 26), (1, 3)], 2, 32, [.slice none 0 0, .int .i64 0], false⟩),
  (74, ⟨.struct [(0, 3), (1, 3), (2, 3), (3, 3), (4, 3), (5, 3), (6, 63)], 7, 56, [.int .i64 0, .int .i64 0, .int .i64 0, .int .i64 0, .int .i64 0, .int .i64 0, .int .u64 0], false⟩),
  (75, ⟨.struct [(0, 3), (1, 3), (2, 3), (3, 3), (4, 3), (5, 3), (6, 63)], 7, 56, [.int .i64 0, .int .i64 0, .int .i64 0, .int .i64 0, .int .i64 0, .int .i64 0, .int .u64 0], true⟩),
  (84, ⟨.struct [(0, 3)], 1, 8, [.int .i64 0], false⟩),
  (85, ⟨.struct [(0, 3)], 1, 8, [.int .i64 0], true⟩),
  (87, ⟨.struct [(0, 3)], 1, 8, [.int .i64 0], false⟩),
  (88, ⟨.struct [(0, 3)], 1, 8, [.int .i64 0], true⟩),
  (91, ⟨.ptr 66, 1, 8, [.pointer none], false⟩),
  (92, ⟨.struct [(0, 3), (1, 3), (2, 3), (3, 3), (4, 3), (5, 3), (6, 3), (7, 4)], 8, 64, [.int .i64 0, .int .i64 0, .int .i64 0, .int .i64 0, .int .i64 0, .int .i64 0, .int .i64 0, .bool false], false⟩),
  (93, ⟨.struct [(0, 3), (1, 3), (2, 3), (3, 3), (4, 3), (5, 3), (6, 3), (7, 4)], 8, 64, [.int .i64 0, .int .i64 0, .int .i64 0, .int .i64 0, .int .i64 0, .int .i64 0, .int .i64 0, .bool false], true⟩),
  (104, ⟨.struct [(0, 3), (1, 3), (2, 3), (3, 3), (4, 3), (5, 3), (6, 3), (7, 4)], 8, 64, [.int .i64 0, .int .i64 0, .int .i64 0, .int .i64 0, .int .i64 0, .int .i64 0, .int .i64 0, .bool false], true⟩),
  (105, ⟨.struct [(0, 104), (8, 3), (9, 3)], 10, 80, [.int .i64 0, .int .i64 0, .int .i64 0, .int .i64 0, .int .i64 0, .int .i64 0, .int .i64 0, .bool false, .int .i64 0, .int .i64 0], false⟩),
  (106, ⟨.struct [(0, 104), (8, 3), (9, 3)], 10, 80, [.int .i64 0, .int .i64 0, .int .i64 0, .int .i64 0, .int .i64 0, .int .i64 0, .int .i64 0, .bool false, .int .i64 0, .int .i64 0], true⟩),
  (112, ⟨.struct [(0, 3)], 1, 8, [.int .i64 0], false⟩),
  (113, ⟨.struct [(0, 3)], 1, 8, [.int .i64 0], true⟩),
  (116, ⟨.struct [(0, 26), (1, 3)], 2, 32, [.slice none 0 0, .int .i64 0], false⟩),
  (117, ⟨.struct [(0, 26), (1, 3)], 2, 32, [.slice none 0 0, .int .i64 0], false⟩),
  (119, ⟨.struct [(0, 93), (8, 3), (9, 3)], 10, 80, [.int .i64 0, .int .i64 0, .int .i64 0, .int .i64 0, .int .i64 0, .int .i64 0, .int .i64 0, .bool false, .int .i64 0, .int .i64 0], false⟩),
  (120, ⟨.struct [(0, 93), (8, 3), (9, 3)], 10, 80, [.int .i64 0, .int .i64 0, .int .i64 0, .int .i64 0, .int .i64 0, .int .i64 0, .int .i64 0, .bool false, .int .i64 0, .int .i64 0], true⟩),
  (126, ⟨.ptr 85, 1, 8, [.pointer none], false⟩),
  (127, ⟨.ptr 88, 1, 8, [.pointer none], false⟩),
  (141, ⟨.ptr 113, 1, 8, [.pointer none], false⟩),
  (142, ⟨.ptr 117, 1, 8, [.pointer none], false⟩),
  (149, ⟨.arr 7 3, 7, 56, [.int .i64 0, .int .i64 0, .int .i64 0, .int .i64 0, .int .i64 0, .int .i64 0, .int .i64 0], true⟩),
  (150, ⟨.int .u32, 1, 4, [.int .u32 0], false⟩),
  (151, ⟨.int .u64, 1, 8, [.int .u64 0], false⟩),
  (159, ⟨.arr 6 3, 6, 48, [.int .i64 0, .int .i64 0, .int .i64 0, .int .i64 0, .int .i64 0, .int .i64 0], true⟩),
  (161, ⟨.struct [(0, 17), (1, 17), (2, 17), (3, 9)], 4, 40, [.pointer none, .pointer none, .pointer none, .string ByteArray.empty], false⟩),
  (162, ⟨.struct [(0, 17), (1, 17), (2, 17), (3, 9)], 4, 40, [.pointer none, .pointer none, .pointer none, .string ByteArray.empty], false⟩),
  (166, ⟨.int .u8, 1, 1, [.int .u8 0], false⟩),
  (167, ⟨.int .u8, 1, 1, [.int .u8 0], false⟩),
  (169, ⟨.ptr 5, 1, 8, [.pointer none], false⟩),
  (170, ⟨.int .i32, 1, 4, [.int .i32 0], false⟩),
  (171, ⟨.int .i32, 1, 4, [.int .i32 0], false⟩)]
def tab : Tab := fun t => tabL.lookup t
theorem tab_ok : TabOk Try.prog tab := fun t i h => by
  have hm := lookup_mem _ h
  unfold tabL at hm
  simp only [List.mem_cons, Prod.mk.injEq, List.not_mem_nil, or_false] at hm
  rcases hm with ⟨rfl, rfl⟩ | ⟨rfl, rfl⟩ | ⟨rfl, rfl⟩ | ⟨rfl, rfl⟩ | ⟨rfl, rfl⟩ | ⟨rfl, rfl⟩ | ⟨rfl, rfl⟩ | ⟨rfl, rfl⟩ | ⟨rfl, rfl⟩ | ⟨rfl, rfl⟩ | ⟨rfl, rfl⟩ | ⟨rfl, rfl⟩ | ⟨rfl, rfl⟩ | ⟨rfl, rfl⟩ | ⟨rfl, rfl⟩ | ⟨rfl, rfl⟩ | ⟨rfl, rfl⟩ | ⟨rfl, rfl⟩ | ⟨rfl, rfl⟩ | ⟨rfl, rfl⟩ | ⟨rfl, rfl⟩ | ⟨rfl, rfl⟩ | ⟨rfl, rfl⟩ | ⟨rfl, rfl⟩ | ⟨rfl, rfl⟩ | ⟨rfl, rfl⟩ | ⟨rfl, rfl⟩ | ⟨rfl, rfl⟩ | ⟨rfl, rfl⟩ | ⟨rfl, rfl⟩ | ⟨rfl, rfl⟩ | ⟨rfl, rfl⟩ | ⟨rfl, rfl⟩ | ⟨rfl, rfl⟩ | ⟨rfl, rfl⟩ | ⟨rfl, rfl⟩ | ⟨rfl, rfl⟩ | ⟨rfl, rfl⟩ | ⟨rfl, rfl⟩ | ⟨rfl, rfl⟩ | ⟨rfl, rfl⟩ | ⟨rfl, rfl⟩ | ⟨rfl, rfl⟩ | ⟨rfl, rfl⟩ | ⟨rfl, rfl⟩ | ⟨rfl, rfl⟩ | ⟨rfl, rfl⟩ | ⟨rfl, rfl⟩ | ⟨rfl, rfl⟩ | ⟨rfl, rfl⟩ | ⟨rfl, rfl⟩ | ⟨rfl, rfl⟩ | ⟨rfl, rfl⟩ | ⟨rfl, rfl⟩ | ⟨rfl, rfl⟩ | ⟨rfl, rfl⟩ | ⟨rfl, rfl⟩ | ⟨rfl, rfl⟩ | ⟨rfl, rfl⟩ | ⟨rfl, rfl⟩ | ⟨rfl, rfl⟩ | ⟨rfl, rfl⟩ | ⟨rfl, rfl⟩ | ⟨rfl, rfl⟩ | ⟨rfl, rfl⟩ | ⟨rfl, rfl⟩ | ⟨rfl, rfl⟩ | ⟨rfl, rfl⟩ | ⟨rfl, rfl⟩
  · exact ty2
  · exact ty3
  · exact ty4
  · exact ty5
  · exact ty6
  · exact ty7
  · exact ty8
  · exact ty9
  · exact ty10
  · exact ty11
  · exact ty12
  · exact ty13
  · exact ty14
  · exact ty15
  · exact ty16
  · exact ty17
  · exact ty18
  · exact ty19
  · exact ty21
  · exact ty22
  · exact ty23
  · exact ty24
  · exact ty26
  · exact ty27
  · exact ty28
  · exact ty29
  · exact ty30
  · exact ty33
  · exact ty46
  · exact ty49
  · exact ty50
  · exact ty61
  · exact ty62
  · exact ty63
  · exact ty65
  · exact ty66
  · exact ty74
  · exact ty75
  · exact ty84
  · exact ty85
  · exact ty87
  · exact ty88
  · exact ty91
  · exact ty92
  · exact ty93
  · exact ty104
  · exact ty105
  · exact ty106
  · exact ty112
  · exact ty113
  · exact ty116
  · exact ty117
  · exact ty119
  · exact ty120
  · exact ty126
  · exact ty127
  · exact ty141
  · exact ty142
  · exact ty149
  · exact ty150
  · exact ty151
  · exact ty159
  · exact ty161
  · exact ty162
  · exact ty166
  · exact ty167
  · exact ty169
  · exact ty170
  · exact ty171
theorem tab2 : tab 2 = some ⟨.int .i64, 1, 8, [.int .i64 0], false⟩ := rfl
theorem tab3 : tab 3 = some ⟨.int .i64, 1, 8, [.int .i64 0], false⟩ := rfl
theorem tab4 : tab 4 = some ⟨.bool, 1, 1, [.bool false], false⟩ := rfl
theorem tab5 : tab 5 = some ⟨.int .u8, 1, 1, [.int .u8 0], false⟩ := rfl
theorem tab6 : tab 6 = some ⟨.int .u8, 1, 1, [.int .u8 0], false⟩ := rfl
theorem tab7 : tab 7 = some ⟨.struct [(0, 2), (1, 3), (2, 4), (3, 6)], 4, 24, [.int .i64 0, .int .i64 0, .bool false, .int .u8 0], false⟩ := rfl
theorem tab8 : tab 8 = some ⟨.struct [(0, 2), (1, 3), (2, 4), (3, 6)], 4, 24, [.int .i64 0, .int .i64 0, .bool false, .int .u8 0], false⟩ := rfl
theorem tab9 : tab 9 = some ⟨.str, 1, 16, [.string ByteArray.empty], false⟩ := rfl
theorem tab10 : tab 10 = some ⟨.str, 1, 16, [.string ByteArray.empty], false⟩ := rfl
theorem tab11 : tab 11 = some ⟨.str, 1, 16, [.string ByteArray.empty], false⟩ := rfl
theorem tab12 : tab 12 = some ⟨.int .u64, 1, 8, [.int .u64 0], false⟩ := rfl
theorem tab13 : tab 13 = some ⟨.struct [(0, 9), (1, 12)], 2, 24, [.string ByteArray.empty, .int .u64 0], false⟩ := rfl
theorem tab14 : tab 14 = some ⟨.struct [(0, 9), (1, 12)], 2, 24, [.string ByteArray.empty, .int .u64 0], false⟩ := rfl
theorem tab15 : tab 15 = some ⟨.ptr 162, 1, 8, [.pointer none], false⟩ := rfl
theorem tab16 : tab 16 = some ⟨.ptr 165, 1, 8, [.pointer none], false⟩ := rfl
theorem tab17 : tab 17 = some ⟨.ptr 173, 1, 8, [.pointer none], false⟩ := rfl
theorem tab18 : tab 18 = some ⟨.struct [(0, 17)], 1, 8, [.pointer none], false⟩ := rfl
theorem tab19 : tab 19 = some ⟨.struct [(0, 17)], 1, 8, [.pointer none], false⟩ := rfl
theorem tab21 : tab 21 = some ⟨.int .i32, 1, 4, [.int .i32 0], false⟩ := rfl
theorem tab22 : tab 22 = some ⟨.slice 26, 1, 24, [.slice none 0 0], false⟩ := rfl
theorem tab23 : tab 23 = some ⟨.struct [(0, 3), (1, 3), (2, 3), (3, 3)], 4, 32, [.int .i64 0, .int .i64 0, .int .i64 0, .int .i64 0], false⟩ := rfl
theorem tab24 : tab 24 = some ⟨.struct [(0, 3), (1, 3), (2, 3), (3, 3)], 4, 32, [.int .i64 0, .int .i64 0, .int .i64 0, .int .i64 0], true⟩ := rfl
theorem tab26 : tab 26 = some ⟨.slice 63, 1, 24, [.slice none 0 0], false⟩ := rfl
theorem tab27 : tab 27 = some ⟨.slice 29, 1, 24, [.slice none 0 0], false⟩ := rfl
theorem tab28 : tab 28 = some ⟨.struct [(0, 3), (1, 26), (2, 27)], 3, 56, [.int .i64 0, .slice none 0 0, .slice none 0 0], false⟩ := rfl
theorem tab29 : tab 29 = some ⟨.struct [(0, 3), (1, 26), (2, 27)], 3, 56, [.int .i64 0, .slice none 0 0, .slice none 0 0], false⟩ := rfl
theorem tab30 : tab 30 = some ⟨.int .i64, 1, 8, [.int .i64 0], false⟩ := rfl
theorem tab33 : tab 33 = some ⟨.ptr 62, 1, 8, [.pointer none], false⟩ := rfl
theorem tab46 : tab 46 = some ⟨.slice 3, 1, 24, [.slice none 0 0], false⟩ := rfl
theorem tab49 : tab 49 = some ⟨.struct [(0, 33), (1, 3), (2, 3), (3, 3), (4, 3), (5, 3), (6, 3), (7, 3), (8, 3)], 9, 72, [.pointer none, .int .i64 0, .int .i64 0, .int .i64 0, .int .i64 0, .int .i64 0, .int .i64 0, .int .i64 0, .int .i64 0], false⟩ := rfl
theorem tab50 : tab 50 = some ⟨.struct [(0, 33), (1, 3), (2, 3), (3, 3), (4, 3), (5, 3), (6, 3), (7, 3), (8, 3)], 9, 72, [.pointer none, .int .i64 0, .int .i64 0, .int .i64 0, .int .i64 0, .int .i64 0, .int .i64 0, .int .i64 0, .int .i64 0], false⟩ := rfl
theorem tab61 : tab 61 = some ⟨.struct [(0, 22), (1, 3), (2, 3)], 3, 40, [.slice none 0 0, .int .i64 0, .int .i64 0], false⟩ := rfl
theorem tab62 : tab 62 = some ⟨.struct [(0, 22), (1, 3), (2, 3)], 3, 40, [.slice none 0 0, .int .i64 0, .int .i64 0], false⟩ := rfl
theorem tab63 : tab 63 = some ⟨.int .u64, 1, 8, [.int .u64 0], false⟩ := rfl
theorem tab65 : tab 65 = some ⟨.struct [(0, 26), (1, 3)], 2, 32, [.slice none 0 0, .int .i64 0], false⟩ := rfl
theorem tab66 : tab 66 = some ⟨.struct [(0, 26), (1, 3)], 2, 32, [.slice none 0 0, .int .i64 0], false⟩ := rfl
theorem tab74 : tab 74 = some ⟨.struct [(0, 3), (1, 3), (2, 3), (3, 3), (4, 3), (5, 3), (6, 63)], 7, 56, [.int .i64 0, .int .i64 0, .int .i64 0, .int .i64 0, .int .i64 0, .int .i64 0, .int .u64 0], false⟩ := rfl
theorem tab75 : tab 75 = some ⟨.struct [(0, 3), (1, 3), (2, 3), (3, 3), (4, 3), (5, 3), (6, 63)], 7, 56, [.int .i64 0, .int .i64 0, .int .i64 0, .int .i64 0, .int .i64 0, .int .i64 0, .int .u64 0], true⟩ := rfl
theorem tab84 : tab 84 = some ⟨.struct [(0, 3)], 1, 8, [.int .i64 0], false⟩ := rfl
theorem tab85 : tab 85 = some ⟨.struct [(0, 3)], 1, 8, [.int .i64 0], true⟩ := rfl
theorem tab87 : tab 87 = some ⟨.struct [(0, 3)], 1, 8, [.int .i64 0], false⟩ := rfl
theorem tab88 : tab 88 = some ⟨.struct [(0, 3)], 1, 8, [.int .i64 0], true⟩ := rfl
theorem tab91 : tab 91 = some ⟨.ptr 66, 1, 8, [.pointer none], false⟩ := rfl
theorem tab92 : tab 92 = some ⟨.struct [(0, 3), (1, 3), (2, 3), (3, 3), (4, 3), (5, 3), (6, 3), (7, 4)], 8, 64, [.int .i64 0, .int .i64 0, .int .i64 0, .int .i64 0, .int .i64 0, .int .i64 0, .int .i64 0, .bool false], false⟩ := rfl
theorem tab93 : tab 93 = some ⟨.struct [(0, 3), (1, 3), (2, 3), (3, 3), (4, 3), (5, 3), (6, 3), (7, 4)], 8, 64, [.int .i64 0, .int .i64 0, .int .i64 0, .int .i64 0, .int .i64 0, .int .i64 0, .int .i64 0, .bool false], true⟩ := rfl
theorem tab104 : tab 104 = some ⟨.struct [(0, 3), (1, 3), (2, 3), (3, 3), (4, 3), (5, 3), (6, 3), (7, 4)], 8, 64, [.int .i64 0, .int .i64 0, .int .i64 0, .int .i64 0, .int .i64 0, .int .i64 0, .int .i64 0, .bool false], true⟩ := rfl
theorem tab105 : tab 105 = some ⟨.struct [(0, 104), (8, 3), (9, 3)], 10, 80, [.int .i64 0, .int .i64 0, .int .i64 0, .int .i64 0, .int .i64 0, .int .i64 0, .int .i64 0, .bool false, .int .i64 0, .int .i64 0], false⟩ := rfl
theorem tab106 : tab 106 = some ⟨.struct [(0, 104), (8, 3), (9, 3)], 10, 80, [.int .i64 0, .int .i64 0, .int .i64 0, .int .i64 0, .int .i64 0, .int .i64 0, .int .i64 0, .bool false, .int .i64 0, .int .i64 0], true⟩ := rfl
theorem tab112 : tab 112 = some ⟨.struct [(0, 3)], 1, 8, [.int .i64 0], false⟩ := rfl
theorem tab113 : tab 113 = some ⟨.struct [(0, 3)], 1, 8, [.int .i64 0], true⟩ := rfl
theorem tab116 : tab 116 = some ⟨.struct [(0, 26), (1, 3)], 2, 32, [.slice none 0 0, .int .i64 0], false⟩ := rfl
theorem tab117 : tab 117 = some ⟨.struct [(0, 26), (1, 3)], 2, 32, [.slice none 0 0, .int .i64 0], false⟩ := rfl
theorem tab119 : tab 119 = some ⟨.struct [(0, 93), (8, 3), (9, 3)], 10, 80, [.int .i64 0, .int .i64 0, .int .i64 0, .int .i64 0, .int .i64 0, .int .i64 0, .int .i64 0, .bool false, .int .i64 0, .int .i64 0], false⟩ := rfl
theorem tab120 : tab 120 = some ⟨.struct [(0, 93), (8, 3), (9, 3)], 10, 80, [.int .i64 0, .int .i64 0, .int .i64 0, .int .i64 0, .int .i64 0, .int .i64 0, .int .i64 0, .bool false, .int .i64 0, .int .i64 0], true⟩ := rfl
theorem tab126 : tab 126 = some ⟨.ptr 85, 1, 8, [.pointer none], false⟩ := rfl
theorem tab127 : tab 127 = some ⟨.ptr 88, 1, 8, [.pointer none], false⟩ := rfl
theorem tab141 : tab 141 = some ⟨.ptr 113, 1, 8, [.pointer none], false⟩ := rfl
theorem tab142 : tab 142 = some ⟨.ptr 117, 1, 8, [.pointer none], false⟩ := rfl
theorem tab149 : tab 149 = some ⟨.arr 7 3, 7, 56, [.int .i64 0, .int .i64 0, .int .i64 0, .int .i64 0, .int .i64 0, .int .i64 0, .int .i64 0], true⟩ := rfl
theorem tab150 : tab 150 = some ⟨.int .u32, 1, 4, [.int .u32 0], false⟩ := rfl
theorem tab151 : tab 151 = some ⟨.int .u64, 1, 8, [.int .u64 0], false⟩ := rfl
theorem tab159 : tab 159 = some ⟨.arr 6 3, 6, 48, [.int .i64 0, .int .i64 0, .int .i64 0, .int .i64 0, .int .i64 0, .int .i64 0], true⟩ := rfl
theorem tab161 : tab 161 = some ⟨.struct [(0, 17), (1, 17), (2, 17), (3, 9)], 4, 40, [.pointer none, .pointer none, .pointer none, .string ByteArray.empty], false⟩ := rfl
theorem tab162 : tab 162 = some ⟨.struct [(0, 17), (1, 17), (2, 17), (3, 9)], 4, 40, [.pointer none, .pointer none, .pointer none, .string ByteArray.empty], false⟩ := rfl
theorem tab166 : tab 166 = some ⟨.int .u8, 1, 1, [.int .u8 0], false⟩ := rfl
theorem tab167 : tab 167 = some ⟨.int .u8, 1, 1, [.int .u8 0], false⟩ := rfl
theorem tab169 : tab 169 = some ⟨.ptr 5, 1, 8, [.pointer none], false⟩ := rfl
theorem tab170 : tab 170 = some ⟨.int .i32, 1, 4, [.int .i32 0], false⟩ := rfl
theorem tab171 : tab 171 = some ⟨.int .i32, 1, 4, [.int .i32 0], false⟩ := rfl
theorem tkind2 : tkind tab 2 = some (.int .i64) := rfl
theorem tkind3 : tkind tab 3 = some (.int .i64) := rfl
theorem tkind4 : tkind tab 4 = some (.bool) := rfl
theorem tkind5 : tkind tab 5 = some (.int .u8) := rfl
theorem tkind6 : tkind tab 6 = some (.int .u8) := rfl
theorem tkind7 : tkind tab 7 = some (.struct [(0, 2), (1, 3), (2, 4), (3, 6)]) := rfl
theorem tkind8 : tkind tab 8 = some (.struct [(0, 2), (1, 3), (2, 4), (3, 6)]) := rfl
theorem tkind9 : tkind tab 9 = some (.str) := rfl
theorem tkind10 : tkind tab 10 = some (.str) := rfl
theorem tkind11 : tkind tab 11 = some (.str) := rfl
theorem tkind12 : tkind tab 12 = some (.int .u64) := rfl
theorem tkind13 : tkind tab 13 = some (.struct [(0, 9), (1, 12)]) := rfl
theorem tkind14 : tkind tab 14 = some (.struct [(0, 9), (1, 12)]) := rfl
theorem tkind15 : tkind tab 15 = some (.ptr 162) := rfl
theorem tkind16 : tkind tab 16 = some (.ptr 165) := rfl
theorem tkind17 : tkind tab 17 = some (.ptr 173) := rfl
theorem tkind18 : tkind tab 18 = some (.struct [(0, 17)]) := rfl
theorem tkind19 : tkind tab 19 = some (.struct [(0, 17)]) := rfl
theorem tkind21 : tkind tab 21 = some (.int .i32) := rfl
theorem tkind22 : tkind tab 22 = some (.slice 26) := rfl
theorem tkind23 : tkind tab 23 = some (.struct [(0, 3), (1, 3), (2, 3), (3, 3)]) := rfl
theorem tkind24 : tkind tab 24 = some (.struct [(0, 3), (1, 3), (2, 3), (3, 3)]) := rfl
theorem tkind26 : tkind tab 26 = some (.slice 63) := rfl
theorem tkind27 : tkind tab 27 = some (.slice 29) := rfl
theorem tkind28 : tkind tab 28 = some (.struct [(0, 3), (1, 26), (2, 27)]) := rfl
theorem tkind29 : tkind tab 29 = some (.struct [(0, 3), (1, 26), (2, 27)]) := rfl
theorem tkind30 : tkind tab 30 = some (.int .i64) := rfl
theorem tkind33 : tkind tab 33 = some (.ptr 62) := rfl
theorem tkind46 : tkind tab 46 = some (.slice 3) := rfl
theorem tkind49 : tkind tab 49 = some (.struct [(0, 33), (1, 3), (2, 3), (3, 3), (4, 3), (5, 3), (6, 3), (7, 3), (8, 3)]) := rfl
theorem tkind50 : tkind tab 50 = some (.struct [(0, 33), (1, 3), (2, 3), (3, 3), (4, 3), (5, 3), (6, 3), (7, 3), (8, 3)]) := rfl
theorem tkind61 : tkind tab 61 = some (.struct [(0, 22), (1, 3), (2, 3)]) := rfl
theorem tkind62 : tkind tab 62 = some (.struct [(0, 22), (1, 3), (2, 3)]) := rfl
theorem tkind63 : tkind tab 63 = some (.int .u64) := rfl
theorem tkind65 : tkind tab 65 = some (.struct [(0, 26), (1, 3)]) := rfl
theorem tkind66 : tkind tab 66 = some (.struct [(0, 26), (1, 3)]) := rfl
theorem tkind74 : tkind tab 74 = some (.struct [(0, 3), (1, 3), (2, 3), (3, 3), (4, 3), (5, 3), (6, 63)]) := rfl
theorem tkind75 : tkind tab 75 = some (.struct [(0, 3), (1, 3), (2, 3), (3, 3), (4, 3), (5, 3), (6, 63)]) := rfl
theorem tkind84 : tkind tab 84 = some (.struct [(0, 3)]) := rfl
theorem tkind85 : tkind tab 85 = some (.struct [(0, 3)]) := rfl
theorem tkind87 : tkind tab 87 = some (.struct [(0, 3)]) := rfl
theorem tkind88 : tkind tab 88 = some (.struct [(0, 3)]) := rfl
theorem tkind91 : tkind tab 91 = some (.ptr 66) := rfl
theorem tkind92 : tkind tab 92 = some (.struct [(0, 3), (1, 3), (2, 3), (3, 3), (4, 3), (5, 3), (6, 3), (7, 4)]) := rfl
theorem tkind93 : tkind tab 93 = some (.struct [(0, 3), (1, 3), (2, 3), (3, 3), (4, 3), (5, 3), (6, 3), (7, 4)]) := rfl
theorem tkind104 : tkind tab 104 = some (.struct [(0, 3), (1, 3), (2, 3), (3, 3), (4, 3), (5, 3), (6, 3), (7, 4)]) := rfl
theorem tkind105 : tkind tab 105 = some (.struct [(0, 104), (8, 3), (9, 3)]) := rfl
theorem tkind106 : tkind tab 106 = some (.struct [(0, 104), (8, 3), (9, 3)]) := rfl
theorem tkind112 : tkind tab 112 = some (.struct [(0, 3)]) := rfl
theorem tkind113 : tkind tab 113 = some (.struct [(0, 3)]) := rfl
theorem tkind116 : tkind tab 116 = some (.struct [(0, 26), (1, 3)]) := rfl
theorem tkind117 : tkind tab 117 = some (.struct [(0, 26), (1, 3)]) := rfl
theorem tkind119 : tkind tab 119 = some (.struct [(0, 93), (8, 3), (9, 3)]) := rfl
theorem tkind120 : tkind tab 120 = some (.struct [(0, 93), (8, 3), (9, 3)]) := rfl
theorem tkind126 : tkind tab 126 = some (.ptr 85) := rfl
theorem tkind127 : tkind tab 127 = some (.ptr 88) := rfl
theorem tkind141 : tkind tab 141 = some (.ptr 113) := rfl
theorem tkind142 : tkind tab 142 = some (.ptr 117) := rfl
theorem tkind149 : tkind tab 149 = some (.arr 7 3) := rfl
theorem tkind150 : tkind tab 150 = some (.int .u32) := rfl
theorem tkind151 : tkind tab 151 = some (.int .u64) := rfl
theorem tkind159 : tkind tab 159 = some (.arr 6 3) := rfl
theorem tkind161 : tkind tab 161 = some (.struct [(0, 17), (1, 17), (2, 17), (3, 9)]) := rfl
theorem tkind162 : tkind tab 162 = some (.struct [(0, 17), (1, 17), (2, 17), (3, 9)]) := rfl
theorem tkind166 : tkind tab 166 = some (.int .u8) := rfl
theorem tkind167 : tkind tab 167 = some (.int .u8) := rfl
theorem tkind169 : tkind tab 169 = some (.ptr 5) := rfl
theorem tkind170 : tkind tab 170 = some (.int .i32) := rfl
theorem tkind171 : tkind tab 171 = some (.int .i32) := rfl
theorem dok : DOk Try.prog (gquiet Try.prog tab) := gquiet_ok tab_ok (by kernel_rfl)
end Go.Proofs.Ytpfbdlcnfekdkaa
