/- The types of this seat's program, as its dump has them, in the ghost memory's words; no condition. -/
import Derived.Test.YtgffgbdnbjbmoaaRows
import Derived.Test.YtgffgbdnbjbmoaaG16
namespace Go.Proofs.Ytgffgbdnbjbmoaa
open Go.RowKit
set_option linter.unusedVariables false
set_option linter.unusedSimpArgs false
theorem TyOk.of {P : Program} {t : TypeId} (k : TK) (size bytes : Nat) (zero : List Value) (z : Value) (h : (P.info? t).map (fun i => (i.zero, i.size, i.bytes)) = some (some z, size, bytes)) (hz : z.cells.toList = zero) (hu : k.ok P t) (hl : zero.length = size) (h1 : zero.all Value.oneCell' = true) (eq : Bool) (he : eq = true → EqTy P t) : TyOk P t ⟨k, size, bytes, zero, eq⟩ := by
  refine ⟨?_, hu, hl, fun v hv => List.all_eq_true.1 h1 v hv, he⟩
  cases hi : P.info? t with
  | none => rw [hi] at h; cases h
  | some i =>
    rw [hi] at h
    simp only [Option.map_some, Option.some.injEq, Prod.mk.injEq] at h
    exact ⟨i, z, rfl, h.2.1, h.2.2, h.1, hz⟩
theorem lookup_mem {α : Type} {t : Nat} {i : α} : ∀ (l : List (Nat × α)), l.lookup t = some i → (t, i) ∈ l
  | [], h => by simp at h
  | (a, b) :: l, h => by
    rw [List.lookup_cons] at h
    split at h
    · rename_i he
      injection h with h
      have : t = a := by simpa using he
      subst h this
      exact .head _
    · exact .tail _ (lookup_mem l h)
theorem ty2 : TyOk Try.prog 2 ⟨.int .i64, 1, 8, [.int .i64 0], false⟩ := TyOk.of (P := Try.prog) (t := 2) (.int .i64) 1 8 [.int .i64 0] (.int .i64 0) (by kernel_rfl) rfl Try.underlying2 rfl rfl false (fun h => by cases h)
theorem ty3 : TyOk Try.prog 3 ⟨.int .i64, 1, 8, [.int .i64 0], false⟩ := TyOk.of (P := Try.prog) (t := 3) (.int .i64) 1 8 [.int .i64 0] (.int .i64 0) (by kernel_rfl) rfl Try.underlying3 rfl rfl false (fun h => by cases h)
theorem ty4 : TyOk Try.prog 4 ⟨.bool, 1, 1, [.bool false], false⟩ := TyOk.of (P := Try.prog) (t := 4) (.bool) 1 1 [.bool false] (.bool false) (by kernel_rfl) rfl Try.underlying4 rfl rfl false (fun h => by cases h)
theorem ty5 : TyOk Try.prog 5 ⟨.int .u8, 1, 1, [.int .u8 0], false⟩ := TyOk.of (P := Try.prog) (t := 5) (.int .u8) 1 1 [.int .u8 0] (.int .u8 0) (by kernel_rfl) rfl Try.underlying5 rfl rfl false (fun h => by cases h)
theorem ty6 : TyOk Try.prog 6 ⟨.int .u8, 1, 1, [.int .u8 0], false⟩ := TyOk.of (P := Try.prog) (t := 6) (.int .u8) 1 1 [.int .u8 0] (.int .u8 0) (by kernel_rfl) rfl Try.underlying6 rfl rfl false (fun h => by cases h)
theorem ty7 : TyOk Try.prog 7 ⟨.struct [(0, 2), (1, 3), (2, 4), (3, 6)], 4, 24, [.int .i64 0, .int .i64 0, .bool false, .int .u8 0], false⟩ := TyOk.of (P := Try.prog) (t := 7) (.struct [(0, 2), (1, 3), (2, 4), (3, 6)]) 4 24 [.int .i64 0, .int .i64 0, .bool false, .int .u8 0] (.agg #[.int .i64 0, .int .i64 0, .bool false, .int .u8 0]) (by kernel_rfl) rfl ⟨_, Try.underlying7, rfl⟩ rfl rfl false (fun h => by cases h)
theorem ty8 : TyOk Try.prog 8 ⟨.struct [(0, 2), (1, 3), (2, 4), (3, 6)], 4, 24, [.int .i64 0, .int .i64 0, .bool false, .int .u8 0], false⟩ := TyOk.of (P := Try.prog) (t := 8) (.struct [(0, 2), (1, 3), (2, 4), (3, 6)]) 4 24 [.int .i64 0, .int .i64 0, .bool false, .int .u8 0] (.agg #[.int .i64 0, .int .i64 0, .bool false, .int .u8 0]) (by kernel_rfl) rfl ⟨_, Try.underlying8, rfl⟩ rfl rfl false (fun h => by cases h)
theorem ty9 : TyOk Try.prog 9 ⟨.str, 1, 16, [.string ByteArray.empty], false⟩ := TyOk.of (P := Try.prog) (t := 9) (.str) 1 16 [.string ByteArray.empty] (.string ByteArray.empty) (by kernel_rfl) rfl Try.underlying9 rfl rfl false (fun h => by cases h)
theorem ty10 : TyOk Try.prog 10 ⟨.str, 1, 16, [.string ByteArray.empty], false⟩ := TyOk.of (P := Try.prog) (t := 10) (.str) 1 16 [.string ByteArray.empty] (.string ByteArray.empty) (by kernel_rfl) rfl Try.underlying10 rfl rfl false (fun h => by cases h)
theorem ty11 : TyOk Try.prog 11 ⟨.str, 1, 16, [.string ByteArray.empty], false⟩ := TyOk.of (P := Try.prog) (t := 11) (.str) 1 16 [.string ByteArray.empty] (.string ByteArray.empty) (by kernel_rfl) rfl Try.underlying11 rfl rfl false (fun h => by cases h)
theorem ty12 : TyOk Try.prog 12 ⟨.int .u64, 1, 8, [.int .u64 0], false⟩ := TyOk.of (P := Try.prog) (t := 12) (.int .u64) 1 8 [.int .u64 0] (.int .u64 0) (by kernel_rfl) rfl Try.underlying12 rfl rfl false (fun h => by cases h)
theorem ty13 : TyOk Try.prog 13 ⟨.struct [(0, 9), (1, 12)], 2, 24, [.string ByteArray.empty, .int .u64 0], false⟩ := TyOk.of (P := Try.prog) (t := 13) (.struct [(0, 9), (1, 12)]) 2 24 [.string ByteArray.empty, .int .u64 0] (.agg #[.string ByteArray.empty, .int .u64 0]) (by kernel_rfl) rfl ⟨_, Try.underlying13, rfl⟩ rfl rfl false (fun h => by cases h)
theorem ty14 : TyOk Try.prog 14 ⟨.struct [(0, 9), (1, 12)], 2, 24, [.string ByteArray.empty, .int .u64 0], false⟩ := TyOk.of (P := Try.prog) (t := 14) (.struct [(0, 9), (1, 12)]) 2 24 [.string ByteArray.empty, .int .u64 0] (.agg #[.string ByteArray.empty, .int .u64 0]) (by kernel_rfl) rfl ⟨_, Try.underlying14, rfl⟩ rfl rfl false (fun h => by cases h)
theorem ty15 : TyOk Try.prog 15 ⟨.ptr 141, 1, 8, [.pointer none], false⟩ := TyOk.of (P := Try.prog) (t := 15) (.ptr 141) 1 8 [.pointer none] (.pointer none) (by kernel_rfl) rfl Try.underlying15 rfl rfl false (fun h => by cases h)
theorem ty16 : TyOk Try.prog 16 ⟨.ptr 144, 1, 8, [.pointer none], false⟩ := TyOk.of (P := Try.prog) (t := 16) (.ptr 144) 1 8 [.pointer none] (.pointer none) (by kernel_rfl) rfl Try.underlying16 rfl rfl false (fun h => by cases h)
theorem ty17 : TyOk Try.prog 17 ⟨.ptr 152, 1, 8, [.pointer none], false⟩ := TyOk.of (P := Try.prog) (t := 17) (.ptr 152) 1 8 [.pointer none] (.pointer none) (by kernel_rfl) rfl Try.underlying17 rfl rfl false (fun h => by cases h)
theorem ty18 : TyOk Try.prog 18 ⟨.struct [(0, 17)], 1, 8, [.pointer none], false⟩ := TyOk.of (P := Try.prog) (t := 18) (.struct [(0, 17)]) 1 8 [.pointer none] (.agg #[.pointer none]) (by kernel_rfl) rfl ⟨_, Try.underlying18, rfl⟩ rfl rfl false (fun h => by cases h)
theorem ty19 : TyOk Try.prog 19 ⟨.struct [(0, 17)], 1, 8, [.pointer none], false⟩ := TyOk.of (P := Try.prog) (t := 19) (.struct [(0, 17)]) 1 8 [.pointer none] (.agg #[.pointer none]) (by kernel_rfl) rfl ⟨_, Try.underlying19, rfl⟩ rfl rfl false (fun h => by cases h)
theorem ty21 : TyOk Try.prog 21 ⟨.int .i32, 1, 4, [.int .i32 0], false⟩ := TyOk.of (P := Try.prog) (t := 21) (.int .i32) 1 4 [.int .i32 0] (.int .i32 0) (by kernel_rfl) rfl Try.underlying21 rfl rfl false (fun h => by cases h)
theorem ty22 : TyOk Try.prog 22 ⟨.slice 26, 1, 24, [.slice none 0 0], false⟩ := TyOk.of (P := Try.prog) (t := 22) (.slice 26) 1 24 [.slice none 0 0] (.slice none 0 0) (by kernel_rfl) rfl Try.underlying22 rfl rfl false (fun h => by cases h)
theorem ty23 : TyOk Try.prog 23 ⟨.struct [(0, 3), (1, 3), (2, 3), (3, 3)], 4, 32, [.int .i64 0, .int .i64 0, .int .i64 0, .int .i64 0], false⟩ := TyOk.of (P := Try.prog) (t := 23) (.struct [(0, 3), (1, 3), (2, 3), (3, 3)]) 4 32 [.int .i64 0, .int .i64 0, .int .i64 0, .int .i64 0] (.agg #[.int .i64 0, .int .i64 0, .int .i64 0, .int .i64 0]) (by kernel_rfl) rfl ⟨_, Try.underlying23, rfl⟩ rfl rfl false (fun h => by cases h)
theorem ty24 : TyOk Try.prog 24 ⟨.struct [(0, 3), (1, 3), (2, 3), (3, 3)], 4, 32, [.int .i64 0, .int .i64 0, .int .i64 0, .int .i64 0], true⟩ := TyOk.of (P := Try.prog) (t := 24) (.struct [(0, 3), (1, 3), (2, 3), (3, 3)]) 4 32 [.int .i64 0, .int .i64 0, .int .i64 0, .int .i64 0] (.agg #[.int .i64 0, .int .i64 0, .int .i64 0, .int .i64 0]) (by kernel_rfl) rfl ⟨_, Try.underlying24, rfl⟩ rfl rfl true (fun _ => by unfold EqTy; exact ⟨by kernel_rfl, by kernel_rfl, by kernel_rfl⟩)
theorem ty26 : TyOk Try.prog 26 ⟨.slice 40, 1, 24, [.slice none 0 0], false⟩ := TyOk.of (P := Try.prog) (t := 26) (.slice 40) 1 24 [.slice none 0 0] (.slice none 0 0) (by kernel_rfl) rfl Try.underlying26 rfl rfl false (fun h => by cases h)
theorem ty27 : TyOk Try.prog 27 ⟨.slice 29, 1, 24, [.slice none 0 0], false⟩ := TyOk.of (P := Try.prog) (t := 27) (.slice 29) 1 24 [.slice none 0 0] (.slice none 0 0) (by kernel_rfl) rfl Try.underlying27 rfl rfl false (fun h => by cases h)
theorem ty28 : TyOk Try.prog 28 ⟨.struct [(0, 3), (1, 26), (2, 27)], 3, 56, [.int .i64 0, .slice none 0 0, .slice none 0 0], false⟩ := TyOk.of (P := Try.prog) (t := 28) (.struct [(0, 3), (1, 26), (2, 27)]) 3 56 [.int .i64 0, .slice none 0 0, .slice none 0 0] (.agg #[.int .i64 0, .slice none 0 0, .slice none 0 0]) (by kernel_rfl) rfl ⟨_, Try.underlying28, rfl⟩ rfl rfl false (fun h => by cases h)
theorem ty29 : TyOk Try.prog 29 ⟨.struct [(0, 3), (1, 26), (2, 27)], 3, 56, [.int .i64 0, .slice none 0 0, .slice none 0 0], false⟩ := TyOk.of (P := Try.prog) (t := 29) (.struct [(0, 3), (1, 26), (2, 27)]) 3 56 [.int .i64 0, .slice none 0 0, .slice none 0 0] (.agg #[.int .i64 0, .slice none 0 0, .slice none 0 0]) (by kernel_rfl) rfl ⟨_, Try.underlying29, rfl⟩ rfl rfl false (fun h => by cases h)
theorem ty33 : TyOk Try.prog 33 ⟨.ptr 97, 1, 8, [.pointer none], false⟩ := TyOk.of (P := Try.prog) (t := 33) (.ptr 97) 1 8 [.pointer none] (.pointer none) (by kernel_rfl) rfl Try.underlying33 rfl rfl false (fun h => by cases h)
theorem ty34 : TyOk Try.prog 34 ⟨.struct [(0, 33), (1, 3), (2, 3), (3, 3), (4, 3), (5, 3), (6, 3), (7, 3), (8, 3)], 9, 72, [.pointer none, .int .i64 0, .int .i64 0, .int .i64 0, .int .i64 0, .int .i64 0, .int .i64 0, .int .i64 0, .int .i64 0], false⟩ := TyOk.of (P := Try.prog) (t := 34) (.struct [(0, 33), (1, 3), (2, 3), (3, 3), (4, 3), (5, 3), (6, 3), (7, 3), (8, 3)]) 9 72 [.pointer none, .int .i64 0, .int .i64 0, .int .i64 0, .int .i64 0, .int .i64 0, .int .i64 0, .int .i64 0, .int .i64 0] (.agg #[.pointer none, .int .i64 0, .int .i64 0, .int .i64 0, .int .i64 0, .int .i64 0, .int .i64 0, .int .i64 0, .int .i64 0]) (by kernel_rfl) rfl ⟨_, Try.underlying34, rfl⟩ rfl rfl false (fun h => by cases h)
theorem ty35 : TyOk Try.prog 35 ⟨.struct [(0, 33), (1, 3), (2, 3), (3, 3), (4, 3), (5, 3), (6, 3), (7, 3), (8, 3)], 9, 72, [.pointer none, .int .i64 0, .int .i64 0, .int .i64 0, .int .i64 0, .int .i64 0, .int .i64 0, .int .i64 0, .int .i64 0], false⟩ := TyOk.of (P := Try.prog) (t := 35) (.struct [(0, 33), (1, 3), (2, 3), (3, 3), (4, 3), (5, 3), (6, 3), (7, 3), (8, 3)]) 9 72 [.pointer none, .int .i64 0, .int .i64 0, .int .i64 0, .int .i64 0, .int .i64 0, .int .i64 0, .int .i64 0, .int .i64 0] (.agg #[.pointer none, .int .i64 0, .int .i64 0, .int .i64 0, .int .i64 0, .int .i64 0, .int .i64 0, .int .i64 0, .int .i64 0]) (by kernel_rfl) rfl ⟨_, Try.underlying35, rfl⟩ rfl rfl false (fun h => by cases h)
theorem ty37 : TyOk Try.prog 37 ⟨.int .i64, 1, 8, [.int .i64 0], false⟩ := TyOk.of (P := Try.prog) (t := 37) (.int .i64) 1 8 [.int .i64 0] (.int .i64 0) (by kernel_rfl) rfl Try.underlying37 rfl rfl false (fun h => by cases h)
theorem ty40 : TyOk Try.prog 40 ⟨.int .u64, 1, 8, [.int .u64 0], false⟩ := TyOk.of (P := Try.prog) (t := 40) (.int .u64) 1 8 [.int .u64 0] (.int .u64 0) (by kernel_rfl) rfl Try.underlying40 rfl rfl false (fun h => by cases h)
theorem ty45 : TyOk Try.prog 45 ⟨.slice 22, 1, 24, [.slice none 0 0], false⟩ := TyOk.of (P := Try.prog) (t := 45) (.slice 22) 1 24 [.slice none 0 0] (.slice none 0 0) (by kernel_rfl) rfl Try.underlying45 rfl rfl false (fun h => by cases h)
theorem ty46 : TyOk Try.prog 46 ⟨.ptr 79, 1, 8, [.pointer none], false⟩ := TyOk.of (P := Try.prog) (t := 46) (.ptr 79) 1 8 [.pointer none] (.pointer none) (by kernel_rfl) rfl Try.underlying46 rfl rfl false (fun h => by cases h)
theorem ty54 : TyOk Try.prog 54 ⟨.int .u64, 1, 8, [.int .u64 0], false⟩ := TyOk.of (P := Try.prog) (t := 54) (.int .u64) 1 8 [.int .u64 0] (.int .u64 0) (by kernel_rfl) rfl Try.underlying54 rfl rfl false (fun h => by cases h)
theorem ty55 : TyOk Try.prog 55 ⟨.slice 3, 1, 24, [.slice none 0 0], false⟩ := TyOk.of (P := Try.prog) (t := 55) (.slice 3) 1 24 [.slice none 0 0] (.slice none 0 0) (by kernel_rfl) rfl Try.underlying55 rfl rfl false (fun h => by cases h)
theorem ty63 : TyOk Try.prog 63 ⟨.struct [(0, 3), (1, 3), (2, 3), (3, 3), (4, 3), (5, 3), (6, 40)], 7, 56, [.int .i64 0, .int .i64 0, .int .i64 0, .int .i64 0, .int .i64 0, .int .i64 0, .int .u64 0], false⟩ := TyOk.of (P := Try.prog) (t := 63) (.struct [(0, 3), (1, 3), (2, 3), (3, 3), (4, 3), (5, 3), (6, 40)]) 7 56 [.int .i64 0, .int .i64 0, .int .i64 0, .int .i64 0, .int .i64 0, .int .i64 0, .int .u64 0] (.agg #[.int .i64 0, .int .i64 0, .int .i64 0, .int .i64 0, .int .i64 0, .int .i64 0, .int .u64 0]) (by kernel_rfl) rfl ⟨_, Try.underlying63, rfl⟩ rfl rfl false (fun h => by cases h)
theorem ty64 : TyOk Try.prog 64 ⟨.struct [(0, 3), (1, 3), (2, 3), (3, 3), (4, 3), (5, 3), (6, 40)], 7, 56, [.int .i64 0, .int .i64 0, .int .i64 0, .int .i64 0, .int .i64 0, .int .i64 0, .int .u64 0], true⟩ := TyOk.of (P := Try.prog) (t := 64) (.struct [(0, 3), (1, 3), (2, 3), (3, 3), (4, 3), (5, 3), (6, 40)]) 7 56 [.int .i64 0, .int .i64 0, .int .i64 0, .int .i64 0, .int .i64 0, .int .i64 0, .int .u64 0] (.agg #[.int .i64 0, .int .i64 0, .int .i64 0, .int .i64 0, .int .i64 0, .int .i64 0, .int .u64 0]) (by kernel_rfl) rfl ⟨_, Try.underlying64, rfl⟩ rfl rfl true (fun _ => by unfold EqTy; exact ⟨by kernel_rfl, by kernel_rfl, by kernel_rfl⟩)
theorem ty71 : TyOk Try.prog 71 ⟨.struct [(0, 3)], 1, 8, [.int .i64 0], false⟩ := TyOk.of (P := Try.prog) (t := 71) (.struct [(0, 3)]) 1 8 [.int .i64 0] (.agg #[.int .i64 0]) (by kernel_rfl) rfl ⟨_, Try.underlying71, rfl⟩ rfl rfl false (fun h => by cases h)
theorem ty72 : TyOk Try.prog 72 ⟨.struct [(0, 3)], 1, 8, [.int .i64 0], true⟩ := TyOk.of (P := Try.prog) (t := 72) (.struct [(0, 3)]) 1 8 [.int .i64 0] (.agg #[.int .i64 0]) (by kernel_rfl) rfl ⟨_, Try.underlying72, rfl⟩ rfl rfl true (fun _ => by unfold EqTy; exact ⟨by kernel_rfl, by kernel_rfl, by kernel_rfl⟩)
theorem ty73 : TyOk Try.prog 73 ⟨.struct [(0, 40), (1, 3)], 2, 16, [.int .u64 0, .int .i64 0], false⟩ := TyOk.of (P := Try.prog) (t := 73) (.struct [(0, 40), (1, 3)]) 2 16 [.int .u64 0, .int .i64 0] (.agg #[.int .u64 0, .int .i64 0]) (by kernel_rfl) rfl ⟨_, Try.underlying73, rfl⟩ rfl rfl false (fun h => by cases h)
theorem ty74 : TyOk Try.prog 74 ⟨.struct [(0, 40), (1, 3)], 2, 16, [.int .u64 0, .int .i64 0], true⟩ := TyOk.of (P := Try.prog) (t := 74) (.struct [(0, 40), (1, 3)]) 2 16 [.int .u64 0, .int .i64 0] (.agg #[.int .u64 0, .int .i64 0]) (by kernel_rfl) rfl ⟨_, Try.underlying74, rfl⟩ rfl rfl true (fun _ => by unfold EqTy; exact ⟨by kernel_rfl, by kernel_rfl, by kernel_rfl⟩)
theorem ty77 : TyOk Try.prog 77 ⟨.slice 82, 1, 24, [.slice none 0 0], false⟩ := TyOk.of (P := Try.prog) (t := 77) (.slice 82) 1 24 [.slice none 0 0] (.slice none 0 0) (by kernel_rfl) rfl Try.underlying77 rfl rfl false (fun h => by cases h)
theorem ty78 : TyOk Try.prog 78 ⟨.struct [(0, 77), (1, 55)], 2, 48, [.slice none 0 0, .slice none 0 0], false⟩ := TyOk.of (P := Try.prog) (t := 78) (.struct [(0, 77), (1, 55)]) 2 48 [.slice none 0 0, .slice none 0 0] (.agg #[.slice none 0 0, .slice none 0 0]) (by kernel_rfl) rfl ⟨_, Try.underlying78, rfl⟩ rfl rfl false (fun h => by cases h)
theorem ty79 : TyOk Try.prog 79 ⟨.struct [(0, 77), (1, 55)], 2, 48, [.slice none 0 0, .slice none 0 0], false⟩ := TyOk.of (P := Try.prog) (t := 79) (.struct [(0, 77), (1, 55)]) 2 48 [.slice none 0 0, .slice none 0 0] (.agg #[.slice none 0 0, .slice none 0 0]) (by kernel_rfl) rfl ⟨_, Try.underlying79, rfl⟩ rfl rfl false (fun h => by cases h)
theorem ty81 : TyOk Try.prog 81 ⟨.struct [(0, 40), (1, 35)], 10, 80, [.int .u64 0, .pointer none, .int .i64 0, .int .i64 0, .int .i64 0, .int .i64 0, .int .i64 0, .int .i64 0, .int .i64 0, .int .i64 0], false⟩ := TyOk.of (P := Try.prog) (t := 81) (.struct [(0, 40), (1, 35)]) 10 80 [.int .u64 0, .pointer none, .int .i64 0, .int .i64 0, .int .i64 0, .int .i64 0, .int .i64 0, .int .i64 0, .int .i64 0, .int .i64 0] (.agg #[.int .u64 0, .pointer none, .int .i64 0, .int .i64 0, .int .i64 0, .int .i64 0, .int .i64 0, .int .i64 0, .int .i64 0, .int .i64 0]) (by kernel_rfl) rfl ⟨_, Try.underlying81, rfl⟩ rfl rfl false (fun h => by cases h)
theorem ty82 : TyOk Try.prog 82 ⟨.struct [(0, 40), (1, 35)], 10, 80, [.int .u64 0, .pointer none, .int .i64 0, .int .i64 0, .int .i64 0, .int .i64 0, .int .i64 0, .int .i64 0, .int .i64 0, .int .i64 0], false⟩ := TyOk.of (P := Try.prog) (t := 82) (.struct [(0, 40), (1, 35)]) 10 80 [.int .u64 0, .pointer none, .int .i64 0, .int .i64 0, .int .i64 0, .int .i64 0, .int .i64 0, .int .i64 0, .int .i64 0, .int .i64 0] (.agg #[.int .u64 0, .pointer none, .int .i64 0, .int .i64 0, .int .i64 0, .int .i64 0, .int .i64 0, .int .i64 0, .int .i64 0, .int .i64 0]) (by kernel_rfl) rfl ⟨_, Try.underlying82, rfl⟩ rfl rfl false (fun h => by cases h)
theorem ty85 : TyOk Try.prog 85 ⟨.struct [(0, 3), (1, 3), (2, 3), (3, 3), (4, 3), (5, 3), (6, 3), (7, 4)], 8, 64, [.int .i64 0, .int .i64 0, .int .i64 0, .int .i64 0, .int .i64 0, .int .i64 0, .int .i64 0, .bool false], false⟩ := TyOk.of (P := Try.prog) (t := 85) (.struct [(0, 3), (1, 3), (2, 3), (3, 3), (4, 3), (5, 3), (6, 3), (7, 4)]) 8 64 [.int .i64 0, .int .i64 0, .int .i64 0, .int .i64 0, .int .i64 0, .int .i64 0, .int .i64 0, .bool false] (.agg #[.int .i64 0, .int .i64 0, .int .i64 0, .int .i64 0, .int .i64 0, .int .i64 0, .int .i64 0, .bool false]) (by kernel_rfl) rfl ⟨_, Try.underlying85, rfl⟩ rfl rfl false (fun h => by cases h)
theorem ty86 : TyOk Try.prog 86 ⟨.struct [(0, 3), (1, 3), (2, 3), (3, 3), (4, 3), (5, 3), (6, 3), (7, 4)], 8, 64, [.int .i64 0, .int .i64 0, .int .i64 0, .int .i64 0, .int .i64 0, .int .i64 0, .int .i64 0, .bool false], true⟩ := TyOk.of (P := Try.prog) (t := 86) (.struct [(0, 3), (1, 3), (2, 3), (3, 3), (4, 3), (5, 3), (6, 3), (7, 4)]) 8 64 [.int .i64 0, .int .i64 0, .int .i64 0, .int .i64 0, .int .i64 0, .int .i64 0, .int .i64 0, .bool false] (.agg #[.int .i64 0, .int .i64 0, .int .i64 0, .int .i64 0, .int .i64 0, .int .i64 0, .int .i64 0, .bool false]) (by kernel_rfl) rfl ⟨_, Try.underlying86, rfl⟩ rfl rfl true (fun _ => by unfold EqTy; exact ⟨by kernel_rfl, by kernel_rfl, by kernel_rfl⟩)
theorem ty87 : TyOk Try.prog 87 ⟨.struct [(0, 86), (8, 3), (9, 3)], 10, 80, [.int .i64 0, .int .i64 0, .int .i64 0, .int .i64 0, .int .i64 0, .int .i64 0, .int .i64 0, .bool false, .int .i64 0, .int .i64 0], false⟩ := TyOk.of (P := Try.prog) (t := 87) (.struct [(0, 86), (8, 3), (9, 3)]) 10 80 [.int .i64 0, .int .i64 0, .int .i64 0, .int .i64 0, .int .i64 0, .int .i64 0, .int .i64 0, .bool false, .int .i64 0, .int .i64 0] (.agg #[.int .i64 0, .int .i64 0, .int .i64 0, .int .i64 0, .int .i64 0, .int .i64 0, .int .i64 0, .bool false, .int .i64 0, .int .i64 0]) (by kernel_rfl) rfl ⟨_, Try.underlying87, rfl⟩ rfl rfl false (fun h => by cases h)
theorem ty88 : TyOk Try.prog 88 ⟨.struct [(0, 86), (8, 3), (9, 3)], 10, 80, [.int .i64 0, .int .i64 0, .int .i64 0, .int .i64 0, .int .i64 0, .int .i64 0, .int .i64 0, .bool false, .int .i64 0, .int .i64 0], true⟩ := TyOk.of (P := Try.prog) (t := 88) (.struct [(0, 86), (8, 3), (9, 3)]) 10 80 [.int .i64 0, .int .i64 0, .int .i64 0, .int .i64 0, .int .i64 0, .int .i64 0, .int .i64 0, .bool false, .int .i64 0, .int .i64 0] (.agg #[.int .i64 0, .int .i64 0, .int .i64 0, .int .i64 0, .int .i64 0, .int .i64 0, .int .i64 0, .bool false, .int .i64 0, .int .i64 0]) (by kernel_rfl) rfl ⟨_, Try.underlying88, rfl⟩ rfl rfl true (fun _ => by unfold EqTy; exact ⟨by kernel_rfl, by kernel_rfl, by kernel_rfl⟩)
theorem ty96 : TyOk Try.prog 96 ⟨.struct [(0, 22), (1, 3), (2, 3)], 3, 40, [.slice none 0 0, .int .i64 0, .int .i64 0], false⟩ := TyOk.of (P := Try.prog) (t := 96) (.struct [(0, 22), (1, 3), (2, 3)]) 3 40 [.slice none 0 0, .int .i64 0, .int .i64 0] (.agg #[.slice none 0 0, .int .i64 0, .int .i64 0]) (by kernel_rfl) rfl ⟨_, Try.underlying96, rfl⟩ rfl rfl false (fun h => by cases h)
theorem ty97 : TyOk Try.prog 97 ⟨.struct [(0, 22), (1, 3), (2, 3)], 3, 40, [.slice none 0 0, .int .i64 0, .int .i64 0], false⟩ := TyOk.of (P := Try.prog) (t := 97) (.struct [(0, 22), (1, 3), (2, 3)]) 3 40 [.slice none 0 0, .int .i64 0, .int .i64 0] (.agg #[.slice none 0 0, .int .i64 0, .int .i64 0]) (by kernel_rfl) rfl ⟨_, Try.underlying97, rfl⟩ rfl rfl false (fun h => by cases h)
theorem ty98 : TyOk Try.prog 98 ⟨.ptr 72, 1, 8, [.pointer none], false⟩ := TyOk.of (P := Try.prog) (t := 98) (.ptr 72) 1 8 [.pointer none] (.pointer none) (by kernel_rfl) rfl Try.underlying98 rfl rfl false (fun h => by cases h)
theorem ty101 : TyOk Try.prog 101 ⟨.ptr 74, 1, 8, [.pointer none], false⟩ := TyOk.of (P := Try.prog) (t := 101) (.ptr 74) 1 8 [.pointer none] (.pointer none) (by kernel_rfl) rfl Try.underlying101 rfl rfl false (fun h => by cases h)
theorem ty116 : TyOk Try.prog 116 ⟨.struct [(0, 3), (1, 3), (2, 3), (3, 3), (4, 3), (5, 3), (6, 3), (7, 4)], 8, 64, [.int .i64 0, .int .i64 0, .int .i64 0, .int .i64 0, .int .i64 0, .int .i64 0, .int .i64 0, .bool false], true⟩ := TyOk.of (P := Try.prog) (t := 116) (.struct [(0, 3), (1, 3), (2, 3), (3, 3), (4, 3), (5, 3), (6, 3), (7, 4)]) 8 64 [.int .i64 0, .int .i64 0, .int .i64 0, .int .i64 0, .int .i64 0, .int .i64 0, .int .i64 0, .bool false] (.agg #[.int .i64 0, .int .i64 0, .int .i64 0, .int .i64 0, .int .i64 0, .int .i64 0, .int .i64 0, .bool false]) (by kernel_rfl) rfl ⟨_, Try.underlying116, rfl⟩ rfl rfl true (fun _ => by unfold EqTy; exact ⟨by kernel_rfl, by kernel_rfl, by kernel_rfl⟩)
theorem ty117 : TyOk Try.prog 117 ⟨.struct [(0, 116), (8, 3), (9, 3)], 10, 80, [.int .i64 0, .int .i64 0, .int .i64 0, .int .i64 0, .int .i64 0, .int .i64 0, .int .i64 0, .bool false, .int .i64 0, .int .i64 0], false⟩ := TyOk.of (P := Try.prog) (t := 117) (.struct [(0, 116), (8, 3), (9, 3)]) 10 80 [.int .i64 0, .int .i64 0, .int .i64 0, .int .i64 0, .int .i64 0, .int .i64 0, .int .i64 0, .bool false, .int .i64 0, .int .i64 0] (.agg #[.int .i64 0, .int .i64 0, .int .i64 0, .int .i64 0, .int .i64 0, .int .i64 0, .int .i64 0, .bool false, .int .i64 0, .int .i64 0]) (by kernel_rfl) rfl ⟨_, Try.underlying117, rfl⟩ rfl rfl false (fun h => by cases h)
theorem ty118 : TyOk Try.prog 118 ⟨.struct [(0, 116), (8, 3), (9, 3)], 10, 80, [.int .i64 0, .int .i64 0, .int .i64 0, .int .i64 0, .int .i64 0, .int .i64 0, .int .i64 0, .bool false, .int .i64 0, .int .i64 0], true⟩ := TyOk.of (P := Try.prog) (t := 118) (.struct [(0, 116), (8, 3), (9, 3)]) 10 80 [.int .i64 0, .int .i64 0, .int .i64 0, .int .i64 0, .int .i64 0, .int .i64 0, .int .i64 0, .bool false, .int .i64 0, .int .i64 0] (.agg #[.int .i64 0, .int .i64 0, .int .i64 0, .int .i64 0, .int .i64 0, .int .i64 0, .int .i64 0, .bool false, .int .i64 0, .int .i64 0]) (by kernel_rfl) rfl ⟨_, Try.underlying118, rfl⟩ rfl rfl true (fun _ => by unfold EqTy; exact ⟨by kernel_rfl, by kernel_rfl, by kernel_rfl⟩)
theorem ty135 : TyOk Try.prog 135 ⟨.arr 6 3, 6, 48, [.int .i64 0, .int .i64 0, .int .i64 0, .int .i64 0, .int .i64 0, .int .i64 0], true⟩ := TyOk.of (P := Try.prog) (t := 135) (.arr 6 3) 6 48 [.int .i64 0, .int .i64 0, .int .i64 0, .int .i64 0, .int .i64 0, .int .i64 0] (.agg #[.int .i64 0, .int .i64 0, .int .i64 0, .int .i64 0, .int .i64 0, .int .i64 0]) (by kernel_rfl) rfl Try.underlying135 rfl rfl true (fun _ => by unfold EqTy; exact ⟨by kernel_rfl, by kernel_rfl, by kernel_rfl⟩)
theorem ty137 : TyOk Try.prog 137 ⟨.int .u32, 1, 4, [.int .u32 0], false⟩ := TyOk.of (P := Try.prog) (t := 137) (.int .u32) 1 4 [.int .u32 0] (.int .u32 0) (by kernel_rfl) rfl Try.underlying137 rfl rfl false (fun h => by cases h)
theorem ty138 : TyOk Try.prog 138 ⟨.arr 7 3, 7, 56, [.int .i64 0, .int .i64 0, .int .i64 0, .int .i64 0, .int .i64 0, .int .i64 0, .int .i64 0], true⟩ := TyOk.of (P := Try.prog) (t := 138) (.arr 7 3) 7 56 [.int .i64 0, .int .i64 0, .int .i64 0, .int .i64 0, .int .i64 0, .int .i64 0, .int .i64 0] (.agg #[.int .i64 0, .int .i64 0, .int .i64 0, .int .i64 0, .int .i64 0, .int .i64 0, .int .i64 0]) (by kernel_rfl) rfl Try.underlying138 rfl rfl true (fun _ => by unfold EqTy; exact ⟨by kernel_rfl, by kernel_rfl, by kernel_rfl⟩)
theorem ty140 : TyOk Try.prog 140 ⟨.struct [(0, 17), (1, 17), (2, 17), (3, 9)], 4, 40, [.pointer none, .pointer none, .pointer none, .string ByteArray.empty], false⟩ := TyOk.of (P := Try.prog) (t := 140) (.struct [(0, 17), (1, 17), (2, 17), (3, 9)]) 4 40 [.pointer none, .pointer none, .pointer none, .string ByteArray.empty] (.agg #[.pointer none, .pointer none, .pointer none, .string ByteArray.empty]) (by kernel_rfl) rfl ⟨_, Try.underlying140, rfl⟩ rfl rfl false (fun h => by cases h)
theorem ty141 : TyOk Try.prog 141 ⟨.struct [(0, 17), (1, 17), (2, 17), (3, 9)], 4, 40, [.pointer none, .pointer none, .pointer none, .string ByteArray.empty], false⟩ := TyOk.of (P := Try.prog) (t := 141) (.struct [(0, 17), (1, 17), (2, 17), (3, 9)]) 4 40 [.pointer none, .pointer none, .pointer none, .string ByteArray.empty] (.agg #[.pointer none, .pointer none, .pointer none, .string ByteArray.empty]) (by kernel_rfl) rfl ⟨_, Try.underlying141, rfl⟩ rfl rfl false (fun h => by cases h)
theorem ty145 : TyOk Try.prog 145 ⟨.int .u8, 1, 1, [.int .u8 0], false⟩ := TyOk.of (P := Try.prog) (t := 145) (.int .u8) 1 1 [.int .u8 0] (.int .u8 0) (by kernel_rfl) rfl Try.underlying145 rfl rfl false (fun h => by cases h)
theorem ty146 : TyOk Try.prog 146 ⟨.int .u8, 1, 1, [.int .u8 0], false⟩ := TyOk.of (P := Try.prog) (t := 146) (.int .u8) 1 1 [.int .u8 0] (.int .u8 0) (by kernel_rfl) rfl Try.underlying146 rfl rfl false (fun h => by cases h)
theorem ty148 : TyOk Try.prog 148 ⟨.ptr 5, 1, 8, [.pointer none], false⟩ := TyOk.of (P := Try.prog) (t := 148) (.ptr 5) 1 8 [.pointer none] (.pointer none) (by kernel_rfl) rfl Try.underlying148 rfl rfl false (fun h => by cases h)
theorem ty149 : TyOk Try.prog 149 ⟨.int .i32, 1, 4, [.int .i32 0], false⟩ := TyOk.of (P := Try.prog) (t := 149) (.int .i32) 1 4 [.int .i32 0] (.int .i32 0) (by kernel_rfl) rfl Try.underlying149 rfl rfl false (fun h => by cases h)
theorem ty150 : TyOk Try.prog 150 ⟨.int .i32, 1, 4, [.int .i32 0], false⟩ := TyOk.of (P := Try.prog) (t := 150) (.int .i32) 1 4 [.int .i32 0] (.int .i32 0) (by kernel_rfl) rfl Try.underlying150 rfl rfl false (fun h => by cases h)
def tabL : List (Nat × TyI) := [(2, ⟨.int .i64, 1, 8, [.int .i64 0], false⟩),
  (3, ⟨.int .i64, 1, 8, [.int .i64 0], false⟩),
  (4, ⟨.bool, 1, 1, [.bool false], false⟩),
  (5, ⟨.int .u8, 1, 1, [.int .u8 0], false⟩),
  (6, ⟨.int .u8, 1, 1, [.int .u8 0], false⟩),
  (7, ⟨.struct [(0, 2), (1, 3), (2, 4), (3, 6)], 4, 24, [.int .i64 0, .int .i64 0, .bool false, .int .u8 0], false⟩),
  (8, ⟨.struct [(0, 2), (1, 3), (2, 4), (3, 6)], 4, 24, [.int .i64 0, .int .i64 0, .bool false, .int .u8 0], false⟩),
  (9, ⟨.str, 1, 16, [.string ByteArray.empty], false⟩),
  (10, ⟨.str, 1, 16, [.string ByteArray.empty], false⟩),
  (11, ⟨.str, 1, 16, [.string ByteArray.empty], false⟩),
  (12, ⟨.int .u64, 1, 8, [.int .u64 0], false⟩),
  (13, ⟨.struct [(0, 9), (1, 12)], 2, 24, [.string ByteArray.empty, .int .u64 0], false⟩),
  (14, ⟨.struct [(0, 9), (1, 12)], 2, 24, [.string ByteArray.empty, .int .u64 0], false⟩),
  (15, ⟨.ptr 141, 1, 8, [.pointer none], false⟩),
  (16, ⟨.ptr 144, 1, 8, [.pointer none], false⟩),
  (17, ⟨.ptr 152, 1, 8, [.pointer none], false⟩),
  (18, ⟨.struct [(0, 17)], 1, 8, [.pointer none], false⟩),
  (19, ⟨.struct [(0, 17)], 1, 8, [.pointer none], false⟩),
  (21, ⟨.int .i32, 1, 4, [.int .i32 0], false⟩),
  (22, ⟨.slice 26, 1, 24, [.slice none 0 0], false⟩),
  (23, ⟨.struct [(0, 3), (1, 3), (2, 3), (3, 3)], 4, 32, [.int .i64 0, .int .i64 0, .int .i64 0, .int .i64 0], false⟩),
  (24, ⟨.struct [(0, 3), (1, 3), (2, 3), (3, 3)], 4, 32, [.int .i64 0, .int .i64 0, .int .i64 0, .int .i64 0], true⟩),
  (26, ⟨.slice 40, 1, 24, [.slice none 0 0], false⟩),
  (27, ⟨.slice 29, 1, 24, [.slice none 0 0], false⟩),
  (28, ⟨.struct [(0, 3), (1, 26), (2, 27)], 3, 56, [.int .i64 0, .slice none 0 0, .slice none 0 0], false⟩),
  (29, ⟨.struct [(0, 3), (1, 26), (2, 27)], 3, 56, [.int .i64 0, .slice none 0 0, .slice none 0 0], false⟩),
  (33, ⟨.ptr 97, 1, 8, [.pointer none], false⟩),
  (34, ⟨.struct [(0, 33), (1, 3), (2, 3), (3, 3), (4, 3), (5, 3), (6, 3), (7, 3), (8, 3)], 9, 72, [.pointer none, .int .i64 0, .int .i64 0, .int .i64 0, .int .i64 0, .int .i64 0, .int .i64 0, .int .i64 0, .int .i64 0], false⟩),
  (35, ⟨.struct [(0, 33), (1, 3), (2, 3), (3, 3), (4, 3), (5, 3), (6, 3), (7, 3), (8, 3)], 9, 72, [.pointer none, .int .i64 0, .int .i64 0, .int .i64 0, .int .i64 0, .int .i64 0, .int .i64 0, .int .i64 0, .int .i64 0], false⟩),
  (37, ⟨.int .i64, 1, 8, [.int .i64 0], false⟩),
  (40, ⟨.int .u64, 1, 8, [.int .u64 0], false⟩),
  (45, ⟨.slice 22, 1, 24, [.slice none 0 0], false⟩),
  (46, ⟨.ptr 79, 1, 8, [.pointer none], false⟩),
  (54, ⟨.int .u64, 1, 8, [.int .u64 0], false⟩),
  (55, ⟨.slice 3, 1, 24, [.slice none 0 0], false⟩),
  (63, ⟨.struct [(0, 3), (1, 3), (2, 3), (3, 3), (4, 3), (5, 3), (6, 40)], 7, 56, [.int .i64 0, .int .i64 0, .int .i64 0, .int .i64 0, .int .i64 0, .int .i64 0, .int .u64 0], false⟩),
  (64, ⟨.struct [(0, 3), (1, 3), (2, 3), (3, 3), (4, 3), (5, 3), (6, 40)], 7, 56, [.int .i64 0, .int .i64 0, .int .i64 0, .int .i64 0, .int .i64 0, .int .i64 0, .int .u64 0], true⟩),
  (71, ⟨.struct [(0, 3)], 1, 8, [.int .i64 0], false⟩),
  (72, ⟨.struct [(0, 3)], 1, 8, [.int .i64 0], true⟩),
  (73, ⟨.struct [(0, 40), (1, 3)], 2, 16, [.int .u64 0, .int .i64 0], false⟩),
  (74, ⟨.struct [(0, 40), (1, 3)], 2, 16, [.int .u64 0, .int .i64 0], true⟩),
  (77, ⟨.slice 82, 1, 24, [.slice none 0 0], false⟩),
  (78, ⟨.struct [(0, 77), (1, 55)], 2, 48, [.slice none 0 0, .slice none 0 0], false⟩),
  (79, ⟨.struct [(0, 77), (1, 55)], 2, 48, [.slice none 0 0, .slice none 0 0], false⟩),
  (81, ⟨.struct [(0, 40), (1, 35)], 10, 80, [.int .u64 0, .pointer none, .int .i64 0, .int .i64 0, .int .i64 0, .int .i64 0, .int .i64 0, .int .i64 0, .int .i64 0, .int .i64 0], false⟩),
  (82, ⟨.struct [(0, 40), (1, 35)], 10, 80, [.int .u64 0, .pointer none, .int .i64 0, .int .i64 0, .int .i64 0, .int .i64 0, .int .i64 0, .int .i64 0, .int .i64 0, .int .i64 0], false⟩),
  (85, ⟨.struct [(0, 3), (1, 3), (2, 3), (3, 3), (4, 3), (5, 3), (6, 3), (7, 4)], 8, 64, [.int .i64 0, .int .i64 0, .int .i64 0, .int .i64 0, .int .i64 0, .int .i64 0, .int .i64 0, .bool false], false⟩),
  (86, ⟨.struct [(0, 3), (1, 3), (2, 3), (3, 3), (4, 3), (5, 3), (6, 3), (7, 4)], 8, 64, [.int .i64 0, .int .i64 0, .int .i64 0, .int .i64 0, .int .i64 0, .int .i64 0, .int .i64 0, .bool false], true⟩),
  (87, ⟨.struct [(0, 86), (8, 3), (9, 3)], 10, 80, [.int .i64 0, .int .i64 0, .int .i64 0, .int .i64 0, .int .i64 0, .int .i64 0, .int .i64 0, .bool false, .int .i64 0, .int .i64 0], false⟩),
  (88, ⟨.struct [(0, 86), (8, 3), (9, 3)], 10, 80, [.int .i64 0, .int .i64 0, .int .i64 0, .int .i64 0, .int .i64 0, .int .i64 0, .int .i64 0, .bool false, .int .i64 0, .int .i64 0], true⟩),
  (96, ⟨.struct [(0, 22), (1, 3), (2, 3)], 3, 40, [.slice none 0 0, .int .i64 0, .int .i64 0], false⟩),
  (97, ⟨.struct [(0, 22), (1, 3), (2, 3)], 3, 40, [.slice none 0 0, .int .i64 0, .int .i64 0], false⟩),
  (98, ⟨.ptr 72, 1, 8, [.pointer none], false⟩),
  (101, ⟨.ptr 74, 1, 8, [.pointer none], false⟩),
  (116, ⟨.struct [(0, 3), (1, 3), (2, 3), (3, 3), (4, 3), (5, 3), (6, 3), (7, 4)], 8, 64, [.int .i64 0, .int .i64 0, .int .i64 0, .int .i64 0, .int .i64 0, .int .i64 0, .int .i64 0, .bool false], true⟩),
  (117, ⟨.struct [(0, 116), (8, 3), (9, 3)], 10, 80, [.int .i64 0, .int .i64 0, .int .i64 0, .int .i64 0, .int .i64 0, .int .i64 0, .int .i64 0, .bool false, .int .i64 0, .int .i64 0], false⟩),
  (118, ⟨.struct [(0, 116), (8, 3), (9, 3)], 10, 80, [.int .i64 0, .int .i64 0, .int .i64 0, .int .i64 0, .int .i64 0, .int .i64 0, .int .i64 0, .bool false, .int .i64 0, .int .i64 0], true⟩),
  (135, ⟨.arr 6 3, 6, 48, [.int .i64 0, .int .i64 0, .int .i64 0, .int .i64 0, .int .i64 0, .int .i64 0], true⟩),
  (137, ⟨.int .u32, 1, 4, [.int .u32 0], false⟩),
  (138, ⟨.arr 7 3, 7, 56, [.int .i64 0, .int .i64 0, .int .i64 0, .int .i64 0, .int .i64 0, .int .i64 0, .int .i64 0], true⟩),
  (140, ⟨.struct [(0, 17), (1, 17), (2, 17), (3, 9)], 4, 40, [.pointer none, .pointer none, .pointer none, .string ByteArray.empty], false⟩),
  (141, ⟨.struct [(0, 17), (1, 17), (2, 17), (3, 9)], 4, 40, [.pointer none, .pointer none, .pointer none, .string ByteArray.empty], false⟩),
  (145, ⟨.int .u8, 1, 1, [.int .u8 0], false⟩),
  (146, ⟨.int .u8, 1, 1, [.int .u8 0], false⟩),
  (148, ⟨.ptr 5, 1, 8, [.pointer none], false⟩),
  (149, ⟨.int .i32, 1, 4, [.int .i32 0], false⟩),
  (150, ⟨.int .i32, 1, 4, [.int .i32 0], false⟩)]
def tab : Tab := fun t => tabL.lookup t
theorem tab_ok : TabOk Try.prog tab := fun t i h => by
  have hm := lookup_mem _ h
  unfold tabL at hm
  simp only [List.mem_cons, Prod.mk.injEq, List.not_mem_nil, or_false] at hm
  rcases hm with ⟨rfl, rfl⟩ | ⟨rfl, rfl⟩ | ⟨rfl, rfl⟩ | ⟨rfl, rfl⟩ | ⟨rfl, rfl⟩ | ⟨rfl, rfl⟩ | ⟨rfl, rfl⟩ | ⟨rfl, rfl⟩ | ⟨rfl, rfl⟩ | ⟨rfl, rfl⟩ | ⟨rfl, rfl⟩ | ⟨rfl, rfl⟩ | ⟨rfl, rfl⟩ | ⟨rfl, rfl⟩ | ⟨rfl, rfl⟩ | ⟨rfl, rfl⟩ | ⟨rfl, rfl⟩ | ⟨rfl, rfl⟩ | ⟨rfl, rfl⟩ | ⟨rfl, rfl⟩ | ⟨rfl, rfl⟩ | ⟨rfl, rfl⟩ | ⟨rfl, rfl⟩ | ⟨rfl, rfl⟩ | ⟨rfl, rfl⟩ | ⟨rfl, rfl⟩ | ⟨rfl, rfl⟩ | ⟨rfl, rfl⟩ | ⟨rfl, rfl⟩ | ⟨rfl, rfl⟩ | ⟨rfl, rfl⟩ | ⟨rfl, rfl⟩ | ⟨rfl, rfl⟩ | ⟨rfl, rfl⟩ | ⟨rfl, rfl⟩ | ⟨rfl, rfl⟩ | ⟨rfl, rfl⟩ | ⟨rfl, rfl⟩ | ⟨rfl, rfl⟩ | ⟨rfl, rfl⟩ | ⟨rfl, rfl⟩ | ⟨rfl, rfl⟩ | ⟨rfl, rfl⟩ | ⟨rfl, rfl⟩ | ⟨rfl, rfl⟩ | ⟨rfl, rfl⟩ | ⟨rfl, rfl⟩ | ⟨rfl, rfl⟩ | ⟨rfl, rfl⟩ | ⟨rfl, rfl⟩ | ⟨rfl, rfl⟩ | ⟨rfl, rfl⟩ | ⟨rfl, rfl⟩ | ⟨rfl, rfl⟩ | ⟨rfl, rfl⟩ | ⟨rfl, rfl⟩ | ⟨rfl, rfl⟩ | ⟨rfl, rfl⟩ | ⟨rfl, rfl⟩ | ⟨rfl, rfl⟩ | ⟨rfl, rfl⟩ | ⟨rfl, rfl⟩ | ⟨rfl, rfl⟩ | ⟨rfl, rfl⟩ | ⟨rfl, rfl⟩ | ⟨rfl, rfl⟩ | ⟨rfl, rfl⟩
  · exact ty2
  · exact ty3
  · exact ty4
  · exact ty5
  · exact ty6
  · exact ty7
  · exact ty8
  · exact ty9
  · exact ty10
  · exact ty11
  · exact ty12
  · exact ty13
  · exact ty14
  · exact ty15
  · exact ty16
  · exact ty17
  · exact ty18
  · exact ty19
  · exact ty21
  · exact ty22
  · exact ty23
  · exact ty24
  · exact ty26
  · exact ty27
  · exact ty28
  · exact ty29
  · exact ty33
  · exact ty34
  · exact ty35
  · exact ty37
  · exact ty40
  · exact ty45
  · exact ty46
  · exact ty54
  · exact ty55
  · exact ty63
  · exact ty64
  · exact ty71
  · exact ty72
  · exact ty73
  · exact ty74
  · exact ty77
  · exact ty78
  · exact ty79
  · exact ty81
  · exact ty82
  · exact ty85
  · exact ty86
  · exact ty87
  · exact ty88
  · exact ty96
  · exact ty97
  · exact ty98
  · exact ty101
  · exact ty116
  · exact ty117
  · exact ty118
  · exact ty135
  · exact ty137
  · exact ty138
  · exact ty140
  · exact ty141
  · exact ty145
  · exact ty146
  · exact ty148
  · exact ty149
  · exact ty150
theorem tab2 : tab 2 = some ⟨.int .i64, 1, 8, [.int .i64 0], false⟩ := rfl
theorem tab3 : tab 3 = some ⟨.int .i64, 1, 8, [.int .i64 0], false⟩ := rfl
theorem tab4 : tab 4 = some ⟨.bool, 1, 1, [.bool false], false⟩ := rfl
theorem tab5 : tab 5 = some ⟨.int .u8, 1, 1, [.int .u8 0], false⟩ := rfl
theorem tab6 : tab 6 = some ⟨.int .u8, 1, 1, [.int .u8 0], false⟩ := rfl
theorem tab7 : tab 7 = some ⟨.struct [(0, 2), (1, 3), (2, 4), (3, 6)], 4, 24, [.int .i64 0, .int .i64 0, .bool false, .int .u8 0], false⟩ := rfl
theorem tab8 : tab 8 = some ⟨.struct [(0, 2), (1, 3), (2, 4), (3, 6)], 4, 24, [.int .i64 0, .int .i64 0, .bool false, .int .u8 0], false⟩ := rfl
theorem tab9 : tab 9 = some ⟨.str, 1, 16, [.string ByteArray.empty], false⟩ := rfl
theorem tab10 : tab 10 = some ⟨.str, 1, 16, [.string ByteArray.empty], false⟩ := rfl
theorem tab11 : tab 11 = some ⟨.str, 1, 16, [.string ByteArray.empty], false⟩ := rfl
theorem tab12 : tab 12 = some ⟨.int .u64, 1, 8, [.int .u64 0], false⟩ := rfl
theorem tab13 : tab 13 = some ⟨.struct [(0, 9), (1, 12)], 2, 24, [.string ByteArray.empty, .int .u64 0], false⟩ := rfl
theorem tab14 : tab 14 = some ⟨.struct [(0, 9), (1, 12)], 2, 24, [.string ByteArray.empty, .int .u64 0], false⟩ := rfl
theorem tab15 : tab 15 = some ⟨.ptr 141, 1, 8, [.pointer none], false⟩ := rfl
theorem tab16 : tab 16 = some ⟨.ptr 144, 1, 8, [.pointer none], false⟩ := rfl
theorem tab17 : tab 17 = some ⟨.ptr 152, 1, 8, [.pointer none], false⟩ := rfl
theorem tab18 : tab 18 = some ⟨.struct [(0, 17)], 1, 8, [.pointer none], false⟩ := rfl
theorem tab19 : tab 19 = some ⟨.struct [(0, 17)], 1, 8, [.pointer none], false⟩ := rfl
theorem tab21 : tab 21 = some ⟨.int .i32, 1, 4, [.int .i32 0], false⟩ := rfl
theorem tab22 : tab 22 = some ⟨.slice 26, 1, 24, [.slice none 0 0], false⟩ := rfl
theorem tab23 : tab 23 = some ⟨.struct [(0, 3), (1, 3), (2, 3), (3, 3)], 4, 32, [.int .i64 0, .int .i64 0, .int .i64 0, .int .i64 0], false⟩ := rfl
theorem tab24 : tab 24 = some ⟨.struct [(0, 3), (1, 3), (2, 3), (3, 3)], 4, 32, [.int .i64 0, .int .i64 0, .int .i64 0, .int .i64 0], true⟩ := rfl
theorem tab26 : tab 26 = some ⟨.slice 40, 1, 24, [.slice none 0 0], false⟩ := rfl
theorem tab27 : tab 27 = some ⟨.slice 29, 1, 24, [.slice none 0 0], false⟩ := rfl
theorem tab28 : tab 28 = some ⟨.struct [(0, 3), (1, 26), (2, 27)], 3, 56, [.int .i64 0, .slice none 0 0, .slice none 0 0], false⟩ := rfl
theorem tab29 : tab 29 = some ⟨.struct [(0, 3), (1, 26), (2, 27)], 3, 56, [.int .i64 0, .slice none 0 0, .slice none 0 0], false⟩ := rfl
theorem tab33 : tab 33 = some ⟨.ptr 97, 1, 8, [.pointer none], false⟩ := rfl
theorem tab34 : tab 34 = some ⟨.struct [(0, 33), (1, 3), (2, 3), (3, 3), (4, 3), (5, 3), (6, 3), (7, 3), (8, 3)], 9, 72, [.pointer none, .int .i64 0, .int .i64 0, .int .i64 0, .int .i64 0, .int .i64 0, .int .i64 0, .int .i64 0, .int .i64 0], false⟩ := rfl
theorem tab35 : tab 35 = some ⟨.struct [(0, 33), (1, 3), (2, 3), (3, 3), (4, 3), (5, 3), (6, 3), (7, 3), (8, 3)], 9, 72, [.pointer none, .int .i64 0, .int .i64 0, .int .i64 0, .int .i64 0, .int .i64 0, .int .i64 0, .int .i64 0, .int .i64 0], false⟩ := rfl
theorem tab37 : tab 37 = some ⟨.int .i64, 1, 8, [.int .i64 0], false⟩ := rfl
theorem tab40 : tab 40 = some ⟨.int .u64, 1, 8, [.int .u64 0], false⟩ := rfl
theorem tab45 : tab 45 = some ⟨.slice 22, 1, 24, [.slice none 0 0], false⟩ := rfl
theorem tab46 : tab 46 = some ⟨.ptr 79, 1, 8, [.pointer none], false⟩ := rfl
theorem tab54 : tab 54 = some ⟨.int .u64, 1, 8, [.int .u64 0], false⟩ := rfl
theorem tab55 : tab 55 = some ⟨.slice 3, 1, 24, [.slice none 0 0], false⟩ := rfl
theorem tab63 : tab 63 = some ⟨.struct [(0, 3), (1, 3), (2, 3), (3, 3), (4, 3), (5, 3), (6, 40)], 7, 56, [.int .i64 0, .int .i64 0, .int .i64 0, .int .i64 0, .int .i64 0, .int .i64 0, .int .u64 0], false⟩ := rfl
theorem tab64 : tab 64 = some ⟨.struct [(0, 3), (1, 3), (2, 3), (3, 3), (4, 3), (5, 3), (6, 40)], 7, 56, [.int .i64 0, .int .i64 0, .int .i64 0, .int .i64 0, .int .i64 0, .int .i64 0, .int .u64 0], true⟩ := rfl
theorem tab71 : tab 71 = some ⟨.struct [(0, 3)], 1, 8, [.int .i64 0], false⟩ := rfl
theorem tab72 : tab 72 = some ⟨.struct [(0, 3)], 1, 8, [.int .i64 0], true⟩ := rfl
theorem tab73 : tab 73 = some ⟨.struct [(0, 40), (1, 3)], 2, 16, [.int .u64 0, .int .i64 0], false⟩ := rfl
theorem tab74 : tab 74 = some ⟨.struct [(0, 40), (1, 3)], 2, 16, [.int .u64 0, .int .i64 0], true⟩ := rfl
theorem tab77 : tab 77 = some ⟨.slice 82, 1, 24, [.slice none 0 0], false⟩ := rfl
theorem tab78 : tab 78 = some ⟨.struct [(0, 77), (1, 55)], 2, 48, [.slice none 0 0, .slice none 0 0], false⟩ := rfl
theorem tab79 : tab 79 = some ⟨.struct [(0, 77), (1, 55)], 2, 48, [.slice none 0 0, .slice none 0 0], false⟩ := rfl
theorem tab81 : tab 81 = some ⟨.struct [(0, 40), (1, 35)], 10, 80, [.int .u64 0, .pointer none, .int .i64 0, .int .i64 0, .int .i64 0, .int .i64 0, .int .i64 0, .int .i64 0, .int .i64 0, .int .i64 0], false⟩ := rfl
theorem tab82 : tab 82 = some ⟨.struct [(0, 40), (1, 35)], 10, 80, [.int .u64 0, .pointer none, .int .i64 0, .int .i64 0, .int .i64 0, .int .i64 0, .int .i64 0, .int .i64 0, .int .i64 0, .int .i64 0], false⟩ := rfl
theorem tab85 : tab 85 = some ⟨.struct [(0, 3), (1, 3), (2, 3), (3, 3), (4, 3), (5, 3), (6, 3), (7, 4)], 8, 64, [.int .i64 0, .int .i64 0, .int .i64 0, .int .i64 0, .int .i64 0, .int .i64 0, .int .i64 0, .bool false], false⟩ := rfl
theorem tab86 : tab 86 = some ⟨.struct [(0, 3), (1, 3), (2, 3), (3, 3), (4, 3), (5, 3), (6, 3), (7, 4)], 8, 64, [.int .i64 0, .int .i64 0, .int .i64 0, .int .i64 0, .int .i64 0, .int .i64 0, .int .i64 0, .bool false], true⟩ := rfl
theorem tab87 : tab 87 = some ⟨.struct [(0, 86), (8, 3), (9, 3)], 10, 80, [.int .i64 0, .int .i64 0, .int .i64 0, .int .i64 0, .int .i64 0, .int .i64 0, .int .i64 0, .bool false, .int .i64 0, .int .i64 0], false⟩ := rfl
theorem tab88 : tab 88 = some ⟨.struct [(0, 86), (8, 3), (9, 3)], 10, 80, [.int .i64 0, .int .i64 0, .int .i64 0, .int .i64 0, .int .i64 0, .int .i64 0, .int .i64 0, .bool false, .int .i64 0, .int .i64 0], true⟩ := rfl
theorem tab96 : tab 96 = some ⟨.struct [(0, 22), (1, 3), (2, 3)], 3, 40, [.slice none 0 0, .int .i64 0, .int .i64 0], false⟩ := rfl
theorem tab97 : tab 97 = some ⟨.struct [(0, 22), (1, 3), (2, 3)], 3, 40, [.slice none 0 0, .int .i64 0, .int .i64 0], false⟩ := rfl
theorem tab98 : tab 98 = some ⟨.ptr 72, 1, 8, [.pointer none], false⟩ := rfl
theorem tab101 : tab 101 = some ⟨.ptr 74, 1, 8, [.pointer none], false⟩ := rfl
theorem tab116 : tab 116 = some ⟨.struct [(0, 3), (1, 3), (2, 3), (3, 3), (4, 3), (5, 3), (6, 3), (7, 4)], 8, 64, [.int .i64 0, .int .i64 0, .int .i64 0, .int .i64 0, .int .i64 0, .int .i64 0, .int .i64 0, .bool false], true⟩ := rfl
theorem tab117 : tab 117 = some ⟨.struct [(0, 116), (8, 3), (9, 3)], 10, 80, [.int .i64 0, .int .i64 0, .int .i64 0, .int .i64 0, .int .i64 0, .int .i64 0, .int .i64 0, .bool false, .int .i64 0, .int .i64 0], false⟩ := rfl
theorem tab118 : tab 118 = some ⟨.struct [(0, 116), (8, 3), (9, 3)], 10, 80, [.int .i64 0, .int .i64 0, .int .i64 0, .int .i64 0, .int .i64 0, .int .i64 0, .int .i64 0, .bool false, .int .i64 0, .int .i64 0], true⟩ := rfl
theorem tab135 : tab 135 = some ⟨.arr 6 3, 6, 48, [.int .i64 0, .int .i64 0, .int .i64 0, .int .i64 0, .int .i64 0, .int .i64 0], true⟩ := rfl
theorem tab137 : tab 137 = some ⟨.int .u32, 1, 4, [.int .u32 0], false⟩ := rfl
theorem tab138 : tab 138 = some ⟨.arr 7 3, 7, 56, [.int .i64 0, .int .i64 0, .int .i64 0, .int .i64 0, .int .i64 0, .int .i64 0, .int .i64 0], true⟩ := rfl
theorem tab140 : tab 140 = some ⟨.struct [(0, 17), (1, 17), (2, 17), (3, 9)], 4, 40, [.pointer none, .pointer none, .pointer none, .string ByteArray.empty], false⟩ := rfl
theorem tab141 : tab 141 = some ⟨.struct [(0, 17), (1, 17), (2, 17), (3, 9)], 4, 40, [.pointer none, .pointer none, .pointer none, .string ByteArray.empty], false⟩ := rfl
theorem tab145 : tab 145 = some ⟨.int .u8, 1, 1, [.int .u8 0], false⟩ := rfl
theorem tab146 : tab 146 = some ⟨.int .u8, 1, 1, [.int .u8 0], false⟩ := rfl
theorem tab148 : tab 148 = some ⟨.ptr 5, 1, 8, [.pointer none], false⟩ := rfl
theorem tab149 : tab 149 = some ⟨.int .i32, 1, 4, [.int .i32 0], false⟩ := rfl
theorem tab150 : tab 150 = some ⟨.int .i32, 1, 4, [.int .i32 0], false⟩ := rfl
theorem tkind2 : tkind tab 2 = some (.int .i64) := rfl
theorem tkind3 : tkind tab 3 = some (.int .i64) := rfl
theorem tkind4 : tkind tab 4 = some (.bool) := rfl
theorem tkind5 : tkind tab 5 = some (.int .u8) := rfl
theorem tkind6 : tkind tab 6 = some (.int .u8) := rfl
theorem tkind7 : tkind tab 7 = some (.struct [(0, 2), (1, 3), (2, 4), (3, 6)]) := rfl
theorem tkind8 : tkind tab 8 = some (.struct [(0, 2), (1, 3), (2, 4), (3, 6)]) := rfl
theorem tkind9 : tkind tab 9 = some (.str) := rfl
theorem tkind10 : tkind tab 10 = some (.str) := rfl
theorem tkind11 : tkind tab 11 = some (.str) := rfl
theorem tkind12 : tkind tab 12 = some (.int .u64) := rfl
theorem tkind13 : tkind tab 13 = some (.struct [(0, 9), (1, 12)]) := rfl
theorem tkind14 : tkind tab 14 = some (.struct [(0, 9), (1, 12)]) := rfl
theorem tkind15 : tkind tab 15 = some (.ptr 141) := rfl
theorem tkind16 : tkind tab 16 = some (.ptr 144) := rfl
theorem tkind17 : tkind tab 17 = some (.ptr 152) := rfl
theorem tkind18 : tkind tab 18 = some (.struct [(0, 17)]) := rfl
theorem tkind19 : tkind tab 19 = some (.struct [(0, 17)]) := rfl
theorem tkind21 : tkind tab 21 = some (.int .i32) := rfl
theorem tkind22 : tkind tab 22 = some (.slice 26) := rfl
theorem tkind23 : tkind tab 23 = some (.struct [(0, 3), (1, 3), (2, 3), (3, 3)]) := rfl
theorem tkind24 : tkind tab 24 = some (.struct [(0, 3), (1, 3), (2, 3), (3, 3)]) := rfl
theorem tkind26 : tkind tab 26 = some (.slice 40) := rfl
theorem tkind27 : tkind tab 27 = some (.slice 29) := rfl
theorem tkind28 : tkind tab 28 = some (.struct [(0, 3), (1, 26), (2, 27)]) := rfl
theorem tkind29 : tkind tab 29 = some (.struct [(0, 3), (1, 26), (2, 27)]) := rfl
theorem tkind33 : tkind tab 33 = some (.ptr 97) := rfl
theorem tkind34 : tkind tab 34 = some (.struct [(0, 33), (1, 3), (2, 3), (3, 3), (4, 3), (5, 3), (6, 3), (7, 3), (8, 3)]) := rfl
theorem tkind35 : tkind tab 35 = some (.struct [(0, 33), (1, 3), (2, 3), (3, 3), (4, 3), (5, 3), (6, 3), (7, 3), (8, 3)]) := rfl
theorem tkind37 : tkind tab 37 = some (.int .i64) := rfl
theorem tkind40 : tkind tab 40 = some (.int .u64) := rfl
theorem tkind45 : tkind tab 45 = some (.slice 22) := rfl
theorem tkind46 : tkind tab 46 = some (.ptr 79) := rfl
theorem tkind54 : tkind tab 54 = some (.int .u64) := rfl
theorem tkind55 : tkind tab 55 = some (.slice 3) := rfl
theorem tkind63 : tkind tab 63 = some (.struct [(0, 3), (1, 3), (2, 3), (3, 3), (4, 3), (5, 3), (6, 40)]) := rfl
theorem tkind64 : tkind tab 64 = some (.struct [(0, 3), (1, 3), (2, 3), (3, 3), (4, 3), (5, 3), (6, 40)]) := rfl
theorem tkind71 : tkind tab 71 = some (.struct [(0, 3)]) := rfl
theorem tkind72 : tkind tab 72 = some (.struct [(0, 3)]) := rfl
theorem tkind73 : tkind tab 73 = some (.struct [(0, 40), (1, 3)]) := rfl
theorem tkind74 : tkind tab 74 = some (.struct [(0, 40), (1, 3)]) := rfl
theorem tkind77 : tkind tab 77 = some (.slice 82) := rfl
theorem tkind78 : tkind tab 78 = some (.struct [(0, 77), (1, 55)]) := rfl
theorem tkind79 : tkind tab 79 = some (.struct [(0, 77), (1, 55)]) := rfl
theorem tkind81 : tkind tab 81 = some (.struct [(0, 40), (1, 35)]) := rfl
theorem tkind82 : tkind tab 82 = some (.struct [(0, 40), (1, 35)]) := rfl
theorem tkind85 : tkind tab 85 = some (.struct [(0, 3), (1, 3), (2, 3), (3, 3), (4, 3), (5, 3), (6, 3), (7, 4)]) := rfl
theorem tkind86 : tkind tab 86 = some (.struct [(0, 3), (1, 3), (2, 3), (3, 3), (4, 3), (5, 3), (6, 3), (7, 4)]) := rfl
theorem tkind87 : tkind tab 87 = some (.struct [(0, 86), (8, 3), (9, 3)]) := rfl
theorem tkind88 : tkind tab 88 = some (.struct [(0, 86), (8, 3), (9, 3)]) := rfl
theorem tkind96 : tkind tab 96 = some (.struct [(0, 22), (1, 3), (2, 3)]) := rfl
theorem tkind97 : tkind tab 97 = some (.struct [(0, 22), (1, 3), (2, 3)]) := rfl
theorem tkind98 : tkind tab 98 = some (.ptr 72) := rfl
theorem tkind101 : tkind tab 101 = some (.ptr 74) := rfl
theorem tkind116 : tkind tab 116 = some (.struct [(0, 3), (1, 3), (2, 3), (3, 3), (4, 3), (5, 3), (6, 3), (7, 4)]) := rfl
theorem tkind117 : tkind tab 117 = some (.struct [(0, 116), (8, 3), (9, 3)]) := rfl
theorem tkind118 : tkind tab 118 = some (.struct [(0, 116), (8, 3), (9, 3)]) := rfl
theorem tkind135 : tkind tab 135 = some (.arr 6 3) := rfl
theorem tkind137 : tkind tab 137 = some (.int .u32) := rfl
theorem tkind138 : tkind tab 138 = some (.arr 7 3) := rfl
theorem tkind140 : tkind tab 140 = some (.struct [(0, 17), (1, 17), (2, 17), (3, 9)]) := rfl
theorem tkind141 : tkind tab 141 = some (.struct [(0, 17), (1, 17), (2, 17), (3, 9)]) := rfl
theorem tkind145 : tkind tab 145 = some (.int .u8) := rfl
theorem tkind146 : tkind tab 146 = some (.int .u8) := rfl
theorem tkind148 : tkind tab 148 = some (.ptr 5) := rfl
theorem tkind149 : tkind tab 149 = some (.int .i32) := rfl
theorem tkind150 : tkind tab 150 = some (.int .i32) := rfl
theorem dok : DOk Try.prog (gquiet Try.prog tab) := gquiet_ok tab_ok (by kernel_rfl)
end Go.Proofs.Ytgffgbdnbjbmoaa
