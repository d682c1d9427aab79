/- The types of this seat's program, as its dump has them, in the ghost memory's words; no condition. -/
import Derived.Test.YtpfbdlcnfekdkaaRows
import Derived.Test.YtpfbdlcnfekdkaaG16
namespace Go.Proofs.Ytpfbdlcnfekdkaa
open Go.RowKit
set_option linter.unusedVariables false
set_option linter.unusedSimpArgs false
theorem TyOk.of {P : Program} {t : TypeId} (k : TK) (size bytes : Nat) (zero : List Value) (z : Value) (h : (P.info? t).map (fun i => (i.zero, i.size, i.bytes)) = some (some z, size, bytes)) (hz : z.cells.toList = zero) (hu : k.ok P t) (hl : zero.length = size) (h1 : zero.all Value.oneCell' = true) (eq : Bool) (he : eq = true → Zs8 P t) : TyOk P t ⟨k, size, bytes, zero, eq⟩ := by
 refine ⟨?_, hu, hl, fun v hv => List.all_eq_true.1 h1 v hv, he⟩
 cases hi : P.info? t with
 | none => rw [hi] at h; cases h
 | some i =>
  rw [hi] at h
  simp only [Option.map_some, Option.some.injEq, Prod.mk.injEq] at h
  exact ⟨i, z, rfl, h.2.1, h.2.2, h.1, hz⟩
theorem Zvn {α : Type} {t : Nat} {i : α} : ∀ (l : List (Nat × α)), l.lookup t = some i → (t, i) ∈ l
 | [], h => by simp at h
 | (a, b) :: l, h => by
  rw [List.lookup_cons] at h
  split at h
  ·rename_i he
   injection h with h
   have : t = a := by simpa using he
   subst h this
   exact .head _
  exact .tail _ (Zvn l h)
theorem ty2 : TyOk Try.prog 2 ⟨.int .i64, 1, 8, [.int .i64 0], false⟩ := TyOk.of (P := Try.prog) (t := 2) (.int .i64) 1 8 [.int .i64 0] (.int .i64 0) (by kernel_rfl) rfl Try.underlying2 rfl rfl false (fun h => by cases h)
theorem ty3 : TyOk Try.prog 3 ⟨.int .i64, 1, 8, [.int .i64 0], false⟩ := TyOk.of (P := Try.prog) (t := 3) (.int .i64) 1 8 [.int .i64 0] (.int .i64 0) (by kernel_rfl) rfl Try.underlying3 rfl rfl false (fun h => by cases h)
theorem ty4 : TyOk Try.prog 4 ⟨.bool, 1, 1, [.bool false], false⟩ := TyOk.of (P := Try.prog) (t := 4) (.bool) 1 1 [.bool false] (.bool false) (by kernel_rfl) rfl Try.underlying4 rfl rfl false (fun h => by cases h)
theorem ty5 : TyOk Try.prog 5 ⟨.int .u8, 1, 1, [.int .u8 0], false⟩ := TyOk.of (P := Try.prog) (t := 5) (.int .u8) 1 1 [.int .u8 0] (.int .u8 0) (by kernel_rfl) rfl Try.underlying5 rfl rfl false (fun h => by cases h)
theorem ty6 : TyOk Try.prog 6 ⟨.int .u8, 1, 1, [.int .u8 0], false⟩ := TyOk.of (P := Try.prog) (t := 6) (.int .u8) 1 1 [.int .u8 0] (.int .u8 0) (by kernel_rfl) rfl Try.underlying6 rfl rfl false (fun h => by cases h)
theorem ty7 : TyOk Try.prog 7 ⟨.struct [(0, 2), (1, 3), (2, 4), (3, 6)], 4, 24, [.int .i64 0, .int .i64 0, .bool false, .int .u8 0], false⟩ := TyOk.of (P := Try.prog) (t := 7) (.struct [(0, 2), (1, 3), (2, 4), (3, 6)]) 4 24 [.int .i64 0, .int .i64 0, .bool false, .int .u8 0] (.agg #[.int .i64 0, .int .i64 0, .bool false, .int .u8 0]) (by kernel_rfl) rfl ⟨_, Try.underlying7, rfl⟩ rfl rfl false (fun h => by cases h)
theorem ty8 : TyOk Try.prog 8 ⟨.struct [(0, 2), (1, 3), (2, 4), (3, 6)], 4, 24, [.int .i64 0, .int .i64 0, .bool false, .int .u8 0], false⟩ := TyOk.of (P := Try.prog) (t := 8) (.struct [(0, 2), (1, 3), (2, 4), (3, 6)]) 4 24 [.int .i64 0, .int .i64 0, .bool false, .int .u8 0] (.agg #[.int .i64 0, .int .i64 0, .bool false, .int .u8 0]) (by kernel_rfl) rfl ⟨_, Try.underlying8, rfl⟩ rfl rfl false (fun h => by cases h)
theorem ty9 : TyOk Try.prog 9 ⟨.str, 1, 16, [.string ByteArray.empty], false⟩ := TyOk.of (P := Try.prog) (t := 9) (.str) 1 16 [.string ByteArray.empty] (.string ByteArray.empty) (by kernel_rfl) rfl Try.underlying9 rfl rfl false (fun h => by cases h)
theorem Yec : TyOk Try.prog 10 ⟨.str, 1, 16, [.string ByteArray.empty], false⟩ := TyOk.of (P := Try.prog) (t := 10) (.str) 1 16 [.string ByteArray.empty] (.string ByteArray.empty) (by kernel_rfl) rfl Try.underlying10 rfl rfl false (fun h => by cases h)
theorem Yed : TyOk Try.prog 11 ⟨.str, 1, 16, [.string ByteArray.empty], false⟩ := TyOk.of (P := Try.prog) (t := 11) (.str) 1 16 [.string ByteArray.empty] (.string ByteArray.empty) (by kernel_rfl) rfl Try.underlying11 rfl rfl false (fun h => by cases h)
theorem Yee : TyOk Try.prog 12 ⟨.int .u64, 1, 8, [.int .u64 0], false⟩ := TyOk.of (P := Try.prog) (t := 12) (.int .u64) 1 8 [.int .u64 0] (.int .u64 0) (by kernel_rfl) rfl Try.underlying12 rfl rfl false (fun h => by cases h)
theorem Yef : TyOk Try.prog 13 ⟨.struct [(0, 9), (1, 12)], 2, 24, [.string ByteArray.empty, .int .u64 0], false⟩ := TyOk.of (P := Try.prog) (t := 13) (.struct [(0, 9), (1, 12)]) 2 24 [.string ByteArray.empty, .int .u64 0] (.agg #[.string ByteArray.empty, .int .u64 0]) (by kernel_rfl) rfl ⟨_, Try.underlying13, rfl⟩ rfl rfl false (fun h => by cases h)
theorem Yeg : TyOk Try.prog 14 ⟨.struct [(0, 9), (1, 12)], 2, 24, [.string ByteArray.empty, .int .u64 0], false⟩ := TyOk.of (P := Try.prog) (t := 14) (.struct [(0, 9), (1, 12)]) 2 24 [.string ByteArray.empty, .int .u64 0] (.agg #[.string ByteArray.empty, .int .u64 0]) (by kernel_rfl) rfl ⟨_, Try.underlying14, rfl⟩ rfl rfl false (fun h => by cases h)
theorem Yeh : TyOk Try.prog 15 ⟨.ptr 162, 1, 8, [.pointer none], false⟩ := TyOk.of (P := Try.prog) (t := 15) (.ptr 162) 1 8 [.pointer none] (.pointer none) (by kernel_rfl) rfl Try.underlying15 rfl rfl false (fun h => by cases h)
theorem Yei : TyOk Try.prog 16 ⟨.ptr 165, 1, 8, [.pointer none], false⟩ := TyOk.of (P := Try.prog) (t := 16) (.ptr 165) 1 8 [.pointer none] (.pointer none) (by kernel_rfl) rfl Try.underlying16 rfl rfl false (fun h => by cases h)
theorem Yej : TyOk Try.prog 17 ⟨.ptr 173, 1, 8, [.pointer none], false⟩ := TyOk.of (P := Try.prog) (t := 17) (.ptr 173) 1 8 [.pointer none] (.pointer none) (by kernel_rfl) rfl Try.underlying17 rfl rfl false (fun h => by cases h)
theorem Yek : TyOk Try.prog 18 ⟨.struct [(0, 17)], 1, 8, [.pointer none], false⟩ := TyOk.of (P := Try.prog) (t := 18) (.struct [(0, 17)]) 1 8 [.pointer none] (.agg #[.pointer none]) (by kernel_rfl) rfl ⟨_, Try.underlying18, rfl⟩ rfl rfl false (fun h => by cases h)
theorem Yel : TyOk Try.prog 19 ⟨.struct [(0, 17)], 1, 8, [.pointer none], false⟩ := TyOk.of (P := Try.prog) (t := 19) (.struct [(0, 17)]) 1 8 [.pointer none] (.agg #[.pointer none]) (by kernel_rfl) rfl ⟨_, Try.underlying19, rfl⟩ rfl rfl false (fun h => by cases h)
theorem Yem : TyOk Try.prog 21 ⟨.int .i32, 1, 4, [.int .i32 0], false⟩ := TyOk.of (P := Try.prog) (t := 21) (.int .i32) 1 4 [.int .i32 0] (.int .i32 0) (by kernel_rfl) rfl Try.underlying21 rfl rfl false (fun h => by cases h)
theorem Yen : TyOk Try.prog 22 ⟨.slice 26, 1, 24, [.slice none 0 0], false⟩ := TyOk.of (P := Try.prog) (t := 22) (.slice 26) 1 24 [.slice none 0 0] (.slice none 0 0) (by kernel_rfl) rfl Try.underlying22 rfl rfl false (fun h => by cases h)
theorem Yeo : TyOk Try.prog 23 ⟨.struct [(0, 3), (1, 3), (2, 3), (3, 3)], 4, 32, [.int .i64 0, .int .i64 0, .int .i64 0, .int .i64 0], false⟩ := TyOk.of (P := Try.prog) (t := 23) (.struct [(0, 3), (1, 3), (2, 3), (3, 3)]) 4 32 [.int .i64 0, .int .i64 0, .int .i64 0, .int .i64 0] (.agg #[.int .i64 0, .int .i64 0, .int .i64 0, .int .i64 0]) (by kernel_rfl) rfl ⟨_, Try.underlying23, rfl⟩ rfl rfl false (fun h => by cases h)
theorem Yep : TyOk Try.prog 24 ⟨.struct [(0, 3), (1, 3), (2, 3), (3, 3)], 4, 32, [.int .i64 0, .int .i64 0, .int .i64 0, .int .i64 0], true⟩ := TyOk.of (P := Try.prog) (t := 24) (.struct [(0, 3), (1, 3), (2, 3), (3, 3)]) 4 32 [.int .i64 0, .int .i64 0, .int .i64 0, .int .i64 0] (.agg #[.int .i64 0, .int .i64 0, .int .i64 0, .int .i64 0]) (by kernel_rfl) rfl ⟨_, Try.underlying24, rfl⟩ rfl rfl true (fun _ => by unfold Zs8; exact ⟨by kernel_rfl, by kernel_rfl, by kernel_rfl⟩)
theorem Yeq : TyOk Try.prog 26 ⟨.slice 63, 1, 24, [.slice none 0 0], false⟩ := TyOk.of (P := Try.prog) (t := 26) (.slice 63) 1 24 [.slice none 0 0] (.slice none 0 0) (by kernel_rfl) rfl Try.underlying26 rfl rfl false (fun h => by cases h)
theorem Yer : TyOk Try.prog 27 ⟨.slice 29, 1, 24, [.slice none 0 0], false⟩ := TyOk.of (P := Try.prog) (t := 27) (.slice 29) 1 24 [.slice none 0 0] (.slice none 0 0) (by kernel_rfl) rfl Try.underlying27 rfl rfl false (fun h => by cases h)
theorem Yes : TyOk Try.prog 28 ⟨.struct [(0, 3), (1, 26), (2, 27)], 3, 56, [.int .i64 0, .slice none 0 0, .slice none 0 0], false⟩ := TyOk.of (P := Try.prog) (t := 28) (.struct [(0, 3), (1, 26), (2, 27)]) 3 56 [.int .i64 0, .slice none 0 0, .slice none 0 0] (.agg #[.int .i64 0, .slice none 0 0, .slice none 0 0]) (by kernel_rfl) rfl ⟨_, Try.underlying28, rfl⟩ rfl rfl false (fun h => by cases h)
theorem Yet : TyOk Try.prog 29 ⟨.struct [(0, 3), (1, 26), (2, 27)], 3, 56, [.int .i64 0, .slice none 0 0, .slice none 0 0], false⟩ := TyOk.of (P := Try.prog) (t := 29) (.struct [(0, 3), (1, 26), (2, 27)]) 3 56 [.int .i64 0, .slice none 0 0, .slice none 0 0] (.agg #[.int .i64 0, .slice none 0 0, .slice none 0 0]) (by kernel_rfl) rfl ⟨_, Try.underlying29, rfl⟩ rfl rfl false (fun h => by cases h)
theorem Yeu : TyOk Try.prog 30 ⟨.int .i64, 1, 8, [.int .i64 0], false⟩ := TyOk.of (P := Try.prog) (t := 30) (.int .i64) 1 8 [.int .i64 0] (.int .i64 0) (by kernel_rfl) rfl Try.underlying30 rfl rfl false (fun h => by cases h)
theorem Yev : TyOk Try.prog 33 ⟨.ptr 62, 1, 8, [.pointer none], false⟩ := TyOk.of (P := Try.prog) (t := 33) (.ptr 62) 1 8 [.pointer none] (.pointer none) (by kernel_rfl) rfl Try.underlying33 rfl rfl false (fun h => by cases h)
theorem Yew : TyOk Try.prog 46 ⟨.slice 3, 1, 24, [.slice none 0 0], false⟩ := TyOk.of (P := Try.prog) (t := 46) (.slice 3) 1 24 [.slice none 0 0] (.slice none 0 0) (by kernel_rfl) rfl Try.underlying46 rfl rfl false (fun h => by cases h)
theorem Yex : TyOk Try.prog 49 ⟨.struct [(0, 33), (1, 3), (2, 3), (3, 3), (4, 3), (5, 3), (6, 3), (7, 3), (8, 3)], 9, 72, [.pointer none, .int .i64 0, .int .i64 0, .int .i64 0, .int .i64 0, .int .i64 0, .int .i64 0, .int .i64 0, .int .i64 0], false⟩ := TyOk.of (P := Try.prog) (t := 49) (.struct [(0, 33), (1, 3), (2, 3), (3, 3), (4, 3), (5, 3), (6, 3), (7, 3), (8, 3)]) 9 72 [.pointer none, .int .i64 0, .int .i64 0, .int .i64 0, .int .i64 0, .int .i64 0, .int .i64 0, .int .i64 0, .int .i64 0] (.agg #[.pointer none, .int .i64 0, .int .i64 0, .int .i64 0, .int .i64 0, .int .i64 0, .int .i64 0, .int .i64 0, .int .i64 0]) (by kernel_rfl) rfl ⟨_, Try.underlying49, rfl⟩ rfl rfl false (fun h => by cases h)
theorem Yey : TyOk Try.prog 50 ⟨.struct [(0, 33), (1, 3), (2, 3), (3, 3), (4, 3), (5, 3), (6, 3), (7, 3), (8, 3)], 9, 72, [.pointer none, .int .i64 0, .int .i64 0, .int .i64 0, .int .i64 0, .int .i64 0, .int .i64 0, .int .i64 0, .int .i64 0], false⟩ := TyOk.of (P := Try.prog) (t := 50) (.struct [(0, 33), (1, 3), (2, 3), (3, 3), (4, 3), (5, 3), (6, 3), (7, 3), (8, 3)]) 9 72 [.pointer none, .int .i64 0, .int .i64 0, .int .i64 0, .int .i64 0, .int .i64 0, .int .i64 0, .int .i64 0, .int .i64 0] (.agg #[.pointer none, .int .i64 0, .int .i64 0, .int .i64 0, .int .i64 0, .int .i64 0, .int .i64 0, .int .i64 0, .int .i64 0]) (by kernel_rfl) rfl ⟨_, Try.underlying50, rfl⟩ rfl rfl false (fun h => by cases h)
theorem Yez : TyOk Try.prog 61 ⟨.struct [(0, 22), (1, 3), (2, 3)], 3, 40, [.slice none 0 0, .int .i64 0, .int .i64 0], false⟩ := TyOk.of (P := Try.prog) (t := 61) (.struct [(0, 22), (1, 3), (2, 3)]) 3 40 [.slice none 0 0, .int .i64 0, .int .i64 0] (.agg #[.slice none 0 0, .int .i64 0, .int .i64 0]) (by kernel_rfl) rfl ⟨_, Try.underlying61, rfl⟩ rfl rfl false (fun h => by cases h)
theorem Ye0 : TyOk Try.prog 62 ⟨.struct [(0, 22), (1, 3), (2, 3)], 3, 40, [.slice none 0 0, .int .i64 0, .int .i64 0], false⟩ := TyOk.of (P := Try.prog) (t := 62) (.struct [(0, 22), (1, 3), (2, 3)]) 3 40 [.slice none 0 0, .int .i64 0, .int .i64 0] (.agg #[.slice none 0 0, .int .i64 0, .int .i64 0]) (by kernel_rfl) rfl ⟨_, Try.underlying62, rfl⟩ rfl rfl false (fun h => by cases h)
theorem Ye1 : TyOk Try.prog 63 ⟨.int .u64, 1, 8, [.int .u64 0], false⟩ := TyOk.of (P := Try.prog) (t := 63) (.int .u64) 1 8 [.int .u64 0] (.int .u64 0) (by kernel_rfl) rfl Try.underlying63 rfl rfl false (fun h => by cases h)
theorem Ye2 : TyOk Try.prog 65 ⟨.struct [(0, 26), (1, 3)], 2, 32, [.slice none 0 0, .int .i64 0], false⟩ := TyOk.of (P := Try.prog) (t := 65) (.struct [(0, 26), (1, 3)]) 2 32 [.slice none 0 0, .int .i64 0] (.agg #[.slice none 0 0, .int .i64 0]) (by kernel_rfl) rfl ⟨_, Try.underlying65, rfl⟩ rfl rfl false (fun h => by cases h)
theorem Ye3 : TyOk Try.prog 66 ⟨.struct [(0, 26), (1, 3)], 2, 32, [.slice none 0 0, .int .i64 0], false⟩ := TyOk.of (P := Try.prog) (t := 66) (.struct [(0, 26), (1, 3)]) 2 32 [.slice none 0 0, .int .i64 0] (.agg #[.slice none 0 0, .int .i64 0]) (by kernel_rfl) rfl ⟨_, Try.underlying66, rfl⟩ rfl rfl false (fun h => by cases h)
theorem Ye4 : TyOk Try.prog 74 ⟨.struct [(0, 3), (1, 3), (2, 3), (3, 3), (4, 3), (5, 3), (6, 63)], 7, 56, [.int .i64 0, .int .i64 0, .int .i64 0, .int .i64 0, .int .i64 0, .int .i64 0, .int .u64 0], false⟩ := TyOk.of (P := Try.prog) (t := 74) (.struct [(0, 3), (1, 3), (2, 3), (3, 3), (4, 3), (5, 3), (6, 63)]) 7 56 [.int .i64 0, .int .i64 0, .int .i64 0, .int .i64 0, .int .i64 0, .int .i64 0, .int .u64 0] (.agg #[.int .i64 0, .int .i64 0, .int .i64 0, .int .i64 0, .int .i64 0, .int .i64 0, .int .u64 0]) (by kernel_rfl) rfl ⟨_, Try.underlying74, rfl⟩ rfl rfl false (fun h => by cases h)
theorem Ye5 : TyOk Try.prog 75 ⟨.struct [(0, 3), (1, 3), (2, 3), (3, 3), (4, 3), (5, 3), (6, 63)], 7, 56, [.int .i64 0, .int .i64 0, .int .i64 0, .int .i64 0, .int .i64 0, .int .i64 0, .int .u64 0], true⟩ := TyOk.of (P := Try.prog) (t := 75) (.struct [(0, 3), (1, 3), (2, 3), (3, 3), (4, 3), (5, 3), (6, 63)]) 7 56 [.int .i64 0, .int .i64 0, .int .i64 0, .int .i64 0, .int .i64 0, .int .i64 0, .int .u64 0] (.agg #[.int .i64 0, .int .i64 0, .int .i64 0, .int .i64 0, .int .i64 0, .int .i64 0, .int .u64 0]) (by kernel_rfl) rfl ⟨_, Try.underlying75, rfl⟩ rfl rfl true (fun _ => by unfold Zs8; exact ⟨by kernel_rfl, by kernel_rfl, by kernel_rfl⟩)
theorem Ye6 : TyOk Try.prog 84 ⟨.struct [(0, 3)], 1, 8, [.int .i64 0], false⟩ := TyOk.of (P := Try.prog) (t := 84) (.struct [(0, 3)]) 1 8 [.int .i64 0] (.agg #[.int .i64 0]) (by kernel_rfl) rfl ⟨_, Try.underlying84, rfl⟩ rfl rfl false (fun h => by cases h)
theorem Ye7 : TyOk Try.prog 85 ⟨.struct [(0, 3)], 1, 8, [.int .i64 0], true⟩ := TyOk.of (P := Try.prog) (t := 85) (.struct [(0, 3)]) 1 8 [.int .i64 0] (.agg #[.int .i64 0]) (by kernel_rfl) rfl ⟨_, Try.underlying85, rfl⟩ rfl rfl true (fun _ => by unfold Zs8; exact ⟨by kernel_rfl, by kernel_rfl, by kernel_rfl⟩)
theorem Ye8 : TyOk Try.prog 87 ⟨.struct [(0, 3)], 1, 8, [.int .i64 0], false⟩ := TyOk.of (P := Try.prog) (t := 87) (.struct [(0, 3)]) 1 8 [.int .i64 0] (.agg #[.int .i64 0]) (by kernel_rfl) rfl ⟨_, Try.underlying87, rfl⟩ rfl rfl false (fun h => by cases h)
theorem Ye9 : TyOk Try.prog 88 ⟨.struct [(0, 3)], 1, 8, [.int .i64 0], true⟩ := TyOk.of (P := Try.prog) (t := 88) (.struct [(0, 3)]) 1 8 [.int .i64 0] (.agg #[.int .i64 0]) (by kernel_rfl) rfl ⟨_, Try.underlying88, rfl⟩ rfl rfl true (fun _ => by unfold Zs8; exact ⟨by kernel_rfl, by kernel_rfl, by kernel_rfl⟩)
theorem Yfa : TyOk Try.prog 91 ⟨.ptr 66, 1, 8, [.pointer none], false⟩ := TyOk.of (P := Try.prog) (t := 91) (.ptr 66) 1 8 [.pointer none] (.pointer none) (by kernel_rfl) rfl Try.underlying91 rfl rfl false (fun h => by cases h)
theorem Yfb : TyOk Try.prog 92 ⟨.struct [(0, 3), (1, 3), (2, 3), (3, 3), (4, 3), (5, 3), (6, 3), (7, 4)], 8, 64, [.int .i64 0, .int .i64 0, .int .i64 0, .int .i64 0, .int .i64 0, .int .i64 0, .int .i64 0, .bool false], false⟩ := TyOk.of (P := Try.prog) (t := 92) (.struct [(0, 3), (1, 3), (2, 3), (3, 3), (4, 3), (5, 3), (6, 3), (7, 4)]) 8 64 [.int .i64 0, .int .i64 0, .int .i64 0, .int .i64 0, .int .i64 0, .int .i64 0, .int .i64 0, .bool false] (.agg #[.int .i64 0, .int .i64 0, .int .i64 0, .int .i64 0, .int .i64 0, .int .i64 0, .int .i64 0, .bool false]) (by kernel_rfl) rfl ⟨_, Try.underlying92, rfl⟩ rfl rfl false (fun h => by cases h)
theorem Yfc : TyOk Try.prog 93 ⟨.struct [(0, 3), (1, 3), (2, 3), (3, 3), (4, 3), (5, 3), (6, 3), (7, 4)], 8, 64, [.int .i64 0, .int .i64 0, .int .i64 0, .int .i64 0, .int .i64 0, .int .i64 0, .int .i64 0, .bool false], true⟩ := TyOk.of (P := Try.prog) (t := 93) (.struct [(0, 3), (1, 3), (2, 3), (3, 3), (4, 3), (5, 3), (6, 3), (7, 4)]) 8 64 [.int .i64 0, .int .i64 0, .int .i64 0, .int .i64 0, .int .i64 0, .int .i64 0, .int .i64 0, .bool false] (.agg #[.int .i64 0, .int .i64 0, .int .i64 0, .int .i64 0, .int .i64 0, .int .i64 0, .int .i64 0, .bool false]) (by kernel_rfl) rfl ⟨_, Try.underlying93, rfl⟩ rfl rfl true (fun _ => by unfold Zs8; exact ⟨by kernel_rfl, by kernel_rfl, by kernel_rfl⟩)
theorem Yc5 : TyOk Try.prog 104 ⟨.struct [(0, 3), (1, 3), (2, 3), (3, 3), (4, 3), (5, 3), (6, 3), (7, 4)], 8, 64, [.int .i64 0, .int .i64 0, .int .i64 0, .int .i64 0, .int .i64 0, .int .i64 0, .int .i64 0, .bool false], true⟩ := TyOk.of (P := Try.prog) (t := 104) (.struct [(0, 3), (1, 3), (2, 3), (3, 3), (4, 3), (5, 3), (6, 3), (7, 4)]) 8 64 [.int .i64 0, .int .i64 0, .int .i64 0, .int .i64 0, .int .i64 0, .int .i64 0, .int .i64 0, .bool false] (.agg #[.int .i64 0, .int .i64 0, .int .i64 0, .int .i64 0, .int .i64 0, .int .i64 0, .int .i64 0, .bool false]) (by kernel_rfl) rfl ⟨_, Try.underlying104, rfl⟩ rfl rfl true (fun _ => by unfold Zs8; exact ⟨by kernel_rfl, by kernel_rfl, by kernel_rfl⟩)
theorem Yc6 : TyOk Try.prog 105 ⟨.struct [(0, 104), (8, 3), (9, 3)], 10, 80, [.int .i64 0, .int .i64 0, .int .i64 0, .int .i64 0, .int .i64 0, .int .i64 0, .int .i64 0, .bool false, .int .i64 0, .int .i64 0], false⟩ := TyOk.of (P := Try.prog) (t := 105) (.struct [(0, 104), (8, 3), (9, 3)]) 10 80 [.int .i64 0, .int .i64 0, .int .i64 0, .int .i64 0, .int .i64 0, .int .i64 0, .int .i64 0, .bool false, .int .i64 0, .int .i64 0] (.agg #[.int .i64 0, .int .i64 0, .int .i64 0, .int .i64 0, .int .i64 0, .int .i64 0, .int .i64 0, .bool false, .int .i64 0, .int .i64 0]) (by kernel_rfl) rfl ⟨_, Try.underlying105, rfl⟩ rfl rfl false (fun h => by cases h)
theorem Yc7 : TyOk Try.prog 106 ⟨.struct [(0, 104), (8, 3), (9, 3)], 10, 80, [.int .i64 0, .int .i64 0, .int .i64 0, .int .i64 0, .int .i64 0, .int .i64 0, .int .i64 0, .bool false, .int .i64 0, .int .i64 0], true⟩ := TyOk.of (P := Try.prog) (t := 106) (.struct [(0, 104), (8, 3), (9, 3)]) 10 80 [.int .i64 0, .int .i64 0, .int .i64 0, .int .i64 0, .int .i64 0, .int .i64 0, .int .i64 0, .bool false, .int .i64 0, .int .i64 0] (.agg #[.int .i64 0, .int .i64 0, .int .i64 0, .int .i64 0, .int .i64 0, .int .i64 0, .int .i64 0, .bool false, .int .i64 0, .int .i64 0]) (by kernel_rfl) rfl ⟨_, Try.underlying106, rfl⟩ rfl rfl true (fun _ => by unfold Zs8; exact ⟨by kernel_rfl, by kernel_rfl, by kernel_rfl⟩)
theorem Yc8 : TyOk Try.prog 112 ⟨.struct [(0, 3)], 1, 8, [.int .i64 0], false⟩ := TyOk.of (P := Try.prog) (t := 112) (.struct [(0, 3)]) 1 8 [.int .i64 0] (.agg #[.int .i64 0]) (by kernel_rfl) rfl ⟨_, Try.underlying112, rfl⟩ rfl rfl false (fun h => by cases h)
theorem Yc9 : TyOk Try.prog 113 ⟨.struct [(0, 3)], 1, 8, [.int .i64 0], true⟩ := TyOk.of (P := Try.prog) (t := 113) (.struct [(0, 3)]) 1 8 [.int .i64 0] (.agg #[.int .i64 0]) (by kernel_rfl) rfl ⟨_, Try.underlying113, rfl⟩ rfl rfl true (fun _ => by unfold Zs8; exact ⟨by kernel_rfl, by kernel_rfl, by kernel_rfl⟩)
theorem Yda : TyOk Try.prog 116 ⟨.struct [(0, 26), (1, 3)], 2, 32, [.slice none 0 0, .int .i64 0], false⟩ := TyOk.of (P := Try.prog) (t := 116) (.struct [(0, 26), (1, 3)]) 2 32 [.slice none 0 0, .int .i64 0] (.agg #[.slice none 0 0, .int .i64 0]) (by kernel_rfl) rfl ⟨_, Try.underlying116, rfl⟩ rfl rfl false (fun h => by cases h)
theorem Ydb : TyOk Try.prog 117 ⟨.struct [(0, 26), (1, 3)], 2, 32, [.slice none 0 0, .int .i64 0], false⟩ := TyOk.of (P := Try.prog) (t := 117) (.struct [(0, 26), (1, 3)]) 2 32 [.slice none 0 0, .int .i64 0] (.agg #[.slice none 0 0, .int .i64 0]) (by kernel_rfl) rfl ⟨_, Try.underlying117, rfl⟩ rfl rfl false (fun h => by cases h)
theorem Ydc : TyOk Try.prog 119 ⟨.struct [(0, 93), (8, 3), (9, 3)], 10, 80, [.int .i64 0, .int .i64 0, .int .i64 0, .int .i64 0, .int .i64 0, .int .i64 0, .int .i64 0, .bool false, .int .i64 0, .int .i64 0], false⟩ := TyOk.of (P := Try.prog) (t := 119) (.struct [(0, 93), (8, 3), (9, 3)]) 10 80 [.int .i64 0, .int .i64 0, .int .i64 0, .int .i64 0, .int .i64 0, .int .i64 0, .int .i64 0, .bool false, .int .i64 0, .int .i64 0] (.agg #[.int .i64 0, .int .i64 0, .int .i64 0, .int .i64 0, .int .i64 0, .int .i64 0, .int .i64 0, .bool false, .int .i64 0, .int .i64 0]) (by kernel_rfl) rfl ⟨_, Try.underlying119, rfl⟩ rfl rfl false (fun h => by cases h)
theorem Ydd : TyOk Try.prog 120 ⟨.struct [(0, 93), (8, 3), (9, 3)], 10, 80, [.int .i64 0, .int .i64 0, .int .i64 0, .int .i64 0, .int .i64 0, .int .i64 0, .int .i64 0, .bool false, .int .i64 0, .int .i64 0], true⟩ := TyOk.of (P := Try.prog) (t := 120) (.struct [(0, 93), (8, 3), (9, 3)]) 10 80 [.int .i64 0, .int .i64 0, .int .i64 0, .int .i64 0, .int .i64 0, .int .i64 0, .int .i64 0, .bool false, .int .i64 0, .int .i64 0] (.agg #[.int .i64 0, .int .i64 0, .int .i64 0, .int .i64 0, .int .i64 0, .int .i64 0, .int .i64 0, .bool false, .int .i64 0, .int .i64 0]) (by kernel_rfl) rfl ⟨_, Try.underlying120, rfl⟩ rfl rfl true (fun _ => by unfold Zs8; exact ⟨by kernel_rfl, by kernel_rfl, by kernel_rfl⟩)
theorem Yde : TyOk Try.prog 126 ⟨.ptr 85, 1, 8, [.pointer none], false⟩ := TyOk.of (P := Try.prog) (t := 126) (.ptr 85) 1 8 [.pointer none] (.pointer none) (by kernel_rfl) rfl Try.underlying126 rfl rfl false (fun h => by cases h)
theorem Ydf : TyOk Try.prog 127 ⟨.ptr 88, 1, 8, [.pointer none], false⟩ := TyOk.of (P := Try.prog) (t := 127) (.ptr 88) 1 8 [.pointer none] (.pointer none) (by kernel_rfl) rfl Try.underlying127 rfl rfl false (fun h => by cases h)
theorem Ydg : TyOk Try.prog 141 ⟨.ptr 113, 1, 8, [.pointer none], false⟩ := TyOk.of (P := Try.prog) (t := 141) (.ptr 113) 1 8 [.pointer none] (.pointer none) (by kernel_rfl) rfl Try.underlying141 rfl rfl false (fun h => by cases h)
theorem Ydh : TyOk Try.prog 142 ⟨.ptr 117, 1, 8, [.pointer none], false⟩ := TyOk.of (P := Try.prog) (t := 142) (.ptr 117) 1 8 [.pointer none] (.pointer none) (by kernel_rfl) rfl Try.underlying142 rfl rfl false (fun h => by cases h)
theorem Ydi : TyOk Try.prog 149 ⟨.arr 7 3, 7, 56, [.int .i64 0, .int .i64 0, .int .i64 0, .int .i64 0, .int .i64 0, .int .i64 0, .int .i64 0], true⟩ := TyOk.of (P := Try.prog) (t := 149) (.arr 7 3) 7 56 [.int .i64 0, .int .i64 0, .int .i64 0, .int .i64 0, .int .i64 0, .int .i64 0, .int .i64 0] (.agg #[.int .i64 0, .int .i64 0, .int .i64 0, .int .i64 0, .int .i64 0, .int .i64 0, .int .i64 0]) (by kernel_rfl) rfl Try.underlying149 rfl rfl true (fun _ => by unfold Zs8; exact ⟨by kernel_rfl, by kernel_rfl, by kernel_rfl⟩)
theorem Ydj : TyOk Try.prog 150 ⟨.int .u32, 1, 4, [.int .u32 0], false⟩ := TyOk.of (P := Try.prog) (t := 150) (.int .u32) 1 4 [.int .u32 0] (.int .u32 0) (by kernel_rfl) rfl Try.underlying150 rfl rfl false (fun h => by cases h)
theorem Ydk : TyOk Try.prog 151 ⟨.int .u64, 1, 8, [.int .u64 0], false⟩ := TyOk.of (P := Try.prog) (t := 151) (.int .u64) 1 8 [.int .u64 0] (.int .u64 0) (by kernel_rfl) rfl Try.underlying151 rfl rfl false (fun h => by cases h)
theorem Ydl : TyOk Try.prog 159 ⟨.arr 6 3, 6, 48, [.int .i64 0, .int .i64 0, .int .i64 0, .int .i64 0, .int .i64 0, .int .i64 0], true⟩ := TyOk.of (P := Try.prog) (t := 159) (.arr 6 3) 6 48 [.int .i64 0, .int .i64 0, .int .i64 0, .int .i64 0, .int .i64 0, .int .i64 0] (.agg #[.int .i64 0, .int .i64 0, .int .i64 0, .int .i64 0, .int .i64 0, .int .i64 0]) (by kernel_rfl) rfl Try.underlying159 rfl rfl true (fun _ => by unfold Zs8; exact ⟨by kernel_rfl, by kernel_rfl, by kernel_rfl⟩)
theorem Ydm : TyOk Try.prog 161 ⟨.struct [(0, 17), (1, 17), (2, 17), (3, 9)], 4, 40, [.pointer none, .pointer none, .pointer none, .string ByteArray.empty], false⟩ := TyOk.of (P := Try.prog) (t := 161) (.struct [(0, 17), (1, 17), (2, 17), (3, 9)]) 4 40 [.pointer none, .pointer none, .pointer none, .string ByteArray.empty] (.agg #[.pointer none, .pointer none, .pointer none, .string ByteArray.empty]) (by kernel_rfl) rfl ⟨_, Try.underlying161, rfl⟩ rfl rfl false (fun h => by cases h)
theorem Ydn : TyOk Try.prog 162 ⟨.struct [(0, 17), (1, 17), (2, 17), (3, 9)], 4, 40, [.pointer none, .pointer none, .pointer none, .string ByteArray.empty], false⟩ := TyOk.of (P := Try.prog) (t := 162) (.struct [(0, 17), (1, 17), (2, 17), (3, 9)]) 4 40 [.pointer none, .pointer none, .pointer none, .string ByteArray.empty] (.agg #[.pointer none, .pointer none, .pointer none, .string ByteArray.empty]) (by kernel_rfl) rfl ⟨_, Try.underlying162, rfl⟩ rfl rfl false (fun h => by cases h)
theorem Ydo : TyOk Try.prog 166 ⟨.int .u8, 1, 1, [.int .u8 0], false⟩ := TyOk.of (P := Try.prog) (t := 166) (.int .u8) 1 1 [.int .u8 0] (.int .u8 0) (by kernel_rfl) rfl Try.underlying166 rfl rfl false (fun h => by cases h)
theorem Ydp : TyOk Try.prog 167 ⟨.int .u8, 1, 1, [.int .u8 0], false⟩ := TyOk.of (P := Try.prog) (t := 167) (.int .u8) 1 1 [.int .u8 0] (.int .u8 0) (by kernel_rfl) rfl Try.underlying167 rfl rfl false (fun h => by cases h)
theorem Ydq : TyOk Try.prog 169 ⟨.ptr 5, 1, 8, [.pointer none], false⟩ := TyOk.of (P := Try.prog) (t := 169) (.ptr 5) 1 8 [.pointer none] (.pointer none) (by kernel_rfl) rfl Try.underlying169 rfl rfl false (fun h => by cases h)
theorem Ydr : TyOk Try.prog 170 ⟨.int .i32, 1, 4, [.int .i32 0], false⟩ := TyOk.of (P := Try.prog) (t := 170) (.int .i32) 1 4 [.int .i32 0] (.int .i32 0) (by kernel_rfl) rfl Try.underlying170 rfl rfl false (fun h => by cases h)
theorem Yds : TyOk Try.prog 171 ⟨.int .i32, 1, 4, [.int .i32 0], false⟩ := TyOk.of (P := Try.prog) (t := 171) (.int .i32) 1 4 [.int .i32 0] (.int .i32 0) (by kernel_rfl) rfl Try.underlying171 rfl rfl false (fun h => by cases h)
def tabL : List (Nat × TyI) := [(2, ⟨.int .i64, 1, 8, [.int .i64 0], false⟩),
 (3, ⟨.int .i64, 1, 8, [.int .i64 0], false⟩),
 (4, ⟨.bool, 1, 1, [.bool false], false⟩),
 (5, ⟨.int .u8, 1, 1, [.int .u8 0], false⟩),
 (6, ⟨.int .u8, 1, 1, [.int .u8 0], false⟩),
 (7, ⟨.struct [(0, 2), (1, 3), (2, 4), (3, 6)], 4, 24, [.int .i64 0, .int .i64 0, .bool false, .int .u8 0], false⟩),
 (8, ⟨.struct [(0, 2), (1, 3), (2, 4), (3, 6)], 4, 24, [.int .i64 0, .int .i64 0, .bool false, .int .u8 0], false⟩),
 (9, ⟨.str, 1, 16, [.string ByteArray.empty], false⟩),
 (10, ⟨.str, 1, 16, [.string ByteArray.empty], false⟩),
 (11, ⟨.str, 1, 16, [.string ByteArray.empty], false⟩),
 (12, ⟨.int .u64, 1, 8, [.int .u64 0], false⟩),
 (13, ⟨.struct [(0, 9), (1, 12)], 2, 24, [.string ByteArray.empty, .int .u64 0], false⟩),
 (14, ⟨.struct [(0, 9), (1, 12)], 2, 24, [.string ByteArray.empty, .int .u64 0], false⟩),
 (15, ⟨.ptr 162, 1, 8, [.pointer none], false⟩),
 (16, ⟨.ptr 165, 1, 8, [.pointer none], false⟩),
 (17, ⟨.ptr 173, 1, 8, [.pointer none], false⟩),
 (18, ⟨.struct [(0, 17)], 1, 8, [.pointer none], false⟩),
 (19, ⟨.struct [(0, 17)], 1, 8, [.pointer none], false⟩),
 (21, ⟨.int .i32, 1, 4, [.int .i32 0], false⟩),
 (22, ⟨.slice 26, 1, 24, [.slice none 0 0], false⟩),
 (23, ⟨.struct [(0, 3), (1, 3), (2, 3), (3, 3)], 4, 32, [.int .i64 0, .int .i64 0, .int .i64 0, .int .i64 0], false⟩),
 (24, ⟨.struct [(0, 3), (1, 3), (2, 3), (3, 3)], 4, 32, [.int .i64 0, .int .i64 0, .int .i64 0, .int .i64 0], true⟩),
 (26, ⟨.slice 63, 1, 24, [.slice none 0 0], false⟩),
 (27, ⟨.slice 29, 1, 24, [.slice none 0 0], false⟩),
 (28, ⟨.struct [(0, 3), (1, 26), (2, 27)], 3, 56, [.int .i64 0, .slice none 0 0, .slice none 0 0], false⟩),
 (29, ⟨.struct [(0, 3), (1, 26), (2, 27)], 3, 56, [.int .i64 0, .slice none 0 0, .slice none 0 0], false⟩),
 (30, ⟨.int .i64, 1, 8, [.int .i64 0], false⟩),
 (33, ⟨.ptr 62, 1, 8, [.pointer none], false⟩),
 (46, ⟨.slice 3, 1, 24, [.slice none 0 0], false⟩),
 (49, ⟨.struct [(0, 33), (1, 3), (2, 3), (3, 3), (4, 3), (5, 3), (6, 3), (7, 3), (8, 3)], 9, 72, [.pointer none, .int .i64 0, .int .i64 0, .int .i64 0, .int .i64 0, .int .i64 0, .int .i64 0, .int .i64 0, .int .i64 0], false⟩),
 (50, ⟨.struct [(0, 33), (1, 3), (2, 3), (3, 3), (4, 3), (5, 3), (6, 3), (7, 3), (8, 3)], 9, 72, [.pointer none, .int .i64 0, .int .i64 0, .int .i64 0, .int .i64 0, .int .i64 0, .int .i64 0, .int .i64 0, .int .i64 0], false⟩),
 (61, ⟨.struct [(0, 22), (1, 3), (2, 3)], 3, 40, [.slice none 0 0, .int .i64 0, .int .i64 0], false⟩),
 (62, ⟨.struct [(0, 22), (1, 3), (2, 3)], 3, 40, [.slice none 0 0, .int .i64 0, .int .i64 0], false⟩),
 (63, ⟨.int .u64, 1, 8, [.int .u64 0], false⟩),
 (65, ⟨.struct [(0, 26), (1, 3)], 2, 32, [.slice none 0 0, .int .i64 0], false⟩),
 (66, ⟨.struct [(0, 26), (1, 3)], 2, 32, [.slice none 0 0, .int .i64 0], false⟩),
 (74, ⟨.struct [(0, 3), (1, 3), (2, 3), (3, 3), (4, 3), (5, 3), (6, 63)], 7, 56, [.int .i64 0, .int .i64 0, .int .i64 0, .int .i64 0, .int .i64 0, .int .i64 0, .int .u64 0], false⟩),
 (75, ⟨.struct [(0, 3), (1, 3), (2, 3), (3, 3), (4, 3), (5, 3), (6, 63)], 7, 56, [.int .i64 0, .int .i64 0, .int .i64 0, .int .i64 0, .int .i64 0, .int .i64 0, .int .u64 0], true⟩),
 (84, ⟨.struct [(0, 3)], 1, 8, [.int .i64 0], false⟩),
 (85, ⟨.struct [(0, 3)], 1, 8, [.int .i64 0], true⟩),
 (87, ⟨.struct [(0, 3)], 1, 8, [.int .i64 0], false⟩),
 (88, ⟨.struct [(0, 3)], 1, 8, [.int .i64 0], true⟩),
 (91, ⟨.ptr 66, 1, 8, [.pointer none], false⟩),
 (92, ⟨.struct [(0, 3), (1, 3), (2, 3), (3, 3), (4, 3), (5, 3), (6, 3), (7, 4)], 8, 64, [.int .i64 0, .int .i64 0, .int .i64 0, .int .i64 0, .int .i64 0, .int .i64 0, .int .i64 0, .bool false], false⟩),
 (93, ⟨.struct [(0, 3), (1, 3), (2, 3), (3, 3), (4, 3), (5, 3), (6, 3), (7, 4)], 8, 64, [.int .i64 0, .int .i64 0, .int .i64 0, .int .i64 0, .int .i64 0, .int .i64 0, .int .i64 0, .bool false], true⟩),
 (104, ⟨.struct [(0, 3), (1, 3), (2, 3), (3, 3), (4, 3), (5, 3), (6, 3), (7, 4)], 8, 64, [.int .i64 0, .int .i64 0, .int .i64 0, .int .i64 0, .int .i64 0, .int .i64 0, .int .i64 0, .bool false], true⟩),
 (105, ⟨.struct [(0, 104), (8, 3), (9, 3)], 10, 80, [.int .i64 0, .int .i64 0, .int .i64 0, .int .i64 0, .int .i64 0, .int .i64 0, .int .i64 0, .bool false, .int .i64 0, .int .i64 0], false⟩),
 (106, ⟨.struct [(0, 104), (8, 3), (9, 3)], 10, 80, [.int .i64 0, .int .i64 0, .int .i64 0, .int .i64 0, .int .i64 0, .int .i64 0, .int .i64 0, .bool false, .int .i64 0, .int .i64 0], true⟩),
 (112, ⟨.struct [(0, 3)], 1, 8, [.int .i64 0], false⟩),
 (113, ⟨.struct [(0, 3)], 1, 8, [.int .i64 0], true⟩),
 (116, ⟨.struct [(0, 26), (1, 3)], 2, 32, [.slice none 0 0, .int .i64 0], false⟩),
 (117, ⟨.struct [(0, 26), (1, 3)], 2, 32, [.slice none 0 0, .int .i64 0], false⟩),
 (119, ⟨.struct [(0, 93), (8, 3), (9, 3)], 10, 80, [.int .i64 0, .int .i64 0, .int .i64 0, .int .i64 0, .int .i64 0, .int .i64 0, .int .i64 0, .bool false, .int .i64 0, .int .i64 0], false⟩),
 (120, ⟨.struct [(0, 93), (8, 3), (9, 3)], 10, 80, [.int .i64 0, .int .i64 0, .int .i64 0, .int .i64 0, .int .i64 0, .int .i64 0, .int .i64 0, .bool false, .int .i64 0, .int .i64 0], true⟩),
 (126, ⟨.ptr 85, 1, 8, [.pointer none], false⟩),
 (127, ⟨.ptr 88, 1, 8, [.pointer none], false⟩),
 (141, ⟨.ptr 113, 1, 8, [.pointer none], false⟩),
 (142, ⟨.ptr 117, 1, 8, [.pointer none], false⟩),
 (149, ⟨.arr 7 3, 7, 56, [.int .i64 0, .int .i64 0, .int .i64 0, .int .i64 0, .int .i64 0, .int .i64 0, .int .i64 0], true⟩),
 (150, ⟨.int .u32, 1, 4, [.int .u32 0], false⟩),
 (151, ⟨.int .u64, 1, 8, [.int .u64 0], false⟩),
 (159, ⟨.arr 6 3, 6, 48, [.int .i64 0, .int .i64 0, .int .i64 0, .int .i64 0, .int .i64 0, .int .i64 0], true⟩),
 (161, ⟨.struct [(0, 17), (1, 17), (2, 17), (3, 9)], 4, 40, [.pointer none, .pointer none, .pointer none, .string ByteArray.empty], false⟩),
 (162, ⟨.struct [(0, 17), (1, 17), (2, 17), (3, 9)], 4, 40, [.pointer none, .pointer none, .pointer none, .string ByteArray.empty], false⟩),
 (166, ⟨.int .u8, 1, 1, [.int .u8 0], false⟩),
 (167, ⟨.int .u8, 1, 1, [.int .u8 0], false⟩),
 (169, ⟨.ptr 5, 1, 8, [.pointer none], false⟩),
 (170, ⟨.int .i32, 1, 4, [.int .i32 0], false⟩),
 (171, ⟨.int .i32, 1, 4, [.int .i32 0], false⟩)]
def Qw : Kq := fun t => tabL.lookup t
theorem Zv : Qg Try.prog Qw := fun t i h => by
 have hm := Zvn _ h
 unfold tabL at hm
 simp only [List.mem_cons, Prod.mk.injEq, List.not_mem_nil, or_false] at hm
 rcases hm with ⟨rfl, rfl⟩ | ⟨rfl, rfl⟩ | ⟨rfl, rfl⟩ | ⟨rfl, rfl⟩ | ⟨rfl, rfl⟩ | ⟨rfl, rfl⟩ | ⟨rfl, rfl⟩ | ⟨rfl, rfl⟩ | ⟨rfl, rfl⟩ | ⟨rfl, rfl⟩ | ⟨rfl, rfl⟩ | ⟨rfl, rfl⟩ | ⟨rfl, rfl⟩ | ⟨rfl, rfl⟩ | ⟨rfl, rfl⟩ | ⟨rfl, rfl⟩ | ⟨rfl, rfl⟩ | ⟨rfl, rfl⟩ | ⟨rfl, rfl⟩ | ⟨rfl, rfl⟩ | ⟨rfl, rfl⟩ | ⟨rfl, rfl⟩ | ⟨rfl, rfl⟩ | ⟨rfl, rfl⟩ | ⟨rfl, rfl⟩ | ⟨rfl, rfl⟩ | ⟨rfl, rfl⟩ | ⟨rfl, rfl⟩ | ⟨rfl, rfl⟩ | ⟨rfl, rfl⟩ | ⟨rfl, rfl⟩ | ⟨rfl, rfl⟩ | ⟨rfl, rfl⟩ | ⟨rfl, rfl⟩ | ⟨rfl, rfl⟩ | ⟨rfl, rfl⟩ | ⟨rfl, rfl⟩ | ⟨rfl, rfl⟩ | ⟨rfl, rfl⟩ | ⟨rfl, rfl⟩ | ⟨rfl, rfl⟩ | ⟨rfl, rfl⟩ | ⟨rfl, rfl⟩ | ⟨rfl, rfl⟩ | ⟨rfl, rfl⟩ | ⟨rfl, rfl⟩ | ⟨rfl, rfl⟩ | ⟨rfl, rfl⟩ | ⟨rfl, rfl⟩ | ⟨rfl, rfl⟩ | ⟨rfl, rfl⟩ | ⟨rfl, rfl⟩ | ⟨rfl, rfl⟩ | ⟨rfl, rfl⟩ | ⟨rfl, rfl⟩ | ⟨rfl, rfl⟩ | ⟨rfl, rfl⟩ | ⟨rfl, rfl⟩ | ⟨rfl, rfl⟩ | ⟨rfl, rfl⟩ | ⟨rfl, rfl⟩ | ⟨rfl, rfl⟩ | ⟨rfl, rfl⟩ | ⟨rfl, rfl⟩ | ⟨rfl, rfl⟩ | ⟨rfl, rfl⟩ | ⟨rfl, rfl⟩ | ⟨rfl, rfl⟩ | ⟨rfl, rfl⟩
 ·exact ty2
 ·exact ty3
 ·exact ty4
 ·exact ty5
 ·exact ty6
 ·exact ty7
 ·exact ty8
 ·exact ty9
 ·exact Yec
 ·exact Yed
 ·exact Yee
 ·exact Yef
 ·exact Yeg
 ·exact Yeh
 ·exact Yei
 ·exact Yej
 ·exact Yek
 ·exact Yel
 ·exact Yem
 ·exact Yen
 ·exact Yeo
 ·exact Yep
 ·exact Yeq
 ·exact Yer
 ·exact Yes
 ·exact Yet
 ·exact Yeu
 ·exact Yev
 ·exact Yew
 ·exact Yex
 ·exact Yey
 ·exact Yez
 ·exact Ye0
 ·exact Ye1
 ·exact Ye2
 ·exact Ye3
 ·exact Ye4
 ·exact Ye5
 ·exact Ye6
 ·exact Ye7
 ·exact Ye8
 ·exact Ye9
 ·exact Yfa
 ·exact Yfb
 ·exact Yfc
 ·exact Yc5
 ·exact Yc6
 ·exact Yc7
 ·exact Yc8
 ·exact Yc9
 ·exact Yda
 ·exact Ydb
 ·exact Ydc
 ·exact Ydd
 ·exact Yde
 ·exact Ydf
 ·exact Ydg
 ·exact Ydh
 ·exact Ydi
 ·exact Ydj
 ·exact Ydk
 ·exact Ydl
 ·exact Ydm
 ·exact Ydn
 ·exact Ydo
 ·exact Ydp
 ·exact Ydq
 ·exact Ydr
 exact Yds
theorem Z9k : Qw 2 = some ⟨.int .i64, 1, 8, [.int .i64 0], false⟩ := rfl
theorem Z2r : Qw 3 = some ⟨.int .i64, 1, 8, [.int .i64 0], false⟩ := rfl
theorem Z9l : Qw 4 = some ⟨.bool, 1, 1, [.bool false], false⟩ := rfl
theorem Z9m : Qw 5 = some ⟨.int .u8, 1, 1, [.int .u8 0], false⟩ := rfl
theorem Z9n : Qw 6 = some ⟨.int .u8, 1, 1, [.int .u8 0], false⟩ := rfl
theorem Z9o : Qw 7 = some ⟨.struct [(0, 2), (1, 3), (2, 4), (3, 6)], 4, 24, [.int .i64 0, .int .i64 0, .bool false, .int .u8 0], false⟩ := rfl
theorem Z9p : Qw 8 = some ⟨.struct [(0, 2), (1, 3), (2, 4), (3, 6)], 4, 24, [.int .i64 0, .int .i64 0, .bool false, .int .u8 0], false⟩ := rfl
theorem Z9q : Qw 9 = some ⟨.str, 1, 16, [.string ByteArray.empty], false⟩ := rfl
theorem Z2c : Qw 10 = some ⟨.str, 1, 16, [.string ByteArray.empty], false⟩ := rfl
theorem Z2d : Qw 11 = some ⟨.str, 1, 16, [.string ByteArray.empty], false⟩ := rfl
theorem Z2e : Qw 12 = some ⟨.int .u64, 1, 8, [.int .u64 0], false⟩ := rfl
theorem Z2f : Qw 13 = some ⟨.struct [(0, 9), (1, 12)], 2, 24, [.string ByteArray.empty, .int .u64 0], false⟩ := rfl
theorem Z2g : Qw 14 = some ⟨.struct [(0, 9), (1, 12)], 2, 24, [.string ByteArray.empty, .int .u64 0], false⟩ := rfl
theorem Z2h : Qw 15 = some ⟨.ptr 162, 1, 8, [.pointer none], false⟩ := rfl
theorem Z2i : Qw 16 = some ⟨.ptr 165, 1, 8, [.pointer none], false⟩ := rfl
theorem Z2j : Qw 17 = some ⟨.ptr 173, 1, 8, [.pointer none], false⟩ := rfl
theorem Z2k : Qw 18 = some ⟨.struct [(0, 17)], 1, 8, [.pointer none], false⟩ := rfl
theorem Z2l : Qw 19 = some ⟨.struct [(0, 17)], 1, 8, [.pointer none], false⟩ := rfl
theorem Z2m : Qw 21 = some ⟨.int .i32, 1, 4, [.int .i32 0], false⟩ := rfl
theorem Z2n : Qw 22 = some ⟨.slice 26, 1, 24, [.slice none 0 0], false⟩ := rfl
theorem Z2o : Qw 23 = some ⟨.struct [(0, 3), (1, 3), (2, 3), (3, 3)], 4, 32, [.int .i64 0, .int .i64 0, .int .i64 0, .int .i64 0], false⟩ := rfl
theorem Z2p : Qw 24 = some ⟨.struct [(0, 3), (1, 3), (2, 3), (3, 3)], 4, 32, [.int .i64 0, .int .i64 0, .int .i64 0, .int .i64 0], true⟩ := rfl
theorem Zlp : Qw 26 = some ⟨.slice 63, 1, 24, [.slice none 0 0], false⟩ := rfl
theorem Zr2 : Qw 27 = some ⟨.slice 29, 1, 24, [.slice none 0 0], false⟩ := rfl
theorem Z2q : Qw 28 = some ⟨.struct [(0, 3), (1, 26), (2, 27)], 3, 56, [.int .i64 0, .slice none 0 0, .slice none 0 0], false⟩ := rfl
theorem Vo : Qw 29 = some ⟨.struct [(0, 3), (1, 26), (2, 27)], 3, 56, [.int .i64 0, .slice none 0 0, .slice none 0 0], false⟩ := rfl
theorem Z2s : Qw 30 = some ⟨.int .i64, 1, 8, [.int .i64 0], false⟩ := rfl
theorem Z2t : Qw 33 = some ⟨.ptr 62, 1, 8, [.pointer none], false⟩ := rfl
theorem Z2u : Qw 46 = some ⟨.slice 3, 1, 24, [.slice none 0 0], false⟩ := rfl
theorem Z2v : Qw 49 = some ⟨.struct [(0, 33), (1, 3), (2, 3), (3, 3), (4, 3), (5, 3), (6, 3), (7, 3), (8, 3)], 9, 72, [.pointer none, .int .i64 0, .int .i64 0, .int .i64 0, .int .i64 0, .int .i64 0, .int .i64 0, .int .i64 0, .int .i64 0], false⟩ := rfl
theorem Z2w : Qw 50 = some ⟨.struct [(0, 33), (1, 3), (2, 3), (3, 3), (4, 3), (5, 3), (6, 3), (7, 3), (8, 3)], 9, 72, [.pointer none, .int .i64 0, .int .i64 0, .int .i64 0, .int .i64 0, .int .i64 0, .int .i64 0, .int .i64 0, .int .i64 0], false⟩ := rfl
theorem Z2x : Qw 61 = some ⟨.struct [(0, 22), (1, 3), (2, 3)], 3, 40, [.slice none 0 0, .int .i64 0, .int .i64 0], false⟩ := rfl
theorem Z2y : Qw 62 = some ⟨.struct [(0, 22), (1, 3), (2, 3)], 3, 40, [.slice none 0 0, .int .i64 0, .int .i64 0], false⟩ := rfl
theorem U2 : Qw 63 = some ⟨.int .u64, 1, 8, [.int .u64 0], false⟩ := rfl
theorem Z2z : Qw 65 = some ⟨.struct [(0, 26), (1, 3)], 2, 32, [.slice none 0 0, .int .i64 0], false⟩ := rfl
theorem Z20 : Qw 66 = some ⟨.struct [(0, 26), (1, 3)], 2, 32, [.slice none 0 0, .int .i64 0], false⟩ := rfl
theorem Z21 : Qw 74 = some ⟨.struct [(0, 3), (1, 3), (2, 3), (3, 3), (4, 3), (5, 3), (6, 63)], 7, 56, [.int .i64 0, .int .i64 0, .int .i64 0, .int .i64 0, .int .i64 0, .int .i64 0, .int .u64 0], false⟩ := rfl
theorem Z22 : Qw 75 = some ⟨.struct [(0, 3), (1, 3), (2, 3), (3, 3), (4, 3), (5, 3), (6, 63)], 7, 56, [.int .i64 0, .int .i64 0, .int .i64 0, .int .i64 0, .int .i64 0, .int .i64 0, .int .u64 0], true⟩ := rfl
theorem Z23 : Qw 84 = some ⟨.struct [(0, 3)], 1, 8, [.int .i64 0], false⟩ := rfl
theorem Z24 : Qw 85 = some ⟨.struct [(0, 3)], 1, 8, [.int .i64 0], true⟩ := rfl
theorem Z25 : Qw 87 = some ⟨.struct [(0, 3)], 1, 8, [.int .i64 0], false⟩ := rfl
theorem Z26 : Qw 88 = some ⟨.struct [(0, 3)], 1, 8, [.int .i64 0], true⟩ := rfl
theorem Z27 : Qw 91 = some ⟨.ptr 66, 1, 8, [.pointer none], false⟩ := rfl
theorem Z28 : Qw 92 = some ⟨.struct [(0, 3), (1, 3), (2, 3), (3, 3), (4, 3), (5, 3), (6, 3), (7, 4)], 8, 64, [.int .i64 0, .int .i64 0, .int .i64 0, .int .i64 0, .int .i64 0, .int .i64 0, .int .i64 0, .bool false], false⟩ := rfl
theorem Z29 : Qw 93 = some ⟨.struct [(0, 3), (1, 3), (2, 3), (3, 3), (4, 3), (5, 3), (6, 3), (7, 4)], 8, 64, [.int .i64 0, .int .i64 0, .int .i64 0, .int .i64 0, .int .i64 0, .int .i64 0, .int .i64 0, .bool false], true⟩ := rfl
theorem Zwl : Qw 104 = some ⟨.struct [(0, 3), (1, 3), (2, 3), (3, 3), (4, 3), (5, 3), (6, 3), (7, 4)], 8, 64, [.int .i64 0, .int .i64 0, .int .i64 0, .int .i64 0, .int .i64 0, .int .i64 0, .int .i64 0, .bool false], true⟩ := rfl
theorem Zwm : Qw 105 = some ⟨.struct [(0, 104), (8, 3), (9, 3)], 10, 80, [.int .i64 0, .int .i64 0, .int .i64 0, .int .i64 0, .int .i64 0, .int .i64 0, .int .i64 0, .bool false, .int .i64 0, .int .i64 0], false⟩ := rfl
theorem Zwn : Qw 106 = some ⟨.struct [(0, 104), (8, 3), (9, 3)], 10, 80, [.int .i64 0, .int .i64 0, .int .i64 0, .int .i64 0, .int .i64 0, .int .i64 0, .int .i64 0, .bool false, .int .i64 0, .int .i64 0], true⟩ := rfl
theorem Zwo : Qw 112 = some ⟨.struct [(0, 3)], 1, 8, [.int .i64 0], false⟩ := rfl
theorem Zwp : Qw 113 = some ⟨.struct [(0, 3)], 1, 8, [.int .i64 0], true⟩ := rfl
theorem Zwq : Qw 116 = some ⟨.struct [(0, 26), (1, 3)], 2, 32, [.slice none 0 0, .int .i64 0], false⟩ := rfl
theorem Zwr : Qw 117 = some ⟨.struct [(0, 26), (1, 3)], 2, 32, [.slice none 0 0, .int .i64 0], false⟩ := rfl
theorem Zws : Qw 119 = some ⟨.struct [(0, 93), (8, 3), (9, 3)], 10, 80, [.int .i64 0, .int .i64 0, .int .i64 0, .int .i64 0, .int .i64 0, .int .i64 0, .int .i64 0, .bool false, .int .i64 0, .int .i64 0], false⟩ := rfl
theorem Zwt : Qw 120 = some ⟨.struct [(0, 93), (8, 3), (9, 3)], 10, 80, [.int .i64 0, .int .i64 0, .int .i64 0, .int .i64 0, .int .i64 0, .int .i64 0, .int .i64 0, .bool false, .int .i64 0, .int .i64 0], true⟩ := rfl
theorem Zwu : Qw 126 = some ⟨.ptr 85, 1, 8, [.pointer none], false⟩ := rfl
theorem Zwv : Qw 127 = some ⟨.ptr 88, 1, 8, [.pointer none], false⟩ := rfl
theorem Zww : Qw 141 = some ⟨.ptr 113, 1, 8, [.pointer none], false⟩ := rfl
theorem Zwx : Qw 142 = some ⟨.ptr 117, 1, 8, [.pointer none], false⟩ := rfl
theorem Zwy : Qw 149 = some ⟨.arr 7 3, 7, 56, [.int .i64 0, .int .i64 0, .int .i64 0, .int .i64 0, .int .i64 0, .int .i64 0, .int .i64 0], true⟩ := rfl
theorem Zwz : Qw 150 = some ⟨.int .u32, 1, 4, [.int .u32 0], false⟩ := rfl
theorem Zw0 : Qw 151 = some ⟨.int .u64, 1, 8, [.int .u64 0], false⟩ := rfl
theorem Zw1 : Qw 159 = some ⟨.arr 6 3, 6, 48, [.int .i64 0, .int .i64 0, .int .i64 0, .int .i64 0, .int .i64 0, .int .i64 0], true⟩ := rfl
theorem Zw2 : Qw 161 = some ⟨.struct [(0, 17), (1, 17), (2, 17), (3, 9)], 4, 40, [.pointer none, .pointer none, .pointer none, .string ByteArray.empty], false⟩ := rfl
theorem Zw3 : Qw 162 = some ⟨.struct [(0, 17), (1, 17), (2, 17), (3, 9)], 4, 40, [.pointer none, .pointer none, .pointer none, .string ByteArray.empty], false⟩ := rfl
theorem Zw4 : Qw 166 = some ⟨.int .u8, 1, 1, [.int .u8 0], false⟩ := rfl
theorem Zw5 : Qw 167 = some ⟨.int .u8, 1, 1, [.int .u8 0], false⟩ := rfl
theorem Zw6 : Qw 169 = some ⟨.ptr 5, 1, 8, [.pointer none], false⟩ := rfl
theorem Zw7 : Qw 170 = some ⟨.int .i32, 1, 4, [.int .i32 0], false⟩ := rfl
theorem Zw8 : Qw 171 = some ⟨.int .i32, 1, 4, [.int .i32 0], false⟩ := rfl
theorem Zw9 : Yb Qw 2 = some (.int .i64) := rfl
theorem Zxa : Yb Qw 3 = some (.int .i64) := rfl
theorem Zxb : Yb Qw 4 = some (.bool) := rfl
theorem Zxc : Yb Qw 5 = some (.int .u8) := rfl
theorem Zxd : Yb Qw 6 = some (.int .u8) := rfl
theorem Zxe : Yb Qw 7 = some (.struct [(0, 2), (1, 3), (2, 4), (3, 6)]) := rfl
theorem Zxf : Yb Qw 8 = some (.struct [(0, 2), (1, 3), (2, 4), (3, 6)]) := rfl
theorem Zxg : Yb Qw 9 = some (.str) := rfl
theorem Zr4 : Yb Qw 10 = some (.str) := rfl
theorem Zr5 : Yb Qw 11 = some (.str) := rfl
theorem Zr6 : Yb Qw 12 = some (.int .u64) := rfl
theorem Zr7 : Yb Qw 13 = some (.struct [(0, 9), (1, 12)]) := rfl
theorem Zr8 : Yb Qw 14 = some (.struct [(0, 9), (1, 12)]) := rfl
theorem Zr9 : Yb Qw 15 = some (.ptr 162) := rfl
theorem Zsa : Yb Qw 16 = some (.ptr 165) := rfl
theorem Zsb : Yb Qw 17 = some (.ptr 173) := rfl
theorem Zsc : Yb Qw 18 = some (.struct [(0, 17)]) := rfl
theorem Zsd : Yb Qw 19 = some (.struct [(0, 17)]) := rfl
theorem Zse : Yb Qw 21 = some (.int .i32) := rfl
theorem Zsf : Yb Qw 22 = some (.slice 26) := rfl
theorem Zsg : Yb Qw 23 = some (.struct [(0, 3), (1, 3), (2, 3), (3, 3)]) := rfl
theorem Zsh : Yb Qw 24 = some (.struct [(0, 3), (1, 3), (2, 3), (3, 3)]) := rfl
theorem Zep : Yb Qw 26 = some (.slice 63) := rfl
theorem Zlf : Yb Qw 27 = some (.slice 29) := rfl
theorem Zsi : Yb Qw 28 = some (.struct [(0, 3), (1, 26), (2, 27)]) := rfl
theorem Zsj : Yb Qw 29 = some (.struct [(0, 3), (1, 26), (2, 27)]) := rfl
theorem Zsk : Yb Qw 30 = some (.int .i64) := rfl
theorem Zov : Yb Qw 33 = some (.ptr 62) := rfl
theorem Zsl : Yb Qw 46 = some (.slice 3) := rfl
theorem Zsm : Yb Qw 49 = some (.struct [(0, 33), (1, 3), (2, 3), (3, 3), (4, 3), (5, 3), (6, 3), (7, 3), (8, 3)]) := rfl
theorem Zsn : Yb Qw 50 = some (.struct [(0, 33), (1, 3), (2, 3), (3, 3), (4, 3), (5, 3), (6, 3), (7, 3), (8, 3)]) := rfl
theorem Zso : Yb Qw 61 = some (.struct [(0, 22), (1, 3), (2, 3)]) := rfl
theorem Zsp : Yb Qw 62 = some (.struct [(0, 22), (1, 3), (2, 3)]) := rfl
theorem Zsq : Yb Qw 63 = some (.int .u64) := rfl
theorem Zsr : Yb Qw 65 = some (.struct [(0, 26), (1, 3)]) := rfl
theorem Zss : Yb Qw 66 = some (.struct [(0, 26), (1, 3)]) := rfl
theorem Zst : Yb Qw 74 = some (.struct [(0, 3), (1, 3), (2, 3), (3, 3), (4, 3), (5, 3), (6, 63)]) := rfl
theorem Zsu : Yb Qw 75 = some (.struct [(0, 3), (1, 3), (2, 3), (3, 3), (4, 3), (5, 3), (6, 63)]) := rfl
theorem Zsv : Yb Qw 84 = some (.struct [(0, 3)]) := rfl
theorem Zsw : Yb Qw 85 = some (.struct [(0, 3)]) := rfl
theorem Zsx : Yb Qw 87 = some (.struct [(0, 3)]) := rfl
theorem Zsy : Yb Qw 88 = some (.struct [(0, 3)]) := rfl
theorem Zsz : Yb Qw 91 = some (.ptr 66) := rfl
theorem Zs0 : Yb Qw 92 = some (.struct [(0, 3), (1, 3), (2, 3), (3, 3), (4, 3), (5, 3), (6, 3), (7, 4)]) := rfl
theorem Zs1 : Yb Qw 93 = some (.struct [(0, 3), (1, 3), (2, 3), (3, 3), (4, 3), (5, 3), (6, 3), (7, 4)]) := rfl
theorem Znn : Yb Qw 104 = some (.struct [(0, 3), (1, 3), (2, 3), (3, 3), (4, 3), (5, 3), (6, 3), (7, 4)]) := rfl
theorem Zno : Yb Qw 105 = some (.struct [(0, 104), (8, 3), (9, 3)]) := rfl
theorem Znp : Yb Qw 106 = some (.struct [(0, 104), (8, 3), (9, 3)]) := rfl
theorem Znq : Yb Qw 112 = some (.struct [(0, 3)]) := rfl
theorem Znr : Yb Qw 113 = some (.struct [(0, 3)]) := rfl
theorem Zns : Yb Qw 116 = some (.struct [(0, 26), (1, 3)]) := rfl
theorem Znt : Yb Qw 117 = some (.struct [(0, 26), (1, 3)]) := rfl
theorem Znu : Yb Qw 119 = some (.struct [(0, 93), (8, 3), (9, 3)]) := rfl
theorem Znv : Yb Qw 120 = some (.struct [(0, 93), (8, 3), (9, 3)]) := rfl
theorem Znw : Yb Qw 126 = some (.ptr 85) := rfl
theorem Znx : Yb Qw 127 = some (.ptr 88) := rfl
theorem Zny : Yb Qw 141 = some (.ptr 113) := rfl
theorem Znz : Yb Qw 142 = some (.ptr 117) := rfl
theorem Zn0 : Yb Qw 149 = some (.arr 7 3) := rfl
theorem Zn1 : Yb Qw 150 = some (.int .u32) := rfl
theorem Zn2 : Yb Qw 151 = some (.int .u64) := rfl
theorem Zn3 : Yb Qw 159 = some (.arr 6 3) := rfl
theorem Zn4 : Yb Qw 161 = some (.struct [(0, 17), (1, 17), (2, 17), (3, 9)]) := rfl
theorem Zn5 : Yb Qw 162 = some (.struct [(0, 17), (1, 17), (2, 17), (3, 9)]) := rfl
theorem Zn6 : Yb Qw 166 = some (.int .u8) := rfl
theorem Zn7 : Yb Qw 167 = some (.int .u8) := rfl
theorem Zn8 : Yb Qw 169 = some (.ptr 5) := rfl
theorem Zn9 : Yb Qw 170 = some (.int .i32) := rfl
theorem Zoa : Yb Qw 171 = some (.int .i32) := rfl
end Go.Proofs.Ytpfbdlcnfekdkaa
