/- Lemmas and contracts used by the proofs of this seat's laws (part Bulk); each theorem bears its own conditions. -/
import Derived.Test.YtcpapdjjeinpmaaRows
import Derived.WalkKit
import Derived.WalkSpells
import Derived.WalkLawsBesides
import Derived.Lib.Hide
import Derived.BigQuiet
import Derived.StillTailTactics
import Derived.Deep.RegionHeld3
import Derived.Deep.QuietTactic
namespace Go.Proofs.Ytcpapdjjeinpmaa
open Go.RowKit
set_option linter.unusedVariables false
theorem bulk_one {H : Type} (d : DataW H) : 1 ≤ Rows.uptoBulk d := by
  cases d with
  | lit l => cases l <;> simp [Rows.uptoBulk]
  | nil => simp [Rows.uptoBulk]
  | ptr d => simp [Rows.uptoBulk]
  | slice elems spare => simp [Rows.uptoBulk]
  | agg parts => simp [Rows.uptoBulk]
  | iface t d => simp [Rows.uptoBulk]
  | map entries => simp [Rows.uptoBulk]
  | held h => simp [Rows.uptoBulk]
theorem bulk_all {H : Type} (l : List (DataW H)) : l.length ≤ Rows.uptoBulkAll l := by
  induction l with
  | nil => simp
  | cons x r ih => have := bulk_one x; simp only [Rows.uptoBulkAll, List.length_cons]; omega
theorem bulk_mem {H : Type} {d : DataW H} {l : List (DataW H)} (h : d ∈ l) : Rows.uptoBulk d ≤ Rows.uptoBulkAll l := by
  induction h with
  | head r => simp only [Rows.uptoBulkAll]; omega
  | tail x _ ih => simp only [Rows.uptoBulkAll]; omega
/-- a slice among the arguments is no longer than their bulk -/
theorem bulk_len {H : Type} {ds es sp : List (DataW H)} {n : Nat} (hk : Rows.uptoBulkAll ds ≤ n) (hd : DataW.slice es sp ∈ ds) : es.length ≤ n := by
  have h1 := bulk_mem hd
  have h2 := bulk_all es
  simp only [Rows.uptoBulk] at h1
  omega

end Go.Proofs.Ytcpapdjjeinpmaa
