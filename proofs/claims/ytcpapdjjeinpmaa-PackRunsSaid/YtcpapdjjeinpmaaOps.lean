/- Lemmas and contracts used by the proofs of this seat's laws (part Ops); each theorem bears its own conditions. -/
import Derived.Test.YtcpapdjjeinpmaaRows
import Derived.Test.YtcpapdjjeinpmaaNum
import Derived.Test.YtcpapdjjeinpmaaMem
import Derived.WalkKit
import Derived.WalkSpells
import Derived.WalkLawsBesides
import Derived.Lib.Hide
import Derived.BigQuiet
import Derived.StillTailTactics
import Derived.Deep.RegionHeld3
import Derived.Deep.AppendLies
import Derived.Laws.CopyOwn
import Derived.Deep.QuietTactic
namespace Go.Proofs.Ytcpapdjjeinpmaa
open Go.RowKit
set_option linter.unusedVariables false
theorem info8 : (Try.prog.info? 5).map (fun i => (i.zero, i.size, i.bytes)) = some (some (.int .u8 0), 1, 1) := by kernel_rfl
theorem info64' : (Try.prog.info? 31).map (fun i => (i.zero, i.size, i.bytes)) = some (some (.int .u64 0), 1, 8) := by kernel_rfl
theorem app8 {w : World} {ops : Array Oper} {rest : List Oper} {o : Oper} {a : Act} {Q : Exit → Act → World → Prop} (hgd : o.guard = none) (s x : Operand)
    (ho : o.op = .call { callee := .builtin .append, args := #[s, x], argTypes := #[23, 23] })
    (base : Nat) (v : Value) (n : Nat) (xs : List Value) (hs : a.eval s = v) (hown : w.ownsRow base 5 1 v n xs)
    (B m c : Nat) (A : Option Addr) (news : List Nat) (hx : a.eval x = .slice A m c) (hm : news.length = m) (hr : RdS w B A (u8s news))
    (hbytes : n + m ≤ 140737488355328) (hbase : base ≤ w.heap.size)
    (h : ∀ v' w', w'.ownsRow base 5 1 v' (n + m) (xs ++ u8s news) → w.grownBy w' v.ownBlock → wpList Try.prog ops Q rest (a.put o.dst v') w') : wpList Try.prog ops Q (o :: rest) a w := by
  obtain ⟨i0, hi, hz0, hz1, hz2⟩ := info_parts info8
  exact wpList_app hgd s x 23 ho base 5 i0 (.int .u8 0) 1 Try.underlying23 hi hz0 hz1 hz2 rfl v n xs hs hown B m c A _ hx (by rw [u8s_len]; exact hm) hr (one_u8s _) (by omega) (by unfold maxLen; omega) hbase h
theorem app64 {w : World} {ops : Array Oper} {rest : List Oper} {o : Oper} {a : Act} {Q : Exit → Act → World → Prop} (hgd : o.guard = none) (s x : Operand)
    (ho : o.op = .call { callee := .builtin .append, args := #[s, x], argTypes := #[22, 22] })
    (base : Nat) (v : Value) (n : Nat) (xs : List Value) (hs : a.eval s = v) (hown : w.ownsRow base 31 1 v n xs)
    (B m c : Nat) (A : Option Addr) (news : List Nat) (hx : a.eval x = .slice A m c) (hm : news.length = m) (hr : RdS w B A (u64s news))
    (hbytes : n + m ≤ 17592186044416) (hbase : base ≤ w.heap.size)
    (h : ∀ v' w', w'.ownsRow base 31 1 v' (n + m) (xs ++ u64s news) → w.grownBy w' v.ownBlock → wpList Try.prog ops Q rest (a.put o.dst v') w') : wpList Try.prog ops Q (o :: rest) a w := by
  obtain ⟨i0, hi, hz0, hz1, hz2⟩ := info_parts info64'
  exact wpList_app hgd s x 22 ho base 31 i0 (.int .u64 0) 8 Try.underlying22 hi hz0 hz1 hz2 rfl v n xs hs hown B m c A _ hx (by rw [u64s_len]; exact hm) hr (one_u64s _) (by omega) (by unfold maxLen; omega) hbase h
theorem cut64 (A : Option Addr) (n c k : Nat) (h1 : k ≤ n) (h2 : n ≤ c) (W : World) : (Instr.slice 22 (.slice A n c) (some (.int .i64 (k : Int))) none none).run Try.prog W = .ok (.slice (cutA A k c) (n - k) (c - k)) W := by
  obtain ⟨i0, hi, hz0, hz1, hz2⟩ := info_parts info64'
  exact run_cut Try.underlying22 hi hz1 A n c k h1 h2 W
theorem cut8 (A : Option Addr) (n c k : Nat) (h1 : k ≤ n) (h2 : n ≤ c) (W : World) : (Instr.slice 23 (.slice A n c) (some (.int .i64 (k : Int))) none none).run Try.prog W = .ok (.slice (cutA A k c) (n - k) (c - k)) W := by
  obtain ⟨i0, hi, hz0, hz1, hz2⟩ := info_parts info8
  exact run_cut Try.underlying23 hi hz1 A n c k h1 h2 W
theorem cut64b (A : Option Addr) (n c : Nat) (lo hi' : Int) (a b : Nat) (ea : lo = (a : Int)) (eb : hi' = (b : Int)) (h0 : a ≤ b) (h1 : b ≤ n) (h2 : n ≤ c) (W : World) : (Instr.slice 22 (.slice A n c) (some (.int .i64 lo)) (some (.int .i64 hi')) none).run Try.prog W = .ok (.slice (cutA A a c) (b - a) (c - a)) W := by
  obtain ⟨i0, hi, hz0, hz1, hz2⟩ := info_parts info64'
  exact run_cut2 Try.underlying22 hi hz1 A n c lo hi' a b ea eb h0 h1 h2 W
theorem cut8b (A : Option Addr) (n c : Nat) (lo hi' : Int) (a b : Nat) (ea : lo = (a : Int)) (eb : hi' = (b : Int)) (h0 : a ≤ b) (h1 : b ≤ n) (h2 : n ≤ c) (W : World) : (Instr.slice 23 (.slice A n c) (some (.int .i64 lo)) (some (.int .i64 hi')) none).run Try.prog W = .ok (.slice (cutA A a c) (b - a) (c - a)) W := by
  obtain ⟨i0, hi, hz0, hz1, hz2⟩ := info_parts info8
  exact run_cut2 Try.underlying23 hi hz1 A n c lo hi' a b ea eb h0 h1 h2 W

end Go.Proofs.Ytcpapdjjeinpmaa
