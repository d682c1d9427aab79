/- Part H26 of the ghost memory: lemmas and contracts used by the proofs of this seat's laws; each theorem bears its own conditions. -/
import Derived.Test.YtaddaloondpnkaaH25
namespace Go.Proofs.Ytaddaloondpnkaa
open Go.RowKit
set_option linter.unusedVariables false
set_option linter.unusedSimpArgs false
def Zeg {α:Type} (xs:List α) (lo:Int) (ys:List α):List α:=xs.take lo.toNat++ys.take (xs.length - lo.toNat)++xs.drop (lo.toNat+ys.length)
theorem Zcf {α:Type} (xs:List α) (lo:Int) (ys:List α):(Zeg xs lo ys).length=xs.length:=by
 unfold Zeg
 rw [List.length_append,List.length_append,List.length_take,List.length_take,List.length_drop]
 omega
theorem Zh3 {α:Type} {f:α→List G} (xs ys:List α) (lo:Int) (hf:∀ x,(f x).length=1) (h0:0≤lo) (h1:lo≤xs.length):Q8 (fl f xs) (List.take (min ys.length ((xs.length:Int) - lo).toNat) (fl f ys)) (lo.toNat * 1)=some (fl f (Zeg xs lo ys)):=by
 have e1:List.take (min ys.length ((xs.length:Int) - lo).toNat) (fl f ys)=fl f (ys.take (xs.length - lo.toNat)):=by
  have:=Zoq (f:=f) (k:=1) hf (min ys.length ((xs.length:Int) - lo).toNat) ys
  rw [Nat.mul_one] at this
  rw [this]
  congr 1
  rw [show ((xs.length:Int) - lo).toNat=xs.length - lo.toNat by omega,Nat.min_comm,← List.take_take,List.take_of_length_le (Nat.le_refl ys.length)]
 have l1:=Qq (f:=f) (k:=1) hf
 rw [e1]
 unfold Q8
 have hl:(fl f (ys.take (xs.length - lo.toNat))).length=min (xs.length - lo.toNat) ys.length:=by rw [l1,List.length_take,Nat.mul_one]
 rw [if_pos (by rw [hl,l1,Nat.mul_one,Nat.mul_one];omega),Zoq (f:=f) hf]
 congr 1
 unfold Zeg
 rw [Vf,Vf,hl]
 congr 1
 rw [show lo.toNat * 1+min (xs.length - lo.toNat) ys.length=(lo.toNat+min (xs.length - lo.toNat) ys.length) * 1 by omega,Zlw (f:=f) hf]
 congr 1
 by_cases q:ys.length≤xs.length - lo.toNat
 ·rw [Nat.min_eq_right q]
 rw [Nat.min_eq_left (by omega),List.drop_eq_nil_of_le (by omega),List.drop_eq_nil_of_le (by omega)]
theorem Zh5 {T:Ql} {t e:TypeId} {ie:TyI} {j len:Nat} {a:Int} (ht:Z7 T t=some (.slice e)) (he:T e=some ie) (h:0 < len∧0≤a∧a≤(len:Int)) (hs:0 < ie.size:=by decide) :
  Zh4 T t (.row j len) (some (.i64,a)) none none=some (True,.rl j len (a.toNat * ie.size) ((len:Int) - a).toNat):=by
 unfold Zh4
 simp only [ht,he]
 rw [if_neg (by simp),if_neg (by omega)]
 have e1:(0 < ie.size∧0 < len∧0≤Gd (some (.i64,a))∧Gd (some (.i64,a))≤bHi none len∧bHi none len≤(len:Int))=True:=by
  simp only [Gd,bHi,eq_iff_iff,iff_true]
  exact ⟨hs,h.1,h.2.1,h.2.2,Int.le_refl _⟩
 rw [e1]
 rfl
end Go.Proofs.Ytaddaloondpnkaa
