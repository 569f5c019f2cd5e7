import Derived.Test.YtjahbjjekednfaaE1
import Derived.Test.YtjahbjjekednfaaX1
namespace Go.Proofs.Ytjahbjjekednfaa

/-- The reference's sign of p + q√d, of two signs and the order of the squares. -/
def rsS (a b o : Int) : Int := if 0 ≤ a * b then (if a ≠ 0 then a else b) else if 0 < o then a else b
def rsg (p q d : Int) : Int := rsS p.sign q.sign (p * p - (q * q) * d).sign
theorem sign3 (x : Int) : (x.sign = -1 ∧ x < 0) ∨ (x.sign = 0 ∧ x = 0) ∨ (x.sign = 1 ∧ 0 < x) := by
 rcases Int.lt_trichotomy x 0 with h | h | h
 ·exact Or.inl ⟨Int.sign_eq_neg_one_of_neg h, h⟩
 ·exact Or.inr (Or.inl ⟨by rw [h]; rfl, h⟩)
 ·exact Or.inr (Or.inr ⟨Int.sign_eq_one_of_pos h, h⟩)
theorem sign_scale (k x : Int) (hk : 0 < k) : (k * x).sign = x.sign := by
 rw [Int.sign_mul, Int.sign_eq_one_of_pos hk, Int.one_mul]
theorem irr {u v k : Int} (hf : SqFree k.toNat) (hk : 1 < k) (hv : v ≠ 0) : u * u ≠ v * v * k := by
 intro e
 have e2 : u.natAbs * u.natAbs = v.natAbs * v.natAbs * k.toNat := by
  have := congrArg Int.natAbs e
  rw [Int.natAbs_mul, Int.natAbs_mul, Int.natAbs_mul] at this
  rw [this]
  congr 1
  omega
 have hvp : 0 < v.natAbs := by omega
 have hkp : 0 < k.toNat := by omega
 have hup : 0 < u.natAbs := by
  rcases Nat.eq_zero_or_pos u.natAbs with h0 | h0
  ·rw [h0] at e2
   have := Nat.mul_pos (Nat.mul_pos hvp hvp) hkp
   omega
  ·exact h0
 have i1 : IsRoot (u.natAbs * u.natAbs) u.natAbs 1 := ⟨hup, by decide, by omega, sqfree_one⟩
 have i2 : IsRoot (u.natAbs * u.natAbs) v.natAbs k.toNat := ⟨hvp, hkp, e2.symm, hf⟩
 have := (i1.unique i2).2
 omega
theorem sq_nonneg' (x : Int) : 0 ≤ x * x := by
 rcases Int.le_total 0 x with h | h
 ·exact Int.mul_nonneg h h
 ·exact Int.mul_nonneg_of_nonpos_of_nonpos h h
theorem rsg_scale (k p q d : Int) (hk : 0 < k) : rsg (k * p) (k * q) d = rsg p q d := by
 unfold rsg
 have e : (k * p) * (k * p) - (k * q) * (k * q) * d = (k * k) * (p * p - q * q * d) := by grind
 rw [e, sign_scale k p hk, sign_scale k q hk, sign_scale (k * k) _ (Int.mul_pos hk hk)]

end Go.Proofs.Ytjahbjjekednfaa

namespace Go.Proofs.Ytjahbjjekednfaa
open Go.RowKit

theorem WN.rp {w : World} {b : Bool} {ao : Option Addr} {n c : Nat} {z : Int} (h : WN w (.agg #[.bool b, .slice ao n c]) z) : b = decide (z < 0) ∧ Rp 2 1000000000 w (.slice ao n c) (z.natAbs : Int) := by
 obtain ⟨ao', n', c', e, h1⟩ := h
 simp only [Value.agg.injEq, Array.mk.injEq, List.cons.injEq, Value.bool.injEq, Value.slice.injEq] at e
 obtain ⟨rfl, ⟨rfl, rfl, rfl⟩, _⟩ := e
 exact ⟨rfl, h1⟩

end Go.Proofs.Ytjahbjjekednfaa
