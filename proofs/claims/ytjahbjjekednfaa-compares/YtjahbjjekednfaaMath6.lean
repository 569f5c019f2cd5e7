import Derived.Test.YtjahbjjekednfaaX1
import Derived.Test.YtjahbjjekednfaaR1
namespace Go.Proofs.Ytjahbjjekednfaa
open Go.RowKit

theorem qcom_scale (k p q r : Int) (hk : k ≠ 0) (hr : r ≠ 0) : qcom (k * p) (k * q) (k * r) = k * qcom p q r := by
 have h : (Int.gcd (Int.gcd (k * r) (k * p)) (k * q)) = k.natAbs * Int.gcd (Int.gcd r p) q := by
  rw [Int.gcd_mul_left]
  unfold Int.gcd
  rw [Int.natAbs_mul k q]
  simp only [Int.natAbs_natCast]
  exact Nat.gcd_mul_left _ _ _
 unfold qcom
 rw [h]
 push_cast
 rcases Int.lt_or_gt_of_ne hk with h1 | h1
 ·have e : (k.natAbs : Int) = -k := by omega
  rcases Int.lt_or_gt_of_ne hr with h2 | h2
  ·have : 0 < k * r := Int.mul_pos_of_neg_of_neg h1 h2
   rw [if_neg (by omega), if_pos h2, e, Int.neg_mul, Int.mul_neg]
  ·have : k * r < 0 := Int.mul_neg_of_neg_of_pos h1 h2
   rw [if_pos this, if_neg (by omega), e, Int.neg_mul, Int.neg_neg]
 ·have e : (k.natAbs : Int) = k := by omega
  rcases Int.lt_or_gt_of_ne hr with h2 | h2
  ·have : k * r < 0 := Int.mul_neg_of_pos_of_neg h1 h2
   rw [if_pos this, if_pos h2, e, Int.mul_neg]
  ·have : 0 < k * r := Int.mul_pos h1 h2
   rw [if_neg (by omega), if_neg (by omega), e]

theorem qcom_ne (p q r : Int) (hr : r ≠ 0) : qcom p q r ≠ 0 := by
 have h1 : Int.gcd r p ≠ 0 := fun h => hr (Int.gcd_eq_zero_iff.mp h).1
 have h2 : Int.gcd (Int.gcd r p) q ≠ 0 := fun h => h1 (by have := (Int.gcd_eq_zero_iff.mp h).1; omega)
 unfold qcom
 split <;> omega

theorem tdiv_scale (k a b : Int) (hk : k ≠ 0) : (k * a).tdiv (k * b) = a.tdiv b := by
 rcases Int.lt_or_gt_of_ne hk with h1 | h1
 ·have e := Int.mul_tdiv_mul_of_pos (a := -k) a b (by omega)
  rw [Int.neg_mul, Int.neg_mul, Int.neg_tdiv_neg] at e
  exact e
 ·exact Int.mul_tdiv_mul_of_pos _ _ h1

/-- A common factor of the three numbers changes nothing. -/
theorem qreduce_scale (k p q r d : Int) (hk : k ≠ 0) (hr : r ≠ 0) : qreduce (k * p) (k * q) (k * r) d = qreduce p q r d := by
 unfold qreduce
 rw [qcom_scale k p q r hk hr, tdiv_scale _ _ _ hk, tdiv_scale _ _ _ hk, tdiv_scale _ _ _ hk]

/-- What comes out has no common factor, a denominator above 0, and the value that went in. -/
theorem qcom_dvd (p q r : Int) : qcom p q r ∣ p ∧ qcom p q r ∣ q ∧ qcom p q r ∣ r := by
 have h1 : (Int.gcd (Int.gcd r p) q : Int) ∣ (Int.gcd r p : Int) := Int.gcd_dvd_left ..
 have h2 : (Int.gcd (Int.gcd r p) q : Int) ∣ q := Int.gcd_dvd_right ..
 have h3 : (Int.gcd r p : Int) ∣ r := Int.gcd_dvd_left ..
 have h4 : (Int.gcd r p : Int) ∣ p := Int.gcd_dvd_right ..
 unfold qcom
 split
 ·exact ⟨Int.neg_dvd.mpr (Int.dvd_trans h1 h4), Int.neg_dvd.mpr h2, Int.neg_dvd.mpr (Int.dvd_trans h1 h3)⟩
 ·exact ⟨Int.dvd_trans h1 h4, h2, Int.dvd_trans h1 h3⟩

theorem qreduce_back (p q r d : Int) : p = qcom p q r * (qreduce p q r d).p ∧ q = qcom p q r * (qreduce p q r d).q ∧ r = qcom p q r * (qreduce p q r d).r := by
 obtain ⟨h1, h2, h3⟩ := qcom_dvd p q r
 exact ⟨(Int.mul_tdiv_cancel' h1).symm, (Int.mul_tdiv_cancel' h2).symm, (Int.mul_tdiv_cancel' h3).symm⟩

theorem qreduce_pos (p q r d : Int) (hr : r ≠ 0) : 0 < (qreduce p q r d).r := by
 have h := (qreduce_back p q r d).2.2
 have hne := qcom_ne p q r hr
 have hs : (r < 0 → qcom p q r < 0) ∧ (0 < r → 0 < qcom p q r) := by
  have : 0 ≤ (Int.gcd (Int.gcd r p) q : Int) := by omega
  constructor
  ·intro h5
   have e : qcom p q r = -(Int.gcd (Int.gcd r p) q : Int) := by unfold qcom; rw [if_pos h5]
   omega
  ·intro h5
   have e : qcom p q r = (Int.gcd (Int.gcd r p) q : Int) := by unfold qcom; rw [if_neg (by omega)]
   omega
 generalize qcom p q r = g at *
 generalize (qreduce p q r d).r = t at *
 rcases Int.lt_or_gt_of_ne hr with h5 | h5
 ·have h6 := hs.1 h5
  by_cases h7 : 0 < t
  ·exact h7
  ·have := Int.mul_nonneg_of_nonpos_of_nonpos (Int.le_of_lt h6) (show t ≤ 0 by omega)
   omega
 ·have h6 := hs.2 h5
  by_cases h7 : 0 < t
  ·exact h7
  ·have := Int.mul_nonpos_of_nonneg_of_nonpos (Int.le_of_lt h6) (show t ≤ 0 by omega)
   omega

end Go.Proofs.Ytjahbjjekednfaa

/-! Long division, digit by digit from the highest. -/
namespace Go.Proofs.Ytjahbjjekednfaa

/-- The number that the first j digits tell. -/
def preV (l : List Int) : Nat → Int
 | 0 => 0
 | j + 1 => preV l j * 10000 + at0 l j
theorem preV_cons (d : Int) (l : List Int) : ∀ j, preV (d :: l) (j + 1) = d * 10000 ^ j + preV l j
 | 0 => by simp [preV, at0_cons_zero]
 | j + 1 => by
  have h := preV_cons d l j
  show preV (d :: l) (j + 1) * 10000 + at0 (d :: l) (j + 1) = d * 10000 ^ (j + 1) + (preV l j * 10000 + at0 l j)
  rw [h, at0_cons_succ, Int.pow_succ, Int.add_mul, Int.mul_assoc]
  omega
theorem preV_rev : ∀ m : List Int, preV m m.length = val 10000 m.reverse
 | [] => rfl
 | d :: m => by
  rw [List.length_cons, preV_cons, preV_rev m, List.reverse_cons, val_snoc, List.length_reverse, Int.mul_comm d]
  omega
theorem preV_all (m : List Int) : preV m.reverse m.length = val 10000 m := by
 have := preV_rev m.reverse
 rwa [List.length_reverse, List.reverse_reverse] at this
theorem preV_nn {l : List Int} (h : Dig 10000 l) : ∀ j, 0 ≤ preV l j
 | 0 => by simp [preV]
 | j + 1 => by
  have h1 := preV_nn h j
  have h2 := (h j).1
  show 0 ≤ preV l j * 10000 + at0 l j
  omega
theorem preV_le {l : List Int} (h : Dig 10000 l) (j : Nat) : ∀ k, preV l j ≤ preV l (j + k)
 | 0 => Int.le_refl _
 | k + 1 => by
  have h1 := preV_le h j k
  have h2 := (h (j + k)).1
  have h3 := preV_nn h (j + k)
  show preV l j ≤ preV l (j + k) * 10000 + at0 l (j + k)
  omega
theorem dig_rev {m : List Int} (h : Dig 10000 m) : Dig 10000 m.reverse := by
 intro i
 rcases Nat.lt_or_ge i m.length with h1 | h1
 ·rw [at0_reverse h1]; exact h _
 ·rw [at0_ge (by rw [List.length_reverse]; exact h1)]; omega

theorem div_next {P y d lo : Int} (hy : 0 < y) (h1 : y * lo ≤ P % y * 10000 + d) (h2 : P % y * 10000 + d < y * (lo + 1)) :
  (P * 10000 + d) / y = P / y * 10000 + lo ∧ (P * 10000 + d) % y = P % y * 10000 + d - y * lo := by
 have e := Int.mul_ediv_add_emod P y
 have hm : P * 10000 + d = y * (P / y * 10000 + lo) + (P % y * 10000 + d - y * lo) := by
  have : P * 10000 = y * (P / y * 10000) + P % y * 10000 := by
   conv => lhs; rw [← e, Int.add_mul, Int.mul_assoc]
  rw [Int.mul_add]
  omega
 rw [Int.mul_add, Int.mul_one] at h2
 have hr0 : 0 ≤ P % y * 10000 + d - y * lo := by omega
 have hr1 : P % y * 10000 + d - y * lo < y := by omega
 generalize P / y * 10000 + lo = Q at *
 generalize P % y * 10000 + d - y * lo = R at *
 constructor
 ·rw [hm, Int.add_comm, Int.add_mul_ediv_left _ _ (by omega), Int.ediv_eq_zero_of_lt hr0 hr1]; omega
 ·rw [hm, Int.add_comm, Int.add_mul_emod_self_left, Int.emod_eq_of_lt hr0 hr1]

end Go.Proofs.Ytjahbjjekednfaa
