import Derived.Test.YtjahbjjekednfabDoorR1
/-! Long division, digit by digit from the highest. -/
namespace Go.Proofs.YtjahbjjekednfabDoor

/-- The number that the first j digits tell. -/
def preV (l : List Int) : Nat → Int
 | 0 => 0
 | j + 1 => preV l j * 10000 + at0 l j
theorem preV_cons (d : Int) (l : List Int) : ∀ j, preV (d :: l) (j + 1) = d * 10000 ^ j + preV l j
 | 0 => by simp [preV, at0_cons_zero]
 | j + 1 => by
  have h := preV_cons d l j
  show preV (d :: l) (j + 1) * 10000 + at0 (d :: l) (j + 1) = d * 10000 ^ (j + 1) + (preV l j * 10000 + at0 l j)
  rw [h, at0_cons_succ, Int.pow_succ, Int.add_mul, Int.mul_assoc]
  omega
theorem preV_rev : ∀ m : List Int, preV m m.length = val 10000 m.reverse
 | [] => rfl
 | d :: m => by
  rw [List.length_cons, preV_cons, preV_rev m, List.reverse_cons, val_snoc, List.length_reverse, Int.mul_comm d]
  omega
theorem preV_all (m : List Int) : preV m.reverse m.length = val 10000 m := by
 have := preV_rev m.reverse
 rwa [List.length_reverse, List.reverse_reverse] at this
theorem preV_nn {l : List Int} (h : Dig 10000 l) : ∀ j, 0 ≤ preV l j
 | 0 => by simp [preV]
 | j + 1 => by
  have h1 := preV_nn h j
  have h2 := (h j).1
  show 0 ≤ preV l j * 10000 + at0 l j
  omega
theorem preV_le {l : List Int} (h : Dig 10000 l) (j : Nat) : ∀ k, preV l j ≤ preV l (j + k)
 | 0 => Int.le_refl _
 | k + 1 => by
  have h1 := preV_le h j k
  have h2 := (h (j + k)).1
  have h3 := preV_nn h (j + k)
  show preV l j ≤ preV l (j + k) * 10000 + at0 l (j + k)
  omega
theorem dig_rev {m : List Int} (h : Dig 10000 m) : Dig 10000 m.reverse := by
 intro i
 rcases Nat.lt_or_ge i m.length with h1 | h1
 ·rw [at0_reverse h1]; exact h _
 ·rw [at0_ge (by rw [List.length_reverse]; exact h1)]; omega

theorem div_next {P y d lo : Int} (hy : 0 < y) (h1 : y * lo ≤ P % y * 10000 + d) (h2 : P % y * 10000 + d < y * (lo + 1)) :
  (P * 10000 + d) / y = P / y * 10000 + lo ∧ (P * 10000 + d) % y = P % y * 10000 + d - y * lo := by
 have e := Int.mul_ediv_add_emod P y
 have hm : P * 10000 + d = y * (P / y * 10000 + lo) + (P % y * 10000 + d - y * lo) := by
  have : P * 10000 = y * (P / y * 10000) + P % y * 10000 := by
   conv => lhs; rw [← e, Int.add_mul, Int.mul_assoc]
  rw [Int.mul_add]
  omega
 rw [Int.mul_add, Int.mul_one] at h2
 have hr0 : 0 ≤ P % y * 10000 + d - y * lo := by omega
 have hr1 : P % y * 10000 + d - y * lo < y := by omega
 generalize P / y * 10000 + lo = Q at *
 generalize P % y * 10000 + d - y * lo = R at *
 constructor
 ·rw [hm, Int.add_comm, Int.add_mul_ediv_left _ _ (by omega), Int.ediv_eq_zero_of_lt hr0 hr1]; omega
 ·rw [hm, Int.add_comm, Int.add_mul_emod_self_left, Int.emod_eq_of_lt hr0 hr1]

end Go.Proofs.YtjahbjjekednfabDoor
