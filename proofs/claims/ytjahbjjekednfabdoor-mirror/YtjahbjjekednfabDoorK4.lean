import Derived.Test.YtjahbjjekednfabDoorK2
namespace Go.Proofs.YtjahbjjekednfabDoor
open Go.RowKit

theorem rt_p (d k : Nat) : (rst 0 1 d (k + 1)).1 = tm 0 1 d k * (rst 0 1 d k).2 - (rst 0 1 d k).1 := rfl
section
variable {d m : Nat} (m1 : 1 ≤ m) (h0 : m * m < d) (h1 : d < (m + 1) * (m + 1))
include m1 h0 h1
theorem rt_mul (k : Nat) : (rst 0 1 d k).2 * (rst 0 1 d (k + 1)).2 = d - (rst 0 1 d (k + 1)).1 * (rst 0 1 d (k + 1)).1 := (rdc_next m1 h0 h1 (rdc_all m1 h0 h1 k)).2.2.2.1
/-- The rests behind the first are reduced. -/
theorem rt_red (k : Nat) : (m : Int) - (rst 0 1 d (k + 1)).2 < (rst 0 1 d (k + 1)).1 := by
 have hr := rdc_all m1 h0 h1 k
 have hr' := rdc_all m1 h0 h1 (k + 1)
 have t1 := rdc_tm m1 h0 h1 k
 have hm := rt_mul m1 h0 h1 k
 have hp := rt_p d k
 have hmd : (m : Int) * m < d := by rw [← Int.natCast_mul]; omega
 have a1 : 1 * (rst 0 1 d k).2 ≤ tm 0 1 d k * (rst 0 1 d k).2 := Int.mul_le_mul_of_nonneg_right t1 (Int.le_of_lt hr.q0)
 have a2 := hr.p1
 have a3 := hr'.p0
 have a4 := hr'.q0
 refine Int.not_le.1 fun hc => ?_
 have a5 : (rst 0 1 d k).2 * (rst 0 1 d (k + 1)).2 ≤ (m + (rst 0 1 d (k + 1)).1) * (m - (rst 0 1 d (k + 1)).1) := Int.mul_le_mul (by omega) (by omega) (by omega) (by omega)
 grind
/-- The term, told by the rest behind it. -/
theorem rt_back (k : Nat) : trm (rst 0 1 d (k + 2)).1 (rst 0 1 d (k + 1)).2 d = tm 0 1 d (k + 1) := by
 have hr := rdc_all m1 h0 h1 (k + 1)
 have hp := rt_p d (k + 1)
 have hd := rt_red m1 h0 h1 k
 have a2 := hr.p1
 rw [trm_pos (by omega) h1 hr.q0]
 refine ediv_uni hr.q0 (by rw [hp]; omega) ?_
 rw [hp, Int.add_mul]
 omega
theorem rt_back_p (k : Nat) : nxp (rst 0 1 d (k + 2)).1 (rst 0 1 d (k + 1)).2 d = (rst 0 1 d (k + 1)).1 := by
 unfold nxp
 rw [rt_back m1 h0 h1, rt_p d (k + 1)]
 omega
theorem rt_back_q (k : Nat) : nxq (rst 0 1 d (k + 2)).1 (rst 0 1 d (k + 1)).2 d = (rst 0 1 d k).2 := by
 have hr := rdc_all m1 h0 h1 (k + 1)
 unfold nxq
 rw [rt_back_p m1 h0 h1, ← rt_mul m1 h0 h1 k]
 exact Int.mul_tdiv_cancel _ (by have := hr.q0; omega)
theorem rt_one : (rst 0 1 d 1).1 = m ∧ (rst 0 1 d 1).2 = d - m * m := by
 have e : (rst 0 1 d 1).1 = m := by
  show trm 0 1 d * 1 - 0 = (m : Int)
  rw [trm_pos (by omega) h1 (by decide)]
  simp
 refine ⟨e, ?_⟩
 have := show (1 : Int) * (rst 0 1 d 1).2 = d - (rst 0 1 d 1).1 * (rst 0 1 d 1).1 from rt_mul m1 h0 h1 0
 rw [e] at this
 omega
/-- The first rest that comes again is that behind the first. -/
theorem mir_b {i J : Nat} (fst : ∀ j, j < J → ∀ i, i < j → rst 0 1 d i ≠ rst 0 1 d j) (lt : i < J) (eq : rst 0 1 d i = rst 0 1 d J) : i = 1 := by
 obtain ⟨K, rfl⟩ : ∃ K, J = K + 1 := ⟨J - 1, by omega⟩
 match i, lt, eq with
 | 0, _, eq =>
  have := rt_red m1 h0 h1 K
  rw [← eq] at this
  have h2 : (m : Int) - 1 < 0 := this
  omega
 | 1, _, _ => rfl
 | c + 2, lt, eq =>
  refine absurd ?_ (fst K (by omega) (c + 1) (by omega))
  obtain ⟨L, rfl⟩ : ∃ L, K = L + 1 := ⟨K - 1, by omega⟩
  have b1 := rt_mul m1 h0 h1 (c + 1)
  have b2 := rt_mul m1 h0 h1 (L + 1)
  rw [eq, ← b2] at b1
  have eq2 := Int.eq_of_mul_eq_mul_right (by have := (rdc_all m1 h0 h1 (L + 1 + 1)).q0; omega) b1
  have t1 := rt_back m1 h0 h1 c
  rw [eq, eq2, rt_back m1 h0 h1 L] at t1
  have p1 := rt_p d (c + 1)
  have p2 := rt_p d (L + 1)
  rw [eq, p2, t1, eq2] at p1
  exact Prod.ext (by omega) eq2
theorem mir_end {l : Nat} (eq : rst 0 1 d 1 = rst 0 1 d (l + 2)) : (rst 0 1 d (l + 1)).2 = 1 ∧ (rst 0 1 d (l + 1)).1 = m ∧ tm 0 1 d (l + 1) = 2 * m := by
 obtain ⟨e1, e2⟩ := rt_one m1 h0 h1
 have b1 := rt_mul m1 h0 h1 (l + 1)
 rw [← eq, e1, e2] at b1
 have hmd : (m : Int) * m < d := by rw [← Int.natCast_mul]; omega
 have q1 : (rst 0 1 d (l + 1)).2 = 1 := by
  refine Int.eq_of_mul_eq_mul_right (a := (d : Int) - m * m) (by omega) ?_
  rw [b1, Int.one_mul]
 have hr := rdc_all m1 h0 h1 (l + 1)
 have hd := rt_red m1 h0 h1 l
 have p1 : (rst 0 1 d (l + 1)).1 = m := by have := hr.p1; omega
 refine ⟨q1, p1, ?_⟩
 unfold tm
 rw [p1, q1, trm_pos (by omega) h1 (by decide)]
 simp
 omega
theorem mir_turn {l : Nat} (eq : rst 0 1 d 1 = rst 0 1 d (l + 2)) : ∀ k j, k + j = l → rst 0 1 d (k + 1) = ((rst 0 1 d (j + 1)).1, (rst 0 1 d j).2)
 | 0, j, h => by
  have h : j = l := by omega
  subst h
  obtain ⟨e1, e2⟩ := rt_one m1 h0 h1
  obtain ⟨q1, p1, _⟩ := mir_end m1 h0 h1 eq
  have b1 := rt_mul m1 h0 h1 j
  rw [q1, p1] at b1
  exact Prod.ext (by rw [p1]; exact e1) (by show (rst 0 1 d 1).2 = (rst 0 1 d j).2; omega)
 | k + 1, j, h => by
  have ih := mir_turn eq k (j + 1) (by omega)
  show (nxp (rst 0 1 d (k + 1)).1 (rst 0 1 d (k + 1)).2 d, nxq (rst 0 1 d (k + 1)).1 (rst 0 1 d (k + 1)).2 d) = _
  rw [ih]
  exact Prod.ext (rt_back_p m1 h0 h1 j) (rt_back_q m1 h0 h1 j)
/-- The terms of the period, the last aside, are the same from behind. -/
theorem mir_pal {l : Nat} (eq : rst 0 1 d 1 = rst 0 1 d (l + 2)) {i j : Nat} (hi : 1 ≤ i) (hj : 1 ≤ j) (h : i + j = l + 1) : tm 0 1 d i = tm 0 1 d j := by
 obtain ⟨k, rfl⟩ : ∃ k, i = k + 1 := ⟨i - 1, by omega⟩
 obtain ⟨c, rfl⟩ : ∃ c, j = c + 1 := ⟨j - 1, by omega⟩
 have e := mir_turn m1 h0 h1 eq k (c + 1) (by omega)
 rw [← rt_back m1 h0 h1 c]
 unfold tm
 rw [e]
end

end Go.Proofs.YtjahbjjekednfabDoor
