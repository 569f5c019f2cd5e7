import Derived.Test.YtjahbjjekednfaaDoorN1
import Derived.Test.YtjahbjjekednfaaDoorF8
namespace Go.Proofs.YtjahbjjekednfaaDoor
open Go.RowKit

/-- 1 or -1, by turns. -/
def alt (k : Nat) : Int := if k % 2 = 0 then 1 else -1
theorem alt_succ (k : Nat) : alt (k + 1) = - alt k := by
 unfold alt
 by_cases h : k % 2 = 0
 ·rw [if_neg (by omega), if_pos h]
 ·rw [if_pos (by omega), if_neg h]; rfl
theorem alt_sq (k : Nat) : alt k * alt k = 1 := by
 unfold alt
 split <;> rfl
theorem cv_det (p q n : Int) : ∀ k, (cv p q n k).lp * (cv p q n k).aq - (cv p q n k).ap * (cv p q n k).lq = alt k
 | 0 => by simp [cv, alt]
 | k + 1 => by
  have ih := cv_det p q n k
  rw [alt_succ, ← ih]
  simp only [cv]
  grind
theorem step_id {p q n P Q t lp lq ap aq P' Q' : Int} (hQ : Q ≠ 0) (hP : P' = t * Q - P) (hm : Q * Q' = n - P' * P') (e1 : q * lp - p * lq = lq * P + aq * Q) (e2 : P * (q * lp - p * lq) + Q * (q * ap - p * aq) = n * lq) :
  q * (t * lp + ap) - p * (t * lq + aq) = (t * lq + aq) * P' + lq * Q' ∧ P' * (q * (t * lp + ap) - p * (t * lq + aq)) + Q' * (q * lp - p * lq) = n * (t * lq + aq) := by
 have h1 : q * (t * lp + ap) - p * (t * lq + aq) = (t * lq + aq) * P' + lq * Q' := by
  refine Int.eq_of_mul_eq_mul_left hQ ?_
  grind
 refine ⟨h1, ?_⟩
 refine Int.eq_of_mul_eq_mul_left hQ ?_
 grind
/-- Each rest's q times the next one's is n less the square of the next one's p. -/
def Stp (p q n : Int) (k : Nat) : Prop := ∀ j, j < k → (rst p q n j).2 ≠ 0 ∧ (rst p q n j).2 * (rst p q n (j + 1)).2 = n - (rst p q n (j + 1)).1 * (rst p q n (j + 1)).1
theorem stp_rl {g p q n : Int} {a : Qn} (h : Rl g p q n a) (k : Nat) (hk : ∀ j, j < k → (rst p q n j).2 ≠ 0) : Stp p q n k := fun j hj =>
 ⟨hk j hj, nxq_mul (rl_num h j (fun i hi => hk i (by omega)))⟩
/-- What is still to be expanded, and what the terms so far come to. -/
theorem cv_id {p q n : Int} : ∀ k, Stp p q n k →
  q * (cv p q n k).lp - p * (cv p q n k).lq = (cv p q n k).lq * (rst p q n k).1 + (cv p q n k).aq * (rst p q n k).2 ∧
  (rst p q n k).1 * (q * (cv p q n k).lp - p * (cv p q n k).lq) + (rst p q n k).2 * (q * (cv p q n k).ap - p * (cv p q n k).aq) = n * (cv p q n k).lq
 | 0, _ => by simp [cv, rst]; grind
 | k + 1, hk => by
  obtain ⟨e1, e2⟩ := cv_id k (fun j hj => hk j (by omega))
  exact step_id (t := tm p q n k) (hk k (by omega)).1 rfl (hk k (by omega)).2 e1 e2
/-- The norm of what is left. -/
theorem cv_norm {p q n : Int} (k : Nat) (hk : Stp p q n k) :
  (q * (cv p q n k).lp - p * (cv p q n k).lq) * (q * (cv p q n k).lp - p * (cv p q n k).lq) - n * ((cv p q n k).lq * (cv p q n k).lq) = alt k * q * (rst p q n k).2 := by
 obtain ⟨e1, e2⟩ := cv_id k hk
 rw [← cv_det p q n k]
 generalize (cv p q n k).lp = lp at *
 generalize (cv p q n k).lq = lq at *
 generalize (cv p q n k).ap = ap at *
 generalize (cv p q n k).aq = aq at *
 grind

end Go.Proofs.YtjahbjjekednfaaDoor

namespace Go.Proofs.YtjahbjjekednfaaDoor
open Go.RowKit

theorem fl_one_pos {x y : Int} (h : 0 < y) (hx : y ≤ x) : 1 ≤ fl x y := by
 unfold fl
 rw [if_pos h]
 exact (Int.le_ediv_iff_mul_le h).2 (by omega)
theorem fl_one_neg {x y : Int} (h : y < 0) (hx : x ≤ y) : 1 ≤ fl x y := by
 unfold fl
 rw [if_neg (by omega)]
 exact (Int.le_ediv_iff_mul_le (by omega)).2 (by omega)
/-- A rest behind another is above 1. -/
theorem nx_core {q n m p' q' : Int} (h0 : m * m ≤ n) (h1 : n < (m + 1) * (m + 1)) (hm0 : 0 ≤ m) (hm : q * q' = n - p' * p') (hq' : q' ≠ 0)
 (hc : (0 < q ∧ m - q < p' ∧ p' ≤ m) ∨ (q < 0 ∧ m + 1 ≤ p' ∧ p' < m + 1 - q) ∨ (q < 0 ∧ n = 0 ∧ m ≤ p' ∧ p' < m - q)) :
 (0 < q' ∧ q' ≤ p' + m) ∨ (q' < 0 ∧ p' + m + 1 ≤ q') := by
 rcases hc with ⟨c0, c1, c2⟩ | ⟨c0, c1, c2⟩ | ⟨c0, c3, c1, c2⟩
 ·by_cases hp : -m ≤ p'
  ·have a1 : 0 ≤ (m - p') * (m + p') := Int.mul_nonneg (by omega) (by omega)
   have a2 : 0 ≤ q * q' := by grind
   have a3 : 0 < q' := by
    refine Int.not_le.1 fun k => ?_
    have := Int.mul_neg_of_pos_of_neg c0 (show q' < 0 by omega)
    omega
   refine Or.inl ⟨a3, Int.not_lt.1 fun hc => ?_⟩
   have a4 : (m + 1 - p') * (m + 1 + p') ≤ q * q' := Int.mul_le_mul (by omega) (by omega) (by omega) (by omega)
   grind
  ·have a1 : 0 ≤ (-p' - m - 1) * (m + 1 - p') := Int.mul_nonneg (by omega) (by omega)
   have a2 : q * q' < 0 := by grind
   have a3 : q' < 0 := by
    refine Int.not_le.1 fun k => ?_
    have := Int.mul_nonneg (Int.le_of_lt c0) k
    omega
   refine Or.inr ⟨a3, Int.not_lt.1 fun hc => ?_⟩
   have a4 : (m + 1 - p') * (-p' - m) ≤ q * (-q') := Int.mul_le_mul (by omega) (by omega) (by omega) (by omega)
   grind
 ·have a1 : 0 ≤ (p' - m - 1) * (p' + m + 1) := Int.mul_nonneg (by omega) (by omega)
  have a2 : q * q' < 0 := by grind
  have a3 : 0 < q' := by
   refine Int.not_le.1 fun k => ?_
   have := Int.mul_nonneg_of_nonpos_of_nonpos (Int.le_of_lt c0) k
   omega
  refine Or.inl ⟨a3, Int.not_lt.1 fun hc => ?_⟩
  have a4 : (p' - m) * (p' + m + 1) ≤ (-q) * q' := Int.mul_le_mul (by omega) (by omega) (by omega) (by omega)
  grind
 ·subst c3
  have m0 : m = 0 := by
   by_cases k : 0 < m
   ·have := Int.mul_pos k k
    omega
   ·omega
  subst m0
  have a2 : q * q' ≤ 0 := by
   have := Int.mul_nonneg c1 c1
   omega
  have a3 : 0 < q' := by
   refine Int.not_le.1 fun k => ?_
   have := Int.mul_pos_of_neg_of_neg c0 (show q' < 0 by omega)
   omega
  refine Or.inl ⟨a3, Int.not_lt.1 fun hc => ?_⟩
  have a4 : p' * (p' + 1) ≤ (-q) * q' := Int.mul_le_mul (by omega) (by omega) (by omega) (by omega)
  have a5 : (p' + 1) * (p' + 1) ≤ (-q) * q' := Int.mul_le_mul (by omega) (by omega) (by omega) (by omega)
  grind
theorem trm_one {p q n : Int} (hn : 0 ≤ n) (hq : q ≠ 0) (hm : q * nxq p q n = n - nxp p q n * nxp p q n) (hq' : nxq p q n ≠ 0) : 1 ≤ trm (nxp p q n) (nxq p q n) n := by
 obtain ⟨g1, g2⟩ := isq_int hn
 obtain ⟨k1, k2, k3⟩ := nxp_at (p := p) (q := q) (n := n)
 have hc := nx_core g1 g2 (by omega) hm hq' (by
  by_cases c : 0 < q
  ·exact Or.inl ⟨c, k1 c⟩
  ·by_cases d : 0 < n
   ·exact Or.inr (Or.inl ⟨by omega, k2 (by omega) d⟩)
   ·exact Or.inr (Or.inr ⟨by omega, by omega, k3 (by omega) d⟩))
 generalize nxp p q n = p' at *
 generalize nxq p q n = q' at *
 unfold trm
 rcases hc with ⟨c1, c2⟩ | ⟨c1, c2⟩
 ·exact fl_one_pos c1 (by rw [if_neg (by omega)]; omega)
 ·refine fl_one_neg c1 ?_
  split <;> omega
/-- The terms behind the first are 1 at least. -/
theorem tm_one {g p q n : Int} {a : Qn} (h : Rl g p q n a) (i : Nat) (hi : ∀ j, j ≤ i + 1 → (rst p q n j).2 ≠ 0) : 1 ≤ tm p q n (i + 1) :=
 trm_one h.nn (hi i (by omega)) (nxq_mul (rl_num h i (fun j hj => hi j (by omega)))) (hi (i + 1) (by omega))
theorem rst_add (p q n : Int) (i : Nat) : ∀ j, rst p q n (i + j) = rst (rst p q n i).1 (rst p q n i).2 n j
 | 0 => rfl
 | j + 1 => by
  show (nxp (rst p q n (i + j)).1 (rst p q n (i + j)).2 n, nxq (rst p q n (i + j)).1 (rst p q n (i + j)).2 n) = _
  rw [rst_add p q n i j]
  rfl
theorem tm_add (p q n : Int) (i j : Nat) : tm p q n (i + j) = tm (rst p q n i).1 (rst p q n i).2 n j := by
 unfold tm
 rw [rst_add]
theorem cv_same {p q p' q' n : Int} {l : Nat} (h : ∀ j, j < l → tm p q n j = tm p' q' n j) : ∀ k, k ≤ l → cv p q n k = cv p' q' n k
 | 0, _ => rfl
 | k + 1, hk => by
  unfold cv
  rw [cv_same h k (by omega), h k (by omega)]
theorem cv_one {p q n : Int} {l : Nat} (h : ∀ j, j < l → 1 ≤ tm p q n j) : ∀ k, k ≤ l → 1 ≤ (cv p q n k).lp ∧ 0 ≤ (cv p q n k).lq ∧ 0 ≤ (cv p q n k).ap ∧ 0 ≤ (cv p q n k).aq ∧ 1 ≤ (cv p q n k).lq + (cv p q n k).aq
 | 0, _ => by simp [cv]
 | k + 1, hk => by
  obtain ⟨h1, h2, h3, h4, h5⟩ := cv_one h k (by omega)
  have ht := h k (by omega)
  have a1 : 1 * (cv p q n k).lp ≤ tm p q n k * (cv p q n k).lp := Int.mul_le_mul_of_nonneg_right ht (by omega)
  have a2 : 1 * (cv p q n k).lq ≤ tm p q n k * (cv p q n k).lq := Int.mul_le_mul_of_nonneg_right ht h2
  refine ⟨?_, ?_, ?_, ?_, ?_⟩ <;> simp only [cv] <;> omega
theorem rs_mul {a : Qn} (h : Cn a) (hd : a.d ≠ 1) (i : Nat) : (rs a i).2 * (rs a (i + 1)).2 = n0 a - (rs a (i + 1)).1 * (rs a (i + 1)).1 :=
 nxq_mul (rl_num (rl_start h) i (fun j _ => rs_irr h hd j))
theorem tm_one' {a : Qn} (h : Cn a) (hd : a.d ≠ 1) (i : Nat) : 1 ≤ tm (p0 a) (q0 a) (n0 a) (i + 1) := tm_one (rl_start h) i (fun j _ => rs_irr h hd j)

end Go.Proofs.YtjahbjjekednfaaDoor
