import Derived.Test.YtjahbjjekednfabDoorK1
import Derived.Test.YtjahbjjekednfabDoorB4
namespace Go.Proofs.YtjahbjjekednfabDoor
open Go.RowKit

theorem fl_one_pos {x y : Int} (h : 0 < y) (hx : y ≤ x) : 1 ≤ fl x y := by
 unfold fl
 rw [if_pos h]
 exact (Int.le_ediv_iff_mul_le h).2 (by omega)
theorem fl_one_neg {x y : Int} (h : y < 0) (hx : x ≤ y) : 1 ≤ fl x y := by
 unfold fl
 rw [if_neg (by omega)]
 exact (Int.le_ediv_iff_mul_le (by omega)).2 (by omega)
/-- A rest behind another is above 1. -/
theorem nx_core {q n m p' q' : Int} (h0 : m * m ≤ n) (h1 : n < (m + 1) * (m + 1)) (hm0 : 0 ≤ m) (hm : q * q' = n - p' * p') (hq' : q' ≠ 0)
 (hc : (0 < q ∧ m - q < p' ∧ p' ≤ m) ∨ (q < 0 ∧ m + 1 ≤ p' ∧ p' < m + 1 - q) ∨ (q < 0 ∧ n = 0 ∧ m ≤ p' ∧ p' < m - q)) :
 (0 < q' ∧ q' ≤ p' + m) ∨ (q' < 0 ∧ p' + m + 1 ≤ q') := by
 rcases hc with ⟨c0, c1, c2⟩ | ⟨c0, c1, c2⟩ | ⟨c0, c3, c1, c2⟩
 ·by_cases hp : -m ≤ p'
  ·have a1 : 0 ≤ (m - p') * (m + p') := Int.mul_nonneg (by omega) (by omega)
   have a2 : 0 ≤ q * q' := by grind
   have a3 : 0 < q' := by
    refine Int.not_le.1 fun k => ?_
    have := Int.mul_neg_of_pos_of_neg c0 (show q' < 0 by omega)
    omega
   refine Or.inl ⟨a3, Int.not_lt.1 fun hc => ?_⟩
   have a4 : (m + 1 - p') * (m + 1 + p') ≤ q * q' := Int.mul_le_mul (by omega) (by omega) (by omega) (by omega)
   grind
  ·have a1 : 0 ≤ (-p' - m - 1) * (m + 1 - p') := Int.mul_nonneg (by omega) (by omega)
   have a2 : q * q' < 0 := by grind
   have a3 : q' < 0 := by
    refine Int.not_le.1 fun k => ?_
    have := Int.mul_nonneg (Int.le_of_lt c0) k
    omega
   refine Or.inr ⟨a3, Int.not_lt.1 fun hc => ?_⟩
   have a4 : (m + 1 - p') * (-p' - m) ≤ q * (-q') := Int.mul_le_mul (by omega) (by omega) (by omega) (by omega)
   grind
 ·have a1 : 0 ≤ (p' - m - 1) * (p' + m + 1) := Int.mul_nonneg (by omega) (by omega)
  have a2 : q * q' < 0 := by grind
  have a3 : 0 < q' := by
   refine Int.not_le.1 fun k => ?_
   have := Int.mul_nonneg_of_nonpos_of_nonpos (Int.le_of_lt c0) k
   omega
  refine Or.inl ⟨a3, Int.not_lt.1 fun hc => ?_⟩
  have a4 : (p' - m) * (p' + m + 1) ≤ (-q) * q' := Int.mul_le_mul (by omega) (by omega) (by omega) (by omega)
  grind
 ·subst c3
  have m0 : m = 0 := by
   by_cases k : 0 < m
   ·have := Int.mul_pos k k
    omega
   ·omega
  subst m0
  have a2 : q * q' ≤ 0 := by
   have := Int.mul_nonneg c1 c1
   omega
  have a3 : 0 < q' := by
   refine Int.not_le.1 fun k => ?_
   have := Int.mul_pos_of_neg_of_neg c0 (show q' < 0 by omega)
   omega
  refine Or.inl ⟨a3, Int.not_lt.1 fun hc => ?_⟩
  have a4 : p' * (p' + 1) ≤ (-q) * q' := Int.mul_le_mul (by omega) (by omega) (by omega) (by omega)
  have a5 : (p' + 1) * (p' + 1) ≤ (-q) * q' := Int.mul_le_mul (by omega) (by omega) (by omega) (by omega)
  grind
theorem trm_one {p q n : Int} (hn : 0 ≤ n) (hq : q ≠ 0) (hm : q * nxq p q n = n - nxp p q n * nxp p q n) (hq' : nxq p q n ≠ 0) : 1 ≤ trm (nxp p q n) (nxq p q n) n := by
 obtain ⟨g1, g2⟩ := isq_int hn
 obtain ⟨k1, k2, k3⟩ := nxp_at (p := p) (q := q) (n := n)
 have hc := nx_core g1 g2 (by omega) hm hq' (by
  by_cases c : 0 < q
  ·exact Or.inl ⟨c, k1 c⟩
  ·by_cases d : 0 < n
   ·exact Or.inr (Or.inl ⟨by omega, k2 (by omega) d⟩)
   ·exact Or.inr (Or.inr ⟨by omega, by omega, k3 (by omega) d⟩))
 generalize nxp p q n = p' at *
 generalize nxq p q n = q' at *
 unfold trm
 rcases hc with ⟨c1, c2⟩ | ⟨c1, c2⟩
 ·exact fl_one_pos c1 (by rw [if_neg (by omega)]; omega)
 ·refine fl_one_neg c1 ?_
  split <;> omega
/-- The terms behind the first are 1 at least. -/
theorem tm_one {g p q n : Int} {a : Qn} (h : Rl g p q n a) (i : Nat) (hi : ∀ j, j ≤ i + 1 → (rst p q n j).2 ≠ 0) : 1 ≤ tm p q n (i + 1) :=
 trm_one h.nn (hi i (by omega)) (nxq_mul (rl_num h i (fun j hj => hi j (by omega)))) (hi (i + 1) (by omega))
theorem rst_add (p q n : Int) (i : Nat) : ∀ j, rst p q n (i + j) = rst (rst p q n i).1 (rst p q n i).2 n j
 | 0 => rfl
 | j + 1 => by
  show (nxp (rst p q n (i + j)).1 (rst p q n (i + j)).2 n, nxq (rst p q n (i + j)).1 (rst p q n (i + j)).2 n) = _
  rw [rst_add p q n i j]
  rfl
theorem tm_add (p q n : Int) (i j : Nat) : tm p q n (i + j) = tm (rst p q n i).1 (rst p q n i).2 n j := by
 unfold tm
 rw [rst_add]
theorem cv_same {p q p' q' n : Int} {l : Nat} (h : ∀ j, j < l → tm p q n j = tm p' q' n j) : ∀ k, k ≤ l → cv p q n k = cv p' q' n k
 | 0, _ => rfl
 | k + 1, hk => by
  unfold cv
  rw [cv_same h k (by omega), h k (by omega)]
theorem cv_one {p q n : Int} {l : Nat} (h : ∀ j, j < l → 1 ≤ tm p q n j) : ∀ k, k ≤ l → 1 ≤ (cv p q n k).lp ∧ 0 ≤ (cv p q n k).lq ∧ 0 ≤ (cv p q n k).ap ∧ 0 ≤ (cv p q n k).aq ∧ 1 ≤ (cv p q n k).lq + (cv p q n k).aq
 | 0, _ => by simp [cv]
 | k + 1, hk => by
  obtain ⟨h1, h2, h3, h4, h5⟩ := cv_one h k (by omega)
  have ht := h k (by omega)
  have a1 : 1 * (cv p q n k).lp ≤ tm p q n k * (cv p q n k).lp := Int.mul_le_mul_of_nonneg_right ht (by omega)
  have a2 : 1 * (cv p q n k).lq ≤ tm p q n k * (cv p q n k).lq := Int.mul_le_mul_of_nonneg_right ht h2
  refine ⟨?_, ?_, ?_, ?_, ?_⟩ <;> simp only [cv] <;> omega
theorem per_sign {p q n : Int} (hn : 0 < n) (hq : q ≠ 0) (hp : 0 < n - p * p) (ht : 1 ≤ trm p q n) : 0 < q := by
 refine Int.not_le.1 fun k => ?_
 have k : q < 0 := by omega
 obtain ⟨g1, g2⟩ := isq_int (Int.le_of_lt hn)
 unfold trm at ht
 rw [if_pos ⟨k, hn⟩] at ht
 have h1 := (fl_neg (x := p + (isq n.toNat : Nat) + 1) k).1
 have h2 : fl (p + (isq n.toNat : Nat) + 1) q * q ≤ 1 * q := Int.mul_le_mul_of_nonpos_right ht (Int.le_of_lt k)
 have hs : (0 : Int) ≤ (isq n.toNat : Nat) := by omega
 generalize ((isq n.toNat : Nat) : Int) = s at *
 have h3 : (s + 1) * (s + 1) ≤ (-p) * (-p) := Int.mul_le_mul (by omega) (by omega) (by omega) (by omega)
 grind
theorem per_alg {p q p' q' n lp lq ap aq : Int} (hn : 0 < n) (hq : q ≠ 0) (hq' : q' ≠ 0) (hl : 0 < lq) (ha : 0 < ap)
 (e1 : q * lp - p * lq = lq * p + aq * q) (e2 : p * (q * lp - p * lq) + q * (q * ap - p * aq) = n * lq) (f1 : q' * lp - p' * lq = lq * p' + aq * q') (f2 : p' * (q' * lp - p' * lq) + q' * (q' * ap - p' * aq) = n * lq)
 (s1 : 0 < n - p * p → 0 < q) (s2 : 0 < n - p' * p' → 0 < q') : p = p' ∧ q = q' := by
 have b1 : lq * (n - p * p) = q * q * ap := by rw [e1] at e2; grind
 have b2 : lq * (n - p' * p') = q' * q' * ap := by rw [f1] at f2; grind
 have sq : ∀ x : Int, x ≠ 0 → 0 < x * x := fun x hx => by
  rcases Int.lt_or_gt_of_ne hx with k | k
  ·exact Int.mul_pos_of_neg_of_neg k k
  ·exact Int.mul_pos k k
 have pos : ∀ x y : Int, x ≠ 0 → lq * y = x * x * ap → 0 < y := fun x y hx h => by
  have := Int.mul_pos (sq x hx) ha
  rw [← h] at this
  refine Int.not_le.1 fun k => ?_
  have := Int.mul_nonneg (Int.le_of_lt hl) (show 0 ≤ -y by omega)
  rw [Int.mul_neg] at this
  omega
 have q0 := s1 (pos q _ hq b1)
 have q1 := s2 (pos q' _ hq' b2)
 have c1 : p * q' = p' * q := by
  refine Int.eq_of_mul_eq_mul_left (a := 2 * lq) (by omega) ?_
  grind
 have c2 : q' * q' = q * q := by
  refine Int.eq_of_mul_eq_mul_left (a := lq * n) (Int.mul_ne_zero (by omega) (by omega)) ?_
  have d1 : lq * n * (q' * q') = lq * ((p * q') * (p * q')) + q * q * ap * (q' * q') := by grind
  have d2 : lq * n * (q * q) = lq * ((p' * q) * (p' * q)) + q' * q' * ap * (q * q) := by grind
  rw [d1, d2, c1]
  grind
 have c3 : q = q' := by
  rcases Int.lt_trichotomy q q' with k | k | k
  ·have := Int.mul_lt_mul k (Int.le_of_lt k) q0 (Int.le_of_lt q1)
   omega
  ·exact k
  ·have := Int.mul_lt_mul k (Int.le_of_lt k) q1 (Int.le_of_lt q0)
   omega
 subst c3
 exact ⟨Int.eq_of_mul_eq_mul_right hq c1, rfl⟩
/-- Two rests with the same period of terms are one. -/
theorem per_uni {p q p' q' n : Int} {l : Nat} (hl : 1 ≤ l) (hn : 0 < n) (hS : Stp p q n l) (hS' : Stp p' q' n l) (hp : rst p q n l = (p, q)) (hp' : rst p' q' n l = (p', q')) (ht : ∀ j, j < l → tm p q n j = tm p' q' n j) (h1 : ∀ j, j < l → 1 ≤ tm p q n j) : p = p' ∧ q = q' := by
 obtain ⟨e1, e2⟩ := cv_id l hS
 obtain ⟨f1, f2⟩ := cv_id l hS'
 rw [← cv_same ht l (Nat.le_refl _), hp'] at f1 f2
 rw [hp] at e1 e2
 obtain ⟨k, rfl⟩ : ∃ k, l = k + 1 := ⟨l - 1, by omega⟩
 obtain ⟨a1, a2, a3, a4, a5⟩ := cv_one h1 k (by omega)
 have b2 : 1 * (cv p q n k).lq ≤ tm p q n k * (cv p q n k).lq := Int.mul_le_mul_of_nonneg_right (h1 k (by omega)) a2
 refine per_alg hn (hS 0 (by omega)).1 (hS' 0 (by omega)).1 (lp := (cv p q n (k + 1)).lp) (lq := (cv p q n (k + 1)).lq) (ap := (cv p q n (k + 1)).ap) (aq := (cv p q n (k + 1)).aq) (by simp only [cv]; omega) (by simp only [cv]; omega) e1 e2 f1 f2 ?_ ?_
 ·exact fun h => per_sign hn (hS 0 (by omega)).1 h (h1 0 (by omega))
 ·refine fun h => per_sign hn (hS' 0 (by omega)).1 h ?_
  have := h1 0 (by omega)
  rw [ht 0 (by omega)] at this
  exact this
theorem rs_add {a : Qn} {i J : Nat} (h : rs a i = rs a J) (j : Nat) : rs a (i + j) = rs a (J + j) := by
 unfold rs at *
 rw [rst_add, h, ← rst_add]
theorem tm_rs {a : Qn} {i J : Nat} (h : rs a i = rs a J) (j : Nat) : tm (p0 a) (q0 a) (n0 a) (i + j) = tm (p0 a) (q0 a) (n0 a) (J + j) := by
 have := rs_add h j
 unfold rs at this
 unfold tm
 rw [this]
theorem n0_pos {a : Qn} (h : Cn a) (hd : a.d ≠ 1) : 0 < n0 a := by
 have h1 := h.ok.r
 have h2 : a.q ≠ 0 := fun k => hd (h.ok.q.1 k)
 have h3 := h.ok.d0
 have h4 : a.q * a.r ≠ 0 := Int.mul_ne_zero h2 (by omega)
 have h5 : 0 < a.q * a.r * (a.q * a.r) := by
  rcases Int.lt_or_gt_of_ne h4 with k | k
  ·exact Int.mul_pos_of_neg_of_neg k k
  ·exact Int.mul_pos k k
 exact Int.mul_pos h5 (by omega)
theorem rs_mul {a : Qn} (h : Cn a) (hd : a.d ≠ 1) (i : Nat) : (rs a i).2 * (rs a (i + 1)).2 = n0 a - (rs a (i + 1)).1 * (rs a (i + 1)).1 :=
 nxq_mul (rl_num (rl_start h) i (fun j _ => rs_irr h hd j))
theorem tm_one' {a : Qn} (h : Cn a) (hd : a.d ≠ 1) (i : Nat) : 1 ≤ tm (p0 a) (q0 a) (n0 a) (i + 1) := tm_one (rl_start h) i (fun j _ => rs_irr h hd j)
/-- The period begins no earlier. -/
theorem per_ahead {a : Qn} {b J : Nat} (h : Cn a) (hd : a.d ≠ 1) (hR : Rep a (b + 1) (J + 1)) : tm (p0 a) (q0 a) (n0 a) b ≠ tm (p0 a) (q0 a) (n0 a) J := by
 intro ht
 have hlt := hR.lt
 refine hR.fst J (by omega) b (by omega) ?_
 have e := hR.eq
 have m1 := rs_mul h hd b
 have m2 := rs_mul h hd J
 rw [e, ← m2] at m1
 have eq := Int.eq_of_mul_eq_mul_right (rs_irr h hd (J + 1)) m1
 have e1 : tm (p0 a) (q0 a) (n0 a) b * (rs a b).2 - (rs a b).1 = tm (p0 a) (q0 a) (n0 a) J * (rs a J).2 - (rs a J).1 := congrArg Prod.fst e
 rw [ht, eq] at e1
 exact Prod.ext (by omega) eq
/-- The period is no shorter. -/
theorem per_sooner {a : Qn} {b J k : Nat} (h : Cn a) (hd : a.d ≠ 1) (hR : Rep a b J) (hk0 : 0 < k) (hk : b + k < J) (ht : ∀ j, b + j < J → tm (p0 a) (q0 a) (n0 a) (b + j) = tm (p0 a) (q0 a) (n0 a) (b + j + k)) : False := by
 have hlt := hR.lt
 refine hR.fst (b + k) hk b (by omega) ?_
 have stp : ∀ i, Stp (rs a i).1 (rs a i).2 (n0 a) (J - b) := fun i j _ => by
  have e := rs_mul h hd (i + j)
  have r1 : rst (rs a i).1 (rs a i).2 (n0 a) j = rs a (i + j) := (rst_add _ _ _ i j).symm
  have r2 : rst (rs a i).1 (rs a i).2 (n0 a) (j + 1) = rs a (i + j + 1) := (rst_add _ _ _ i (j + 1)).symm
  rw [r1, r2]
  exact ⟨rs_irr h hd _, e⟩
 have per : ∀ i, rst (rs a (b + i)).1 (rs a (b + i)).2 (n0 a) (J - b) = ((rs a (b + i)).1, (rs a (b + i)).2) := fun i => by
  have r1 : rst (rs a (b + i)).1 (rs a (b + i)).2 (n0 a) (J - b) = rs a (b + i + (J - b)) := (rst_add _ _ _ (b + i) (J - b)).symm
  rw [r1, show b + i + (J - b) = J + i by omega, ← rs_add hR.eq]
 have tms : ∀ i j, tm (rs a i).1 (rs a i).2 (n0 a) j = tm (p0 a) (q0 a) (n0 a) (i + j) := fun i j => (tm_add _ _ _ i j).symm
 obtain ⟨u1, u2⟩ := per_uni (l := J - b) (by omega) (n0_pos h hd) (stp b) (stp (b + k)) (per 0) (per k)
  (fun j hj => by rw [tms, tms, ht j (by omega), show b + j + k = b + k + j by omega])
  (fun j _ => by
   rw [tms, tm_rs hR.eq, show J + j = (J + j - 1) + 1 by omega]
   exact tm_one' h hd _)
 exact Prod.ext u1 u2

end Go.Proofs.YtjahbjjekednfabDoor
