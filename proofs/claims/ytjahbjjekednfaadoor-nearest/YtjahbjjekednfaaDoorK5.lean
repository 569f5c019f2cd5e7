import Derived.Test.YtjahbjjekednfaaDoorK1
import Derived.Test.YtjahbjjekednfaaDoorO4
namespace Go.Proofs.YtjahbjjekednfaaDoor
open Go.RowKit

theorem rsg_a {X Y d : Int} (hX : X < 0) (hY : 0 ≤ Y) (h : Y * Y * d < X * X) : rsg X Y d = -1 := by
 have s1 : X.sign = -1 := Int.sign_eq_neg_one_of_neg hX
 have s3 : (X * X - Y * Y * d).sign = 1 := Int.sign_eq_one_of_pos (by omega)
 unfold rsg rsS
 rw [s1, s3]
 by_cases h0 : Y = 0
 ·subst h0; rfl
 ·rw [Int.sign_eq_one_of_pos (show 0 < Y by omega)]; rfl
theorem rsg_b {X Y d : Int} (hY : 0 ≤ Y) (h : X * X < Y * Y * d) : rsg X Y d = 1 := by
 have h0 : Y ≠ 0 := fun e => by
  subst e
  have : 0 ≤ X * X := by
   rcases Int.le_total 0 X with k | k
   ·exact Int.mul_nonneg k k
   ·exact Int.mul_nonneg_of_nonpos_of_nonpos k k
  omega
 have s2 : Y.sign = 1 := Int.sign_eq_one_of_pos (by omega)
 have s3 : (X * X - Y * Y * d).sign = -1 := Int.sign_eq_neg_one_of_neg (by omega)
 unfold rsg rsS
 rw [s2, s3]
 rcases Int.lt_trichotomy X 0 with k | k | k
 ·rw [Int.sign_eq_neg_one_of_neg k]; rfl
 ·subst k; rfl
 ·rw [Int.sign_eq_one_of_pos k]; rfl
theorem rsg_c {X Y d : Int} (hX : 0 < X) (hY : 0 ≤ Y) : rsg X Y d = 1 := by
 unfold rsg rsS
 rw [Int.sign_eq_one_of_pos hX]
 by_cases h0 : Y = 0
 ·subst h0; rfl
 ·rw [Int.sign_eq_one_of_pos (show 0 < Y by omega)]; rfl
/-- On which side of the value the terms so far lie. -/
theorem sgn_core {q n u lq P Q aq e m g d : Int} (hl : 1 ≤ lq) (ha : 0 ≤ aq) (hq : q ≠ 0) (hg : 0 ≤ g) (hn : n = g * g * d) (m0 : 0 ≤ m) (h0 : m * m ≤ n) (h1 : n < (m + 1) * (m + 1))
 (hc : (0 < Q ∧ Q ≤ P + m) ∨ (Q < 0 ∧ P + m + 1 ≤ Q)) (e1 : u = lq * P + aq * Q) (hN : u * u - n * (lq * lq) = e * q * Q) (he : e = 1 ∨ e = -1) : rsg (-u) (g * lq) d = if 0 < q then -e else e := by
 have hY : 0 ≤ g * lq := Int.mul_nonneg hg (by omega)
 have eY : g * lq * (g * lq) * d = n * (lq * lq) := by rw [hn]; grind
 have eX : -u * -u = u * u := by grind
 have ss : (m * lq) * (m * lq) ≤ n * (lq * lq) := by
  have := Int.mul_le_mul_of_nonneg_right h0 (Int.mul_nonneg (show 0 ≤ lq by omega) (show 0 ≤ lq by omega))
  grind
 have st : n * (lq * lq) < ((m + 1) * lq) * ((m + 1) * lq) := by
  have := Int.mul_lt_mul_of_pos_right h1 (Int.mul_pos (show 0 < lq by omega) (show 0 < lq by omega))
  grind
 rcases hc with ⟨c1, c2⟩ | ⟨c1, c2⟩
 ·have b1 : lq * Q ≤ lq * (P + m) := Int.mul_le_mul_of_nonneg_left c2 (by omega)
  have b2 : 0 < lq * Q := Int.mul_pos (by omega) c1
  have b3 : 0 ≤ aq * Q := Int.mul_nonneg ha (by omega)
  have b4 : 0 < u + m * lq := by grind
  have up : n * (lq * lq) < u * u → 0 < u := fun k => Int.not_le.1 fun hu => by
   have : (-u) * (-u) ≤ (m * lq) * (m * lq) := Int.mul_le_mul (by omega) (by omega) (by omega) (Int.mul_nonneg m0 (by omega))
   omega
  have neg : n * (lq * lq) < u * u → rsg (-u) (g * lq) d = -1 := fun k => rsg_a (by have := up k; omega) hY (by omega)
  have pos : u * u < n * (lq * lq) → rsg (-u) (g * lq) d = 1 := fun k => rsg_b hY (by omega)
  rcases Int.lt_or_gt_of_ne hq with k | k
  ·have := Int.mul_neg_of_neg_of_pos k c1
   rw [if_neg (by omega)]
   rcases he with rfl | rfl
   ·rw [pos (by grind)]
   ·rw [neg (by grind)]
  ·have := Int.mul_pos k c1
   rw [if_pos k]
   rcases he with rfl | rfl
   ·rw [neg (by grind)]
   ·rw [pos (by grind)]; rfl
 ·have b1 : lq * (P + m + 1) ≤ lq * Q := Int.mul_le_mul_of_nonneg_left c2 (by omega)
  have b2 : lq * Q < 0 := Int.mul_neg_of_pos_of_neg (by omega) c1
  have b3 : aq * Q ≤ 0 := Int.mul_nonpos_of_nonneg_of_nonpos ha (by omega)
  have b4 : u + (m + 1) * lq < 0 := by grind
  have b5 : 0 ≤ (m + 1) * lq := Int.mul_nonneg (by omega) (by omega)
  have b6 : ((m + 1) * lq) * ((m + 1) * lq) ≤ (-u) * (-u) := Int.mul_le_mul (by omega) (by omega) b5 (by omega)
  rw [rsg_c (by omega) hY]
  rcases Int.lt_or_gt_of_ne hq with k | k
  ·have := Int.mul_pos_of_neg_of_neg k c1
   rw [if_neg (by omega)]
   rcases he with rfl | rfl
   ·rfl
   ·exfalso; grind
  ·have := Int.mul_neg_of_pos_of_neg k c1
   rw [if_pos k]
   rcases he with rfl | rfl
   ·exfalso; grind
   ·rfl
/-- A fraction's denominator is no less than those of the terms so far. -/
theorem den_core {q u lq P Q aq e r f : Int} (hl : 1 ≤ lq) (ha : 0 ≤ aq) (hr : 0 < r) (hc : (0 < Q ∧ Q ≤ P) ∨ (Q < 0 ∧ P + 1 ≤ Q)) (e1 : u = lq * P + aq * Q) (hN : u * u = e * q * Q) (he : e = 1 ∨ e = -1) (hf : u * r = q * f) : lq ≤ r := by
 have key : ∀ {q u Q e f : Int}, 0 < Q → lq * Q ≤ u → u * u = e * q * Q → (e = 1 ∨ e = -1) → u * r = q * f → lq ≤ r := by
  intro q u Q e f hQ hu hN he hf
  have u0 : 0 < u := by
   have := Int.mul_pos (show 0 < lq by omega) hQ
   omega
  have hE : 0 < e * q := by
   have := Int.mul_pos u0 u0
   rw [hN] at this
   exact Int.pos_of_mul_pos_left this hQ
  -- lq * u <= e * q
  have h1 : lq * u ≤ e * q := by
   refine Int.le_of_mul_le_mul_right ?_ hQ
   have := Int.mul_le_mul_of_nonneg_right hu (Int.le_of_lt u0)
   rw [← hN]
   grind
  have hF : 1 ≤ e * f := by
   have : 0 < e * q * (e * f) := by
    have h2 := Int.mul_pos u0 hr
    rcases he with rfl | rfl <;> grind
   have := Int.pos_of_mul_pos_right this hE
   omega
  have h2 : e * q * 1 ≤ e * q * (e * f) := Int.mul_le_mul_of_nonneg_left hF (by omega)
  have h3 : e * q * (e * f) = u * r := by rcases he with rfl | rfl <;> grind
  refine Int.le_of_mul_le_mul_right ?_ u0
  grind
 rcases hc with ⟨c1, c2⟩ | ⟨c1, c2⟩
 ·refine key c1 ?_ hN he hf
  have := Int.mul_le_mul_of_nonneg_left c2 (show 0 ≤ lq by omega)
  have := Int.mul_nonneg ha (Int.le_of_lt c1)
  omega
 ·refine key (q := -q) (u := -u) (Q := -Q) (e := e) (f := f) (by omega) ?_ (by grind) he (by grind)
  have h1 := Int.mul_le_mul_of_nonneg_left (show P ≤ Q by omega) (show 0 ≤ lq by omega)
  have h2 := Int.mul_nonpos_of_nonneg_of_nonpos ha (Int.le_of_lt c1)
  grind
def fb : Nat → Nat
 | 0 => 0
 | 1 => 1
 | n + 2 => fb (n + 1) + fb n
theorem fb_mono : ∀ n, fb n ≤ fb (n + 1)
 | 0 => by decide
 | 1 => by decide
 | n + 2 => by
  have := fb_mono n
  have := fb_mono (n + 1)
  show fb (n + 1) + fb n ≤ fb (n + 1) + fb n + fb (n + 1)
  omega
theorem fb_ten : ∀ d, 10 ^ d ≤ fb (5 * d + 2)
 | 0 => by decide
 | d + 1 => by
  have ih := fb_ten d
  rw [show 5 * (d + 1) + 2 = 5 * d + 7 by omega, Nat.pow_succ]
  have h := fb_mono (5 * d)
  have e7 : fb (5 * d + 7) = fb (5 * d + 6) + fb (5 * d + 5) := rfl
  have e6 : fb (5 * d + 6) = fb (5 * d + 5) + fb (5 * d + 4) := rfl
  have e5 : fb (5 * d + 5) = fb (5 * d + 4) + fb (5 * d + 3) := rfl
  have e4 : fb (5 * d + 4) = fb (5 * d + 3) + fb (5 * d + 2) := rfl
  have e3 : fb (5 * d + 3) = fb (5 * d + 2) + fb (5 * d + 1) := rfl
  have e2 : fb (5 * d + 2) = fb (5 * d + 1) + fb (5 * d) := rfl
  omega
theorem fb_le {m n : Nat} (h : m ≤ n) : fb m ≤ fb n := by
 obtain ⟨k, rfl⟩ : ∃ k, n = m + k := ⟨n - m, by omega⟩
 clear h
 induction k with
 | zero => exact Nat.le_refl _
 | succ k ih => exact Nat.le_trans ih (fb_mono _)
theorem fb_lt {d k : Nat} {r : Int} (h : (fb k : Int) ≤ r) (hr : r < ((10 ^ d : Nat) : Int)) : k < 5 * d + 2 := by
 refine Nat.lt_of_not_le fun hk => ?_
 have h1 := fb_ten d
 have h2 := fb_le hk
 omega
theorem nx_hc {p q n : Int} (hn : 0 ≤ n) (hq : q ≠ 0) (hm : q * nxq p q n = n - nxp p q n * nxp p q n) (hq' : nxq p q n ≠ 0) :
 (0 < nxq p q n ∧ nxq p q n ≤ nxp p q n + (isq n.toNat : Nat)) ∨ (nxq p q n < 0 ∧ nxp p q n + (isq n.toNat : Nat) + 1 ≤ nxq p q n) := by
 obtain ⟨g1, g2⟩ := isq_int hn
 obtain ⟨k1, k2, k3⟩ := nxp_at (p := p) (q := q) (n := n)
 exact nx_core g1 g2 (by omega) hm hq' (by
  by_cases c : 0 < q
  ·exact Or.inl ⟨c, k1 c⟩
  ·by_cases d : 0 < n
   ·exact Or.inr (Or.inl ⟨by omega, k2 (by omega) d⟩)
   ·exact Or.inr (Or.inr ⟨by omega, by omega, k3 (by omega) d⟩))
theorem rst_hc {g p q n : Int} {a : Qn} (h : Rl g p q n a) (k : Nat) (hk : ∀ j, j ≤ k + 1 → (rst p q n j).2 ≠ 0) :
 (0 < (rst p q n (k + 1)).2 ∧ (rst p q n (k + 1)).2 ≤ (rst p q n (k + 1)).1 + (isq n.toNat : Nat)) ∨ ((rst p q n (k + 1)).2 < 0 ∧ (rst p q n (k + 1)).1 + (isq n.toNat : Nat) + 1 ≤ (rst p q n (k + 1)).2) :=
 nx_hc h.nn (hk k (by omega)) (nxq_mul (rl_num h k (fun j hj => hk j (by omega)))) (hk (k + 1) (by omega))
theorem cvq_pos {p q n : Int} {k : Nat} (h : ∀ j, j + 1 < k → 1 ≤ tm p q n (j + 1)) : ∀ i, i + 1 ≤ k → 1 ≤ (cv p q n (i + 1)).lq ∧ 0 ≤ (cv p q n i).lq ∧ (cv p q n (i + 1)).aq = (cv p q n i).lq
 | 0, _ => by simp [cv]
 | i + 1, hi => by
  obtain ⟨h1, h2, h3⟩ := cvq_pos h i (by omega)
  have a1 : 1 * (cv p q n (i + 1)).lq ≤ tm p q n (i + 1) * (cv p q n (i + 1)).lq := Int.mul_le_mul_of_nonneg_right (h i (by omega)) (by omega)
  refine ⟨?_, by omega, rfl⟩
  show 1 ≤ tm p q n (i + 1) * (cv p q n (i + 1)).lq + (cv p q n (i + 1)).aq
  omega
theorem lq_step {p q n : Int} {k : Nat} (h : ∀ j, j + 1 < k → 1 ≤ tm p q n (j + 1)) (i : Nat) (hi : i + 2 ≤ k) : (cv p q n (i + 1)).lq + (cv p q n i).lq ≤ (cv p q n (i + 2)).lq := by
 obtain ⟨h1, h2, h3⟩ := cvq_pos h i (by omega)
 have a1 : 1 * (cv p q n (i + 1)).lq ≤ tm p q n (i + 1) * (cv p q n (i + 1)).lq := Int.mul_le_mul_of_nonneg_right (h i (by omega)) (by omega)
 show _ ≤ tm p q n (i + 1) * (cv p q n (i + 1)).lq + (cv p q n (i + 1)).aq
 omega
theorem lq_fb {p q n : Int} {k : Nat} (h : ∀ j, j + 1 < k → 1 ≤ tm p q n (j + 1)) : ∀ i, i ≤ k → (fb i : Int) ≤ (cv p q n i).lq
 | 0, _ => by simp [fb, cv]
 | 1, _ => by simp [fb, cv]
 | i + 2, hi => by
  have h1 := lq_fb h i (by omega)
  have h2 := lq_fb h (i + 1) (by omega)
  have h3 := lq_step h i hi
  have e : fb (i + 2) = fb (i + 1) + fb i := rfl
  rw [e]
  omega
theorem rl_tms {g p q n : Int} {a : Qn} (h : Rl g p q n a) {k : Nat} (hk : ∀ j, j < k → (rst p q n j).2 ≠ 0) : ∀ j, j + 1 < k → 1 ≤ tm p q n (j + 1) := fun j hj => tm_one h j (fun i hi => hk i (by omega))
theorem alt_two (k : Nat) : alt k = 1 ∨ alt k = -1 := by
 unfold alt
 split
 ·exact Or.inl rfl
 ·exact Or.inr rfl
/-- The terms so far come to less and to more than the value, by turns. -/
theorem cv_side {g p q n : Int} {a : Qn} (h : Rl g p q n a) (k : Nat) (hk : ∀ j, j ≤ k + 1 → (rst p q n j).2 ≠ 0) :
 rsg (a.p * (cv p q n (k + 1)).lq - (cv p q n (k + 1)).lp * a.r) (a.q * (cv p q n (k + 1)).lq) a.d = alt k := by
 have hS := stp_rl h (k + 1) (fun j hj => hk j (by omega))
 obtain ⟨e1, _⟩ := cv_id (k + 1) hS
 have hN := cv_norm (k + 1) hS
 obtain ⟨l1, l2, l3⟩ := cvq_pos (k := k + 1) (rl_tms h (fun j hj => hk j (by omega))) k (by omega)
 obtain ⟨g1, g2⟩ := isq_int h.nn
 have hc := sgn_core (d := a.d) l1 (show 0 ≤ (cv p q n (k + 1)).aq by omega) h.q0 h.g0 h.en (by omega) g1 g2 (rst_hc h k hk) e1 hN (alt_two (k + 1))
 have hi : a.q * (cv p q n (k + 1)).lq = 0 ∨ (a.p * (cv p q n (k + 1)).lq - (cv p q n (k + 1)).lp * a.r) * (a.p * (cv p q n (k + 1)).lq - (cv p q n (k + 1)).lp * a.r) ≠ a.q * (cv p q n (k + 1)).lq * (a.q * (cv p q n (k + 1)).lq) * a.d := by
  by_cases hq : a.q = 0
  ·exact Or.inl (by rw [hq, Int.zero_mul])
  ·have h1 : a.d ≠ 1 := fun e => hq (h.cn.ok.q.2 e)
   have h2 := h.cn.ok.d0
   exact Or.inr (irr h.cn.ok.f (by omega) (Int.mul_ne_zero hq (by omega)))
 have hF := rsg_flip h.q0 hi
 have x1 := h.ex
 have y1 := h.ey
 rw [show q * (a.p * (cv p q n (k + 1)).lq - (cv p q n (k + 1)).lp * a.r) = a.r * -(q * (cv p q n (k + 1)).lp - p * (cv p q n (k + 1)).lq) by grind, show q * (a.q * (cv p q n (k + 1)).lq) = a.r * (g * (cv p q n (k + 1)).lq) by grind, rsg_scale _ _ _ _ h.cn.ok.r, hc, alt_succ] at hF
 by_cases c : 0 < q
 ·rw [if_pos c, if_pos c] at hF
  omega
 ·rw [if_neg c, if_neg c] at hF
  omega
theorem rl_rat {g p q n : Int} {a : Qn} (h : Rl g p q n a) (ha : a.q = 0) : g = 0 ∧ n = 0 := by
 have h1 := h.ey
 have h2 := h.cn.ok.r
 rw [ha, Int.zero_mul] at h1
 have h3 : g = 0 := by
  rcases Int.mul_eq_zero.1 h1.symm with k | k
  ·exact k
  ·omega
 refine ⟨h3, ?_⟩
 rw [h.en, h3, Int.zero_mul, Int.zero_mul]
/-- All terms come to the value. -/
theorem cv_end {g p q n : Int} {a : Qn} (h : Rl g p q n a) (k : Nat) (hk : ∀ j, j ≤ k → (rst p q n j).2 ≠ 0) (hz : (rst p q n (k + 1)).2 = 0) : a.q = 0 ∧ a.p * (cv p q n (k + 1)).lq = (cv p q n (k + 1)).lp * a.r := by
 have hr := rl_num h k hk
 have h0 := ((nxq_zero hr).1 hz).2
 obtain ⟨g0, n0⟩ := rl_rat hr h0
 have hq := h.q0
 have ha : a.q = 0 := by
  have h1 := h.ey
  rw [g0, Int.zero_mul] at h1
  rcases Int.mul_eq_zero.1 h1 with k | k
  ·exact k
  ·exact absurd k hq
 refine ⟨ha, ?_⟩
 have hN := cv_norm (k + 1) (stp_rl h (k + 1) (fun j hj => hk j (by omega)))
 rw [hz, Int.mul_zero, n0, Int.zero_mul, Int.sub_zero] at hN
 have hu : q * (cv p q 0 (k + 1)).lp - p * (cv p q 0 (k + 1)).lq = 0 := by
  rcases Int.mul_eq_zero.1 hN with k | k <;> exact k
 rw [n0]
 have x1 := h.ex
 refine Int.eq_of_mul_eq_mul_right hq ?_
 grind
theorem den_ge {g p q n : Int} {a : Qn} (h : Rl g p q n a) (ha : a.q = 0) (k : Nat) (hk : ∀ j, j ≤ k + 1 → (rst p q n j).2 ≠ 0) : (cv p q n (k + 1)).lq ≤ a.r := by
 have hS := stp_rl h (k + 1) (fun j hj => hk j (by omega))
 obtain ⟨e1, _⟩ := cv_id (k + 1) hS
 have hN := cv_norm (k + 1) hS
 obtain ⟨l1, l2, l3⟩ := cvq_pos (k := k + 1) (rl_tms h (fun j hj => hk j (by omega))) k (by omega)
 have hc := rst_hc h k hk
 obtain ⟨_, hn⟩ := rl_rat h ha
 have x1 := h.ex
 subst hn
 have z : ((isq (0 : Int).toNat : Nat) : Int) = 0 := by
  have := isq_int (Int.le_refl 0)
  have h1 := this.1
  by_cases e : ((isq (0 : Int).toNat : Nat) : Int) = 0
  ·exact e
  ·have := Int.mul_pos (show 0 < ((isq (0 : Int).toNat : Nat) : Int) by omega) (show 0 < ((isq (0 : Int).toNat : Nat) : Int) by omega)
   omega
 rw [z, Int.add_zero] at hc
 rw [Int.zero_mul, Int.sub_zero] at hN
 exact den_core l1 (by omega) h.cn.ok.r hc e1 hN (alt_two (k + 1)) (f := (cv p q 0 (k + 1)).lp * a.r - a.p * (cv p q 0 (k + 1)).lq) (by grind)
theorem last_ne {g p q n : Int} {a : Qn} (h : Rl g p q n a) (ha : a.q = 0) (k : Nat) (hk : ∀ j, j ≤ k + 1 → (rst p q n j).2 ≠ 0) (hz : (rst p q n (k + 2)).2 = 0) : tm p q n (k + 1) ≠ 1 := by
 intro ht
 obtain ⟨_, hn⟩ := rl_rat h ha
 subst hn
 have hr := rl_num h k (fun j hj => hk j (by omega))
 have m1 := nxq_mul hr
 have m2 := nxq_mul (rl_num h (k + 1) hk)
 have e2 : nxq (rst p q 0 (k + 1)).1 (rst p q 0 (k + 1)).2 0 = 0 := hz
 have e3 : nxp (rst p q 0 (k + 1)).1 (rst p q 0 (k + 1)).2 0 = (rst p q 0 (k + 1)).2 - (rst p q 0 (k + 1)).1 := by
  show tm p q 0 (k + 1) * (rst p q 0 (k + 1)).2 - (rst p q 0 (k + 1)).1 = _
  rw [ht, Int.one_mul]
 rw [e2, e3, Int.mul_zero] at m2
 have e4 : (rst p q 0 (k + 1)).2 - (rst p q 0 (k + 1)).1 = 0 := by
  have : ((rst p q 0 (k + 1)).2 - (rst p q 0 (k + 1)).1) * ((rst p q 0 (k + 1)).2 - (rst p q 0 (k + 1)).1) = 0 := by omega
  rcases Int.mul_eq_zero.1 this with k | k <;> exact k
 have h1 := hk (k + 1) (by omega)
 have h0 := hk k (by omega)
 have e5 : nxp (rst p q 0 k).1 (rst p q 0 k).2 0 = (rst p q 0 (k + 1)).1 := rfl
 have e6 : nxq (rst p q 0 k).1 (rst p q 0 k).2 0 = (rst p q 0 (k + 1)).2 := rfl
 obtain ⟨k1, _, k3⟩ := nxp_at (p := (rst p q 0 k).1) (q := (rst p q 0 k).2) (n := 0)
 rw [e5, e6] at m1
 rw [e5] at k1 k3
 have e7 : (rst p q 0 k).2 = -(rst p q 0 (k + 1)).2 := by
  refine Int.eq_of_mul_eq_mul_right h1 ?_
  rw [m1, show (rst p q 0 (k + 1)).1 = (rst p q 0 (k + 1)).2 by omega]
  grind
 by_cases c : 0 < (rst p q 0 k).2
 ·have := (k1 c).1
  omega
 ·have := (k3 (by omega) (by omega)).2
  have h9 : (isq (0 : Int).toNat : Nat) = 0 := by
   have := (isq_int (Int.le_refl 0)).1
   by_cases e : ((isq (0 : Int).toNat : Nat) : Int) = 0
   ·omega
   ·have := Int.mul_pos (show 0 < ((isq (0 : Int).toNat : Nat) : Int) by omega) (show 0 < ((isq (0 : Int).toNat : Nat) : Int) by omega)
    omega
  omega
/-- A fraction. -/
def fr (P Q : Int) : Qn := ⟨P, 0, Q, 1⟩
theorem fr_cn {P Q R S e : Int} (hQ : 1 ≤ Q) (he : e = 1 ∨ e = -1) (h : P * S - R * Q = e) : Cn (fr P Q) := by
 refine ⟨⟨by show 0 < Q; omega, show (1 : Int) ≤ 1 by decide, show (1 : Int) < 1000000 by decide, ⟨fun _ => rfl, fun _ => rfl⟩, sqfree_one⟩, ?_⟩
 show Int.gcd (Int.gcd Q P) 0 = 1
 rw [Int.gcd_zero_right]
 have h1 : (Int.gcd Q P : Int) ∣ Q := Int.gcd_dvd_left ..
 have h2 : (Int.gcd Q P : Int) ∣ P := Int.gcd_dvd_right ..
 have h3 : (Int.gcd Q P : Int) ∣ 1 := by
  have h4 : (Int.gcd Q P : Int) ∣ e := by
   rw [← h]
   exact Int.dvd_sub (Int.dvd_mul_of_dvd_left h2) (Int.dvd_mul_of_dvd_right h1)
  rcases he with rfl | rfl
  ·exact h4
  ·exact (Int.dvd_neg).1 h4
 have h5 := Int.eq_one_of_dvd_one (by omega) h3
 omega
theorem cv_cn {g p q n : Int} {a : Qn} (h : Rl g p q n a) (k : Nat) (hk : ∀ j, j < k + 1 → (rst p q n j).2 ≠ 0) : Cn (fr (cv p q n (k + 1)).lp (cv p q n (k + 1)).lq) :=
 fr_cn (cvq_pos (k := k + 1) (rl_tms h hk) k (by omega)).1 (alt_two (k + 1)) (cv_det p q n (k + 1))
theorem fr_eq {a : Qn} {P Q : Int} (h : Cn a) (ha : a.q = 0) (hf : Cn (fr P Q)) (e : a.p * Q = P * a.r) : a = fr P Q := by
 have r1 := h.ok.r
 have r2 : 0 < Q := hf.ok.r
 have q2 : a.q * (fr P Q).r = (fr P Q).q * a.r := by
  rw [ha, Int.zero_mul]
  exact (Int.zero_mul _).symm
 have hr : a.r = (fr P Q).r := Int.dvd_antisymm (by omega) (Int.le_of_lt r2) (dvd_of_low h.g e q2) (dvd_of_low hf.g e.symm q2.symm)
 have hr' : a.r = Q := hr
 have hp : a.p = P := by
  rw [hr'] at e
  exact Int.eq_of_mul_eq_mul_right (by omega) e
 have hd : a.d = 1 := h.ok.q.1 ha
 cases a
 simp only [fr] at *
 simp_all

end Go.Proofs.YtjahbjjekednfaaDoor

namespace Go.Proofs.YtjahbjjekednfaaDoor

/-- A number held against a fraction. -/
theorem cmp_fr {a : Qn} {P Q : Int} (h : Cn a) (hf : Cn (fr P Q)) : qcmp a (fr P Q) = rsg (a.p * Q - P * a.r) (a.q * Q) a.d := by
 have r1 := h.ok.r
 have r2 : 0 < Q := hf.ok.r
 have d0 := h.ok.d0
 have hi : a.q * Q = 0 ∨ (a.p * Q - P * a.r) * (a.p * Q - P * a.r) ≠ a.q * Q * (a.q * Q) * a.d := by
  by_cases hq : a.q = 0
  ·exact Or.inl (by rw [hq, Int.zero_mul])
  ·have h1 : a.d ≠ 1 := fun e => hq (h.ok.q.2 e)
   exact Or.inr (irr h.ok.f (by omega) (Int.mul_ne_zero hq (by omega)))
 have k1 : (a.r : Rat) ≠ 0 := cast_ne (by omega)
 have k2 : (Q : Rat) ≠ 0 := cast_ne (by omega)
 have ev : ∀ N, xv (a.p * Q - P * a.r) (a.q * Q) a.d N = (a.r : Rat) * Q * (vl a N - vl (fr P Q) N) := fun N => by
  unfold xv vl rx ry fr
  simp only [Rat.intCast_sub, Rat.intCast_mul, Rat.intCast_zero]
  grind
 have h0 : (0 : Rat) < (a.r : Rat) * Q := Rat.mul_pos (Rat.intCast_pos.2 r1) (Rat.intCast_pos.2 r2)
 have e : ((a.r : Rat) * Q)⁻¹ * ((a.r : Rat) * Q) = 1 := by grind
 have hv := Rat.inv_pos.2 h0
 rcases rsg_val (a.p * Q - P * a.r) (a.q * Q) a.d with s | s | s
 ·have hl : Lt a (fr P Q) := ((rsg_min d0 hi s).scale _ hv).congr fun N => by
   rw [ev]
   generalize ((a.r : Rat) * Q)⁻¹ = i at *
   generalize (a.r : Rat) * Q = j at *
   grind
  rcases cmp_sem h hf with ⟨u, k⟩ | ⟨u, k⟩ | ⟨u, k⟩
  ·exact (hl.not k).elim
  ·omega
  ·rw [k] at hl
   exact hl.irrefl.elim
 ·obtain ⟨s1, s2⟩ := rsg_nil s
  have ha : a.q = 0 := by
   rcases Int.mul_eq_zero.1 s2 with k | k
   ·exact k
   ·omega
  have := fr_eq h ha hf (by omega)
  rw [s]
  have e2 := cmp_self h
  rwa [← this]
 ·have hl : Lt (fr P Q) a := ((rsg_pos d0 hi s).scale _ hv).congr fun N => by
   rw [ev]
   generalize ((a.r : Rat) * Q)⁻¹ = i at *
   generalize (a.r : Rat) * Q = j at *
   grind
  rcases cmp_sem h hf with ⟨u, k⟩ | ⟨u, k⟩ | ⟨u, k⟩
  ·omega
  ·exact (hl.not k).elim
  ·rw [k] at hl
   exact hl.irrefl.elim

end Go.Proofs.YtjahbjjekednfaaDoor

namespace Go.Proofs.YtjahbjjekednfaaDoor

theorem exq_pos {a : Qn} (h : Cn a) {N K : Nat} (hK : Exq (p0 a) (q0 a) (n0 a) (N + 1) K) : 1 ≤ K := by
 refine Nat.not_lt.1 fun hc => ?_
 have e : K = 0 := by omega
 subst e
 rcases hK.stop with s | s
 ·omega
 ·exact (rl_start h).q0 s
/-- Two fractions that an expansion folds up to, one behind the other. -/
theorem squeeze {a : Qn} (h : Cn a) {k K K' : Nat} (hK : Exq (p0 a) (q0 a) (n0 a) (k + 1) K) (hK' : Exq (p0 a) (q0 a) (n0 a) (k + 2) K') {A B X Y : Int} (eA : A = (cv (p0 a) (q0 a) (n0 a) K).lp) (eB : B = (cv (p0 a) (q0 a) (n0 a) K).lq) (eX : X = (cv (p0 a) (q0 a) (n0 a) K').lp) (eY : Y = (cv (p0 a) (q0 a) (n0 a) K').lq) :
 1 ≤ B ∧ Cn (fr A B) ∧ ((A = X ∧ B = Y ∧ qcmp a (fr A B) = 0) ∨ (¬ (A = X ∧ B = Y) ∧ qcmp a (fr A B) = alt k ∧ X * B - A * Y = alt k ∧ B ≤ Y ∧ (k ≠ 0 → B < Y))) := by
 have hR := rl_start h
 have hp := exq_pos h hK
 obtain ⟨i, hi⟩ : ∃ i, K = i + 1 := ⟨K - 1, by omega⟩
 subst hi
 have l1 := (cvq_pos (k := i + 1) (rl_tms hR hK.on) i (by omega)).1
 have hc := cv_cn hR i hK.on
 rw [← eB] at l1
 rw [← eA, ← eB] at hc
 refine ⟨l1, hc, ?_⟩
 by_cases hz : (rst (p0 a) (q0 a) (n0 a) (i + 1)).2 = 0
 ·have e : K' = i + 1 := hK'.uni ⟨by have := hK.le; omega, hK.on, Or.inr hz⟩
  subst e
  obtain ⟨c1, c2⟩ := cv_end hR i (fun j hj => hK.on j (by omega)) hz
  rw [← eA, ← eB] at c2
  have e2 := fr_eq h c1 hc c2
  refine Or.inl ⟨eA.trans eX.symm, eB.trans eY.symm, ?_⟩
  rw [← e2]
  exact cmp_self h
 ·have e : i = k := by
   rcases hK.stop with s | s
   ·omega
   ·exact absurd s hz
  subst e
  have on : ∀ j, j ≤ i + 1 → (rst (p0 a) (q0 a) (n0 a) j).2 ≠ 0 := fun j hj => by
   by_cases c : j < i + 1
   ·exact hK.on j c
   ·rw [show j = i + 1 by omega]; exact hz
  have e : K' = i + 2 := hK'.uni ⟨by omega, fun j hj => on j (by omega), Or.inl rfl⟩
  subst e
  have s1 := cv_side hR i on
  rw [← eA, ← eB, ← cmp_fr h hc] at s1
  have d1 := cv_det (p0 a) (q0 a) (n0 a) (i + 2)
  have d2 : (cv (p0 a) (q0 a) (n0 a) (i + 2)).aq = (cv (p0 a) (q0 a) (n0 a) (i + 1)).lq := rfl
  have d3 : (cv (p0 a) (q0 a) (n0 a) (i + 2)).ap = (cv (p0 a) (q0 a) (n0 a) (i + 1)).lp := rfl
  rw [d2, d3, ← eX, ← eY, ← eA, ← eB, alt_succ, alt_succ, Int.neg_neg] at d1
  have q1 := lq_step (k := i + 2) (rl_tms hR (fun j hj => on j (by omega))) i (by omega)
  have q2 := (cvq_pos (k := i + 2) (rl_tms hR (fun j hj => on j (by omega))) i (by omega)).2.1
  rw [← eY, ← eB] at q1
  have q3 : i ≠ 0 → 1 ≤ (cv (p0 a) (q0 a) (n0 a) i).lq := fun hi => by
   obtain ⟨t, ht⟩ : ∃ t, i = t + 1 := ⟨i - 1, by omega⟩
   rw [ht]
   exact (cvq_pos (k := i + 2) (rl_tms hR (fun j hj => on j (by omega))) t (by omega)).1
  refine Or.inr ⟨fun c => ?_, s1, d1, by omega, fun hi => by have := q3 hi; omega⟩
  rw [c.1, c.2, Int.sub_self] at d1
  rcases alt_two i with s | s <;> omega
/-- All that Folded asks of an expansion. -/
theorem folds {a : Qn} (h : Cn a) {n K M : Nat} (hK : Exq (p0 a) (q0 a) (n0 a) (n + 1) K) (hM : Exq (p0 a) (q0 a) (n0 a) n M) :
 1 ≤ K ∧ M ≤ K ∧ (∀ j, j + 1 < K → 1 ≤ tm (p0 a) (q0 a) (n0 a) (j + 1)) ∧ ((rs a M).2 = 0 → K = M) ∧ ((rs a M).2 ≠ 0 → M = n ∧ K = n + 1) ∧ ((rs a K).2 ≠ 0 → K = n + 1 ∧ (a.d = 1 → ∀ d : Nat, a.r < ((10 ^ d : Nat) : Int) → n + 1 < 5 * d + 2)) ∧
 ((rs a K).2 = 0 → a.d = 1 ∧ (cv (p0 a) (q0 a) (n0 a) K).lp = a.p ∧ (cv (p0 a) (q0 a) (n0 a) K).lq = a.r ∧ (1 < K → tm (p0 a) (q0 a) (n0 a) (K - 1) ≠ 1)) := by
 have hR := rl_start h
 have hp := exq_pos h hK
 have hz : (rs a M).2 = 0 → K = M := fun z => hK.uni ⟨by have := hM.le; omega, hM.on, Or.inr z⟩
 have hn : (rs a M).2 ≠ 0 → M = n ∧ K = n + 1 := fun z => by
  have e : M = n := by
   rcases hM.stop with s | s
   ·exact s
   ·exact absurd s z
  refine ⟨e, ?_⟩
  refine hK.uni ⟨by omega, fun j hj => ?_, Or.inl rfl⟩
  by_cases c : j < M
  ·exact hM.on j c
  ·rw [show j = M by omega]; exact z
 refine ⟨hp, ?_, rl_tms hR hK.on, hz, hn, fun z => ?_, fun z => ?_⟩
 ·by_cases z : (rs a M).2 = 0
  ·have := hz z
   omega
  ·have := hn z
   omega
 ·have e : K = n + 1 := by
   rcases hK.stop with s | s
   ·exact s
   ·exact absurd s z
  refine ⟨e, fun hd d hr => ?_⟩
  subst e
  have hq : a.q = 0 := h.ok.q.2 hd
  have on : ∀ j, j ≤ n + 1 → (rst (p0 a) (q0 a) (n0 a) j).2 ≠ 0 := fun j hj => by
   by_cases c : j < n + 1
   ·exact hK.on j c
   ·rw [show j = n + 1 by omega]; exact z
  have h1 := den_ge hR hq n on
  have h2 := lq_fb (k := n + 1) (rl_tms hR hK.on) (n + 1) (by omega)
  exact fb_lt (Int.le_trans h2 h1) hr
 ·obtain ⟨i, hi⟩ : ∃ i, K = i + 1 := ⟨K - 1, by omega⟩
  subst hi
  obtain ⟨c1, c2⟩ := cv_end hR i (fun j hj => hK.on j (by omega)) z
  have e := fr_eq h c1 (cv_cn hR i hK.on) c2
  refine ⟨h.ok.q.1 c1, ?_, ?_, fun h1 => ?_⟩
  ·exact (congrArg Qn.p e).symm
  ·exact (congrArg Qn.r e).symm
  ·obtain ⟨t, ht⟩ : ∃ t, i = t + 1 := ⟨i - 1, by omega⟩
   subst ht
   exact last_ne hR c1 t (fun j hj => hK.on j (by omega)) z

end Go.Proofs.YtjahbjjekednfaaDoor
