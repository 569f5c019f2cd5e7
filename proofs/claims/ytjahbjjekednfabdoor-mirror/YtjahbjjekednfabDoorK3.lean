import Derived.Test.YtjahbjjekednfabDoorK1
import Derived.Test.YtjahbjjekednfabDoorD0
import Derived.Test.YtjahbjjekednfabDoorB2
namespace Go.Proofs.YtjahbjjekednfabDoor
open Go.RowKit

theorem low_sq {Q P t Q' P' R u v : Int} (hQ : 0 < Q) (hP : P' = t * Q - P) (hR : R = Q' + t * (P' - P)) (t1 : 1 ≤ t) (q1 : 1 ≤ Q') (r1 : 1 ≤ R) (u1 : 1 ≤ u) (v1 : 1 ≤ v) (h : u < t * v) : Q * (u * u) - 2 * P * (u * v) - R * (v * v) ≤ -2 := by
 have e0 : Q * (u * u) - 2 * P * (u * v) - R * (v * v) = u * (Q * u - 2 * P * v) - R * (v * v) := by grind
 have hv2 : 1 ≤ v * v := by
  have := Int.mul_le_mul v1 v1 (by omega) (by omega)
  omega
 have a1 : Q * u ≤ Q * (t * v - 1) := Int.mul_le_mul_of_nonneg_left (by omega) (by omega)
 have a2 : Q * (t * v - 1) = (P + P') * v - Q := by rw [hP]; grind
 have a3 : Q * u - 2 * P * v ≤ (P' - P) * v - Q := by grind
 rw [e0]
 by_cases hc : P' ≤ P
 · have b1 : (P' - P) * v ≤ 0 := Int.mul_nonpos_of_nonpos_of_nonneg (by omega) (by omega)
   have b2 : u * (Q * u - 2 * P * v) ≤ u * (-1) := Int.mul_le_mul_of_nonneg_left (by omega) (by omega)
   have b3 : 1 * 1 ≤ R * (v * v) := Int.mul_le_mul r1 hv2 (by omega) (by omega)
   omega
 · have r2 : 2 ≤ R := by
     have : 1 * 1 ≤ t * (P' - P) := Int.mul_le_mul t1 (by omega) (by omega) (by omega)
     omega
   by_cases hd : Q * u - 2 * P * v ≤ 0
   · have b2 : u * (Q * u - 2 * P * v) ≤ 0 := Int.mul_nonpos_of_nonneg_of_nonpos (by omega) hd
     have b3 : 2 * 1 ≤ R * (v * v) := Int.mul_le_mul r2 hv2 (by omega) (by omega)
     omega
   · have b1 : u * (Q * u - 2 * P * v) ≤ (t * v - 1) * ((P' - P) * v - Q) := Int.mul_le_mul (by omega) a3 (by omega) (by omega)
     have b2 : (t * v - 1) * ((P' - P) * v - Q) = t * (P' - P) * (v * v) - t * v * Q - ((P' - P) * v - Q) := by grind
     have b3 : R * (v * v) = Q' * (v * v) + t * (P' - P) * (v * v) := by rw [hR]; grind
     have b4 : 1 * 1 ≤ Q' * (v * v) := Int.mul_le_mul q1 hv2 (by omega) (by omega)
     have b5 : 1 * 1 ≤ t * v := Int.mul_le_mul t1 v1 (by omega) (by omega)
     have b6 : 1 * 1 ≤ t * v * Q := Int.mul_le_mul b5 (by omega) (by omega) (by omega)
     omega
theorem form_next {d Q P t Q' P' R u v : Int} (hQ : Q ≠ 0) (hP : P' = t * Q - P) (h1 : Q * R = d - P * P) (h2 : Q * Q' = d - P' * P') : R = Q' + t * (P' - P) ∧ Q' * (v * v) - 2 * P' * (v * (u - t * v)) - Q * ((u - t * v) * (u - t * v)) = -(Q * (u * u) - 2 * P * (u * v) - R * (v * v)) := by
 have hR : R = Q' + t * (P' - P) := by
  refine Int.eq_of_mul_eq_mul_left hQ ?_
  rw [hP] at h2 ⊢
  grind
 refine ⟨hR, ?_⟩
 rw [hR, hP]
 grind
theorem nx_pos {Q n m P' Q' : Int} (h1 : n < (m + 1) * (m + 1)) (hm : Q * Q' = n - P' * P') (hQ : 0 < Q) (hP1 : m - Q < P') (hP2 : P' ≤ m) (hP0 : 0 ≤ P') : Q' ≤ P' + m := by
 refine Int.not_lt.1 fun hc => ?_
 have a2 : (m + 1 - P') * (m + 1 + P') ≤ Q * Q' := Int.mul_le_mul (by omega) (by omega) (by omega) (by omega)
 grind
theorem sq_one {a b : Int} (ha : 0 < a) (hb : 0 < b) (s : Int) (hs : s = 1 ∨ s = -1) (h : s * (a * (b * b)) = 1) : s = 1 ∧ a = 1 ∧ b = 1 := by
 have h2 : 0 < a * (b * b) := Int.mul_pos ha (Int.mul_pos hb hb)
 rcases hs with rfl | rfl
 · have h3 : a * (b * b) = 1 := by omega
   refine ⟨rfl, ?_, ?_⟩
   · exact Int.eq_one_of_mul_eq_one_right (by omega) h3
   · have h4 : b * (b * a) = 1 := by grind
     exact Int.eq_one_of_mul_eq_one_right (by omega) h4
 · omega
/-- The rests of the root of d (no square): m is its whole part. -/
structure Rdc (d m P Q : Int) : Prop where
 q0 : 0 < Q
 p0 : 0 ≤ P
 p1 : P ≤ m
 q1 : Q ≤ P + m
 dv : Q ∣ d - P * P
theorem trm_pos {P Q : Int} {d m : Nat} (h0 : m * m ≤ d) (h1 : d < (m + 1) * (m + 1)) (hQ : 0 < Q) : trm P Q (d : Int) = (P + m) / Q := by
 unfold trm fl
 rw [if_neg (show ¬ (Q < 0 ∧ 0 < (d : Int)) by omega), if_pos hQ, Int.toNat_natCast, isq_uni h0 h1]
 simp
theorem rdc_next {P Q : Int} {d m : Nat} (m1 : 1 ≤ m) (h0 : m * m < d) (h1 : d < (m + 1) * (m + 1)) (h : Rdc d m P Q) :
  1 ≤ trm P Q d ∧ 1 ≤ nxp P Q d ∧ (m : Int) - Q < nxp P Q d ∧ Q * nxq P Q d = d - nxp P Q d * nxp P Q d ∧ Rdc d m (nxp P Q d) (nxq P Q d) := by
 have ht := trm_pos (P := P) (by omega) h1 h.q0
 have q0 := h.q0
 have e := Int.mul_ediv_add_emod (P + m) Q
 have r0 := Int.emod_nonneg (P + m) (show Q ≠ 0 by omega)
 have r1 := Int.emod_lt_of_pos (P + m) q0
 rw [← ht] at e
 have t1 : 1 ≤ trm P Q d := by
  rw [ht]
  exact (Int.le_ediv_iff_mul_le q0).2 (by have := h.q1; omega)
 have eP : nxp P Q d = trm P Q d * Q - P := rfl
 have eQ : nxq P Q d = (d - nxp P Q d * nxp P Q d).tdiv Q := rfl
 have hp1 : nxp P Q d ≤ m := by rw [eP, Int.mul_comm]; omega
 have hp2 : (m : Int) - Q < nxp P Q d := by rw [eP, Int.mul_comm]; omega
 have hp3 : 1 ≤ nxp P Q d := by
  have := h.p1
  by_cases hc : Q ≤ m
  · omega
  · have : 1 * Q ≤ trm P Q d * Q := Int.mul_le_mul_of_nonneg_right t1 (by omega)
    omega
 have hdv : Q ∣ d - nxp P Q d * nxp P Q d := by
  have e2 : (d : Int) - nxp P Q d * nxp P Q d = (d - P * P) + Q * (trm P Q d * (2 * P - trm P Q d * Q)) := by rw [eP]; grind
  rw [e2]
  exact Int.dvd_add h.dv (Int.dvd_mul_right _ _)
 have hmul : Q * nxq P Q d = d - nxp P Q d * nxp P Q d := by rw [eQ]; exact Int.mul_tdiv_cancel' hdv
 have hsq : nxp P Q d * nxp P Q d ≤ (m : Int) * m := Int.mul_le_mul hp1 hp1 (by omega) (by omega)
 have hmd : (m : Int) * m < d := by rw [← Int.natCast_mul]; omega
 have hpos : 0 < nxq P Q d := by
  refine Int.not_le.1 fun hc => ?_
  have := Int.mul_nonpos_of_nonneg_of_nonpos (show 0 ≤ Q by omega) hc
  omega
 have hd1 : (d : Int) < ((m : Int) + 1) * (m + 1) := by
  have : ((d : Nat) : Int) < (((m + 1) * (m + 1) : Nat) : Int) := by omega
  rwa [Int.natCast_mul, Int.natCast_add] at this
 refine ⟨t1, hp3, hp2, hmul, hpos, by omega, hp1, nx_pos hd1 hmul q0 hp2 hp1 (by omega), ?_⟩
 rw [← hmul]
 exact Int.dvd_mul_left _ _
theorem rdc_all {d m : Nat} (m1 : 1 ≤ m) (h0 : m * m < d) (h1 : d < (m + 1) * (m + 1)) : ∀ k, Rdc d m (rst 0 1 d k).1 (rst 0 1 d k).2
 | 0 => ⟨by show (0 : Int) < 1; decide, by show (0 : Int) ≤ 0; decide, by show (0 : Int) ≤ m; omega, by show (1 : Int) ≤ 0 + m; omega, Int.one_dvd _⟩
 | k + 1 => (rdc_next m1 h0 h1 (rdc_all m1 h0 h1 k)).2.2.2.2
theorem rdc_stp {d m : Nat} (m1 : 1 ≤ m) (h0 : m * m < d) (h1 : d < (m + 1) * (m + 1)) (k : Nat) : Stp 0 1 d k := fun j _ =>
 ⟨by have := (rdc_all m1 h0 h1 j).q0; omega, (rdc_next m1 h0 h1 (rdc_all m1 h0 h1 j)).2.2.2.1⟩
theorem rdc_tm {d m : Nat} (m1 : 1 ≤ m) (h0 : m * m < d) (h1 : d < (m + 1) * (m + 1)) (k : Nat) : 1 ≤ tm 0 1 d k := (rdc_next m1 h0 h1 (rdc_all m1 h0 h1 k)).1
theorem rdc_lq {d m : Nat} (m1 : 1 ≤ m) (h0 : m * m < d) (h1 : d < (m + 1) * (m + 1)) : ∀ k, 0 ≤ (cv 0 1 d k).lq ∧ 0 ≤ (cv 0 1 d k).aq ∧ 0 ≤ (cv 0 1 d k).lp ∧ 0 ≤ (cv 0 1 d k).ap
 | 0 => ⟨by simp [cv], by simp [cv], by simp [cv], by simp [cv]⟩
 | k + 1 => by
  obtain ⟨a1, a2, a3, a4⟩ := rdc_lq m1 h0 h1 k
  have t1 := rdc_tm m1 h0 h1 k
  refine ⟨?_, a1, ?_, a3⟩
  · show 0 ≤ tm 0 1 d k * (cv 0 1 d k).lq + (cv 0 1 d k).aq
    have := Int.mul_nonneg (show 0 ≤ tm 0 1 d k by omega) a1
    omega
  · show 0 ≤ tm 0 1 d k * (cv 0 1 d k).lp + (cv 0 1 d k).ap
    have := Int.mul_nonneg (show 0 ≤ tm 0 1 d k by omega) a3
    omega
/-- A solution, told by the values of k terms and of those without the last. -/
structure Dsc (d x y : Int) (k : Nat) (u v R : Int) : Prop where
 u0 : 1 ≤ u
 v0 : 0 ≤ v
 r0 : 1 ≤ R
 ex : x = u * (cv 0 1 d k).lp + v * (cv 0 1 d k).ap
 ey : y = u * (cv 0 1 d k).lq + v * (cv 0 1 d k).aq
 qr : (rst 0 1 d k).2 * R = d - (rst 0 1 d k).1 * (rst 0 1 d k).1
 f : alt k * ((rst 0 1 d k).2 * (u * u) - 2 * (rst 0 1 d k).1 * (u * v) - R * (v * v)) = 1
theorem alt_or (k : Nat) : alt k = 1 ∨ alt k = -1 := by
 unfold alt
 split
 · exact Or.inl rfl
 · exact Or.inr rfl
theorem dsc_next {d m : Nat} (m1 : 1 ≤ m) (h0 : m * m < d) (h1 : d < (m + 1) * (m + 1)) {x y u v R : Int} {k : Nat} (h : Dsc d x y k u v R) (hv : 1 ≤ v) : ∃ u' v' R', Dsc d x y (k + 1) u' v' R' := by
 have hr := rdc_all m1 h0 h1 k
 obtain ⟨t1, p1, p2, hmul, hr'⟩ := rdc_next m1 h0 h1 hr
 obtain ⟨hR, hF⟩ := form_next (u := u) (v := v) (show (rst 0 1 d k).2 ≠ 0 by have := hr.q0; omega) rfl h.qr hmul
 have hlow : ¬ u < tm 0 1 d k * v := fun hc => by
  have := low_sq hr.q0 rfl hR t1 hr'.q0 h.r0 h.u0 hv hc
  have hf := h.f
  generalize (rst 0 1 d k).2 * (u * u) - 2 * (rst 0 1 d k).1 * (u * v) - R * (v * v) = X at *
  rcases alt_or k with e | e <;> rw [e] at hf <;> omega
 refine ⟨v, u - tm 0 1 d k * v, (rst 0 1 d k).2, hv, by omega, hr.q0, ?_, ?_, ?_, ?_⟩
 · rw [h.ex]
   show _ = v * (tm 0 1 d k * (cv 0 1 d k).lp + (cv 0 1 d k).ap) + (u - tm 0 1 d k * v) * (cv 0 1 d k).lp
   grind
 · rw [h.ey]
   show _ = v * (tm 0 1 d k * (cv 0 1 d k).lq + (cv 0 1 d k).aq) + (u - tm 0 1 d k * v) * (cv 0 1 d k).lq
   grind
 · rw [Int.mul_comm]
   exact hmul
 · rw [alt_succ]
   have hf := h.f
   have e : (rst 0 1 d (k + 1)).2 * (v * v) - 2 * (rst 0 1 d (k + 1)).1 * (v * (u - tm 0 1 d k * v)) - (rst 0 1 d k).2 * ((u - tm 0 1 d k * v) * (u - tm 0 1 d k * v)) = -((rst 0 1 d k).2 * (u * u) - 2 * (rst 0 1 d k).1 * (u * v) - R * (v * v)) := hF
   rw [e, Int.neg_mul_neg]
   exact hf
/-- Pell's answer is the least. -/
theorem pell_least {d m J : Nat} (m1 : 1 ≤ m) (h0 : m * m < d) (h1 : d < (m + 1) * (m + 1)) (hJ : PellAt d J) {x y : Int} (hx : 1 ≤ x) (hy : 1 ≤ y) (e : x * x - d * (y * y) = 1) : (cv 0 1 d J).lq ≤ y := by
 have hall : ∀ k, k ≤ J → ∃ u v R, Dsc d x y k u v R := by
  intro k
  induction k with
  | zero =>
   intro _
   refine ⟨x, y, d, hx, by omega, by omega, ?_, ?_, ?_, ?_⟩
   · simp [cv]
   · simp [cv]
   · simp [rst]
   · simp only [alt, rst]
     simp
     grind
  | succ k ih =>
   intro hk
   obtain ⟨u, v, R, hD⟩ := ih (by omega)
   by_cases hv : 1 ≤ v
   · exact dsc_next m1 h0 h1 hD hv
   · exfalso
     have v0 : v = 0 := by have := hD.v0; omega
     subst v0
     have hf := hD.f
     have hf2 : alt k * ((rst 0 1 d k).2 * (u * u)) = 1 := by
      simpa using hf
     obtain ⟨a1, a2, a3⟩ := sq_one (rdc_all m1 h0 h1 k).q0 (show 0 < u by have := hD.u0; omega) (alt k) (alt_or k) hf2
     have hn := cv_norm k (rdc_stp m1 h0 h1 k)
     rw [a1, a2] at hn
     cases k with
     | zero =>
      have ey := hD.ey
      simp [cv] at ey
      omega
     | succ k =>
      refine hJ.no (k + 1) (by omega) (by omega) ?_
      unfold Slv
      generalize (cv 0 1 d (k + 1)).lp = lp at *
      generalize (cv 0 1 d (k + 1)).lq = lq at *
      grind
 obtain ⟨u, v, R, hD⟩ := hall J (Nat.le_refl _)
 obtain ⟨a1, a2, _, _⟩ := rdc_lq m1 h0 h1 J
 have ey := hD.ey
 have b1 := Int.mul_nonneg hD.v0 a2
 have b2 : 1 * (cv 0 1 d J).lq ≤ u * (cv 0 1 d J).lq := Int.mul_le_mul_of_nonneg_right hD.u0 a1
 omega

end Go.Proofs.YtjahbjjekednfabDoor

namespace Go.Proofs.YtjahbjjekednfabDoor
open Go.RowKit

theorem per_sign {p q n : Int} (hn : 0 < n) (hq : q ≠ 0) (hp : 0 < n - p * p) (ht : 1 ≤ trm p q n) : 0 < q := by
 refine Int.not_le.1 fun k => ?_
 have k : q < 0 := by omega
 obtain ⟨g1, g2⟩ := isq_int (Int.le_of_lt hn)
 unfold trm at ht
 rw [if_pos ⟨k, hn⟩] at ht
 have h1 := (fl_neg (x := p + (isq n.toNat : Nat) + 1) k).1
 have h2 : fl (p + (isq n.toNat : Nat) + 1) q * q ≤ 1 * q := Int.mul_le_mul_of_nonpos_right ht (Int.le_of_lt k)
 have hs : (0 : Int) ≤ (isq n.toNat : Nat) := by omega
 generalize ((isq n.toNat : Nat) : Int) = s at *
 have h3 : (s + 1) * (s + 1) ≤ (-p) * (-p) := Int.mul_le_mul (by omega) (by omega) (by omega) (by omega)
 grind
theorem per_alg {p q p' q' n lp lq ap aq : Int} (hn : 0 < n) (hq : q ≠ 0) (hq' : q' ≠ 0) (hl : 0 < lq) (ha : 0 < ap)
 (e1 : q * lp - p * lq = lq * p + aq * q) (e2 : p * (q * lp - p * lq) + q * (q * ap - p * aq) = n * lq) (f1 : q' * lp - p' * lq = lq * p' + aq * q') (f2 : p' * (q' * lp - p' * lq) + q' * (q' * ap - p' * aq) = n * lq)
 (s1 : 0 < n - p * p → 0 < q) (s2 : 0 < n - p' * p' → 0 < q') : p = p' ∧ q = q' := by
 have b1 : lq * (n - p * p) = q * q * ap := by rw [e1] at e2; grind
 have b2 : lq * (n - p' * p') = q' * q' * ap := by rw [f1] at f2; grind
 have sq : ∀ x : Int, x ≠ 0 → 0 < x * x := fun x hx => by
  rcases Int.lt_or_gt_of_ne hx with k | k
  ·exact Int.mul_pos_of_neg_of_neg k k
  ·exact Int.mul_pos k k
 have pos : ∀ x y : Int, x ≠ 0 → lq * y = x * x * ap → 0 < y := fun x y hx h => by
  have := Int.mul_pos (sq x hx) ha
  rw [← h] at this
  refine Int.not_le.1 fun k => ?_
  have := Int.mul_nonneg (Int.le_of_lt hl) (show 0 ≤ -y by omega)
  rw [Int.mul_neg] at this
  omega
 have q0 := s1 (pos q _ hq b1)
 have q1 := s2 (pos q' _ hq' b2)
 have c1 : p * q' = p' * q := by
  refine Int.eq_of_mul_eq_mul_left (a := 2 * lq) (by omega) ?_
  grind
 have c2 : q' * q' = q * q := by
  refine Int.eq_of_mul_eq_mul_left (a := lq * n) (Int.mul_ne_zero (by omega) (by omega)) ?_
  have d1 : lq * n * (q' * q') = lq * ((p * q') * (p * q')) + q * q * ap * (q' * q') := by grind
  have d2 : lq * n * (q * q) = lq * ((p' * q) * (p' * q)) + q' * q' * ap * (q * q) := by grind
  rw [d1, d2, c1]
  grind
 have c3 : q = q' := by
  rcases Int.lt_trichotomy q q' with k | k | k
  ·have := Int.mul_lt_mul k (Int.le_of_lt k) q0 (Int.le_of_lt q1)
   omega
  ·exact k
  ·have := Int.mul_lt_mul k (Int.le_of_lt k) q1 (Int.le_of_lt q0)
   omega
 subst c3
 exact ⟨Int.eq_of_mul_eq_mul_right hq c1, rfl⟩
/-- Two rests with the same period of terms are one. -/
theorem per_uni {p q p' q' n : Int} {l : Nat} (hl : 1 ≤ l) (hn : 0 < n) (hS : Stp p q n l) (hS' : Stp p' q' n l) (hp : rst p q n l = (p, q)) (hp' : rst p' q' n l = (p', q')) (ht : ∀ j, j < l → tm p q n j = tm p' q' n j) (h1 : ∀ j, j < l → 1 ≤ tm p q n j) : p = p' ∧ q = q' := by
 obtain ⟨e1, e2⟩ := cv_id l hS
 obtain ⟨f1, f2⟩ := cv_id l hS'
 rw [← cv_same ht l (Nat.le_refl _), hp'] at f1 f2
 rw [hp] at e1 e2
 obtain ⟨k, rfl⟩ : ∃ k, l = k + 1 := ⟨l - 1, by omega⟩
 obtain ⟨a1, a2, a3, a4, a5⟩ := cv_one h1 k (by omega)
 have b2 : 1 * (cv p q n k).lq ≤ tm p q n k * (cv p q n k).lq := Int.mul_le_mul_of_nonneg_right (h1 k (by omega)) a2
 refine per_alg hn (hS 0 (by omega)).1 (hS' 0 (by omega)).1 (lp := (cv p q n (k + 1)).lp) (lq := (cv p q n (k + 1)).lq) (ap := (cv p q n (k + 1)).ap) (aq := (cv p q n (k + 1)).aq) (by simp only [cv]; omega) (by simp only [cv]; omega) e1 e2 f1 f2 ?_ ?_
 ·exact fun h => per_sign hn (hS 0 (by omega)).1 h (h1 0 (by omega))
 ·refine fun h => per_sign hn (hS' 0 (by omega)).1 h ?_
  have := h1 0 (by omega)
  rw [ht 0 (by omega)] at this
  exact this
theorem rs_add {a : Qn} {i J : Nat} (h : rs a i = rs a J) (j : Nat) : rs a (i + j) = rs a (J + j) := by
 unfold rs at *
 rw [rst_add, h, ← rst_add]
theorem tm_rs {a : Qn} {i J : Nat} (h : rs a i = rs a J) (j : Nat) : tm (p0 a) (q0 a) (n0 a) (i + j) = tm (p0 a) (q0 a) (n0 a) (J + j) := by
 have := rs_add h j
 unfold rs at this
 unfold tm
 rw [this]
/-- The period begins no earlier. -/
theorem per_ahead {a : Qn} {b J : Nat} (h : Cn a) (hd : a.d ≠ 1) (hR : Rep a (b + 1) (J + 1)) : tm (p0 a) (q0 a) (n0 a) b ≠ tm (p0 a) (q0 a) (n0 a) J := by
 intro ht
 have hlt := hR.lt
 refine hR.fst J (by omega) b (by omega) ?_
 have e := hR.eq
 have m1 := rs_mul h hd b
 have m2 := rs_mul h hd J
 rw [e, ← m2] at m1
 have eq := Int.eq_of_mul_eq_mul_right (rs_irr h hd (J + 1)) m1
 have e1 : tm (p0 a) (q0 a) (n0 a) b * (rs a b).2 - (rs a b).1 = tm (p0 a) (q0 a) (n0 a) J * (rs a J).2 - (rs a J).1 := congrArg Prod.fst e
 rw [ht, eq] at e1
 exact Prod.ext (by omega) eq
/-- The period is no shorter. -/
theorem per_sooner {a : Qn} {b J k : Nat} (h : Cn a) (hd : a.d ≠ 1) (hR : Rep a b J) (hk0 : 0 < k) (hk : b + k < J) (ht : ∀ j, b + j < J → tm (p0 a) (q0 a) (n0 a) (b + j) = tm (p0 a) (q0 a) (n0 a) (b + j + k)) : False := by
 have hlt := hR.lt
 refine hR.fst (b + k) hk b (by omega) ?_
 have stp : ∀ i, Stp (rs a i).1 (rs a i).2 (n0 a) (J - b) := fun i j _ => by
  have e := rs_mul h hd (i + j)
  have r1 : rst (rs a i).1 (rs a i).2 (n0 a) j = rs a (i + j) := (rst_add _ _ _ i j).symm
  have r2 : rst (rs a i).1 (rs a i).2 (n0 a) (j + 1) = rs a (i + j + 1) := (rst_add _ _ _ i (j + 1)).symm
  rw [r1, r2]
  exact ⟨rs_irr h hd _, e⟩
 have per : ∀ i, rst (rs a (b + i)).1 (rs a (b + i)).2 (n0 a) (J - b) = ((rs a (b + i)).1, (rs a (b + i)).2) := fun i => by
  have r1 : rst (rs a (b + i)).1 (rs a (b + i)).2 (n0 a) (J - b) = rs a (b + i + (J - b)) := (rst_add _ _ _ (b + i) (J - b)).symm
  rw [r1, show b + i + (J - b) = J + i by omega, ← rs_add hR.eq]
 have tms : ∀ i j, tm (rs a i).1 (rs a i).2 (n0 a) j = tm (p0 a) (q0 a) (n0 a) (i + j) := fun i j => (tm_add _ _ _ i j).symm
 obtain ⟨u1, u2⟩ := per_uni (l := J - b) (by omega) (n0_pos h hd) (stp b) (stp (b + k)) (per 0) (per k)
  (fun j hj => by rw [tms, tms, ht j (by omega), show b + j + k = b + k + j by omega])
  (fun j _ => by
   rw [tms, tm_rs hR.eq, show J + j = (J + j - 1) + 1 by omega]
   exact tm_one' h hd _)
 exact Prod.ext u1 u2

end Go.Proofs.YtjahbjjekednfabDoor

namespace Go.Proofs.YtjahbjjekednfabDoor
open Go.RowKit

theorem rt_p (d k : Nat) : (rst 0 1 d (k + 1)).1 = tm 0 1 d k * (rst 0 1 d k).2 - (rst 0 1 d k).1 := rfl
theorem rt_mul {d m : Nat} (m1 : 1 ≤ m) (h0 : m * m < d) (h1 : d < (m + 1) * (m + 1)) (k : Nat) : (rst 0 1 d k).2 * (rst 0 1 d (k + 1)).2 = d - (rst 0 1 d (k + 1)).1 * (rst 0 1 d (k + 1)).1 := (rdc_next m1 h0 h1 (rdc_all m1 h0 h1 k)).2.2.2.1
/-- The rests behind the first are reduced. -/
theorem rt_red {d m : Nat} (m1 : 1 ≤ m) (h0 : m * m < d) (h1 : d < (m + 1) * (m + 1)) (k : Nat) : (m : Int) - (rst 0 1 d (k + 1)).2 < (rst 0 1 d (k + 1)).1 := by
 have hr := rdc_all m1 h0 h1 k
 have hr' := rdc_all m1 h0 h1 (k + 1)
 have t1 := rdc_tm m1 h0 h1 k
 have hm := rt_mul m1 h0 h1 k
 have hp := rt_p d k
 have hmd : (m : Int) * m < d := by rw [← Int.natCast_mul]; omega
 have a1 : 1 * (rst 0 1 d k).2 ≤ tm 0 1 d k * (rst 0 1 d k).2 := Int.mul_le_mul_of_nonneg_right t1 (Int.le_of_lt hr.q0)
 have a2 := hr.p1
 have a3 := hr'.p0
 have a4 := hr'.q0
 refine Int.not_le.1 fun hc => ?_
 have a5 : (rst 0 1 d k).2 * (rst 0 1 d (k + 1)).2 ≤ (m + (rst 0 1 d (k + 1)).1) * (m - (rst 0 1 d (k + 1)).1) := Int.mul_le_mul (by omega) (by omega) (by omega) (by omega)
 grind
/-- The term, told by the rest behind it. -/
theorem rt_back {d m : Nat} (m1 : 1 ≤ m) (h0 : m * m < d) (h1 : d < (m + 1) * (m + 1)) (k : Nat) : trm (rst 0 1 d (k + 2)).1 (rst 0 1 d (k + 1)).2 d = tm 0 1 d (k + 1) := by
 have hr := rdc_all m1 h0 h1 (k + 1)
 have hp := rt_p d (k + 1)
 have hd := rt_red m1 h0 h1 k
 have a2 := hr.p1
 rw [trm_pos (by omega) h1 hr.q0]
 refine ediv_uni hr.q0 (by rw [hp]; omega) ?_
 rw [hp, Int.add_mul]
 omega
theorem rt_back_p {d m : Nat} (m1 : 1 ≤ m) (h0 : m * m < d) (h1 : d < (m + 1) * (m + 1)) (k : Nat) : nxp (rst 0 1 d (k + 2)).1 (rst 0 1 d (k + 1)).2 d = (rst 0 1 d (k + 1)).1 := by
 unfold nxp
 rw [rt_back m1 h0 h1, rt_p d (k + 1)]
 omega
theorem rt_back_q {d m : Nat} (m1 : 1 ≤ m) (h0 : m * m < d) (h1 : d < (m + 1) * (m + 1)) (k : Nat) : nxq (rst 0 1 d (k + 2)).1 (rst 0 1 d (k + 1)).2 d = (rst 0 1 d k).2 := by
 have hr := rdc_all m1 h0 h1 (k + 1)
 unfold nxq
 rw [rt_back_p m1 h0 h1, ← rt_mul m1 h0 h1 k]
 exact Int.mul_tdiv_cancel _ (by have := hr.q0; omega)
theorem rt_one {d m : Nat} (m1 : 1 ≤ m) (h0 : m * m < d) (h1 : d < (m + 1) * (m + 1)) : (rst 0 1 d 1).1 = m ∧ (rst 0 1 d 1).2 = d - m * m := by
 have e : (rst 0 1 d 1).1 = m := by
  show trm 0 1 d * 1 - 0 = (m : Int)
  rw [trm_pos (by omega) h1 (by decide)]
  simp
 refine ⟨e, ?_⟩
 have := show (1 : Int) * (rst 0 1 d 1).2 = d - (rst 0 1 d 1).1 * (rst 0 1 d 1).1 from rt_mul m1 h0 h1 0
 rw [e] at this
 omega
/-- The first rest that comes again is that behind the first. -/
theorem mir_b {d m : Nat} (m1 : 1 ≤ m) (h0 : m * m < d) (h1 : d < (m + 1) * (m + 1)) {i J : Nat} (fst : ∀ j, j < J → ∀ i, i < j → rst 0 1 d i ≠ rst 0 1 d j) (lt : i < J) (eq : rst 0 1 d i = rst 0 1 d J) : i = 1 := by
 obtain ⟨K, rfl⟩ : ∃ K, J = K + 1 := ⟨J - 1, by omega⟩
 match i, lt, eq with
 | 0, _, eq =>
  have := rt_red m1 h0 h1 K
  rw [← eq] at this
  have h2 : (m : Int) - 1 < 0 := this
  omega
 | 1, _, _ => rfl
 | c + 2, lt, eq =>
  refine absurd ?_ (fst K (by omega) (c + 1) (by omega))
  obtain ⟨L, rfl⟩ : ∃ L, K = L + 1 := ⟨K - 1, by omega⟩
  have b1 := rt_mul m1 h0 h1 (c + 1)
  have b2 := rt_mul m1 h0 h1 (L + 1)
  rw [eq, ← b2] at b1
  have eq2 := Int.eq_of_mul_eq_mul_right (by have := (rdc_all m1 h0 h1 (L + 1 + 1)).q0; omega) b1
  have t1 := rt_back m1 h0 h1 c
  rw [eq, eq2, rt_back m1 h0 h1 L] at t1
  have p1 := rt_p d (c + 1)
  have p2 := rt_p d (L + 1)
  rw [eq, p2, t1, eq2] at p1
  exact Prod.ext (by omega) eq2
theorem mir_end {d m : Nat} (m1 : 1 ≤ m) (h0 : m * m < d) (h1 : d < (m + 1) * (m + 1)) {l : Nat} (eq : rst 0 1 d 1 = rst 0 1 d (l + 2)) : (rst 0 1 d (l + 1)).2 = 1 ∧ (rst 0 1 d (l + 1)).1 = m ∧ tm 0 1 d (l + 1) = 2 * m := by
 obtain ⟨e1, e2⟩ := rt_one m1 h0 h1
 have b1 := rt_mul m1 h0 h1 (l + 1)
 rw [← eq, e1, e2] at b1
 have hmd : (m : Int) * m < d := by rw [← Int.natCast_mul]; omega
 have q1 : (rst 0 1 d (l + 1)).2 = 1 := by
  refine Int.eq_of_mul_eq_mul_right (a := (d : Int) - m * m) (by omega) ?_
  rw [b1, Int.one_mul]
 have hr := rdc_all m1 h0 h1 (l + 1)
 have hd := rt_red m1 h0 h1 l
 have p1 : (rst 0 1 d (l + 1)).1 = m := by have := hr.p1; omega
 refine ⟨q1, p1, ?_⟩
 unfold tm
 rw [p1, q1, trm_pos (by omega) h1 (by decide)]
 simp
 omega
theorem mir_turn {d m : Nat} (m1 : 1 ≤ m) (h0 : m * m < d) (h1 : d < (m + 1) * (m + 1)) {l : Nat} (eq : rst 0 1 d 1 = rst 0 1 d (l + 2)) : ∀ k j, k + j = l → rst 0 1 d (k + 1) = ((rst 0 1 d (j + 1)).1, (rst 0 1 d j).2)
 | 0, j, h => by
  have h : j = l := by omega
  subst h
  obtain ⟨e1, e2⟩ := rt_one m1 h0 h1
  obtain ⟨q1, p1, _⟩ := mir_end m1 h0 h1 eq
  have b1 := rt_mul m1 h0 h1 j
  rw [q1, p1] at b1
  exact Prod.ext (by rw [p1]; exact e1) (by show (rst 0 1 d 1).2 = (rst 0 1 d j).2; omega)
 | k + 1, j, h => by
  have ih := mir_turn m1 h0 h1 eq k (j + 1) (by omega)
  show (nxp (rst 0 1 d (k + 1)).1 (rst 0 1 d (k + 1)).2 d, nxq (rst 0 1 d (k + 1)).1 (rst 0 1 d (k + 1)).2 d) = _
  rw [ih]
  exact Prod.ext (rt_back_p m1 h0 h1 j) (rt_back_q m1 h0 h1 j)
/-- The terms of the period, the last aside, are the same from behind. -/
theorem mir_pal {d m : Nat} (m1 : 1 ≤ m) (h0 : m * m < d) (h1 : d < (m + 1) * (m + 1)) {l : Nat} (eq : rst 0 1 d 1 = rst 0 1 d (l + 2)) {i j : Nat} (hi : 1 ≤ i) (hj : 1 ≤ j) (h : i + j = l + 1) : tm 0 1 d i = tm 0 1 d j := by
 obtain ⟨k, rfl⟩ : ∃ k, i = k + 1 := ⟨i - 1, by omega⟩
 obtain ⟨c, rfl⟩ : ∃ c, j = c + 1 := ⟨j - 1, by omega⟩
 have e := mir_turn m1 h0 h1 eq k (c + 1) (by omega)
 rw [← rt_back m1 h0 h1 c]
 unfold tm
 rw [e]

end Go.Proofs.YtjahbjjekednfabDoor
