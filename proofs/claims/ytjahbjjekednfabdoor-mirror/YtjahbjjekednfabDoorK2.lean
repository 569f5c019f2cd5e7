import Derived.Test.YtjahbjjekednfabDoorK1
import Derived.Test.YtjahbjjekednfabDoorD1
namespace Go.Proofs.YtjahbjjekednfabDoor
open Go.RowKit

theorem low_sq {Q P t Q' P' R u v : Int} (hQ : 0 < Q) (hP : P' = t * Q - P) (hR : R = Q' + t * (P' - P)) (t1 : 1 ≤ t) (q1 : 1 ≤ Q') (r1 : 1 ≤ R) (u1 : 1 ≤ u) (v1 : 1 ≤ v) (h : u < t * v) : Q * (u * u) - 2 * P * (u * v) - R * (v * v) ≤ -2 := by
 have e0 : Q * (u * u) - 2 * P * (u * v) - R * (v * v) = u * (Q * u - 2 * P * v) - R * (v * v) := by grind
 have hv2 : 1 ≤ v * v := by
  have := Int.mul_le_mul v1 v1 (by omega) (by omega)
  omega
 have a1 : Q * u ≤ Q * (t * v - 1) := Int.mul_le_mul_of_nonneg_left (by omega) (by omega)
 have a2 : Q * (t * v - 1) = (P + P') * v - Q := by rw [hP]; grind
 have a3 : Q * u - 2 * P * v ≤ (P' - P) * v - Q := by grind
 rw [e0]
 by_cases hc : P' ≤ P
 · have b1 : (P' - P) * v ≤ 0 := Int.mul_nonpos_of_nonpos_of_nonneg (by omega) (by omega)
   have b2 : u * (Q * u - 2 * P * v) ≤ u * (-1) := Int.mul_le_mul_of_nonneg_left (by omega) (by omega)
   have b3 : 1 * 1 ≤ R * (v * v) := Int.mul_le_mul r1 hv2 (by omega) (by omega)
   omega
 · have r2 : 2 ≤ R := by
     have : 1 * 1 ≤ t * (P' - P) := Int.mul_le_mul t1 (by omega) (by omega) (by omega)
     omega
   by_cases hd : Q * u - 2 * P * v ≤ 0
   · have b2 : u * (Q * u - 2 * P * v) ≤ 0 := Int.mul_nonpos_of_nonneg_of_nonpos (by omega) hd
     have b3 : 2 * 1 ≤ R * (v * v) := Int.mul_le_mul r2 hv2 (by omega) (by omega)
     omega
   · have b1 : u * (Q * u - 2 * P * v) ≤ (t * v - 1) * ((P' - P) * v - Q) := Int.mul_le_mul (by omega) a3 (by omega) (by omega)
     have b2 : (t * v - 1) * ((P' - P) * v - Q) = t * (P' - P) * (v * v) - t * v * Q - ((P' - P) * v - Q) := by grind
     have b3 : R * (v * v) = Q' * (v * v) + t * (P' - P) * (v * v) := by rw [hR]; grind
     have b4 : 1 * 1 ≤ Q' * (v * v) := Int.mul_le_mul q1 hv2 (by omega) (by omega)
     have b5 : 1 * 1 ≤ t * v := Int.mul_le_mul t1 v1 (by omega) (by omega)
     have b6 : 1 * 1 ≤ t * v * Q := Int.mul_le_mul b5 (by omega) (by omega) (by omega)
     omega
theorem form_next {d Q P t Q' P' R u v : Int} (hQ : Q ≠ 0) (hP : P' = t * Q - P) (h1 : Q * R = d - P * P) (h2 : Q * Q' = d - P' * P') : R = Q' + t * (P' - P) ∧ Q' * (v * v) - 2 * P' * (v * (u - t * v)) - Q * ((u - t * v) * (u - t * v)) = -(Q * (u * u) - 2 * P * (u * v) - R * (v * v)) := by
 have hR : R = Q' + t * (P' - P) := by
  refine Int.eq_of_mul_eq_mul_left hQ ?_
  rw [hP] at h2 ⊢
  grind
 refine ⟨hR, ?_⟩
 rw [hR, hP]
 grind
theorem nx_pos {Q n m P' Q' : Int} (h1 : n < (m + 1) * (m + 1)) (hm : Q * Q' = n - P' * P') (hQ : 0 < Q) (hP1 : m - Q < P') (hP2 : P' ≤ m) (hP0 : 0 ≤ P') : Q' ≤ P' + m := by
 refine Int.not_lt.1 fun hc => ?_
 have a2 : (m + 1 - P') * (m + 1 + P') ≤ Q * Q' := Int.mul_le_mul (by omega) (by omega) (by omega) (by omega)
 grind
theorem sq_one {a b : Int} (ha : 0 < a) (hb : 0 < b) (s : Int) (hs : s = 1 ∨ s = -1) (h : s * (a * (b * b)) = 1) : s = 1 ∧ a = 1 ∧ b = 1 := by
 have h2 : 0 < a * (b * b) := Int.mul_pos ha (Int.mul_pos hb hb)
 rcases hs with rfl | rfl
 · have h3 : a * (b * b) = 1 := by omega
   refine ⟨rfl, ?_, ?_⟩
   · exact Int.eq_one_of_mul_eq_one_right (by omega) h3
   · have h4 : b * (b * a) = 1 := by grind
     exact Int.eq_one_of_mul_eq_one_right (by omega) h4
 · omega
/-- The rests of the root of d (no square): m is its whole part. -/
structure Rdc (d m P Q : Int) : Prop where
 q0 : 0 < Q
 p0 : 0 ≤ P
 p1 : P ≤ m
 q1 : Q ≤ P + m
 dv : Q ∣ d - P * P
theorem trm_pos {P Q : Int} {d m : Nat} (h0 : m * m ≤ d) (h1 : d < (m + 1) * (m + 1)) (hQ : 0 < Q) : trm P Q (d : Int) = (P + m) / Q := by
 unfold trm fl
 rw [if_neg (show ¬ (Q < 0 ∧ 0 < (d : Int)) by omega), if_pos hQ, Int.toNat_natCast, isq_uni h0 h1]
 simp
theorem rdc_next {P Q : Int} {d m : Nat} (m1 : 1 ≤ m) (h0 : m * m < d) (h1 : d < (m + 1) * (m + 1)) (h : Rdc d m P Q) :
  1 ≤ trm P Q d ∧ 1 ≤ nxp P Q d ∧ (m : Int) - Q < nxp P Q d ∧ Q * nxq P Q d = d - nxp P Q d * nxp P Q d ∧ Rdc d m (nxp P Q d) (nxq P Q d) := by
 have ht := trm_pos (P := P) (by omega) h1 h.q0
 have q0 := h.q0
 have e := Int.mul_ediv_add_emod (P + m) Q
 have r0 := Int.emod_nonneg (P + m) (show Q ≠ 0 by omega)
 have r1 := Int.emod_lt_of_pos (P + m) q0
 rw [← ht] at e
 have t1 : 1 ≤ trm P Q d := by
  rw [ht]
  exact (Int.le_ediv_iff_mul_le q0).2 (by have := h.q1; omega)
 have eP : nxp P Q d = trm P Q d * Q - P := rfl
 have eQ : nxq P Q d = (d - nxp P Q d * nxp P Q d).tdiv Q := rfl
 have hp1 : nxp P Q d ≤ m := by rw [eP, Int.mul_comm]; omega
 have hp2 : (m : Int) - Q < nxp P Q d := by rw [eP, Int.mul_comm]; omega
 have hp3 : 1 ≤ nxp P Q d := by
  have := h.p1
  by_cases hc : Q ≤ m
  · omega
  · have : 1 * Q ≤ trm P Q d * Q := Int.mul_le_mul_of_nonneg_right t1 (by omega)
    omega
 have hdv : Q ∣ d - nxp P Q d * nxp P Q d := by
  have e2 : (d : Int) - nxp P Q d * nxp P Q d = (d - P * P) + Q * (trm P Q d * (2 * P - trm P Q d * Q)) := by rw [eP]; grind
  rw [e2]
  exact Int.dvd_add h.dv (Int.dvd_mul_right _ _)
 have hmul : Q * nxq P Q d = d - nxp P Q d * nxp P Q d := by rw [eQ]; exact Int.mul_tdiv_cancel' hdv
 have hsq : nxp P Q d * nxp P Q d ≤ (m : Int) * m := Int.mul_le_mul hp1 hp1 (by omega) (by omega)
 have hmd : (m : Int) * m < d := by rw [← Int.natCast_mul]; omega
 have hpos : 0 < nxq P Q d := by
  refine Int.not_le.1 fun hc => ?_
  have := Int.mul_nonpos_of_nonneg_of_nonpos (show 0 ≤ Q by omega) hc
  omega
 have hd1 : (d : Int) < ((m : Int) + 1) * (m + 1) := by
  have : ((d : Nat) : Int) < (((m + 1) * (m + 1) : Nat) : Int) := by omega
  rwa [Int.natCast_mul, Int.natCast_add] at this
 refine ⟨t1, hp3, hp2, hmul, hpos, by omega, hp1, nx_pos hd1 hmul q0 hp2 hp1 (by omega), ?_⟩
 rw [← hmul]
 exact Int.dvd_mul_left _ _
theorem rdc_all {d m : Nat} (m1 : 1 ≤ m) (h0 : m * m < d) (h1 : d < (m + 1) * (m + 1)) : ∀ k, Rdc d m (rst 0 1 d k).1 (rst 0 1 d k).2
 | 0 => ⟨by show (0 : Int) < 1; decide, by show (0 : Int) ≤ 0; decide, by show (0 : Int) ≤ m; omega, by show (1 : Int) ≤ 0 + m; omega, Int.one_dvd _⟩
 | k + 1 => (rdc_next m1 h0 h1 (rdc_all m1 h0 h1 k)).2.2.2.2
theorem rdc_stp {d m : Nat} (m1 : 1 ≤ m) (h0 : m * m < d) (h1 : d < (m + 1) * (m + 1)) (k : Nat) : Stp 0 1 d k := fun j _ =>
 ⟨by have := (rdc_all m1 h0 h1 j).q0; omega, (rdc_next m1 h0 h1 (rdc_all m1 h0 h1 j)).2.2.2.1⟩
theorem rdc_tm {d m : Nat} (m1 : 1 ≤ m) (h0 : m * m < d) (h1 : d < (m + 1) * (m + 1)) (k : Nat) : 1 ≤ tm 0 1 d k := (rdc_next m1 h0 h1 (rdc_all m1 h0 h1 k)).1
theorem rdc_lq {d m : Nat} (m1 : 1 ≤ m) (h0 : m * m < d) (h1 : d < (m + 1) * (m + 1)) : ∀ k, 0 ≤ (cv 0 1 d k).lq ∧ 0 ≤ (cv 0 1 d k).aq ∧ 0 ≤ (cv 0 1 d k).lp ∧ 0 ≤ (cv 0 1 d k).ap
 | 0 => ⟨by simp [cv], by simp [cv], by simp [cv], by simp [cv]⟩
 | k + 1 => by
  obtain ⟨a1, a2, a3, a4⟩ := rdc_lq m1 h0 h1 k
  have t1 := rdc_tm m1 h0 h1 k
  refine ⟨?_, a1, ?_, a3⟩
  · show 0 ≤ tm 0 1 d k * (cv 0 1 d k).lq + (cv 0 1 d k).aq
    have := Int.mul_nonneg (show 0 ≤ tm 0 1 d k by omega) a1
    omega
  · show 0 ≤ tm 0 1 d k * (cv 0 1 d k).lp + (cv 0 1 d k).ap
    have := Int.mul_nonneg (show 0 ≤ tm 0 1 d k by omega) a3
    omega
/-- A solution, told by the values of k terms and of those without the last. -/
structure Dsc (d x y : Int) (k : Nat) (u v R : Int) : Prop where
 u0 : 1 ≤ u
 v0 : 0 ≤ v
 r0 : 1 ≤ R
 ex : x = u * (cv 0 1 d k).lp + v * (cv 0 1 d k).ap
 ey : y = u * (cv 0 1 d k).lq + v * (cv 0 1 d k).aq
 qr : (rst 0 1 d k).2 * R = d - (rst 0 1 d k).1 * (rst 0 1 d k).1
 f : alt k * ((rst 0 1 d k).2 * (u * u) - 2 * (rst 0 1 d k).1 * (u * v) - R * (v * v)) = 1
theorem alt_or (k : Nat) : alt k = 1 ∨ alt k = -1 := by
 unfold alt
 split
 · exact Or.inl rfl
 · exact Or.inr rfl
theorem dsc_next {d m : Nat} (m1 : 1 ≤ m) (h0 : m * m < d) (h1 : d < (m + 1) * (m + 1)) {x y u v R : Int} {k : Nat} (h : Dsc d x y k u v R) (hv : 1 ≤ v) : ∃ u' v' R', Dsc d x y (k + 1) u' v' R' := by
 have hr := rdc_all m1 h0 h1 k
 obtain ⟨t1, p1, p2, hmul, hr'⟩ := rdc_next m1 h0 h1 hr
 obtain ⟨hR, hF⟩ := form_next (u := u) (v := v) (show (rst 0 1 d k).2 ≠ 0 by have := hr.q0; omega) rfl h.qr hmul
 have hlow : ¬ u < tm 0 1 d k * v := fun hc => by
  have := low_sq hr.q0 rfl hR t1 hr'.q0 h.r0 h.u0 hv hc
  have hf := h.f
  generalize (rst 0 1 d k).2 * (u * u) - 2 * (rst 0 1 d k).1 * (u * v) - R * (v * v) = X at *
  rcases alt_or k with e | e <;> rw [e] at hf <;> omega
 refine ⟨v, u - tm 0 1 d k * v, (rst 0 1 d k).2, hv, by omega, hr.q0, ?_, ?_, ?_, ?_⟩
 · rw [h.ex]
   show _ = v * (tm 0 1 d k * (cv 0 1 d k).lp + (cv 0 1 d k).ap) + (u - tm 0 1 d k * v) * (cv 0 1 d k).lp
   grind
 · rw [h.ey]
   show _ = v * (tm 0 1 d k * (cv 0 1 d k).lq + (cv 0 1 d k).aq) + (u - tm 0 1 d k * v) * (cv 0 1 d k).lq
   grind
 · rw [Int.mul_comm]
   exact hmul
 · rw [alt_succ]
   have hf := h.f
   have e : (rst 0 1 d (k + 1)).2 * (v * v) - 2 * (rst 0 1 d (k + 1)).1 * (v * (u - tm 0 1 d k * v)) - (rst 0 1 d k).2 * ((u - tm 0 1 d k * v) * (u - tm 0 1 d k * v)) = -((rst 0 1 d k).2 * (u * u) - 2 * (rst 0 1 d k).1 * (u * v) - R * (v * v)) := hF
   rw [e, Int.neg_mul_neg]
   exact hf
/-- Pell's answer is the least. -/
theorem pell_least {d m J : Nat} (m1 : 1 ≤ m) (h0 : m * m < d) (h1 : d < (m + 1) * (m + 1)) (hJ : PellAt d J) {x y : Int} (hx : 1 ≤ x) (hy : 1 ≤ y) (e : x * x - d * (y * y) = 1) : (cv 0 1 d J).lq ≤ y := by
 have hall : ∀ k, k ≤ J → ∃ u v R, Dsc d x y k u v R := by
  intro k
  induction k with
  | zero =>
   intro _
   refine ⟨x, y, d, hx, by omega, by omega, ?_, ?_, ?_, ?_⟩
   · simp [cv]
   · simp [cv]
   · simp [rst]
   · simp only [alt, rst]
     simp
     grind
  | succ k ih =>
   intro hk
   obtain ⟨u, v, R, hD⟩ := ih (by omega)
   by_cases hv : 1 ≤ v
   · exact dsc_next m1 h0 h1 hD hv
   · exfalso
     have v0 : v = 0 := by have := hD.v0; omega
     subst v0
     have hf := hD.f
     have hf2 : alt k * ((rst 0 1 d k).2 * (u * u)) = 1 := by
      simpa using hf
     obtain ⟨a1, a2, a3⟩ := sq_one (rdc_all m1 h0 h1 k).q0 (show 0 < u by have := hD.u0; omega) (alt k) (alt_or k) hf2
     have hn := cv_norm k (rdc_stp m1 h0 h1 k)
     rw [a1, a2] at hn
     cases k with
     | zero =>
      have ey := hD.ey
      simp [cv] at ey
      omega
     | succ k =>
      refine hJ.no (k + 1) (by omega) (by omega) ?_
      unfold Slv
      generalize (cv 0 1 d (k + 1)).lp = lp at *
      generalize (cv 0 1 d (k + 1)).lq = lq at *
      grind
 obtain ⟨u, v, R, hD⟩ := hall J (Nat.le_refl _)
 obtain ⟨a1, a2, _, _⟩ := rdc_lq m1 h0 h1 J
 have ey := hD.ey
 have b1 := Int.mul_nonneg hD.v0 a2
 have b2 : 1 * (cv 0 1 d J).lq ≤ u * (cv 0 1 d J).lq := Int.mul_le_mul_of_nonneg_right hD.u0 a1
 omega

end Go.Proofs.YtjahbjjekednfabDoor
