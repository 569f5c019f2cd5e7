import Derived.Test.YtjahbjjekednfaaDoorE1
namespace Go.Proofs.YtjahbjjekednfaaDoor

/-- In lowest terms, and in its form. -/
structure Cn (a : Qn) : Prop where
  ok : Qok a
  g : Int.gcd (Int.gcd a.r a.p) a.q = 1
def rx (a : Qn) : Rat := (a.p : Rat) / (a.r : Rat)
def ry (a : Qn) : Rat := (a.q : Rat) / (a.r : Rat)

theorem gcd3_mul (g r p q : Int) : Int.gcd (Int.gcd (g * r) (g * p)) (g * q) = g.natAbs * Int.gcd (Int.gcd r p) q := by
  rw [Int.gcd_mul_left]
  unfold Int.gcd
  rw [Int.natAbs_natCast, Int.natAbs_natCast, Int.natAbs_mul, Nat.gcd_mul_left]

theorem qred_parts (P Q R D : Int) (hR : R ≠ 0) : ∃ g : Int, g ≠ 0 ∧ P = g * (qreduce P Q R D).p ∧ Q = g * (qreduce P Q R D).q ∧ R = g * (qreduce P Q R D).r ∧ 0 < (qreduce P Q R D).r ∧
    Int.gcd (Int.gcd (qreduce P Q R D).r (qreduce P Q R D).p) (qreduce P Q R D).q = 1 ∧ (qreduce P Q R D).d = if (qreduce P Q R D).q = 0 then 1 else D := by
  have hG : 0 < Int.gcd (Int.gcd R P) Q := by
    refine Int.gcd_pos_of_ne_zero_left _ ?_
    have := Int.gcd_pos_of_ne_zero_left P hR
    omega
  have d1 : ((Int.gcd (Int.gcd R P) Q : Nat) : Int) ∣ (Int.gcd R P : Nat) := Int.gcd_dvd_left _ _
  have dR : qcom P Q R ∣ R := by
    unfold qcom
    have := Int.dvd_trans d1 (Int.gcd_dvd_left R P)
    split
    · exact (Int.neg_dvd).2 this
    · exact this
  have dP : qcom P Q R ∣ P := by
    unfold qcom
    have := Int.dvd_trans d1 (Int.gcd_dvd_right R P)
    split
    · exact (Int.neg_dvd).2 this
    · exact this
  have dQ : qcom P Q R ∣ Q := by
    unfold qcom
    have := Int.gcd_dvd_right ((Int.gcd R P : Nat) : Int) Q
    split
    · exact (Int.neg_dvd).2 this
    · exact this
  have hn : (qcom P Q R).natAbs = Int.gcd (Int.gcd R P) Q := by
    unfold qcom
    split
    · rw [Int.natAbs_neg, Int.natAbs_natCast]
    · rw [Int.natAbs_natCast]
  have h0 : qcom P Q R ≠ 0 := by
    intro h
    rw [h] at hn
    simp at hn
    omega
  have eP : P = qcom P Q R * (qreduce P Q R D).p := (Int.mul_tdiv_cancel' dP).symm
  have eQ : Q = qcom P Q R * (qreduce P Q R D).q := (Int.mul_tdiv_cancel' dQ).symm
  have eR : R = qcom P Q R * (qreduce P Q R D).r := (Int.mul_tdiv_cancel' dR).symm
  refine ⟨qcom P Q R, h0, eP, eQ, eR, ?_, ?_, rfl⟩
  · by_cases h : R < 0
    · have hc : qcom P Q R < 0 := by
        unfold qcom
        rw [if_pos h]
        omega
      refine Int.not_le.1 fun hle => ?_
      have := Int.mul_nonneg_of_nonpos_of_nonpos (Int.le_of_lt hc) hle
      rw [← eR] at this
      omega
    · have hc : 0 < qcom P Q R := by
        unfold qcom
        rw [if_neg h]
        omega
      refine Int.not_le.1 fun hle => ?_
      have := Int.mul_nonpos_of_nonneg_of_nonpos (Int.le_of_lt hc) hle
      rw [← eR] at this
      omega
  · have e := gcd3_mul (qcom P Q R) (qreduce P Q R D).r (qreduce P Q R D).p (qreduce P Q R D).q
    rw [← eP, ← eQ, ← eR, hn] at e
    have : Int.gcd (Int.gcd R P) Q * 1 = Int.gcd (Int.gcd R P) Q * Int.gcd (Int.gcd (qreduce P Q R D).r (qreduce P Q R D).p) (qreduce P Q R D).q := by rw [Nat.mul_one]; exact e
    exact (Nat.eq_of_mul_eq_mul_left hG this).symm

theorem cast_ne {n : Int} (h : n ≠ 0) : (n : Rat) ≠ 0 := by simpa using h
theorem rx_red {P Q R D : Int} (hR : R ≠ 0) : rx (qreduce P Q R D) = (P : Rat) / (R : Rat) := by
  obtain ⟨g, g0, h1, _, h3, h4, _⟩ := qred_parts P Q R D hR
  have k1 := cast_ne g0
  have k2 : ((qreduce P Q R D).r : Rat) ≠ 0 := cast_ne (by omega)
  have e1 : (P : Rat) = (g : Rat) * ((qreduce P Q R D).p : Rat) := by rw [← Rat.intCast_mul, ← h1]
  have e3 : (R : Rat) = (g : Rat) * ((qreduce P Q R D).r : Rat) := by rw [← Rat.intCast_mul, ← h3]
  unfold rx
  rw [e1, e3]
  grind
theorem ry_red {P Q R D : Int} (hR : R ≠ 0) : ry (qreduce P Q R D) = (Q : Rat) / (R : Rat) := by
  obtain ⟨g, g0, _, h1, h3, h4, _⟩ := qred_parts P Q R D hR
  have k1 := cast_ne g0
  have k2 : ((qreduce P Q R D).r : Rat) ≠ 0 := cast_ne (by omega)
  have e1 : (Q : Rat) = (g : Rat) * ((qreduce P Q R D).q : Rat) := by rw [← Rat.intCast_mul, ← h1]
  have e3 : (R : Rat) = (g : Rat) * ((qreduce P Q R D).r : Rat) := by rw [← Rat.intCast_mul, ← h3]
  unfold ry
  rw [e1, e3]
  grind

theorem ry_zero {a : Qn} (h : 0 < a.r) : ry a = 0 ↔ a.q = 0 := by
  unfold ry
  have k : (a.r : Rat) ≠ 0 := cast_ne (by omega)
  constructor
  · intro e
    have : (a.q : Rat) = 0 := by grind
    exact_mod_cast this
  · intro e
    rw [e]
    grind
theorem rx_zero {a : Qn} (h : 0 < a.r) : rx a = 0 ↔ a.p = 0 := by
  unfold rx
  have k : (a.r : Rat) ≠ 0 := cast_ne (by omega)
  constructor
  · intro e
    have : (a.p : Rat) = 0 := by grind
    exact_mod_cast this
  · intro e
    rw [e]
    grind

/-- A number's form is one. -/
theorem cross {a b c d : Int} (hb : b ≠ 0) (hd : d ≠ 0) (h : (a : Rat) / (b : Rat) = (c : Rat) / (d : Rat)) : a * d = c * b := by
  have h1 := cast_ne hb
  have h2 := cast_ne hd
  have h3 : (a : Rat) * (d : Rat) = c * b := by grind
  rw [← Rat.intCast_mul, ← Rat.intCast_mul] at h3
  exact_mod_cast h3
theorem dvd_of_low {a b : Qn} (ga : Int.gcd (Int.gcd a.r a.p) a.q = 1) (hp : a.p * b.r = b.p * a.r) (hq : a.q * b.r = b.q * a.r) : a.r ∣ b.r := by
  have e := gcd3_mul b.r a.r a.p a.q
  rw [ga, Nat.mul_one] at e
  have h1 : a.r ∣ b.r * a.r := ⟨b.r, by grind⟩
  have h2 : a.r ∣ b.r * a.p := ⟨b.p, by grind⟩
  have h3 : a.r ∣ b.r * a.q := ⟨b.q, by grind⟩
  have h4 := Int.dvd_coe_gcd (Int.dvd_coe_gcd h1 h2) h3
  rw [e] at h4
  exact (Int.dvd_natAbs).1 h4
theorem cn_ext {a b : Qn} (ha : Cn a) (hb : Cn b) (hx : rx a = rx b) (hy : ry a = ry b) (hd : a.q ≠ 0 → b.q ≠ 0 → a.d = b.d) : a = b := by
  have ra := ha.ok.r
  have rb := hb.ok.r
  have h1 := cross (by omega) (by omega) hx
  have h2 := cross (by omega) (by omega) hy
  have k1 := dvd_of_low ha.g h1 h2
  have k2 := dvd_of_low hb.g h1.symm h2.symm
  have hr : a.r = b.r := Int.dvd_antisymm (by omega) (by omega) k1 k2
  have hp : a.p = b.p := by rw [hr] at h1; exact Int.eq_of_mul_eq_mul_right (by omega) h1
  have hq : a.q = b.q := by rw [hr] at h2; exact Int.eq_of_mul_eq_mul_right (by omega) h2
  have hD : a.d = b.d := by
    by_cases h : a.q = 0
    · rw [ha.ok.q.1 h, hb.ok.q.1 (by omega)]
    · exact hd h (by omega)
  cases a; cases b
  simp_all

end Go.Proofs.YtjahbjjekednfaaDoor
