import Derived.Test.YtjahbjjekednfaaDoorH1
namespace Go.Proofs.YtjahbjjekednfaaDoor

/-- A number of the field with this root. -/
structure InF (D : Int) (a : Qn) : Prop where
  cn : Cn a
  i : a.q = 0 ∨ a.d = D

theorem inf_ext {D : Int} {a b : Qn} (ha : InF D a) (hb : InF D b) (hx : rx a = rx b) (hy : ry a = ry b) : a = b := by
  refine cn_ext ha.cn hb.cn hx hy fun h1 h2 => ?_
  have e1 := ha.i
  have e2 := hb.i
  omega
theorem qroot_inf {D : Int} {a b : Qn} (ha : InF D a) (hb : InF D b) : qroot a.d b.d ≠ 0 ∧ (a.q ≠ 0 ∨ b.q ≠ 0 → qroot a.d b.d = D) := by
  have e1 := ha.i
  have e2 := hb.i
  have q1 := ha.cn.ok.q
  have q2 := hb.cn.ok.q
  have d1 := ha.cn.ok.d0
  have d2 := hb.cn.ok.d0
  unfold qroot
  split
  · omega
  · split <;> omega
theorem inf_red {D P Q R E : Int} (hR : R ≠ 0) (hok : Qok (qreduce P Q R E)) (h : Q ≠ 0 → E = D) : InF D (qreduce P Q R E) := by
  obtain ⟨g, g0, _, h2, _, _, h5, h6⟩ := qred_parts P Q R E hR
  refine ⟨⟨hok, h5⟩, ?_⟩
  by_cases hq : (qreduce P Q R E).q = 0
  · exact Or.inl hq
  · rw [if_neg hq] at h6
    refine Or.inr (h6.trans (h ?_))
    rw [h2]
    exact Int.mul_ne_zero g0 hq

theorem f_add {D : Int} {a b : Qn} (ha : InF D a) (hb : InF D b) : qadd a b = (qaddN a b, 0) ∧ InF D (qaddN a b) ∧ rx (qaddN a b) = rx a + rx b ∧ ry (qaddN a b) = ry a + ry b := by
  obtain ⟨h1, h2⟩ := qroot_inf ha hb
  have e : qadd a b = (qaddN a b, 0) := if_neg h1
  have ok := qadd_ok ha.cn.ok hb.cn.ok (by rw [e])
  rw [e] at ok
  have r1 := ha.cn.ok.r
  have r2 := hb.cn.ok.r
  have hR : a.r * b.r ≠ 0 := Int.mul_ne_zero (by omega) (by omega)
  have k1 : (a.r : Rat) ≠ 0 := cast_ne (by omega)
  have k2 : (b.r : Rat) ≠ 0 := cast_ne (by omega)
  refine ⟨e, inf_red hR ok fun hq => h2 ?_, ?_, ?_⟩
  · by_cases h : a.q = 0
    · right
      intro h3
      rw [h, h3] at hq
      simp at hq
    · exact Or.inl h
  · unfold qaddN
    rw [rx_red hR]
    unfold rx
    simp only [Rat.intCast_add, Rat.intCast_mul]
    grind
  · unfold qaddN
    rw [ry_red hR]
    unfold ry
    simp only [Rat.intCast_add, Rat.intCast_mul]
    grind

theorem f_mul {D : Int} {a b : Qn} (ha : InF D a) (hb : InF D b) : qmul a b = (qmulN a b, 0) ∧ InF D (qmulN a b) ∧ rx (qmulN a b) = rx a * rx b + ry a * ry b * (D : Rat) ∧ ry (qmulN a b) = rx a * ry b + ry a * rx b := by
  obtain ⟨h1, h2⟩ := qroot_inf ha hb
  have e : qmul a b = (qmulN a b, 0) := if_neg h1
  have ok := qmul_ok ha.cn.ok hb.cn.ok (by rw [e])
  rw [e] at ok
  have r1 := ha.cn.ok.r
  have r2 := hb.cn.ok.r
  have hR : a.r * b.r ≠ 0 := Int.mul_ne_zero (by omega) (by omega)
  have k1 : (a.r : Rat) ≠ 0 := cast_ne (by omega)
  have k2 : (b.r : Rat) ≠ 0 := cast_ne (by omega)
  have eD : a.q * (b.q * qroot a.d b.d) = a.q * (b.q * D) := by
    by_cases h : a.q = 0
    · rw [h]; simp
    · rw [h2 (Or.inl h)]
  refine ⟨e, inf_red hR ok fun hq => h2 ?_, ?_, ?_⟩
  · by_cases h : a.q = 0
    · right
      intro h3
      rw [h, h3] at hq
      simp at hq
    · exact Or.inl h
  · unfold qmulN
    rw [rx_red hR, eD]
    unfold rx ry
    simp only [Rat.intCast_add, Rat.intCast_mul]
    grind
  · unfold qmulN
    rw [ry_red hR]
    unfold rx ry
    simp only [Rat.intCast_add, Rat.intCast_mul]
    grind

theorem f_neg {D : Int} {a : Qn} (ha : InF D a) : InF D (qneg a) ∧ rx (qneg a) = - rx a ∧ ry (qneg a) = - ry a := by
  refine ⟨⟨⟨ha.cn.ok.neg, ?_⟩, ?_⟩, ?_, ?_⟩
  · have := ha.cn.g
    unfold qneg Int.gcd at *
    simpa [Int.natAbs_neg] using this
  · have := ha.i
    unfold qneg
    simp only
    omega
  · unfold rx qneg
    simp only [Rat.intCast_neg]
    grind
  · unfold ry qneg
    simp only [Rat.intCast_neg]
    grind

theorem f_inv {D : Int} {a : Qn} (ha : InF D a) (hz : ¬ (a.p = 0 ∧ a.q = 0)) : InF D (qinv a) ∧ rx a * rx (qinv a) + ry a * ry (qinv a) * (D : Rat) = 1 ∧ rx a * ry (qinv a) + ry a * rx (qinv a) = 0 := by
  have r1 := ha.cn.ok.r
  have k1 : (a.r : Rat) ≠ 0 := cast_ne (by omega)
  have hN := norm_ne ha.cn.ok hz
  have kN := cast_ne hN
  have eD : a.q * (-a.q * a.d) = a.q * (-a.q * D) := by
    rcases ha.i with h | h
    · rw [h]; simp
    · rw [h]
  have kN2 := kN
  rw [eD] at kN2
  simp only [Rat.intCast_add, Rat.intCast_mul, Rat.intCast_neg] at kN2
  refine ⟨inf_red hN (qinv_ok ha.cn.ok hz) fun hq => ?_, ?_, ?_⟩
  · rcases ha.i with h | h
    · rw [h] at hq
      simp at hq
    · exact h
  · unfold qinv
    rw [rx_red hN, ry_red hN, eD]
    unfold rx ry
    simp only [Rat.intCast_add, Rat.intCast_mul, Rat.intCast_neg]
    grind
  · unfold qinv
    rw [rx_red hN, ry_red hN, eD]
    unfold rx ry
    simp only [Rat.intCast_add, Rat.intCast_mul, Rat.intCast_neg]
    grind

theorem cn_zero : Cn ⟨0, 0, 1, 1⟩ := ⟨⟨by decide, by decide, by decide, by decide, sqfree_one⟩, by decide⟩
theorem cn_one : Cn ⟨1, 0, 1, 1⟩ := ⟨⟨by decide, by decide, by decide, by decide, sqfree_one⟩, by decide⟩
theorem inf_zero (D : Int) : InF D ⟨0, 0, 1, 1⟩ := ⟨cn_zero, Or.inl rfl⟩
theorem inf_one (D : Int) : InF D ⟨1, 0, 1, 1⟩ := ⟨cn_one, Or.inl rfl⟩
theorem inf_own {a : Qn} (h : Cn a) : InF a.d a := ⟨h, Or.inr rfl⟩
theorem rx_z : rx ⟨0, 0, 1, 1⟩ = 0 := by unfold rx; grind
theorem ry_z : ry ⟨0, 0, 1, 1⟩ = 0 := by unfold ry; grind
theorem rx_o : rx ⟨1, 0, 1, 1⟩ = 1 := by unfold rx; grind
theorem ry_o : ry ⟨1, 0, 1, 1⟩ = 0 := by unfold ry; grind

end Go.Proofs.YtjahbjjekednfaaDoor
