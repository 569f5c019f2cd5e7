import Derived.Test.YtjahbjjekednfaaDoorO1
namespace Go.Proofs.YtjahbjjekednfaaDoor

def xv (p q d : Int) (N : Nat) : Rat := (p : Rat) + (q : Rat) * sg N d

theorem cast_pos {n : Int} (h : 0 < n) : (1 : Rat) ≤ (n : Rat) := by
  have : ((1 : Int) : Rat) ≤ (n : Rat) := Rat.intCast_le_intCast.2 (by omega)
  simpa using this
theorem cast_nn {n : Int} (h : 0 ≤ n) : (0 : Rat) ≤ (n : Rat) := Rat.intCast_nonneg.2 h

/-- What the sign of p + q√d says. -/
theorem rsg_pos {p q d : Int} (hd : 1 ≤ d) (hi : q = 0 ∨ p * p ≠ q * q * d) (h : rsg p q d = 1) : EvP (xv p q d) := by
  have D1 := cast_pos (n := d) (by omega)
  unfold rsg rsS at h
  rcases sign3 p with ⟨s1, h1⟩ | ⟨s1, h1⟩ | ⟨s1, h1⟩ <;> rcases sign3 q with ⟨s2, h2⟩ | ⟨s2, h2⟩ | ⟨s2, h2⟩ <;> rw [s1, s2] at h
  · simp at h
  · simp at h
  · have h3 : ¬ 0 < (p * p - q * q * d).sign := by
      intro h3
      rw [if_neg (by decide), if_pos h3] at h
      omega
    have h4 : p * p < q * q * d := by
      rcases sign3 (p * p - q * q * d) with ⟨s, k⟩ | ⟨s, k⟩ | ⟨s, k⟩ <;> omega
    have c1 : (1 : Rat) ≤ (q : Rat) * q * d - p * p := by
      have := cast_pos (n := q * q * d - p * p) (by omega)
      simpa [Rat.intCast_sub, Rat.intCast_mul] using this
    have cp : (p : Rat) ≤ -1 := by
      have := cast_pos (n := -p) (by omega)
      rw [Rat.intCast_neg] at this
      grind
    have cq := cast_pos h2
    have qq : (0 : Rat) < 2 * (q * q) := by have := Rat.mul_pos (show (0 : Rat) < q by grind) (show (0 : Rat) < q by grind); grind
    obtain ⟨N0, hN⟩ := near hd (Rat.inv_pos.2 qq)
    have e : (q : Rat) * q * (2 * ((q : Rat) * q))⁻¹ = 1 / 2 := by grind
    refine EvP.quot (g := fun N => (q : Rat) * sg N d - p) (M := (q : Rat) * d - p) ?_ ⟨N0, fun N h => ?_⟩
    · refine (EvP.const (c := 1 / 2) (by grind)).le ⟨N0, fun N h => ?_⟩
      obtain ⟨k1, k2, k3, k4⟩ := hN N h
      have g := Rat.mul_le_mul_of_nonneg_left k4 (show (0 : Rat) ≤ (q : Rat) * q by grind)
      have r1 : xv p q d N * ((q : Rat) * sg N d - p) = (q : Rat) * q * (sg N d * sg N d) - p * p := by unfold xv; grind
      have r2 : (q : Rat) * q * (sg N d * sg N d + (2 * ((q : Rat) * q))⁻¹) = (q : Rat) * q * (sg N d * sg N d) + 1 / 2 := by grind
      rw [r2] at g
      show (1 : Rat) / 2 ≤ xv p q d N * ((q : Rat) * sg N d - p)
      rw [r1]
      grind
    · obtain ⟨k1, k2, k3, k4⟩ := hN N h
      have a := Rat.mul_nonneg (show (0 : Rat) ≤ q by grind) k1
      have b := Rat.mul_le_mul_of_nonneg_left k2 (show (0 : Rat) ≤ q by grind)
      exact ⟨by grind, by grind⟩
  · simp at h
  · simp at h
  · subst h1
    have cq := cast_pos h2
    obtain ⟨N0, hN⟩ := near hd (show (0 : Rat) < 1 / 2 by grind)
    refine EvP.quot (g := fun N => sg N d) (M := d) ?_ ⟨N0, fun N h => ⟨(hN N h).1, (hN N h).2.1⟩⟩
    refine (EvP.const (c := 1 / 2) (by grind)).le ⟨N0, fun N h => ?_⟩
    obtain ⟨k1, k2, k3, k4⟩ := hN N h
    have g := mul_le cq (Rat.mul_nonneg k1 k1)
    have r1 : xv 0 q d N * sg N d = (q : Rat) * (sg N d * sg N d) := by unfold xv; grind
    show (1 : Rat) / 2 ≤ xv 0 q d N * sg N d
    rw [r1]
    grind
  · have h3 : 0 < (p * p - q * q * d).sign := by
      refine Int.not_le.1 fun h3 => ?_
      rw [if_neg (by decide), if_neg (by omega)] at h
      omega
    have h4 : q * q * d < p * p := by
      rcases sign3 (p * p - q * q * d) with ⟨s, k⟩ | ⟨s, k⟩ | ⟨s, k⟩ <;> omega
    have c1 : (1 : Rat) ≤ (p : Rat) * p - q * q * d := by
      have := cast_pos (n := p * p - q * q * d) (by omega)
      simpa [Rat.intCast_sub, Rat.intCast_mul] using this
    have cq : (q : Rat) ≤ -1 := by
      have := cast_pos (n := -q) (by omega)
      rw [Rat.intCast_neg] at this
      grind
    have cp := cast_pos h1
    have qq : (0 : Rat) ≤ (q : Rat) * q := by have := Rat.mul_nonneg (show (0 : Rat) ≤ -q by grind) (show (0 : Rat) ≤ -q by grind); grind
    obtain ⟨N0, hN⟩ := near hd (show (0 : Rat) < 1 / 2 by grind)
    refine EvP.quot (g := fun N => (p : Rat) - q * sg N d) (M := (p : Rat) - q * d) ?_ ⟨N0, fun N h => ?_⟩
    · refine (EvP.const (c := 1) (by grind)).le ⟨N0, fun N h => ?_⟩
      obtain ⟨k1, k2, k3, k4⟩ := hN N h
      have g := Rat.mul_le_mul_of_nonneg_left k3 qq
      have r1 : xv p q d N * ((p : Rat) - q * sg N d) = (p : Rat) * p - (q : Rat) * q * (sg N d * sg N d) := by unfold xv; grind
      show (1 : Rat) ≤ xv p q d N * ((p : Rat) - q * sg N d)
      rw [r1]
      grind
    · obtain ⟨k1, k2, k3, k4⟩ := hN N h
      have a := Rat.mul_nonneg (show (0 : Rat) ≤ -q by grind) k1
      have b := Rat.mul_le_mul_of_nonneg_left k2 (show (0 : Rat) ≤ -q by grind)
      exact ⟨by grind, by grind⟩
  · subst h2
    have cp := cast_pos h1
    refine (EvP.const (c := 1) (by grind)).le ⟨0, fun N h => ?_⟩
    unfold xv
    simp only [Rat.intCast_zero]
    grind
  · have cp := cast_pos h1
    have cq := cast_pos h2
    obtain ⟨N0, hN⟩ := near hd (show (0 : Rat) < 1 / 2 by grind)
    refine (EvP.const (c := 1) (by grind)).le ⟨N0, fun N h => ?_⟩
    have a := Rat.mul_nonneg (show (0 : Rat) ≤ q by grind) (hN N h).1
    unfold xv
    grind

theorem rsg_neg {p q d : Int} (hi : q = 0 ∨ p * p ≠ q * q * d) : rsg (-p) (-q) d = - rsg p q d := by
  unfold rsg rsS
  have e : (-p) * (-p) - (-q) * (-q) * d = p * p - q * q * d := by grind
  rw [e, Int.sign_neg, Int.sign_neg]
  rcases sign3 p with ⟨s1, h1⟩ | ⟨s1, h1⟩ | ⟨s1, h1⟩ <;> rcases sign3 q with ⟨s2, h2⟩ | ⟨s2, h2⟩ | ⟨s2, h2⟩ <;> rcases sign3 (p * p - q * q * d) with ⟨s3, h3⟩ | ⟨s3, h3⟩ | ⟨s3, h3⟩ <;> first | omega | (rw [s1, s2, s3]; decide)
theorem rsg_val (p q d : Int) : rsg p q d = -1 ∨ rsg p q d = 0 ∨ rsg p q d = 1 := by
  unfold rsg rsS
  rcases sign3 p with ⟨s1, h1⟩ | ⟨s1, h1⟩ | ⟨s1, h1⟩ <;> rcases sign3 q with ⟨s2, h2⟩ | ⟨s2, h2⟩ | ⟨s2, h2⟩ <;> rcases sign3 (p * p - q * q * d) with ⟨s3, h3⟩ | ⟨s3, h3⟩ | ⟨s3, h3⟩ <;> rw [s1, s2, s3] <;> decide
theorem rsg_nil {p q d : Int} (h : rsg p q d = 0) : p = 0 ∧ q = 0 := by
  unfold rsg rsS at h
  rcases sign3 p with ⟨s1, h1⟩ | ⟨s1, h1⟩ | ⟨s1, h1⟩ <;> rcases sign3 q with ⟨s2, h2⟩ | ⟨s2, h2⟩ | ⟨s2, h2⟩ <;> rcases sign3 (p * p - q * q * d) with ⟨s3, h3⟩ | ⟨s3, h3⟩ | ⟨s3, h3⟩ <;> rw [s1, s2, s3] at h <;> first | exact ⟨h1, h2⟩ | exact absurd h (by decide)
theorem rsg_min {p q d : Int} (hd : 1 ≤ d) (hi : q = 0 ∨ p * p ≠ q * q * d) (h : rsg p q d = -1) : EvP (fun N => - xv p q d N) := by
  have := rsg_pos (p := -p) (q := -q) hd (by rcases hi with h | h; exact Or.inl (by omega); exact Or.inr (by rw [Int.neg_mul_neg, Int.neg_mul_neg]; exact h)) (by rw [rsg_neg hi, h]; rfl)
  refine this.congr fun N => ?_
  unfold xv
  simp only [Rat.intCast_neg]
  grind

end Go.Proofs.YtjahbjjekednfaaDoor
