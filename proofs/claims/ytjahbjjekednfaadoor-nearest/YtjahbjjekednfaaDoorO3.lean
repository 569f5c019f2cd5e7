import Derived.Test.YtjahbjjekednfaaDoorH1
import Derived.Test.YtjahbjjekednfaaDoorC1
import Derived.Test.YtjahbjjekednfaaDoorH4
namespace Go.Proofs.YtjahbjjekednfaaDoor

theorem abs_le (y : Int) : (y : Rat) ≤ ((y.natAbs : Int) : Rat) ∧ -((y.natAbs : Int) : Rat) ≤ (y : Rat) ∧ (0 : Rat) ≤ ((y.natAbs : Int) : Rat) := by
 refine ⟨Rat.intCast_le_intCast.2 (by omega), ?_, Rat.intCast_nonneg.2 (by omega)⟩
 rw [← Rat.intCast_neg]
 exact Rat.intCast_le_intCast.2 (by omega)
theorem xv_bd (x y : Int) {d : Int} (hd : 1 ≤ d) : ∃ M, ∃ N0, ∀ N, N0 ≤ N → xv x y d N ≤ M ∧ - M ≤ xv x y d N := by
 obtain ⟨N0, hN⟩ := near hd (show (0 : Rat) < 1 by grind)
 obtain ⟨a1, a2, a3⟩ := abs_le x
 obtain ⟨b1, b2, b3⟩ := abs_le y
 refine ⟨((x.natAbs : Int) : Rat) + ((y.natAbs : Int) : Rat) * d, N0, fun N h => ?_⟩
 obtain ⟨k1, k2, _⟩ := hN N h
 have g1 := mul_le b1 k1
 have g2 := mul_le b2 k1
 have g3 := Rat.mul_le_mul_of_nonneg_left k2 b3
 unfold xv
 exact ⟨by grind, by grind⟩

/-- x + y√m - z√n, by approximation. -/
def fv (x y m z n : Int) (N : Nat) : Rat := xv x y m N - (z : Rat) * sg N n

theorem cast_T (x y m z n : Int) (N : Nat) : xv ((x * x + (y * y) * m) - (z * z) * n) (2 * (x * y)) m N = (x : Rat) * x + (y : Rat) * y * m - (z : Rat) * z * n + 2 * ((x : Rat) * y) * sg N m := by
 unfold xv
 simp only [Rat.intCast_add, Rat.intCast_sub, Rat.intCast_mul]
 grind

theorem r3_pos {x y m z n : Int} (hm : SqFree m.toNat) (m1 : 1 < m) (n1 : 1 < n) (hy : y ≠ 0) (hz : z ≠ 0)
  (h : r3 (rsg x y m) z.sign (rsg ((x * x + (y * y) * m) - (z * z) * n) (2 * (x * y)) m) = 1) : EvP (fv x y m z n) := by
 have i1 : y = 0 ∨ x * x ≠ y * y * m := Or.inr (irr hm m1 hy)
 have i2 : 2 * (x * y) = 0 ∨ ((x * x + (y * y) * m) - (z * z) * n) * ((x * x + (y * y) * m) - (z * z) * n) ≠ 2 * (x * y) * (2 * (x * y)) * m := by
  by_cases h2 : 2 * (x * y) = 0
  ·exact Or.inl h2
  ·exact Or.inr (irr hm m1 h2)
 have hs0 : rsg x y m ≠ 0 := fun e => hy (rsg_nil e).2
 have cn : (1 : Rat) ≤ n := cast_pos (by omega)
 unfold r3 at h
 rcases rsg_val x y m with hs | hs | hs
 ·rcases sign3 z with ⟨t, hz1⟩ | ⟨t, hz1⟩ | ⟨t, hz1⟩
  ·rw [hs, t, if_neg (by decide), if_neg (by decide)] at h
   have hu : rsg ((x * x + (y * y) * m) - (z * z) * n) (2 * (x * y)) m = -1 := by omega
   obtain ⟨δ, d0, N1, hT⟩ := rsg_min (by omega) i2 hu
   obtain ⟨δx, dx0, N2, hX⟩ := rsg_min (by omega) i1 hs
   obtain ⟨M, N3, hM⟩ := xv_bd x y (d := m) (by omega)
   have cz : (z : Rat) ≤ -1 := by
    have := cast_pos (n := -z) (by omega)
    rw [Rat.intCast_neg] at this
    grind
   have zz : (0 : Rat) < (z : Rat) * z := by have := Rat.mul_pos (show (0 : Rat) < -z by grind) (show (0 : Rat) < -z by grind); grind
   have yy : (0 : Rat) ≤ (y : Rat) * y := by
    have := cast_nn (sq_nonneg' y)
    rwa [Rat.intCast_mul] at this
   have he : 0 < δ * (2 * ((z : Rat) * z))⁻¹ := Rat.mul_pos d0 (Rat.inv_pos.2 (by grind))
   obtain ⟨N4, hn4⟩ := near (d := n) (by omega) he
   obtain ⟨N5, hn5⟩ := near (d := m) (by omega) he
   have e2 : (z : Rat) * z * (δ * (2 * ((z : Rat) * z))⁻¹) = δ * (1 / 2) := by grind
   refine EvP.quot (g := fun N => - xv x y m N - (z : Rat) * sg N n) (M := M - (z : Rat) * n) ?_ ⟨max (max N2 N3) N4, fun N hN => ?_⟩
   ·refine (EvP.const (c := δ * (1 / 2)) (by grind)).le ⟨max (max N1 N4) N5, fun N hN => ?_⟩
    have t1 : δ ≤ - xv ((x * x + (y * y) * m) - (z * z) * n) (2 * (x * y)) m N := hT N (by omega)
    obtain ⟨k1, k2, k3, k4⟩ := hn4 N (by omega)
    obtain ⟨l1, l2, l3, l4⟩ := hn5 N (by omega)
    rw [cast_T] at t1
    have g1 := Rat.mul_le_mul_of_nonneg_left k4 (Rat.le_of_lt zz)
    have g2 := Rat.mul_le_mul_of_nonneg_left l3 yy
    have r2 : (z : Rat) * z * (sg N n * sg N n + δ * (2 * ((z : Rat) * z))⁻¹) = (z : Rat) * z * (sg N n * sg N n) + δ * (1 / 2) := by grind
    rw [r2] at g1
    have r1 : fv x y m z n N * (- xv x y m N - (z : Rat) * sg N n) = (z : Rat) * z * (sg N n * sg N n) - ((x : Rat) * x + 2 * ((x : Rat) * y) * sg N m + (y : Rat) * y * (sg N m * sg N m)) := by unfold fv xv; grind
    show δ * (1 / 2) ≤ fv x y m z n N * (- xv x y m N - (z : Rat) * sg N n)
    rw [r1]
    grind
   ·have a : δx ≤ - xv x y m N := hX N (by omega)
    obtain ⟨_, b⟩ := hM N (by omega)
    obtain ⟨k1, k2, _⟩ := hn4 N (by omega)
    have g1 := Rat.mul_nonneg (show (0 : Rat) ≤ -z by grind) k1
    have g2 := Rat.mul_le_mul_of_nonneg_left k2 (show (0 : Rat) ≤ -z by grind)
    exact ⟨by grind, by grind⟩
  ·exact absurd hz1 hz
  ·rw [hs, t, if_neg (by decide), if_pos (by decide)] at h
   exact absurd h (by decide)
 ·exact absurd hs hs0
 ·rcases sign3 z with ⟨t, hz1⟩ | ⟨t, hz1⟩ | ⟨t, hz1⟩
  ·have cz : (z : Rat) ≤ -1 := by
    have := cast_pos (n := -z) (by omega)
    rw [Rat.intCast_neg] at this
    grind
   obtain ⟨N4, hn4⟩ := near (d := n) (by omega) (show (0 : Rat) < 1 by grind)
   refine (rsg_pos (by omega) i1 hs).le ⟨N4, fun N hN => ?_⟩
   have g1 := Rat.mul_nonneg (show (0 : Rat) ≤ -z by grind) (hn4 N hN).1
   unfold fv
   grind
  ·exact absurd hz1 hz
  ·rw [hs, t, if_neg (by decide), if_neg (by decide)] at h
   have hu : rsg ((x * x + (y * y) * m) - (z * z) * n) (2 * (x * y)) m = 1 := by omega
   obtain ⟨δ, d0, N1, hT⟩ := rsg_pos (by omega) i2 hu
   obtain ⟨δx, dx0, N2, hX⟩ := rsg_pos (by omega) i1 hs
   obtain ⟨M, N3, hM⟩ := xv_bd x y (d := m) (by omega)
   have cz := cast_pos hz1
   have zz : (0 : Rat) ≤ (z : Rat) * z := by have := Rat.mul_pos (show (0 : Rat) < z by grind) (show (0 : Rat) < z by grind); grind
   have yy : (0 : Rat) < (y : Rat) * y := by
    have h1 : 0 < y * y := by have := sq_nonneg' y; have : y * y ≠ 0 := Int.mul_ne_zero hy hy; omega
    have := cast_pos h1
    rw [Rat.intCast_mul] at this
    grind
   have he : 0 < δ * (2 * ((y : Rat) * y))⁻¹ := Rat.mul_pos d0 (Rat.inv_pos.2 (by grind))
   obtain ⟨N4, hn4⟩ := near (d := n) (by omega) he
   obtain ⟨N5, hn5⟩ := near (d := m) (by omega) he
   have e2 : (y : Rat) * y * (δ * (2 * ((y : Rat) * y))⁻¹) = δ * (1 / 2) := by grind
   refine EvP.quot (g := fun N => xv x y m N + (z : Rat) * sg N n) (M := M + (z : Rat) * n) ?_ ⟨max (max N2 N3) N4, fun N hN => ?_⟩
   ·refine (EvP.const (c := δ * (1 / 2)) (by grind)).le ⟨max (max N1 N4) N5, fun N hN => ?_⟩
    have t1 : δ ≤ xv ((x * x + (y * y) * m) - (z * z) * n) (2 * (x * y)) m N := hT N (by omega)
    obtain ⟨k1, k2, k3, k4⟩ := hn4 N (by omega)
    obtain ⟨l1, l2, l3, l4⟩ := hn5 N (by omega)
    rw [cast_T] at t1
    have g1 := Rat.mul_le_mul_of_nonneg_left l4 (Rat.le_of_lt yy)
    have g2 := Rat.mul_le_mul_of_nonneg_left k3 zz
    have r2 : (y : Rat) * y * (sg N m * sg N m + δ * (2 * ((y : Rat) * y))⁻¹) = (y : Rat) * y * (sg N m * sg N m) + δ * (1 / 2) := by grind
    rw [r2] at g1
    have r1 : fv x y m z n N * (xv x y m N + (z : Rat) * sg N n) = ((x : Rat) * x + 2 * ((x : Rat) * y) * sg N m + (y : Rat) * y * (sg N m * sg N m)) - (z : Rat) * z * (sg N n * sg N n) := by unfold fv xv; grind
    show δ * (1 / 2) ≤ fv x y m z n N * (xv x y m N + (z : Rat) * sg N n)
    rw [r1]
    grind
   ·have a : δx ≤ xv x y m N := hX N (by omega)
    obtain ⟨b, _⟩ := hM N (by omega)
    obtain ⟨k1, k2, _⟩ := hn4 N (by omega)
    have g1 := Rat.mul_nonneg (show (0 : Rat) ≤ z by grind) k1
    have g2 := Rat.mul_le_mul_of_nonneg_left k2 (show (0 : Rat) ≤ z by grind)
    exact ⟨by grind, by grind⟩

theorem r3_sem {x y m z n : Int} (hm : SqFree m.toNat) (hn : SqFree n.toNat) (m1 : 1 < m) (n1 : 1 < n) (hy : y ≠ 0) (hz : z ≠ 0) (hmn : m ≠ n) {o : Int}
  (ho : o = r3 (rsg x y m) z.sign (rsg ((x * x + (y * y) * m) - (z * z) * n) (2 * (x * y)) m)) : (o = 1 ∧ EvP (fv x y m z n)) ∨ (o = -1 ∧ EvP (fun N => - fv x y m z n N)) := by
 have i1 : y = 0 ∨ x * x ≠ y * y * m := Or.inr (irr hm m1 hy)
 have hs0 : rsg x y m ≠ 0 := fun e => hy (rsg_nil e).2
 have hu0 : rsg ((x * x + (y * y) * m) - (z * z) * n) (2 * (x * y)) m ≠ 0 := fun e => by
  obtain ⟨h1, h2⟩ := rsg_nil e
  have hx : x = 0 := by
   rcases Int.mul_eq_zero.1 h2 with h | h
   ·omega
   ·rcases Int.mul_eq_zero.1 h with h | h
    ·exact h
    ·exact absurd h hy
  subst hx
  exact irr2 hm hn (by omega) (by omega) hy hz hmn (by omega)
 have key : r3 (rsg (-x) (-y) m) (-z).sign (rsg (((-x) * (-x) + ((-y) * (-y)) * m) - ((-z) * (-z)) * n) (2 * ((-x) * (-y))) m) = - o := by
  rw [rsg_neg i1, Int.sign_neg, Int.neg_mul_neg, Int.neg_mul_neg, Int.neg_mul_neg, Int.neg_mul_neg, ho]
  generalize rsg ((x * x + (y * y) * m) - (z * z) * n) (2 * (x * y)) m = u at *
  unfold r3
  rcases rsg_val x y m with h | h | h <;> rcases sign3 z with ⟨t, _⟩ | ⟨t, _⟩ | ⟨t, _⟩ <;> rw [h, t] <;> simp
 have hv : o = 1 ∨ o = -1 := by
  rw [ho]
  unfold r3
  have := rsg_val ((x * x + (y * y) * m) - (z * z) * n) (2 * (x * y)) m
  generalize rsg ((x * x + (y * y) * m) - (z * z) * n) (2 * (x * y)) m = u at *
  rcases rsg_val x y m with h | h | h <;> rcases sign3 z with ⟨t, _⟩ | ⟨t, _⟩ | ⟨t, _⟩ <;> rw [h, t] <;> simp <;> omega
 rcases hv with h | h
 ·exact Or.inl ⟨h, r3_pos hm m1 n1 hy hz (by omega)⟩
 ·refine Or.inr ⟨h, (r3_pos (x := -x) (y := -y) (z := -z) hm m1 n1 (by omega) (by omega) (by omega)).congr fun N => ?_⟩
  unfold fv xv
  simp only [Rat.intCast_neg]
  grind

end Go.Proofs.YtjahbjjekednfaaDoor
