import Derived.Test.YtjahbjjekednfaaDoorF1
import Derived.Test.YtjahbjjekednfaaDoorH1
namespace Go.Proofs.YtjahbjjekednfaaDoor

/-- The sign of a - t. -/
def ovr (a : Qn) (t : Int) : Int := rsg (a.p - t * a.r) a.q a.d
theorem ovr_irr {a : Qn} (h : Cn a) (t : Int) : a.q = 0 ∨ (a.p - t * a.r) * (a.p - t * a.r) ≠ a.q * a.q * a.d := by
 by_cases hq : a.q = 0
 ·exact Or.inl hq
 ·have h1 : a.d ≠ 1 := fun e => hq (h.ok.q.2 e)
  have h2 := h.ok.d0
  exact Or.inr (irr h.ok.f (by omega) hq)
theorem ovr_vl {a : Qn} (h : 0 < a.r) (t : Int) (N : Nat) : xv (a.p - t * a.r) a.q a.d N = (a.r : Rat) * (vl a N - t) := by
 have k : (a.r : Rat) ≠ 0 := cast_ne (by omega)
 unfold xv vl rx ry
 simp only [Rat.intCast_sub, Rat.intCast_mul]
 grind
theorem ovr_min {a : Qn} (h : Cn a) {t : Int} (k : ovr a t < 0) : EvP (fun N => (t : Rat) - vl a N) := by
 have hd := h.ok.d0
 have h0 : (0 : Rat) < (a.r : Rat) := Rat.intCast_pos.2 h.ok.r
 have e : (a.r : Rat)⁻¹ * (a.r : Rat) = 1 := by grind
 have hr : ovr a t = -1 := by
  have := rsg_val (a.p - t * a.r) a.q a.d
  unfold ovr at *
  omega
 refine ((rsg_min hd (ovr_irr h t) hr).scale _ (Rat.inv_pos.2 h0)).congr fun N => ?_
 rw [ovr_vl h.ok.r]
 generalize (a.r : Rat)⁻¹ = i at *
 grind
/-- The whole part is one. -/
theorem ovr_lt {a : Qn} (h : Cn a) {t t' : Int} (k1 : ovr a (t + 1) < 0) (k2 : 0 ≤ ovr a t') : t' ≤ t := by
 refine Int.not_lt.1 fun hlt => ?_
 have g1 := ovr_min h k1
 have hd := h.ok.d0
 have h0 : (0 : Rat) < (a.r : Rat) := Rat.intCast_pos.2 h.ok.r
 have e : (a.r : Rat)⁻¹ * (a.r : Rat) = 1 := by grind
 have ht : ((t + 1 : Int) : Rat) ≤ (t' : Rat) := Rat.intCast_le_intCast.2 (by omega)
 rcases rsg_val (a.p - t' * a.r) a.q a.d with hv | hv | hv
 ·unfold ovr at k2
  omega
 ·obtain ⟨z1, z2⟩ := rsg_nil hv
  obtain ⟨δ, d0, N0, hN⟩ := g1
  have b := hN N0 (Nat.le_refl _)
  have c := ovr_vl h.ok.r t' N0
  rw [z1, z2] at c
  have c2 : xv 0 0 a.d N0 = 0 := by unfold xv; grind
  rw [c2] at c
  have c3 : vl a N0 - (t' : Rat) = 0 := by grind
  grind
 ·have g2 := ((rsg_pos hd (ovr_irr h t') hv).scale _ (Rat.inv_pos.2 h0))
  refine EvP.not (f := fun N => ((t + 1 : Int) : Rat) - vl a N) g1 (g2.le ⟨0, fun N _ => ?_⟩)
  rw [ovr_vl h.ok.r]
  have : (a.r : Rat)⁻¹ * ((a.r : Rat) * (vl a N - t')) = vl a N - t' := by
   generalize (a.r : Rat)⁻¹ = i at *
   grind
  rw [this]
  grind
theorem ovr_uni {a : Qn} (h : Cn a) {t t' : Int} (h1 : 0 ≤ ovr a t) (h2 : ovr a (t + 1) < 0) (k1 : 0 ≤ ovr a t') (k2 : ovr a (t' + 1) < 0) : t = t' := by
 have := ovr_lt h h2 k1
 have := ovr_lt h k2 h1
 omega

/-- The rest (p + √n)/q is the number a. -/
structure Rl (g p q n : Int) (a : Qn) : Prop where
 cn : Cn a
 q0 : q ≠ 0
 g0 : 0 ≤ g
 en : n = g * g * a.d
 ex : a.p * q = p * a.r
 ey : a.q * q = g * a.r
 dv : q ∣ n - p * p

theorem Rl.nn {g p q n : Int} {a : Qn} (h : Rl g p q n a) : 0 ≤ n := by
 rw [h.en]
 exact Int.mul_nonneg (sq_nonneg' g) (by have := h.cn.ok.d0; omega)
theorem rsg_flip {p q d : Int} {k : Int} (hk : k ≠ 0) (hi : q = 0 ∨ p * p ≠ q * q * d) : rsg (k * p) (k * q) d = if 0 < k then rsg p q d else - rsg p q d := by
 by_cases h : 0 < k
 ·rw [if_pos h, rsg_scale k p q d h]
 ·rw [if_neg h, ← rsg_neg hi, ← rsg_scale (-k) (-p) (-q) d (by omega), Int.neg_mul_neg, Int.neg_mul_neg]
theorem ovr_rl {g p q n : Int} {a : Qn} (h : Rl g p q n a) (t : Int) : ovr a t = if 0 < q then rsg (p - t * q) g a.d else rsg (-(p - t * q)) (-g) a.d := by
 have hr := h.cn.ok.r
 have hq := h.q0
 have hs : 0 < q * q := by
  have := sq_nonneg' q
  have : q * q ≠ 0 := Int.mul_ne_zero hq hq
  omega
 have e1 : q * q * (a.p - t * a.r) = (q * a.r) * (p - t * q) := by have := h.ex; grind
 have e2 : q * q * a.q = (q * a.r) * g := by have := h.ey; grind
 unfold ovr
 rw [← rsg_scale (q * q) _ _ _ hs, e1, e2]
 by_cases hp : 0 < q
 ·rw [if_pos hp, rsg_scale _ _ _ _ (Int.mul_pos hp hr)]
 ·rw [if_neg hp]
  have : q * a.r * (p - t * q) = (-q * a.r) * (-(p - t * q)) := by grind
  rw [this, show q * a.r * g = (-q * a.r) * (-g) by grind, rsg_scale _ _ _ _ (Int.mul_pos (by omega) hr)]
theorem rsg_ge {x g d : Int} (hg : 0 ≤ g) (h : 0 ≤ x ∨ x * x ≤ g * g * d) : 0 ≤ rsg x g d := by
 have h0 : x < 0 → 0 < x * x := fun h1 => Int.mul_pos_of_neg_of_neg h1 h1
 have h4 : g = 0 → g * g * d = 0 := fun e => by rw [e]; simp
 unfold rsg rsS
 rcases sign3 x with ⟨s1, h1⟩ | ⟨s1, h1⟩ | ⟨s1, h1⟩ <;> rcases sign3 g with ⟨s2, h2⟩ | ⟨s2, h2⟩ | ⟨s2, h2⟩ <;> rcases sign3 (x * x - g * g * d) with ⟨s3, h3⟩ | ⟨s3, h3⟩ | ⟨s3, h3⟩ <;> first | omega | (rw [s1, s2, s3]; decide) | (have := h0 h1; have := h4 h2; omega)
theorem rsg_lt {x g d : Int} (hx : x < 0) (hg : 0 ≤ g) (h : g * g * d < x * x) : rsg x g d < 0 := by
 unfold rsg rsS
 rcases sign3 x with ⟨s1, h1⟩ | ⟨s1, h1⟩ | ⟨s1, h1⟩ <;> rcases sign3 g with ⟨s2, h2⟩ | ⟨s2, h2⟩ | ⟨s2, h2⟩ <;> rcases sign3 (x * x - g * g * d) with ⟨s3, h3⟩ | ⟨s3, h3⟩ | ⟨s3, h3⟩ <;> first | omega | (rw [s1, s2, s3]; decide)
theorem rsg_le {x g d : Int} (hg : 0 < g) (h : x ≤ 0 ∨ x * x ≤ g * g * d) (hi : x * x ≠ g * g * d) : rsg x (-g) d < 0 := by
 unfold rsg rsS
 rw [Int.neg_mul_neg]
 rcases sign3 x with ⟨s1, h1⟩ | ⟨s1, h1⟩ | ⟨s1, h1⟩ <;> rcases sign3 (-g) with ⟨s2, h2⟩ | ⟨s2, h2⟩ | ⟨s2, h2⟩ <;> rcases sign3 (x * x - g * g * d) with ⟨s3, h3⟩ | ⟨s3, h3⟩ | ⟨s3, h3⟩ <;> first | omega | (rw [s1, s2, s3]; decide)
theorem rsg_gt {x g d : Int} (hx : 0 < x) (hg : 0 ≤ g) (h : g * g * d < x * x) : 0 < rsg x (-g) d := by
 unfold rsg rsS
 rw [Int.neg_mul_neg]
 rcases sign3 x with ⟨s1, h1⟩ | ⟨s1, h1⟩ | ⟨s1, h1⟩ <;> rcases sign3 (-g) with ⟨s2, h2⟩ | ⟨s2, h2⟩ | ⟨s2, h2⟩ <;> rcases sign3 (x * x - g * g * d) with ⟨s3, h3⟩ | ⟨s3, h3⟩ | ⟨s3, h3⟩ <;> first | omega | (rw [s1, s2, s3]; decide)
theorem sq_mono {a b : Int} (h0 : 0 ≤ a) (h : a ≤ b) : a * a ≤ b * b := Int.mul_le_mul h h h0 (by omega)

/-- The program's term is the whole part. -/
theorem trm_floor {g p q n : Int} {a : Qn} (h : Rl g p q n a) : 0 ≤ ovr a (trm p q n) ∧ ovr a (trm p q n + 1) < 0 := by
 have hn := h.nn
 have hq := h.q0
 have hN := h.en
 obtain ⟨g1, g2⟩ := isq_int hn
 obtain ⟨h1, h2, h3⟩ := nxp_at (p := p) (q := q) (n := n)
 have e1 : p - trm p q n * q = - nxp p q n := by unfold nxp; omega
 have e2 : p - (trm p q n + 1) * q = - (nxp p q n + q) := by unfold nxp; rw [Int.add_mul, Int.one_mul]; omega
 rw [ovr_rl h, ovr_rl h, e1, e2]
 generalize nxp p q n = x at *
 have hS : 0 ≤ ((isq n.toNat : Nat) : Int) := by omega
 generalize ((isq n.toNat : Nat) : Int) = S at *
 have hg := h.g0
 have hd := h.cn.ok.d0
 have gn : g = 0 → n = 0 := fun e => by rw [hN, e]; simp
 have ng : n = 0 → g = 0 := fun e => by
  rw [hN] at e
  rcases Int.mul_eq_zero.1 e with e | e
  ·rcases Int.mul_eq_zero.1 e with e | e <;> exact e
  ·omega
 by_cases hp : 0 < q
 ·obtain ⟨a1, a2⟩ := h1 hp
  rw [if_pos hp, if_pos hp]
  constructor
  ·refine rsg_ge hg ?_
   by_cases hx : 0 < x
   ·right
    have := sq_mono (Int.le_of_lt hx) a2
    rw [Int.neg_mul_neg, ← hN]
    omega
   ·left; omega
  ·refine rsg_lt (by omega) hg ?_
   have := sq_mono (show 0 ≤ S + 1 by omega) (show S + 1 ≤ x + q by omega)
   rw [Int.neg_mul_neg, ← hN]
   omega
 ·rw [if_neg hp, if_neg hp, Int.neg_neg, Int.neg_neg]
  by_cases hn0 : 0 < n
  ·obtain ⟨a1, a2⟩ := h2 (by omega) hn0
   have hg1 : 0 < g := by
    rcases Int.lt_or_eq_of_le hg with e | e
    ·exact e
    ·have := gn e.symm; omega
   constructor
   ·refine Int.le_of_lt (rsg_gt (by omega) hg ?_)
    have := sq_mono (show 0 ≤ S + 1 by omega) a1
    rw [← hN]
    omega
   ·have hi : ∀ z : Int, z * z ≠ g * g * a.d := by
     intro z
     have hq2 : a.q ≠ 0 := fun e => by
      have hy := h.ey
      rw [e, Int.zero_mul] at hy
      have := Int.mul_pos hg1 h.cn.ok.r
      omega
     have hd1 : a.d ≠ 1 := fun e => hq2 (h.cn.ok.q.2 e)
     exact irr h.cn.ok.f (by omega) (by omega)
    refine rsg_le hg1 ?_ (hi _)
    by_cases hx : 0 < x + q
    ·right
     have := sq_mono (Int.le_of_lt hx) (show x + q ≤ S by omega)
     rw [← hN]
     omega
    ·left; omega
  ·obtain ⟨a1, a2⟩ := h3 (by omega) hn0
   have hn1 : n = 0 := by omega
   have hg1 := ng hn1
   have hS0 : S = 0 := by
    rcases Int.lt_or_eq_of_le hS with e | e
    ·have := Int.mul_pos e e; omega
    ·exact e.symm
   subst hg1
   constructor
   ·rw [Int.neg_zero]
    exact rsg_ge (Int.le_refl 0) (Or.inl (by omega))
   ·rw [Int.neg_zero]
    refine rsg_lt (by omega) (Int.le_refl 0) ?_
    have := Int.mul_pos_of_neg_of_neg (show x + q < 0 by omega) (show x + q < 0 by omega)
    simpa using this

/-- What is left behind the whole part. -/
theorem rl_left {g p q n : Int} {a : Qn} (h : Rl g p q n a) (t : Int) : (a.p - t * a.r) * q = -(t * q - p) * a.r := by
 have := h.ex
 grind
theorem nxq_dv {g p q n : Int} {a : Qn} (h : Rl g p q n a) : q ∣ n - nxp p q n * nxp p q n := by
 obtain ⟨k, hk⟩ := h.dv
 refine ⟨k - trm p q n * (trm p q n * q - 2 * p), ?_⟩
 unfold nxp
 grind
theorem nxq_mul {g p q n : Int} {a : Qn} (h : Rl g p q n a) : q * nxq p q n = n - nxp p q n * nxp p q n := Int.mul_tdiv_cancel' (nxq_dv h)
theorem nxq_zero {g p q n : Int} {a : Qn} (h : Rl g p q n a) : nxq p q n = 0 ↔ a.p - trm p q n * a.r = 0 ∧ a.q = 0 := by
 have hm := nxq_mul h
 have hq := h.q0
 have hr := h.cn.ok.r
 have hl := rl_left h (trm p q n)
 have hx : nxp p q n = trm p q n * q - p := rfl
 rw [← hx] at hl
 have hN := h.en
 generalize trm p q n = tt at *
 clear hx
 generalize nxp p q n = x at *
 generalize nxq p q n = y at *
 constructor
 ·intro e
  rw [e, Int.mul_zero] at hm
  have hq0 : a.q = 0 := by
   refine Classical.byContradiction fun hq2 => ?_
   have hd1 : a.d ≠ 1 := fun e => hq2 (h.cn.ok.q.2 e)
   have hd := h.cn.ok.d0
   have hg : g ≠ 0 := fun e => by
    have hy := h.ey
    rw [e, Int.zero_mul] at hy
    rcases Int.mul_eq_zero.1 hy with e | e
    ·exact hq2 e
    ·exact hq e
   exact irr (u := x) h.cn.ok.f (by omega) hg (by omega)
  have hg : g = 0 := by
   have hy := h.ey
   rw [hq0, Int.zero_mul] at hy
   rcases Int.mul_eq_zero.1 hy.symm with e | e
   ·exact e
   ·omega
  have hn0 : n = 0 := by rw [hN, hg]; simp
  have hx0 : x = 0 := by
   have : x * x = 0 := by omega
   rcases Int.mul_eq_zero.1 this with e | e <;> exact e
  rw [hx0] at hl
  have : (a.p - tt * a.r) * q = 0 := by rw [hl]; simp
  rcases Int.mul_eq_zero.1 this with e | e
  ·exact ⟨e, hq0⟩
  ·exact absurd e hq
 ·rintro ⟨e1, e2⟩
  have hg : g = 0 := by
   have hy := h.ey
   rw [e2, Int.zero_mul] at hy
   rcases Int.mul_eq_zero.1 hy.symm with e | e
   ·exact e
   ·omega
  rw [e1, Int.zero_mul] at hl
  have hx0 : x = 0 := by
   rcases Int.mul_eq_zero.1 hl.symm with e | e
   ·omega
   ·omega
  have hn0 : n = 0 := by rw [hN, hg]; simp
  rw [hx0, hn0] at hm
  rcases Int.mul_eq_zero.1 (show q * y = 0 by omega) with e | e
  ·exact absurd e hq
  ·exact e

end Go.Proofs.YtjahbjjekednfaaDoor

namespace Go.Proofs.YtjahbjjekednfaaDoor

/-- a - t, in its form. -/
def les (a : Qn) (t : Int) : Qn := ⟨a.p - t * a.r, a.q, a.r, a.d⟩
theorem les_cn {a : Qn} (h : Cn a) (t : Int) : Cn (les a t) := by
 refine ⟨⟨h.ok.r, h.ok.d0, h.ok.d1, h.ok.q, h.ok.f⟩, ?_⟩
 have e : Int.gcd a.r (a.p - t * a.r) = Int.gcd a.r a.p := by
  apply Nat.dvd_antisymm
  ·refine Int.dvd_gcd (Int.gcd_dvd_left _ _) ?_
   have h1 := Int.gcd_dvd_left a.r (a.p - t * a.r)
   have h2 := Int.gcd_dvd_right a.r (a.p - t * a.r)
   have h3 := Int.dvd_add h2 (Int.dvd_trans h1 (Int.dvd_mul_left t a.r))
   rwa [Int.sub_add_cancel] at h3
  ·refine Int.dvd_gcd (Int.gcd_dvd_left _ _) ?_
   exact Int.dvd_sub (Int.gcd_dvd_right _ _) (Int.dvd_trans (Int.gcd_dvd_left _ _) (Int.dvd_mul_left t a.r))
 show Int.gcd (Int.gcd a.r (a.p - t * a.r)) a.q = 1
 rw [e]
 exact h.g
/-- What the expansion goes on with. -/
def nxa (a : Qn) (t : Int) : Qn := (comb 47 ⟨1, 0, 1, 1⟩ (les a t)).1
theorem nxa_ok {a : Qn} (h : Cn a) {t : Int} (hz : ¬ (a.p - t * a.r = 0 ∧ a.q = 0)) : comb 47 ⟨1, 0, 1, 1⟩ (les a t) = (nxa a t, 0) ∧ InF a.d (nxa a t) ∧ rx (les a t) * rx (nxa a t) + ry (les a t) * ry (nxa a t) * (a.d : Rat) = 1 ∧ rx (les a t) * ry (nxa a t) + ry (les a t) * rx (nxa a t) = 0 := by
 have hy : InF a.d (les a t) := inf_own (les_cn h t)
 obtain ⟨k3, x3, y3⟩ := f_inv hy hz
 obtain ⟨g2, k4, x4, y4⟩ := f_mul (inf_one a.d) k3
 have e : comb 47 ⟨1, 0, 1, 1⟩ (les a t) = (qmulN ⟨1, 0, 1, 1⟩ (qinv (les a t)), 0) := by rw [qdiv_of hz, g2]
 have e2 : nxa a t = qmulN ⟨1, 0, 1, 1⟩ (qinv (les a t)) := by unfold nxa; rw [e]
 have ex : rx (nxa a t) = rx (qinv (les a t)) := by rw [e2, x4, rx_o, ry_o]; grind
 have ey : ry (nxa a t) = ry (qinv (les a t)) := by rw [e2, y4, rx_o, ry_o]; grind
 refine ⟨by rw [e2]; exact e, by rw [e2]; exact k4, by rw [ex, ey]; exact x3, by rw [ex, ey]; exact y3⟩

theorem rat_of {a b c d : Int} (hb : b ≠ 0) (hd : d ≠ 0) (h : a * d = c * b) : (a : Rat) / (b : Rat) = (c : Rat) / (d : Rat) := by
 have h1 := cast_ne hb
 have h2 := cast_ne hd
 have h3 : (a : Rat) * (d : Rat) = (c : Rat) * (b : Rat) := by rw [← Rat.intCast_mul, ← Rat.intCast_mul, h]
 grind

/-- One step further. -/
theorem rl_next {g p q n : Int} {a : Qn} (h : Rl g p q n a) (hz : ¬ (a.p - trm p q n * a.r = 0 ∧ a.q = 0)) : Rl g (nxp p q n) (nxq p q n) n (nxa a (trm p q n)) := by
 obtain ⟨_, hi, hx, hy⟩ := nxa_ok h.cn hz
 have hm := nxq_mul h
 have hq := h.q0
 have hr := h.cn.ok.r
 have hl := rl_left h (trm p q n)
 have hxp : nxp p q n = trm p q n * q - p := rfl
 rw [← hxp] at hl
 have hq' : nxq p q n ≠ 0 := fun e => hz ((nxq_zero h).1 e)
 have hN := h.en
 have hr' := hi.cn.ok.r
 have X : rx (les a (trm p q n)) = ((-nxp p q n : Int) : Rat) / (q : Rat) := rat_of (by show a.r ≠ 0; omega) hq hl
 have Y : ry (les a (trm p q n)) = (g : Rat) / (q : Rat) := rat_of (by show a.r ≠ 0; omega) hq h.ey
 rw [X, Y] at hx hy
 generalize trm p q n = t at *
 generalize nxp p q n = x at *
 generalize nxq p q n = y at *
 have k1 := cast_ne hq
 have k2 := cast_ne hq'
 have k3 := cast_ne (show (nxa a t).r ≠ 0 by omega)
 have cm : (q : Rat) * y = g * g * a.d - x * x := by
  have : ((q * y : Int) : Rat) = ((g * g * a.d - x * x : Int) : Rat) := by rw [hm, hN]
  simpa [Rat.intCast_sub, Rat.intCast_mul] using this
 rw [Rat.intCast_neg] at hx hy
 have hx2 : -(x : Rat) * rx (nxa a t) + g * ry (nxa a t) * a.d = q := by grind
 have hy2 : -(x : Rat) * ry (nxa a t) + g * rx (nxa a t) = 0 := by grind
 have e1 : rx (nxa a t) * y = x := by
  have : q * (rx (nxa a t) * y) = q * (x : Rat) := by grind
  grind
 have e2 : ry (nxa a t) * y = g := by
  have : q * (ry (nxa a t) * y) = q * (g : Rat) := by grind
  grind
 have c1 : (nxa a t).p * y = x * (nxa a t).r := by
  have : ((nxa a t).p : Rat) * y = x * (nxa a t).r := by
   unfold rx at e1
   grind
  rw [← Rat.intCast_mul, ← Rat.intCast_mul] at this
  exact_mod_cast this
 have c2 : (nxa a t).q * y = g * (nxa a t).r := by
  have : ((nxa a t).q : Rat) * y = g * (nxa a t).r := by
   unfold ry at e2
   grind
  rw [← Rat.intCast_mul, ← Rat.intCast_mul] at this
  exact_mod_cast this
 refine ⟨hi.cn, hq', h.g0, ?_, c1, c2, ⟨q, by rw [← hm, Int.mul_comm]⟩⟩
 rcases hi.i with e | e
 ·have : g = 0 := by
   rw [e, Int.zero_mul] at c2
   rcases Int.mul_eq_zero.1 c2.symm with e | e
   ·exact e
   ·omega
  rw [hN, this]; simp
 ·rw [hN, e]

/-- At the beginning. -/
theorem rl_of {a : Qn} (h : Cn a) : Rl (a.q.natAbs * a.r) ((if a.q < 0 then -a.p else a.p) * a.r) ((if a.q < 0 then -a.r else a.r) * a.r) (a.q * a.r * (a.q * a.r) * a.d) a := by
 have hr := h.ok.r
 have habs : (a.q.natAbs : Int) = if a.q < 0 then -a.q else a.q := by split <;> omega
 refine ⟨h, ?_, Int.mul_nonneg (by omega) (by omega), ?_, ?_, ?_, ?_⟩
 ·refine Int.mul_ne_zero ?_ (by omega)
  split <;> omega
 ·rw [habs]
  split <;> grind
 ·split <;> grind
 ·rw [habs]
  split <;> grind
 ·split
  ·exact ⟨a.p * a.p - a.q * a.q * a.d, by grind⟩
  ·exact ⟨a.q * a.q * a.d - a.p * a.p, by grind⟩

end Go.Proofs.YtjahbjjekednfaaDoor

namespace Go.Proofs.YtjahbjjekednfaaDoor

/-- A number in its form is no greater than its rest. -/
theorem rl_size {g p q n : Int} {a : Qn} (h : Rl g p q n a) : a.r.natAbs ≤ q.natAbs ∧ a.p.natAbs ≤ p.natAbs ∧ a.q.natAbs ≤ g.natAbs := by
 have hr := h.cn.ok.r
 have hq := h.q0
 have hd : a.r ∣ q := by
  have h1 : a.r.natAbs ∣ q.natAbs * a.p.natAbs := by
   rw [← Int.natAbs_mul]
   exact Int.natAbs_dvd_natAbs.2 ⟨p, by rw [Int.mul_comm, h.ex, Int.mul_comm]⟩
  have h2 : a.r.natAbs ∣ q.natAbs * a.q.natAbs := by
   rw [← Int.natAbs_mul]
   exact Int.natAbs_dvd_natAbs.2 ⟨g, by rw [Int.mul_comm, h.ey, Int.mul_comm]⟩
  have h3 : a.r.natAbs ∣ q.natAbs * Nat.gcd (Nat.gcd a.r.natAbs a.p.natAbs) a.q.natAbs := by
   rw [← Nat.gcd_mul_left, ← Nat.gcd_mul_left]
   exact Nat.dvd_gcd (Nat.dvd_gcd (Nat.dvd_mul_left _ _) h1) h2
  have h4 : Nat.gcd (Nat.gcd a.r.natAbs a.p.natAbs) a.q.natAbs = 1 := h.cn.g
  rw [h4, Nat.mul_one] at h3
  exact Int.natAbs_dvd_natAbs.1 h3
 obtain ⟨k, hk⟩ := hd
 have hk0 : k ≠ 0 := fun e => hq (by rw [hk, e, Int.mul_zero])
 have hk1 : 1 ≤ k.natAbs := by omega
 have le : ∀ x y : Int, x * k = y → x.natAbs ≤ y.natAbs := fun x y e => by
  rw [← e, Int.natAbs_mul]
  exact Nat.le_mul_of_pos_right _ (by omega)
 refine ⟨le _ _ hk.symm, le _ _ ?_, le _ _ ?_⟩
 ·have e := h.ex
  rw [hk] at e
  have : a.r * (a.p * k) = a.r * p := by grind
  exact Int.eq_of_mul_eq_mul_left (by omega) this
 ·have e := h.ey
  rw [hk] at e
  have : a.r * (a.q * k) = a.r * g := by grind
  exact Int.eq_of_mul_eq_mul_left (by omega) this

/-- The numbers one behind the other. -/
def num (a : Qn) (p q n : Int) : Nat → Qn
 | 0 => a
 | i + 1 => nxa (num a p q n i) (trm (rst p q n i).1 (rst p q n i).2 n)
/-- The terms. -/
def tm (p q n : Int) (i : Nat) : Int := trm (rst p q n i).1 (rst p q n i).2 n
theorem rl_num {g p q n : Int} {a : Qn} (h : Rl g p q n a) : ∀ i, (∀ j, j ≤ i → (rst p q n j).2 ≠ 0) → Rl g (rst p q n i).1 (rst p q n i).2 n (num a p q n i)
 | 0, _ => h
 | i + 1, hq => by
  have ih := rl_num h i (fun j hj => hq j (by omega))
  refine rl_next ih fun hz => ?_
  exact hq (i + 1) (Nat.le_refl _) ((nxq_zero ih).2 hz)
/-- An expansion of N terms, or of all, has K. -/
structure Exq (p q n : Int) (N K : Nat) : Prop where
 le : K ≤ N
 on : ∀ i, i < K → (rst p q n i).2 ≠ 0
 stop : K = N ∨ (rst p q n K).2 = 0
theorem Exq.uni {p q n : Int} {N K K' : Nat} (h : Exq p q n N K) (h' : Exq p q n N K') : K = K' := by
 rcases Nat.lt_trichotomy K K' with e | e | e
 ·have := h'.on K e
  rcases h.stop with s | s
  ·have := h'.le; omega
  ·exact absurd s this
 ·exact e
 ·have := h.on K' e
  rcases h'.stop with s | s
  ·have := h.le; omega
  ·exact absurd s this
theorem exq_ex (p q n : Int) : ∀ N, ∃ K, Exq p q n N K
 | 0 => ⟨0, Nat.le_refl _, fun i hi => absurd hi (by omega), Or.inl rfl⟩
 | N + 1 => by
  obtain ⟨K, h1, h2, h3⟩ := exq_ex p q n N
  by_cases h : (rst p q n K).2 = 0
  ·exact ⟨K, by omega, h2, Or.inr h⟩
  ·have hK : K = N := by
    rcases h3 with e | e
    ·exact e
    ·exact absurd e h
   refine ⟨K + 1, by omega, fun i hi => ?_, Or.inl (by omega)⟩
   rcases Nat.lt_or_ge i K with e | e
   ·exact h2 i e
   ·rw [show i = K by omega]; exact h
/-- The first K terms. -/
def tms (p q n : Int) (K : Nat) : List Int := (List.range K).map (tm p q n)
theorem tms_len (p q n : Int) (K : Nat) : (tms p q n K).length = K := by simp [tms]
theorem tms_succ (p q n : Int) (K : Nat) : tms p q n (K + 1) = tms p q n K ++ [tm p q n K] := by simp [tms, List.range_succ]
theorem tms_at {p q n : Int} {K i : Nat} (h : i < K) : at0 (tms p q n K) i = tm p q n i := by
 rw [at0_eq (by rw [tms_len]; exact h)]
 simp [tms]
/-- The whole part, told by the sign of what is left. -/
theorem rl_iff {g p q n : Int} {a : Qn} (h : Rl g p q n a) (x : Int) : 0 ≤ ovr a x ↔ x ≤ trm p q n := by
 obtain ⟨h1, h2⟩ := trm_floor h
 constructor
 ·intro hx
  exact ovr_lt h.cn h2 hx
 ·intro hx
  refine Int.not_lt.1 fun hn => ?_
  have e : x - 1 + 1 = x := by omega
  have := ovr_lt h.cn (t := x - 1) (by rw [e]; exact hn) h1
  omega

end Go.Proofs.YtjahbjjekednfaaDoor

namespace Go.Proofs.YtjahbjjekednfaaDoor

theorem rk_size {s : ByteArray} {r : Rs} (h : Rk s r) (he : r.e = 0) : QF 1100000 r.v := by
 rcases h with ⟨_, rfl⟩ | ⟨_, _, rfl⟩ | ⟨h1, _, r0, h3, rfl⟩
 ·exact absurd he (by simp)
 ·exact absurd he (by simp)
 ·have h1 : 0 < 2 ^ 8 := by decide
  have hk := (ch_ok (k := 1) (C := 2 * (20 * 2 ^ 8)) (by decide) (by decide) (pd_ok 8) add_cost h3).mono (n := 1100000) (by rw [bl_len]; omega)
  by_cases h5 : r0.e = 0
  ·rw [if_pos h5]
   exact hk.f
  ·rw [if_neg h5] at he
   exact absurd he h5

/-- A number's first rest. -/
def p0 (a : Qn) : Int := (if a.q < 0 then -a.p else a.p) * a.r
def q0 (a : Qn) : Int := (if a.q < 0 then -a.r else a.r) * a.r
def n0 (a : Qn) : Int := a.q * a.r * (a.q * a.r) * a.d
theorem rl_start {a : Qn} (h : Cn a) : Rl (a.q.natAbs * a.r) (p0 a) (q0 a) (n0 a) a := rl_of h
/-- The rests of a number, and its terms. -/
def rs (a : Qn) (i : Nat) : Int × Int := rst (p0 a) (q0 a) (n0 a) i
theorem sq_lt_pow {x k m : Nat} (h : x * x ≤ k) (hk : k < 10 ^ (2 * m)) : x < 10 ^ m := by
 refine Nat.lt_of_not_le fun hx => ?_
 have := Nat.mul_le_mul hx hx
 rw [← Nat.pow_add, show m + m = 2 * m by omega] at this
 omega
theorem ft_isq {n : Int} {m : Nat} (h0 : 0 ≤ n) (h : Ft (2 * m) n) : Ft m ((isq n.toNat : Nat) : Int) := by
 have h1 := (isq_ok n.toNat).1
 unfold Ft at *
 refine sq_lt_pow (k := n.natAbs) ?_ h
 simp only [Int.natAbs_natCast]
 omega
theorem p0_ft {a : Qn} {m : Nat} (f : QF m a) : Ft (m + m) (p0 a) := by
 unfold p0
 refine Ft.mul ?_ f.2.2
 split
 ·exact f.1.neg
 ·exact f.1
theorem q0_ft {a : Qn} {m : Nat} (f : QF m a) : Ft (m + m) (q0 a) := by
 unfold q0
 refine Ft.mul ?_ f.2.2
 split
 ·exact f.2.2.neg
 ·exact f.2.2
theorem n0_ft {a : Qn} {m : Nat} (f : QF m a) (h0 : 0 ≤ a.d) (h1 : a.d ≤ 1000000) : Ft (m + m + (m + m) + 7) (n0 a) := by
 unfold n0
 exact Ft.mul (Ft.mul (f.2.1.mul f.2.2) (f.2.1.mul f.2.2)) (by unfold Ft; omega)
theorem n0_nn {a : Qn} (h : Cn a) : 0 ≤ n0 a := (rl_start h).nn
theorem grow {m c S P Q x : Nat} (hmc : m + 8 ≤ c) (hP : P < 10 ^ m) (hQ : Q < 10 ^ m) (hS : S < 10 ^ m) (hx : x ≤ P + Q + (4 * S + 4) * 1000000) : x < 10 ^ c := by
 have h1 : 10 ^ m * 100000000 ≤ 10 ^ c := by
  have : 10 ^ m * 10 ^ 8 ≤ 10 ^ c := by
   rw [← Nat.pow_add]
   exact Nat.pow_le_pow_right (by decide) hmc
  exact this
 generalize 10 ^ m = A at *
 generalize 10 ^ c = C at *
 omega
/-- How great all that is, for the value of a text. -/
structure Sz (a : Qn) (i : Nat) : Prop where
 p : Ft 2300000 (rs a i).1
 q : Ft 2300000 (rs a i).2
 n : Ft 4500000 (n0 a)
 r : Ft 2300000 ((isq (n0 a).toNat : Nat) : Int)
theorem sz_of {a : Qn} {m c k : Nat} (h : Cn a) (f : QF m a) (hc : m + m + 4 + 8 ≤ c) (hk : m + m + (m + m) + 7 ≤ k) {i : Nat} (hi : i ≤ 1000000) (hq : ∀ j, j < i → (rs a j).2 ≠ 0) :
  Ft c (rs a i).1 ∧ Ft c (rs a i).2 ∧ Ft k (n0 a) ∧ Ft c ((isq (n0 a).toNat : Nat) : Int) := by
 have hd0 := h.ok.d0
 have hd1 := h.ok.d1
 have h1 : Ft (m + m + 4) (p0 a) := (p0_ft f).mono (by omega)
 have h2 : Ft (m + m + 4) (q0 a) := (q0_ft f).mono (by omega)
 have h3 := n0_ft f (by omega) (by omega)
 have h4 : Ft (m + m + 4) ((isq (n0 a).toNat : Nat) : Int) := ft_isq (n0_nn h) (h3.mono (by omega))
 obtain ⟨b1, b2⟩ := rst_bd (p := p0 a) (q := q0 a) (n := n0 a) (n0_nn h) i hq
 have e1 : (4 * isq (n0 a).toNat + 4) * i ≤ (4 * isq (n0 a).toNat + 4) * 1000000 := Nat.mul_le_mul_left _ hi
 have h5 : isq (n0 a).toNat < 10 ^ (m + m + 4) := by
  have := h4
  unfold Ft at this
  simpa using this
 refine ⟨?_, ?_, h3.mono hk, h4.mono (by omega)⟩
 ·exact grow (P := (p0 a).natAbs) (Q := (q0 a).natAbs) hc h1 h2 h5 (Nat.le_trans b2 (by omega))
 ·exact grow (P := 0) (Q := (q0 a).natAbs) hc (Nat.lt_of_le_of_lt (Nat.zero_le _) h1) h2 h5 (Nat.le_trans b1 (by omega))
theorem sz_all {a : Qn} (h : Cn a) (f : QF 1100000 a) {i : Nat} (hi : i ≤ 1000000) (hq : ∀ j, j < i → (rs a j).2 ≠ 0) : Sz a i := by
 obtain ⟨h1, h2, h3, h4⟩ := sz_of (c := 2300000) (k := 4500000) h f (by decide) (by decide) hi hq
 exact ⟨h1, h2, h3, h4⟩
/-- The numbers and the terms, too. -/
theorem sz_num {a : Qn} (h : Cn a) (f : QF 1100000 a) {i : Nat} (hi : i ≤ 1000000) (hq : ∀ j, j ≤ i → (rs a j).2 ≠ 0) : QF 2400000 (num a (p0 a) (q0 a) (n0 a) i) ∧ Ft 2400000 (tm (p0 a) (q0 a) (n0 a) i) := by
 have hs := sz_all h f hi (fun j hj => hq j (by omega))
 have hr := rl_num (rl_start h) i hq
 obtain ⟨s1, s2, s3⟩ := rl_size hr
 have hg : Ft 2300000 ((a.q.natAbs : Int) * a.r) := ((f.2.1.abs).mul f.2.2).mono (by decide)
 refine ⟨⟨(hs.p.le s2).mono (by decide), (hg.le s3).mono (by decide), (hs.q.le s1).mono (by decide)⟩, ?_⟩
 exact (trm_ft hs.p hs.q hs.r (hq i (Nat.le_refl _))).mono (by decide)

end Go.Proofs.YtjahbjjekednfaaDoor

namespace Go.Proofs.YtjahbjjekednfaaDoor

/-- The rests of an irrational number never end. -/
theorem rs_on {a : Qn} (h : Cn a) (hd : a.d ≠ 1) : ∀ i, ∀ j, j ≤ i → (rs a j).2 ≠ 0
 | 0, j, hj => by
  have : j = 0 := by omega
  subst this
  exact (rl_start h).q0
 | i + 1, j, hj => by
  have ih := rs_on h hd i
  by_cases e : j ≤ i
  ·exact ih j e
  ·have e2 : j = i + 1 := by omega
   subst e2
   intro hz
   have hr := rl_num (rl_start h) i ih
   have h0 := ((nxq_zero hr).1 hz).2
   have h1 := hr.ey
   rw [h0, Int.zero_mul] at h1
   have h2 := hr.cn.ok.r
   have h3 := h.ok.r
   have h4 : a.q ≠ 0 := fun k => hd (h.ok.q.1 k)
   rcases Int.mul_eq_zero.1 h1.symm with k | k
   ·rcases Int.mul_eq_zero.1 k with k | k <;> omega
   ·omega
theorem rs_irr {a : Qn} (h : Cn a) (hd : a.d ≠ 1) (j : Nat) : (rs a j).2 ≠ 0 := rs_on h hd j j (Nat.le_refl _)
theorem n0_pos {a : Qn} (h : Cn a) (hd : a.d ≠ 1) : 0 < n0 a := by
 have h1 := h.ok.r
 have h2 : a.q ≠ 0 := fun k => hd (h.ok.q.1 k)
 have h3 := h.ok.d0
 have h4 : a.q * a.r ≠ 0 := Int.mul_ne_zero h2 (by omega)
 have h5 : 0 < a.q * a.r * (a.q * a.r) := by
  rcases Int.lt_or_gt_of_ne h4 with k | k
  ·exact Int.mul_pos_of_neg_of_neg k k
  ·exact Int.mul_pos k k
 exact Int.mul_pos h5 (by omega)

end Go.Proofs.YtjahbjjekednfaaDoor
