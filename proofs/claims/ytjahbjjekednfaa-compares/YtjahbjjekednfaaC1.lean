import Derived.Test.YtjahbjjekednfaaC1u
namespace Go.Proofs.Ytjahbjjekednfaa

/-- The sign of a sum, of the signs of its parts and the order of their squares. -/
def sos (one other order : Int) : Int := if 0 < order then one else if order < 0 ∨ one = other then other else 0
/-- The sign of u + v√k. -/
def s2 (u v k : Int) : Int := sos u.sign v.sign (u * u - v * v * k).sign
/-- The sign of x + y√m + z√n. -/
def s3 (x y m z n : Int) : Int := sos x.sign (s2 (y * m) z (m * n)) (s2 (x * x - ((y * m) * y + (z * n) * z)) (-(y * z + y * z)) (m * n))
def r3 (s t u : Int) : Int := if t < s then 1 else if s < t then -1 else s * u
theorem sign_sos (one other order : Int) : sos one other order.sign = sos one other order := by
 unfold sos
 rcases Int.lt_trichotomy order 0 with h | h | h
 ·rw [Int.sign_eq_neg_one_of_neg h]; simp [h]; omega
 ·subst h; simp
 ·rw [Int.sign_eq_one_of_pos h]; simp [h]
/-- A triangle of squares. -/
theorem tri {a b c : Int} (ha : 0 ≤ a) (hb : 0 ≤ b) (hc : 0 ≤ c) (h : 0 < (a - b - c) * (a - b - c) - 4 * (b * c)) : b + c < a ∨ a + c < b ∨ a + b < c := by
 by_cases h1 : b + c < a
 ·exact Or.inl h1
 by_cases h2 : a + c < b
 ·exact Or.inr (Or.inl h2)
 by_cases h3 : a + b < c
 ·exact Or.inr (Or.inr h3)
 exfalso
 have e : (a - b - c) * (a - b - c) - 4 * (b * c) = a * (a - b - c) + b * (b - a - c) + c * (c - a - b) := by grind
 have x1 : a * (a - b - c) ≤ 0 := Int.mul_nonpos_of_nonneg_of_nonpos ha (by omega)
 have x2 : b * (b - a - c) ≤ 0 := Int.mul_nonpos_of_nonneg_of_nonpos hb (by omega)
 have x3 : c * (c - a - b) ≤ 0 := Int.mul_nonpos_of_nonneg_of_nonpos hc (by omega)
 omega
/-- Both ways round, by signs alone. -/
theorem both_signs (sx sy sz o1 o2 f d1 d2 : Int) (hx : sx = -1 ∨ sx = 0 ∨ sx = 1) (hy : sy = -1 ∨ sy = 1) (hz : sz = -1 ∨ sz = 1) (h1 : o1 = -1 ∨ o1 = 0 ∨ o1 = 1) (h2 : o2 = -1 ∨ o2 = 0 ∨ o2 = 1)
  (hd1 : d1 = -1 ∨ d1 = 1) (hd2 : d2 = -1 ∨ d2 = 1) (hf : (f = -1 ∧ sx ≠ 0) ∨ (f = 1 ∧ ((o1 = 1 ∧ o2 = 1 ∧ d1 = 1 ∧ sx ≠ 0) ∨ (o1 = -1 ∧ o2 = 1 ∧ d1 = -1 ∧ d2 = 1) ∨ (o1 = -1 ∧ o2 = -1 ∧ d2 = -1 ∧ (sx = 0 → d1 = -1))))) :
  sos sx (sos sy sz d2) (sos o1 (-(sy * sz)) f) = r3 (rsS sx sy d1) (-sz) (rsS o2 (sx * sy) f) := by
 rcases hf with ⟨rfl, h⟩ | ⟨rfl, h⟩
 ·rcases hx with rfl | rfl | rfl
  ·rcases hy with rfl | rfl <;> rcases hz with rfl | rfl <;> rcases h1 with rfl | rfl | rfl <;> rcases h2 with rfl | rfl | rfl <;> rcases hd1 with rfl | rfl <;> rcases hd2 with rfl | rfl <;> decide
  ·exact absurd rfl h
  ·rcases hy with rfl | rfl <;> rcases hz with rfl | rfl <;> rcases h1 with rfl | rfl | rfl <;> rcases h2 with rfl | rfl | rfl <;> rcases hd1 with rfl | rfl <;> rcases hd2 with rfl | rfl <;> decide
 ·rcases h with ⟨rfl, rfl, rfl, h⟩ | ⟨rfl, rfl, rfl, rfl⟩ | ⟨rfl, rfl, rfl, h⟩
  ·rcases hx with rfl | rfl | rfl
   ·rcases hy with rfl | rfl <;> rcases hz with rfl | rfl <;> rcases hd2 with rfl | rfl <;> decide
   ·exact absurd rfl h
   ·rcases hy with rfl | rfl <;> rcases hz with rfl | rfl <;> rcases hd2 with rfl | rfl <;> decide
  ·rcases hx with rfl | rfl | rfl <;> rcases hy with rfl | rfl <;> rcases hz with rfl | rfl <;> decide
  ·rcases hx with rfl | rfl | rfl
   ·rcases hy with rfl | rfl <;> rcases hz with rfl | rfl <;> rcases hd1 with rfl | rfl <;> decide
   ·have := h rfl
    subst this
    rcases hy with rfl | rfl <;> rcases hz with rfl | rfl <;> decide
   ·rcases hy with rfl | rfl <;> rcases hz with rfl | rfl <;> rcases hd1 with rfl | rfl <;> decide
theorem irr2 {y z m n : Int} (hm : SqFree m.toNat) (hn : SqFree n.toNat) (m1 : 1 ≤ m) (n1 : 1 ≤ n) (hy : y ≠ 0) (hz : z ≠ 0) (hmn : m ≠ n) : y * y * m ≠ z * z * n := by
 intro e
 have e2 : y.natAbs * y.natAbs * m.toNat = z.natAbs * z.natAbs * n.toNat := by
  have := congrArg Int.natAbs e
  rw [Int.natAbs_mul, Int.natAbs_mul, Int.natAbs_mul, Int.natAbs_mul] at this
  have e3 : m.natAbs = m.toNat := by omega
  have e4 : n.natAbs = n.toNat := by omega
  rwa [e3, e4] at this
 have i1 : IsRoot (y.natAbs * y.natAbs * m.toNat) y.natAbs m.toNat := ⟨by omega, by omega, rfl, hm⟩
 have i2 : IsRoot (y.natAbs * y.natAbs * m.toNat) z.natAbs n.toNat := ⟨by omega, by omega, e2.symm, hn⟩
 have := (i1.unique i2).2
 omega
/-- Two different roots. -/
theorem s3_two {x y m z n : Int} (hm : SqFree m.toNat) (hn : SqFree n.toNat) (m1 : 1 < m) (n1 : 1 < n) (hy : y ≠ 0) (hz : z ≠ 0) (hmn : m ≠ n) :
  s3 x y m z n = r3 (rsg x y m) (-z).sign (rsg ((x * x + (y * y) * m) - ((-z) * (-z)) * n) (2 * (x * y)) m) := by
 have hbc := irr2 hm hn (by omega) (by omega) hy hz hmn
 have hab := irr (u := x) hm m1 hy
 have hF : (x * x + (y * y) * m - z * z * n) * (x * x + (y * y) * m - z * z * n) ≠ 4 * ((x * x) * (y * y * m)) := by
  by_cases hx : x = 0
  ·subst hx
   intro e
   have : (y * y * m - z * z * n) * (y * y * m - z * z * n) = 0 := by
    have e1 : (0 * 0 + y * y * m - z * z * n) = y * y * m - z * z * n := by omega
    rw [e1] at e
    rw [e]; simp
   have := (Int.mul_eq_zero.mp this).elim id id
   omega
  ·have := irr (u := x * x + (y * y) * m - z * z * n) (v := 2 * (x * y)) hm m1 (by
    intro h
    rcases Int.mul_eq_zero.mp h with h | h
    ·omega
    ·rcases Int.mul_eq_zero.mp h with h | h <;> contradiction)
   intro e
   apply this
   rw [e]
   grind
 have ha0 : 0 ≤ x * x := by rcases Int.le_total 0 x with h | h; exact Int.mul_nonneg h h; exact Int.mul_nonneg_of_nonpos_of_nonpos h h
 have hyy : 0 < y * y := by
  rcases Int.lt_or_gt_of_ne hy with h | h
  ·exact Int.mul_pos_of_neg_of_neg h h
  ·exact Int.mul_pos h h
 have hzz : 0 < z * z := by
  rcases Int.lt_or_gt_of_ne hz with h | h
  ·exact Int.mul_pos_of_neg_of_neg h h
  ·exact Int.mul_pos h h
 have hb0 : 0 < y * y * m := Int.mul_pos hyy (by omega)
 have hc0 : 0 < z * z * n := Int.mul_pos hzz (by omega)
 have hxz : x.sign = 0 ↔ x * x = 0 := by
  rw [Int.sign_eq_zero_iff_zero]
  constructor
  ·intro h; rw [h]; rfl
  ·intro h; exact (Int.mul_eq_zero.mp h).elim id id
 -- the pieces
 have p1 : s2 (y * m) z (m * n) = sos y.sign z.sign (y * y * m - z * z * n).sign := by
  unfold s2
  have e1 : (y * m).sign = y.sign := by rw [Int.mul_comm]; exact sign_scale m y (by omega)
  have e2 : (y * m) * (y * m) - z * z * (m * n) = m * (y * y * m - z * z * n) := by grind
  rw [e1, e2, sign_scale m _ (by omega)]
 have p2 : s2 (x * x - ((y * m) * y + (z * n) * z)) (-(y * z + y * z)) (m * n) = sos (x * x - y * y * m - z * z * n).sign (-(y.sign * z.sign)) ((x * x - y * y * m - z * z * n) * (x * x - y * y * m - z * z * n) - 4 * ((y * y * m) * (z * z * n))).sign := by
  unfold s2
  have e1 : x * x - ((y * m) * y + (z * n) * z) = x * x - y * y * m - z * z * n := by grind
  have e2 : (-(y * z + y * z)).sign = -(y.sign * z.sign) := by
   rw [Int.sign_neg, show y * z + y * z = 2 * (y * z) by omega, sign_scale 2 _ (by decide), Int.sign_mul]
  have e3 : (-(y * z + y * z)) * (-(y * z + y * z)) * (m * n) = 4 * ((y * y * m) * (z * z * n)) := by grind
  rw [e1, e2, e3]
 have p3 : rsg x y m = rsS x.sign y.sign (x * x - y * y * m).sign := rfl
 have p4 : rsg ((x * x + (y * y) * m) - ((-z) * (-z)) * n) (2 * (x * y)) m = rsS (x * x + y * y * m - z * z * n).sign (x.sign * y.sign) ((x * x - y * y * m - z * z * n) * (x * x - y * y * m - z * z * n) - 4 * ((y * y * m) * (z * z * n))).sign := by
  unfold rsg
  have e1 : (x * x + (y * y) * m) - ((-z) * (-z)) * n = x * x + y * y * m - z * z * n := by rw [Int.neg_mul_neg]
  have e2 : (2 * (x * y)).sign = x.sign * y.sign := by rw [sign_scale 2 _ (by decide), Int.sign_mul]
  rw [e1, e2]
  congr 2
  grind
 have p5 : (-z).sign = -(z.sign) := Int.sign_neg z
 unfold s3
 rw [p1, p2, p3, p4, p5]
 have hF' : (x * x - y * y * m - z * z * n) * (x * x - y * y * m - z * z * n) - 4 * ((y * y * m) * (z * z * n)) ≠ 0 := by
  intro h
  apply hF
  grind
 have htri := tri (a := x * x) (b := y * y * m) (c := z * z * n) ha0 (by omega) (by omega)
 have hx0F : x * x = 0 → 0 < (x * x - y * y * m - z * z * n) * (x * x - y * y * m - z * z * n) - 4 * ((y * y * m) * (z * z * n)) := by
  intro h
  have e : (x * x - y * y * m - z * z * n) * (x * x - y * y * m - z * z * n) - 4 * ((y * y * m) * (z * z * n)) = (y * y * m - z * z * n) * (y * y * m - z * z * n) := by rw [h]; grind
  rw [e]
  have hne : y * y * m - z * z * n ≠ 0 := by omega
  rcases Int.lt_or_gt_of_ne hne with h5 | h5
  ·exact Int.mul_pos_of_neg_of_neg h5 h5
  ·exact Int.mul_pos h5 h5
 clear p1 p2 p3 p4 p5 hF
 generalize (x * x - y * y * m - z * z * n) * (x * x - y * y * m - z * z * n) - 4 * ((y * y * m) * (z * z * n)) = f at *
 generalize x * x = a at *
 generalize y * y * m = b at *
 generalize z * z * n = c at *
 refine both_signs x.sign y.sign z.sign _ _ _ _ _ ?_ ?_ ?_ ?_ ?_ ?_ ?_ ?_
 ·rcases sign3 x with h | h | h <;> omega
 ·rcases sign3 y with h | h | h <;> omega
 ·rcases sign3 z with h | h | h <;> omega
 ·rcases sign3 (a - b - c) with h | h | h <;> omega
 ·rcases sign3 (a + b - c) with h | h | h <;> omega
 ·rcases sign3 (a - b) with h | h | h <;> omega
 ·rcases sign3 (b - c) with h | h | h <;> omega
 ·rcases sign3 f with h | h | h
  ·left
   refine ⟨h.1, fun h5 => ?_⟩
   have := hx0F (hxz.mp h5)
   omega
  ·exact absurd h.2 hF'
  ·right
   refine ⟨h.1, ?_⟩
   have g1 := sign3 (a - b - c)
   have g2 := sign3 (a + b - c)
   have g3 := sign3 (a - b)
   have g4 := sign3 (b - c)
   generalize (a - b - c).sign = o1 at *
   generalize (a + b - c).sign = o2 at *
   generalize (a - b).sign = d1 at *
   generalize (b - c).sign = d2 at *
   generalize x.sign = sx at *
   rcases htri h.2 with h6 | h6 | h6
   ·left
    refine ⟨by omega, by omega, by omega, fun h7 => ?_⟩
    have := hxz.mp h7
    omega
   ·right; left
    exact ⟨by omega, by omega, by omega, by omega⟩
   ·right; right
    refine ⟨by omega, by omega, by omega, fun h7 => ?_⟩
    have := hxz.mp h7
    omega
theorem sos_sum (y z : Int) : sos y.sign z.sign (y * y - z * z).sign = (y + z).sign := by
 have e : y * y - z * z = (y + z) * (y - z) := by grind
 rw [e, Int.sign_mul]
 rcases sign3 y with ⟨h1, h2⟩ | ⟨h1, h2⟩ | ⟨h1, h2⟩ <;> rcases sign3 z with ⟨g1, g2⟩ | ⟨g1, g2⟩ | ⟨g1, g2⟩ <;> rcases sign3 (y + z) with ⟨k1, k2⟩ | ⟨k1, k2⟩ | ⟨k1, k2⟩ <;> rcases sign3 (y - z) with ⟨l1, l2⟩ | ⟨l1, l2⟩ | ⟨l1, l2⟩ <;> first | omega | (rw [h1, g1, k1, l1]; decide)
theorem s2_zero (u k : Int) : s2 u 0 k = u.sign := by
 unfold s2
 rw [Int.mul_zero, Int.zero_mul, Int.sub_zero, Int.sign_mul]
 rcases sign3 u with ⟨h1, _⟩ | ⟨h1, _⟩ | ⟨h1, _⟩ <;> rw [h1] <;> decide
theorem s2_left (v k : Int) (hk : 1 ≤ k) : s2 0 v k = v.sign := by
 unfold s2
 have e : (0 * 0 - v * v * k).sign = -(v.sign * v.sign) := by
  rw [Int.mul_zero, Int.zero_sub, Int.sign_neg, Int.mul_comm (v * v) k, sign_scale k _ (by omega), Int.sign_mul]
 rw [e]
 rcases sign3 v with ⟨h1, _⟩ | ⟨h1, _⟩ | ⟨h1, _⟩ <;> rw [h1] <;> decide
theorem s2_rsg {u v k : Int} (hk : 1 ≤ k) (h : v = 0 ∨ u * u ≠ v * v * k) : s2 u v k = rsg u v k := by
 by_cases hv : v = 0
 ·subst hv
  rw [s2_zero]
  unfold rsg rsS
  rcases sign3 u with ⟨h1, _⟩ | ⟨h1, _⟩ | ⟨h1, _⟩ <;> rw [h1] <;> simp
 ·by_cases hu : u = 0
  ·subst hu
   rw [s2_left v k hk]
   unfold rsg rsS
   simp
  ·have hne : u * u ≠ v * v * k := h.elim (fun h => absurd h hv) id
   unfold s2 rsg sos rsS
   rcases sign3 u with ⟨h1, h2⟩ | ⟨h1, h2⟩ | ⟨h1, h2⟩ <;> rcases sign3 v with ⟨g1, g2⟩ | ⟨g1, g2⟩ | ⟨g1, g2⟩ <;> rcases sign3 (u * u - v * v * k) with ⟨k1, k2⟩ | ⟨k1, k2⟩ | ⟨k1, k2⟩ <;> first | omega | (rw [h1, g1, k1]; decide)
theorem s3_z {x y m : Int} : s3 x y m 0 1 = s2 x y m ∨ m < 1 := by
 by_cases hm : m < 1
 ·exact Or.inr hm
 ·left
  unfold s3
  have e1 : x * x - ((y * m) * y + (0 * 1) * 0) = x * x - y * y * m := by grind
  have e2 : -(y * 0 + y * 0) = 0 := by omega
  rw [e1, e2, s2_zero, s2_zero, Int.mul_comm y m, sign_scale m y (by omega)]
  rfl
theorem s3_y {x z n : Int} (hn : 1 ≤ n) : s3 x 0 1 z n = s2 x z n := by
 unfold s3
 have e1 : x * x - ((0 * 1) * 0 + (z * n) * z) = x * x - z * z * n := by grind
 have e2 : -(0 * z + 0 * z) = 0 := by simp
 rw [e1, e2, s2_zero, Int.zero_mul, Int.one_mul, s2_left z n hn]
 rfl
theorem s3_same {x y z m : Int} (hm : 1 ≤ m) : s3 x y m z m = s2 x (y + z) m := by
 unfold s3
 have hmm : 0 < m * m := Int.mul_pos (by omega) (by omega)
 have p1 : s2 (y * m) z (m * m) = (y + z).sign := by
  rw [← sos_sum]
  unfold s2
  have e2 : (y * m) * (y * m) - z * z * (m * m) = (m * m) * (y * y - z * z) := by grind
  rw [e2, sign_scale _ _ hmm, Int.mul_comm y m, sign_scale m y (by omega)]
 have p2 : s2 (x * x - ((y * m) * y + (z * m) * z)) (-(y * z + y * z)) (m * m) = (x * x - (y + z) * (y + z) * m).sign := by
  have e1 : x * x - (y + z) * (y + z) * m = (x * x - ((y * m) * y + (z * m) * z)) + m * (-(y * z + y * z)) := by grind
  rw [e1, ← sos_sum]
  unfold s2
  rw [sign_scale m _ (by omega)]
  congr 2
  grind
 rw [p1, p2]
 rfl
theorem rsg_zero (p d d' : Int) : rsg p 0 d = rsg p 0 d' := by
 unfold rsg
 simp
theorem rsg_reduce {p q r D : Int} (hr : 0 < r) : rsg (qreduce p q r D).p (qreduce p q r D).q (qreduce p q r D).d = rsg p q D := by
 obtain ⟨h1, h2, h3⟩ := qreduce_back p q r D
 have hne := qcom_ne p q r (by omega)
 have hk : 0 < qcom p q r := by
  have e : qcom p q r = (Int.gcd (Int.gcd r p) q : Int) := by unfold qcom; rw [if_neg (by omega)]
  omega
 have hd : (qreduce p q r D).d = if (qreduce p q r D).q = 0 then 1 else D := rfl
 have h := rsg_scale (qcom p q r) (qreduce p q r D).p (qreduce p q r D).q D hk
 rw [← h1, ← h2] at h
 rw [h, hd]
 by_cases hq : (qreduce p q r D).q = 0
 ·rw [if_pos hq, hq]
  exact rsg_zero _ _ _
 ·rw [if_neg hq]
/-- The order of two numbers, as the reference finds it. -/
def rord (a b : Qn) : Int :=
 if a.d = 1 ∨ b.d = 1 ∨ a.d = b.d then rsg (comb 45 a b).1.p (comb 45 a b).1.q (comb 45 a b).1.d
 else r3 (rsg (a.p * b.r - b.p * a.r) (a.q * b.r) a.d) (b.q * a.r).sign
  (rsg (((a.p * b.r - b.p * a.r) * (a.p * b.r - b.p * a.r) + ((a.q * b.r) * (a.q * b.r)) * a.d) - ((b.q * a.r) * (b.q * a.r)) * b.d) (2 * ((a.p * b.r - b.p * a.r) * (a.q * b.r))) a.d)
/-- As the program finds it. -/
def qcmp (a b : Qn) : Int := s3 (a.p * b.r + b.p * -a.r) (a.q * b.r) a.d (b.q * -a.r) b.d
theorem qcmp_rord {a b : Qn} (ha : Qok a) (hb : Qok b) : qcmp a b = rord a b := by
 have a0 := ha.d0; have b0 := hb.d0; have ar := ha.r; have br := hb.r
 have ex : a.p * b.r + b.p * -a.r = a.p * b.r - b.p * a.r := by rw [Int.mul_neg]; omega
 unfold qcmp rord
 by_cases h : a.d = 1 ∨ b.d = 1 ∨ a.d = b.d
 ·rw [if_pos h]
  have hroot : qroot a.d b.d ≠ 0 := by
   intro hz
   have := (qroot_zero ha hb).mp hz
   omega
  have e : (comb 45 a b).1 = qaddN a (qneg b) := by
   unfold comb qsub qadd
   have : qroot a.d (qneg b).d ≠ 0 := hroot
   rw [if_neg (by decide), if_pos rfl, if_neg this]
  have hrr : 0 < a.r * (qneg b).r := Int.mul_pos ar br
  rw [e]
  unfold qaddN
  rw [rsg_reduce hrr]
  have eP : a.p * (qneg b).r + (qneg b).p * a.r = a.p * b.r + b.p * -a.r := by simp only [qneg]; rw [Int.mul_neg, Int.neg_mul]
  have eQ : a.q * (qneg b).r + (qneg b).q * a.r = a.q * b.r + b.q * -a.r := by simp only [qneg]; rw [Int.mul_neg, Int.neg_mul]
  have eD : qroot a.d (qneg b).d = qroot a.d b.d := rfl
  rw [eP, eQ, eD]
  generalize a.p * b.r + b.p * -a.r = x
  have hR := rooted ha hb hroot
  -- the sign by squares serves where the root is no whole number
  have fin : ∀ q D : Int, 1 ≤ D → SqFree D.toNat → (D = 1 → q = 0) → s2 x q D = rsg x q D := by
   intro q D h1 h2 h3
   by_cases hq : q = 0
   ·exact s2_rsg h1 (Or.inl hq)
   ·exact s2_rsg h1 (Or.inr (irr h2 (by have : D ≠ 1 := fun h => hq (h3 h); omega) hq))
  rcases h with h | h | h
  ·have hq := ha.q.mpr h
   have e1 : qroot a.d b.d = b.d := by unfold qroot; rw [if_pos (Or.inl h)]
   rw [e1, hq, h, Int.zero_mul, Int.zero_add, s3_y hb.d0]
   refine fin _ _ hb.d0 hb.f (fun h5 => ?_)
   rw [hb.q.mpr h5, Int.zero_mul]
  ·have hq := hb.q.mpr h
   have e1 : qroot a.d b.d = a.d := by
    unfold qroot
    by_cases h1 : a.d = 1 ∨ a.d = b.d
    ·rw [if_pos h1]; omega
    ·rw [if_neg h1, if_pos h]
   rw [e1, hq, h, Int.zero_mul, Int.add_zero]
   rcases s3_z (x := x) (y := a.q * b.r) (m := a.d) with h6 | h6
   ·rw [h6]
    refine fin _ _ ha.d0 ha.f (fun h5 => ?_)
    rw [ha.q.mpr h5, Int.zero_mul]
   ·omega
  ·have e1 : qroot a.d b.d = b.d := by unfold qroot; rw [if_pos (Or.inr h)]
   rw [e1, h, s3_same hb.d0]
   refine fin _ _ hb.d0 hb.f (fun h5 => ?_)
   rw [hb.q.mpr h5, ha.q.mpr (by omega)]; simp
 ·rw [if_neg h]
  have hqa : a.q ≠ 0 := fun h5 => h (Or.inl (ha.q.mp h5))
  have hqb : b.q ≠ 0 := fun h5 => h (Or.inr (Or.inl (hb.q.mp h5)))
  have hy : a.q * b.r ≠ 0 := fun h5 => by rcases Int.mul_eq_zero.mp h5 with h5 | h5; exact hqa h5; omega
  have hz : b.q * -a.r ≠ 0 := fun h5 => by rcases Int.mul_eq_zero.mp h5 with h5 | h5; exact hqb h5; omega
  rw [s3_two ha.f hb.f (by omega) (by omega) hy hz (by omega), ex]
  have e1 : -(b.q * -a.r) = b.q * a.r := by rw [Int.mul_neg, Int.neg_neg]
  rw [e1]

end Go.Proofs.Ytjahbjjekednfaa
