import Derived.Test.YtjahbjjekednfabDoorE1
import Derived.Test.YtjahbjjekednfabDoorQ2
import Derived.Test.YtjahbjjekednfabDoorC1u
namespace Go.Proofs.YtjahbjjekednfabDoor

/-- What stands behind the signs of a factor. -/
def Core (n : Nat) (s : List Int) (p : Nat) (r : Rs) : Prop := Atom s r ∨ ∃ k t, n = k + 1 ∧ s = 40 :: (t ++ [41]) ∧ Sm k t (p + 1) r
theorem fc_core {n : Nat} {s : List Int} {p : Nat} {r : Rs} : Fc n s p r ↔ ∃ m core r0, s = List.replicate m 45 ++ core ∧ Core n core (p + m) r0 ∧ r = negs m r0 := by
 cases n with
 | zero =>
  constructor
  ·rintro ⟨m, core, r0, h1, h2, h3⟩
   exact ⟨m, core, r0, h1, Or.inl h2, h3⟩
  ·rintro ⟨m, core, r0, h1, h2 | ⟨k, t, hk, _⟩, h3⟩
   ·exact ⟨m, core, r0, h1, h2, h3⟩
   ·omega
 | succ n =>
  constructor
  ·rintro ⟨m, core, r0, h1, h2 | ⟨t, h2, h4⟩, h3⟩
   ·exact ⟨m, core, r0, h1, Or.inl h2, h3⟩
   ·exact ⟨m, core, r0, h1, Or.inr ⟨n, t, rfl, h2, h4⟩, h3⟩
  ·rintro ⟨m, core, r0, h1, h2 | ⟨k, t, hk, h2, h4⟩, h3⟩
   ·exact ⟨m, core, r0, h1, Or.inl h2, h3⟩
   ·obtain rfl : k = n := by omega
    exact ⟨m, core, r0, h1, Or.inr ⟨t, h2, h4⟩, h3⟩

end Go.Proofs.YtjahbjjekednfabDoor

namespace Go.Proofs.YtjahbjjekednfabDoor

/-- The same value, and the same error. -/
def Al (r r' : Rs) : Prop := r'.v = r.v ∧ r'.e = r.e
theorem Al.op {c : Int} {p q : Nat} {a b a' b' : Rs} (h : Al a a') (k : Al b b') : Al (opR c p a b) (opR c q a' b') := by
 obtain ⟨h1, h2⟩ := h
 obtain ⟨k1, k2⟩ := k
 unfold opR
 rw [h1, h2, k1, k2]
 by_cases e1 : a.e ≠ 0
 ·rw [if_pos e1, if_pos e1]; exact ⟨h1, h2⟩
 ·rw [if_neg e1, if_neg e1]
  by_cases e2 : b.e ≠ 0
  ·rw [if_pos e2, if_pos e2]; exact ⟨rfl, rfl⟩
  ·rw [if_neg e2, if_neg e2]; exact ⟨rfl, rfl⟩
theorem Al.neg {a a' : Rs} (m : Nat) (h : Al a a') : Al (negs m a) (negs m a') := by
 obtain ⟨h1, h2⟩ := h
 unfold negs
 by_cases e1 : m % 2 = 1
 ·rw [if_pos e1, if_pos e1]; exact ⟨by simp only [h1], h2⟩
 ·rw [if_neg e1, if_neg e1]; exact ⟨h1, h2⟩
def Shf (F F' : List Int → Nat → Rs → Prop) : Prop := ∀ s p r q, F s p r → ∃ r', F' s q r' ∧ Al r r'
theorem chT_shf {F F' : List Int → Nat → Rs → Prop} {ops : Int → Prop} (h : Shf F F') : ∀ (m : Nat) (acc acc' : Rs) (p q : Nat) (s : List Int) (r : Rs), Al acc acc' → ChT F ops m acc p s r → ∃ r', ChT F' ops m acc' q s r' ∧ Al r r'
 | 0, acc, acc', p, q, s, r, ha, hc => by
  obtain ⟨rfl, rfl⟩ := hc
  exact ⟨acc', ⟨rfl, rfl⟩, ha⟩
 | m + 1, acc, acc', p, q, s, r, ha, hc => by
  obtain ⟨c, t, s', rt, h1, rfl, h2, h3⟩ := hc
  obtain ⟨rt', k1, k2⟩ := h _ _ _ (q + 1) h2
  obtain ⟨r', k3, k4⟩ := chT_shf h m _ (opR c q acc' rt') _ (q + 1 + t.length) _ _ (ha.op k2) h3
  exact ⟨r', ⟨c, t, s', rt', h1, rfl, k1, k3⟩, k4⟩
theorem ch_shf {F F' : List Int → Nat → Rs → Prop} {ops : Int → Prop} (h : Shf F F') : Shf (Ch F ops) (Ch F' ops) := by
 rintro s p r q ⟨m, f, s', rf, rfl, h1, h2⟩
 obtain ⟨rf', k1, k2⟩ := h _ _ _ q h1
 obtain ⟨r', k3, k4⟩ := chT_shf h m _ rf' _ (q + f.length) _ _ k2 h2
 exact ⟨r', ⟨m, f, s', rf', rfl, k1, k3⟩, k4⟩
theorem fc_shf : ∀ (n n' : Nat), n ≤ n' → Shf (Fc n) (Fc n') := by
 intro n
 induction n with
 | zero =>
  intro n' _ s p r q h
  obtain ⟨m, core, r0, h1, h2, h3⟩ := fc_core.1 h
  rcases h2 with h2 | ⟨k, t, hk, _⟩
  ·exact ⟨r, fc_core.2 ⟨m, core, r0, h1, Or.inl h2, h3⟩, rfl, rfl⟩
  ·omega
 | succ n ih =>
  intro n' hn s p r q h
  obtain ⟨m, core, r0, h1, h2, h3⟩ := fc_core.1 h
  rcases h2 with h2 | ⟨k, t, hk, h4, h5⟩
  ·exact ⟨r, fc_core.2 ⟨m, core, r0, h1, Or.inl h2, h3⟩, rfl, rfl⟩
  ·obtain rfl : k = n := by omega
   obtain ⟨k', rfl⟩ : ∃ k', n' = k' + 1 := ⟨n' - 1, by omega⟩
   obtain ⟨r', g1, g2⟩ := ch_shf (ops := addOp) (ch_shf (ops := mulOp) (ih k' (by omega))) _ _ _ (q + m + 1) h5
   exact ⟨negs m r', fc_core.2 ⟨m, core, r', h1, Or.inr ⟨k', t, rfl, h4, g1⟩, rfl⟩, by rw [h3]; exact g2.neg m⟩
theorem sm_shf {n n' : Nat} (h : n ≤ n') : Shf (Sm n) (Sm n') := ch_shf (ch_shf (fc_shf n n' h))
/-- A text that is read so, wherever it stands. -/
def Gv (F : List Int → Nat → Rs → Prop) (s : List Int) (x : Qn × Int) : Prop := ∀ p, ∃ r, F s p r ∧ r.v = x.1 ∧ r.e = x.2
theorem Gv.of {F F' : List Int → Nat → Rs → Prop} {s : List Int} {p : Nat} {r : Rs} (hs : Shf F F') (h : F s p r) : Gv F' s (r.v, r.e) := fun q => by
 obtain ⟨r', k1, k2, k3⟩ := hs _ _ _ q h
 exact ⟨r', k1, k2, k3⟩
/-- The reading of a text that has a value. -/
theorem rk_read {s : ByteArray} {r : Rs} (h : Rk s r) (he : r.e = 0) : Gv (Sm 8) (bl s) (r.v, 0) ∧ s.size ≤ 100 ∧ plFault s 0 s.size = -1 := by
 rcases h with ⟨h1, rfl⟩ | ⟨h1, h2, rfl⟩ | ⟨h1, h2, r0, h3, rfl⟩
 ·exact absurd he (by simp)
 ·exact absurd he (by simp)
 ·by_cases h5 : r0.e = 0
  ·have := Gv.of (sm_shf (Nat.le_refl 8)) h3
   rw [h5] at this
   rw [if_pos h5]
   exact ⟨this, h1, h2⟩
  ·rw [if_neg h5] at he
   exact absurd he h5

end Go.Proofs.YtjahbjjekednfabDoor

namespace Go.Proofs.YtjahbjjekednfabDoor

/-- In lowest terms, and in its form. -/
structure Cn (a : Qn) : Prop where
 ok : Qok a
 g : Int.gcd (Int.gcd a.r a.p) a.q = 1
def rx (a : Qn) : Rat := (a.p : Rat) / (a.r : Rat)
def ry (a : Qn) : Rat := (a.q : Rat) / (a.r : Rat)

theorem gcd3_mul (g r p q : Int) : Int.gcd (Int.gcd (g * r) (g * p)) (g * q) = g.natAbs * Int.gcd (Int.gcd r p) q := by
 rw [Int.gcd_mul_left]
 unfold Int.gcd
 rw [Int.natAbs_natCast, Int.natAbs_natCast, Int.natAbs_mul, Nat.gcd_mul_left]

theorem qred_parts (P Q R D : Int) (hR : R ≠ 0) : ∃ g : Int, g ≠ 0 ∧ P = g * (qreduce P Q R D).p ∧ Q = g * (qreduce P Q R D).q ∧ R = g * (qreduce P Q R D).r ∧ 0 < (qreduce P Q R D).r ∧
  Int.gcd (Int.gcd (qreduce P Q R D).r (qreduce P Q R D).p) (qreduce P Q R D).q = 1 ∧ (qreduce P Q R D).d = if (qreduce P Q R D).q = 0 then 1 else D := by
 have hG : 0 < Int.gcd (Int.gcd R P) Q := by
  refine Int.gcd_pos_of_ne_zero_left _ ?_
  have := Int.gcd_pos_of_ne_zero_left P hR
  omega
 have d1 : ((Int.gcd (Int.gcd R P) Q : Nat) : Int) ∣ (Int.gcd R P : Nat) := Int.gcd_dvd_left _ _
 have dR : qcom P Q R ∣ R := by
  unfold qcom
  have := Int.dvd_trans d1 (Int.gcd_dvd_left R P)
  split
  ·exact (Int.neg_dvd).2 this
  ·exact this
 have dP : qcom P Q R ∣ P := by
  unfold qcom
  have := Int.dvd_trans d1 (Int.gcd_dvd_right R P)
  split
  ·exact (Int.neg_dvd).2 this
  ·exact this
 have dQ : qcom P Q R ∣ Q := by
  unfold qcom
  have := Int.gcd_dvd_right ((Int.gcd R P : Nat) : Int) Q
  split
  ·exact (Int.neg_dvd).2 this
  ·exact this
 have hn : (qcom P Q R).natAbs = Int.gcd (Int.gcd R P) Q := by
  unfold qcom
  split
  ·rw [Int.natAbs_neg, Int.natAbs_natCast]
  ·rw [Int.natAbs_natCast]
 have h0 : qcom P Q R ≠ 0 := by
  intro h
  rw [h] at hn
  simp at hn
  omega
 have eP : P = qcom P Q R * (qreduce P Q R D).p := (Int.mul_tdiv_cancel' dP).symm
 have eQ : Q = qcom P Q R * (qreduce P Q R D).q := (Int.mul_tdiv_cancel' dQ).symm
 have eR : R = qcom P Q R * (qreduce P Q R D).r := (Int.mul_tdiv_cancel' dR).symm
 refine ⟨qcom P Q R, h0, eP, eQ, eR, ?_, ?_, rfl⟩
 ·by_cases h : R < 0
  ·have hc : qcom P Q R < 0 := by
    unfold qcom
    rw [if_pos h]
    omega
   refine Int.not_le.1 fun hle => ?_
   have := Int.mul_nonneg_of_nonpos_of_nonpos (Int.le_of_lt hc) hle
   rw [← eR] at this
   omega
  ·have hc : 0 < qcom P Q R := by
    unfold qcom
    rw [if_neg h]
    omega
   refine Int.not_le.1 fun hle => ?_
   have := Int.mul_nonpos_of_nonneg_of_nonpos (Int.le_of_lt hc) hle
   rw [← eR] at this
   omega
 ·have e := gcd3_mul (qcom P Q R) (qreduce P Q R D).r (qreduce P Q R D).p (qreduce P Q R D).q
  rw [← eP, ← eQ, ← eR, hn] at e
  have : Int.gcd (Int.gcd R P) Q * 1 = Int.gcd (Int.gcd R P) Q * Int.gcd (Int.gcd (qreduce P Q R D).r (qreduce P Q R D).p) (qreduce P Q R D).q := by rw [Nat.mul_one]; exact e
  exact (Nat.eq_of_mul_eq_mul_left hG this).symm

theorem cast_ne {n : Int} (h : n ≠ 0) : (n : Rat) ≠ 0 := by simpa using h
theorem rx_red {P Q R D : Int} (hR : R ≠ 0) : rx (qreduce P Q R D) = (P : Rat) / (R : Rat) := by
 obtain ⟨g, g0, h1, _, h3, h4, _⟩ := qred_parts P Q R D hR
 have k1 := cast_ne g0
 have k2 : ((qreduce P Q R D).r : Rat) ≠ 0 := cast_ne (by omega)
 have e1 : (P : Rat) = (g : Rat) * ((qreduce P Q R D).p : Rat) := by rw [← Rat.intCast_mul, ← h1]
 have e3 : (R : Rat) = (g : Rat) * ((qreduce P Q R D).r : Rat) := by rw [← Rat.intCast_mul, ← h3]
 unfold rx
 rw [e1, e3]
 grind
theorem ry_red {P Q R D : Int} (hR : R ≠ 0) : ry (qreduce P Q R D) = (Q : Rat) / (R : Rat) := by
 obtain ⟨g, g0, _, h1, h3, h4, _⟩ := qred_parts P Q R D hR
 have k1 := cast_ne g0
 have k2 : ((qreduce P Q R D).r : Rat) ≠ 0 := cast_ne (by omega)
 have e1 : (Q : Rat) = (g : Rat) * ((qreduce P Q R D).q : Rat) := by rw [← Rat.intCast_mul, ← h1]
 have e3 : (R : Rat) = (g : Rat) * ((qreduce P Q R D).r : Rat) := by rw [← Rat.intCast_mul, ← h3]
 unfold ry
 rw [e1, e3]
 grind

theorem ry_zero {a : Qn} (h : 0 < a.r) : ry a = 0 ↔ a.q = 0 := by
 unfold ry
 have k : (a.r : Rat) ≠ 0 := cast_ne (by omega)
 constructor
 ·intro e
  have : (a.q : Rat) = 0 := by grind
  exact_mod_cast this
 ·intro e
  rw [e]
  grind
theorem rx_zero {a : Qn} (h : 0 < a.r) : rx a = 0 ↔ a.p = 0 := by
 unfold rx
 have k : (a.r : Rat) ≠ 0 := cast_ne (by omega)
 constructor
 ·intro e
  have : (a.p : Rat) = 0 := by grind
  exact_mod_cast this
 ·intro e
  rw [e]
  grind

/-- A number's form is one. -/
theorem cross {a b c d : Int} (hb : b ≠ 0) (hd : d ≠ 0) (h : (a : Rat) / (b : Rat) = (c : Rat) / (d : Rat)) : a * d = c * b := by
 have h1 := cast_ne hb
 have h2 := cast_ne hd
 have h3 : (a : Rat) * (d : Rat) = c * b := by grind
 rw [← Rat.intCast_mul, ← Rat.intCast_mul] at h3
 exact_mod_cast h3
theorem dvd_of_low {a b : Qn} (ga : Int.gcd (Int.gcd a.r a.p) a.q = 1) (hp : a.p * b.r = b.p * a.r) (hq : a.q * b.r = b.q * a.r) : a.r ∣ b.r := by
 have e := gcd3_mul b.r a.r a.p a.q
 rw [ga, Nat.mul_one] at e
 have h1 : a.r ∣ b.r * a.r := ⟨b.r, by grind⟩
 have h2 : a.r ∣ b.r * a.p := ⟨b.p, by grind⟩
 have h3 : a.r ∣ b.r * a.q := ⟨b.q, by grind⟩
 have h4 := Int.dvd_coe_gcd (Int.dvd_coe_gcd h1 h2) h3
 rw [e] at h4
 exact (Int.dvd_natAbs).1 h4
theorem cn_ext {a b : Qn} (ha : Cn a) (hb : Cn b) (hx : rx a = rx b) (hy : ry a = ry b) (hd : a.q ≠ 0 → b.q ≠ 0 → a.d = b.d) : a = b := by
 have ra := ha.ok.r
 have rb := hb.ok.r
 have h1 := cross (by omega) (by omega) hx
 have h2 := cross (by omega) (by omega) hy
 have k1 := dvd_of_low ha.g h1 h2
 have k2 := dvd_of_low hb.g h1.symm h2.symm
 have hr : a.r = b.r := Int.dvd_antisymm (by omega) (by omega) k1 k2
 have hp : a.p = b.p := by rw [hr] at h1; exact Int.eq_of_mul_eq_mul_right (by omega) h1
 have hq : a.q = b.q := by rw [hr] at h2; exact Int.eq_of_mul_eq_mul_right (by omega) h2
 have hD : a.d = b.d := by
  by_cases h : a.q = 0
  ·rw [ha.ok.q.1 h, hb.ok.q.1 (by omega)]
  ·exact hd h (by omega)
 cases a; cases b
 simp_all

end Go.Proofs.YtjahbjjekednfabDoor

namespace Go.Proofs.YtjahbjjekednfabDoor

/-- A number of the field with this root. -/
structure InF (D : Int) (a : Qn) : Prop where
 cn : Cn a
 i : a.q = 0 ∨ a.d = D

theorem inf_ext {D : Int} {a b : Qn} (ha : InF D a) (hb : InF D b) (hx : rx a = rx b) (hy : ry a = ry b) : a = b := by
 refine cn_ext ha.cn hb.cn hx hy fun h1 h2 => ?_
 have e1 := ha.i
 have e2 := hb.i
 omega
theorem qroot_inf {D : Int} {a b : Qn} (ha : InF D a) (hb : InF D b) : qroot a.d b.d ≠ 0 ∧ (a.q ≠ 0 ∨ b.q ≠ 0 → qroot a.d b.d = D) := by
 have e1 := ha.i
 have e2 := hb.i
 have q1 := ha.cn.ok.q
 have q2 := hb.cn.ok.q
 have d1 := ha.cn.ok.d0
 have d2 := hb.cn.ok.d0
 unfold qroot
 split
 ·omega
 ·split <;> omega
theorem inf_red {D P Q R E : Int} (hR : R ≠ 0) (hok : Qok (qreduce P Q R E)) (h : Q ≠ 0 → E = D) : InF D (qreduce P Q R E) := by
 obtain ⟨g, g0, _, h2, _, _, h5, h6⟩ := qred_parts P Q R E hR
 refine ⟨⟨hok, h5⟩, ?_⟩
 by_cases hq : (qreduce P Q R E).q = 0
 ·exact Or.inl hq
 ·rw [if_neg hq] at h6
  refine Or.inr (h6.trans (h ?_))
  rw [h2]
  exact Int.mul_ne_zero g0 hq

theorem f_add {D : Int} {a b : Qn} (ha : InF D a) (hb : InF D b) : qadd a b = (qaddN a b, 0) ∧ InF D (qaddN a b) ∧ rx (qaddN a b) = rx a + rx b ∧ ry (qaddN a b) = ry a + ry b := by
 obtain ⟨h1, h2⟩ := qroot_inf ha hb
 have e : qadd a b = (qaddN a b, 0) := if_neg h1
 have ok := qadd_ok ha.cn.ok hb.cn.ok (by rw [e])
 rw [e] at ok
 have r1 := ha.cn.ok.r
 have r2 := hb.cn.ok.r
 have hR : a.r * b.r ≠ 0 := Int.mul_ne_zero (by omega) (by omega)
 have k1 : (a.r : Rat) ≠ 0 := cast_ne (by omega)
 have k2 : (b.r : Rat) ≠ 0 := cast_ne (by omega)
 refine ⟨e, inf_red hR ok fun hq => h2 ?_, ?_, ?_⟩
 ·by_cases h : a.q = 0
  ·right
   intro h3
   rw [h, h3] at hq
   simp at hq
  ·exact Or.inl h
 ·unfold qaddN
  rw [rx_red hR]
  unfold rx
  simp only [Rat.intCast_add, Rat.intCast_mul]
  grind
 ·unfold qaddN
  rw [ry_red hR]
  unfold ry
  simp only [Rat.intCast_add, Rat.intCast_mul]
  grind

theorem f_mul {D : Int} {a b : Qn} (ha : InF D a) (hb : InF D b) : qmul a b = (qmulN a b, 0) ∧ InF D (qmulN a b) ∧ rx (qmulN a b) = rx a * rx b + ry a * ry b * (D : Rat) ∧ ry (qmulN a b) = rx a * ry b + ry a * rx b := by
 obtain ⟨h1, h2⟩ := qroot_inf ha hb
 have e : qmul a b = (qmulN a b, 0) := if_neg h1
 have ok := qmul_ok ha.cn.ok hb.cn.ok (by rw [e])
 rw [e] at ok
 have r1 := ha.cn.ok.r
 have r2 := hb.cn.ok.r
 have hR : a.r * b.r ≠ 0 := Int.mul_ne_zero (by omega) (by omega)
 have k1 : (a.r : Rat) ≠ 0 := cast_ne (by omega)
 have k2 : (b.r : Rat) ≠ 0 := cast_ne (by omega)
 have eD : a.q * (b.q * qroot a.d b.d) = a.q * (b.q * D) := by
  by_cases h : a.q = 0
  ·rw [h]; simp
  ·rw [h2 (Or.inl h)]
 refine ⟨e, inf_red hR ok fun hq => h2 ?_, ?_, ?_⟩
 ·by_cases h : a.q = 0
  ·right
   intro h3
   rw [h, h3] at hq
   simp at hq
  ·exact Or.inl h
 ·unfold qmulN
  rw [rx_red hR, eD]
  unfold rx ry
  simp only [Rat.intCast_add, Rat.intCast_mul]
  grind
 ·unfold qmulN
  rw [ry_red hR]
  unfold rx ry
  simp only [Rat.intCast_add, Rat.intCast_mul]
  grind

theorem f_neg {D : Int} {a : Qn} (ha : InF D a) : InF D (qneg a) ∧ rx (qneg a) = - rx a ∧ ry (qneg a) = - ry a := by
 refine ⟨⟨⟨ha.cn.ok.neg, ?_⟩, ?_⟩, ?_, ?_⟩
 ·have := ha.cn.g
  unfold qneg Int.gcd at *
  simpa [Int.natAbs_neg] using this
 ·have := ha.i
  unfold qneg
  simp only
  omega
 ·unfold rx qneg
  simp only [Rat.intCast_neg]
  grind
 ·unfold ry qneg
  simp only [Rat.intCast_neg]
  grind

theorem f_inv {D : Int} {a : Qn} (ha : InF D a) (hz : ¬ (a.p = 0 ∧ a.q = 0)) : InF D (qinv a) ∧ rx a * rx (qinv a) + ry a * ry (qinv a) * (D : Rat) = 1 ∧ rx a * ry (qinv a) + ry a * rx (qinv a) = 0 := by
 have r1 := ha.cn.ok.r
 have k1 : (a.r : Rat) ≠ 0 := cast_ne (by omega)
 have hN := norm_ne ha.cn.ok hz
 have kN := cast_ne hN
 have eD : a.q * (-a.q * a.d) = a.q * (-a.q * D) := by
  rcases ha.i with h | h
  ·rw [h]; simp
  ·rw [h]
 have kN2 := kN
 rw [eD] at kN2
 simp only [Rat.intCast_add, Rat.intCast_mul, Rat.intCast_neg] at kN2
 refine ⟨inf_red hN (qinv_ok ha.cn.ok hz) fun hq => ?_, ?_, ?_⟩
 ·rcases ha.i with h | h
  ·rw [h] at hq
   simp at hq
  ·exact h
 ·unfold qinv
  rw [rx_red hN, ry_red hN, eD]
  unfold rx ry
  simp only [Rat.intCast_add, Rat.intCast_mul, Rat.intCast_neg]
  grind
 ·unfold qinv
  rw [rx_red hN, ry_red hN, eD]
  unfold rx ry
  simp only [Rat.intCast_add, Rat.intCast_mul, Rat.intCast_neg]
  grind

theorem cn_zero : Cn ⟨0, 0, 1, 1⟩ := ⟨⟨by decide, by decide, by decide, by decide, sqfree_one⟩, by decide⟩
theorem cn_one : Cn ⟨1, 0, 1, 1⟩ := ⟨⟨by decide, by decide, by decide, by decide, sqfree_one⟩, by decide⟩
theorem inf_zero (D : Int) : InF D ⟨0, 0, 1, 1⟩ := ⟨cn_zero, Or.inl rfl⟩
theorem inf_one (D : Int) : InF D ⟨1, 0, 1, 1⟩ := ⟨cn_one, Or.inl rfl⟩
theorem inf_own {a : Qn} (h : Cn a) : InF a.d a := ⟨h, Or.inr rfl⟩
theorem rx_z : rx ⟨0, 0, 1, 1⟩ = 0 := by unfold rx; grind
theorem ry_z : ry ⟨0, 0, 1, 1⟩ = 0 := by unfold ry; grind
theorem rx_o : rx ⟨1, 0, 1, 1⟩ = 1 := by unfold rx; grind
theorem ry_o : ry ⟨1, 0, 1, 1⟩ = 0 := by unfold ry; grind

end Go.Proofs.YtjahbjjekednfabDoor

namespace Go.Proofs.YtjahbjjekednfabDoor

def Kc (r : Rs) : Prop := r.e = 0 → Cn r.v
theorem one_gcd {a : Qn} (h : a.r = 1) : Int.gcd (Int.gcd a.r a.p) a.q = 1 := by rw [h]; simp [Int.gcd]
theorem comb_cn {c : Int} {a b : Qn} (ha : Cn a) (hb : Cn b) (h : (comb c a b).2 = 0) : Cn (comb c a b).1 := by
 refine ⟨comb_ok ha.ok hb.ok h, ?_⟩
 have r1 := ha.ok.r
 have r2 := hb.ok.r
 have hR : a.r * b.r ≠ 0 := Int.mul_ne_zero (by omega) (by omega)
 have hadd : ∀ b' : Qn, b'.r = b.r → (qadd a b').2 = 0 → Int.gcd (Int.gcd (qadd a b').1.r (qadd a b').1.p) (qadd a b').1.q = 1 := by
  intro b' hb' h
  unfold qadd at *
  split at h
  ·exact absurd h (by simp)
  ·rename_i hn
   rw [if_neg hn]
   obtain ⟨g, _, _, _, _, _, h5, _⟩ := qred_parts (a.p * b'.r + b'.p * a.r) (a.q * b'.r + b'.q * a.r) (a.r * b'.r) (qroot a.d b'.d) (by rw [hb']; exact hR)
   exact h5
 have hmul : ∀ b' : Qn, b'.r ≠ 0 → (qmul a b').2 = 0 → Int.gcd (Int.gcd (qmul a b').1.r (qmul a b').1.p) (qmul a b').1.q = 1 := by
  intro b' hb' h
  unfold qmul at *
  split at h
  ·exact absurd h (by simp)
  ·rename_i hn
   rw [if_neg hn]
   obtain ⟨g, _, _, _, _, _, h5, _⟩ := qred_parts (a.p * b'.p + a.q * (b'.q * qroot a.d b'.d)) (a.p * b'.q + a.q * b'.p) (a.r * b'.r) (qroot a.d b'.d) (Int.mul_ne_zero (by omega) hb')
   exact h5
 unfold comb at *
 by_cases h1 : c = 43
 ·rw [if_pos h1] at h ⊢
  exact hadd b rfl h
 ·rw [if_neg h1] at h ⊢
  by_cases h2 : c = 45
  ·rw [if_pos h2] at h ⊢
   exact hadd (qneg b) rfl h
  ·rw [if_neg h2] at h ⊢
   by_cases h3 : c = 42
   ·rw [if_pos h3] at h ⊢
    exact hmul b (by omega) h
   ·rw [if_neg h3] at h ⊢
    unfold qdiv at *
    by_cases hz : b.p = 0 ∧ b.q = 0
    ·rw [if_pos hz] at h
     exact absurd h (by simp)
    ·rw [if_neg hz] at h ⊢
     have := (qinv_ok hb.ok hz).r
     exact hmul (qinv b) (by omega) h
theorem opR_kc {c : Int} {p : Nat} {a b : Rs} (ha : Kc a) (hb : Kc b) : Kc (opR c p a b) := by
 unfold opR Kc at *
 by_cases e1 : a.e ≠ 0
 ·rw [if_pos e1]; exact ha
 ·rw [if_neg e1]
  by_cases e2 : b.e ≠ 0
  ·rw [if_pos e2]; intro h; exact absurd h e2
  ·rw [if_neg e2]; intro h; exact comb_cn (ha (by omega)) (hb (by omega)) h
theorem chT_kc {F : List Int → Nat → Rs → Prop} {ops : Int → Prop} (hF : ∀ t p r, F t p r → Kc r) : ∀ (m : Nat) (acc : Rs) (p : Nat) (s : List Int) (r : Rs), Kc acc → ChT F ops m acc p s r → Kc r
 | 0, acc, p, s, r, ha, h => by
  obtain ⟨_, rfl⟩ := h
  exact ha
 | m + 1, acc, p, s, r, ha, h => by
  obtain ⟨c, t, s', rt, _, _, h2, h3⟩ := h
  exact chT_kc hF m _ _ _ _ (opR_kc ha (hF _ _ _ h2)) h3
theorem ch_kc {F : List Int → Nat → Rs → Prop} {ops : Int → Prop} (hF : ∀ t p r, F t p r → Kc r) : ∀ t p r, Ch F ops t p r → Kc r := by
 rintro t p r ⟨m, f, s', rf, rfl, h1, h2⟩
 exact chT_kc hF m _ _ _ _ (hF _ _ _ h1) h2
theorem negs_kc {r : Rs} (j : Nat) (h : Kc r) : Kc (negs j r) := by
 unfold negs
 split
 ·intro e
  exact (f_neg (inf_own (h e))).1.cn
 ·exact h
theorem atom_kc {s : List Int} {r : Rs} (h : Atom s r) : Kc r := by
 intro e
 refine ⟨(atom_ok h).q e, one_gcd ?_⟩
 rcases h with ⟨_, _, _, rfl⟩ | ⟨t, _, _, _, _, rfl⟩
 ·rfl
 ·show (qsqrt (decN t).toNat).r = 1
  unfold qsqrt
  split
  ·rfl
  ·split <;> rfl
theorem fc_kc : ∀ n t p r, Fc n t p r → Kc r := by
 intro n
 induction n with
 | zero =>
  intro t p r h
  obtain ⟨m, core, r0, h1, h2, h3⟩ := fc_core.1 h
  rcases h2 with h2 | ⟨k, t, hk, _⟩
  ·rw [h3]; exact negs_kc m (atom_kc h2)
  ·omega
 | succ n ih =>
  intro t p r h
  obtain ⟨m, core, r0, h1, h2, h3⟩ := fc_core.1 h
  rw [h3]
  refine negs_kc m ?_
  rcases h2 with h2 | ⟨k, t, hk, h4, h5⟩
  ·exact atom_kc h2
  ·obtain rfl : k = n := by omega
   exact ch_kc (ch_kc ih) _ _ _ h5
theorem sm_kc (n : Nat) : ∀ t p r, Sm n t p r → Kc r := ch_kc (ch_kc (fc_kc n))
theorem rk_cn {s : ByteArray} {r : Rs} (h : Rk s r) (he : r.e = 0) : Cn r.v := by
 obtain ⟨g, _⟩ := rk_read h he
 obtain ⟨r', h1, h2, h3⟩ := g 0
 have := sm_kc 8 _ _ _ h1 h3
 rw [h2] at this
 exact this

end Go.Proofs.YtjahbjjekednfabDoor

namespace Go.Proofs.YtjahbjjekednfabDoor

theorem qdiv_of {a b : Qn} (hz : ¬ (b.p = 0 ∧ b.q = 0)) : comb 47 a b = qmul a (qinv b) := by
 show qdiv a b = _
 unfold qdiv
 rw [if_neg hz]

end Go.Proofs.YtjahbjjekednfabDoor

namespace Go.Proofs.YtjahbjjekednfabDoor

theorem two_fld {a b : Qn} (ha : Cn a) (hb : Cn b) (h : qroot a.d b.d ≠ 0) : ∃ D, InF D a ∧ InF D b := by
 have q1 := ha.ok.q
 have q2 := hb.ok.q
 unfold qroot at h
 split at h
 ·rename_i h1
  rcases h1 with h1 | h1
  ·exact ⟨b.d, ⟨ha, Or.inl (q1.2 h1)⟩, inf_own hb⟩
  ·exact ⟨b.d, ⟨ha, Or.inr h1⟩, inf_own hb⟩
 ·split at h
  ·rename_i h1
   exact ⟨a.d, inf_own ha, ⟨hb, Or.inl (q2.2 h1)⟩⟩
  ·omega

end Go.Proofs.YtjahbjjekednfabDoor

namespace Go.Proofs.YtjahbjjekednfabDoor

def isq : Nat → Nat
 | 0 => 0
 | n + 1 => if (isq n + 1) * (isq n + 1) ≤ n + 1 then isq n + 1 else isq n
theorem isq_ok : ∀ n, isq n * isq n ≤ n ∧ n < (isq n + 1) * (isq n + 1)
 | 0 => ⟨by decide, by decide⟩
 | n + 1 => by
  obtain ⟨h1, h2⟩ := isq_ok n
  unfold isq
  generalize isq n = k at *
  have e : (k + 1 + 1) * (k + 1 + 1) = (k + 1) * (k + 1) + 2 * k + 3 := by grind
  split
  ·omega
  ·omega

/-- A fraction below the root, as near as N tells. -/
def sg (N : Nat) (d : Int) : Rat := (isq (d.toNat * (N * N)) : Rat) * (N : Rat)⁻¹

theorem mul_le {a b c : Rat} (h : a ≤ b) (hc : 0 ≤ c) : a * c ≤ b * c := Rat.mul_le_mul_of_nonneg_right h hc
theorem sg_ok {N : Nat} {d : Int} (hN : 1 ≤ N) (hd : 1 ≤ d) : 0 ≤ sg N d ∧ sg N d ≤ d ∧ sg N d * sg N d ≤ d ∧ (d : Rat) ≤ sg N d * sg N d + (2 * d + 1) * (N : Rat)⁻¹ := by
 obtain ⟨h1, h2⟩ := isq_ok (d.toNat * (N * N))
 have hk : isq (d.toNat * (N * N)) ≤ d.toNat * N := by
  refine Nat.not_lt.1 fun h => ?_
  have g1 := Nat.mul_lt_mul_of_lt_of_lt h h
  have g2 : d.toNat * (N * N) ≤ d.toNat * N * (d.toNat * N) := by
   have e : d.toNat * N * (d.toNat * N) = d.toNat * (d.toNat * (N * N)) := by grind
   rw [e]
   exact Nat.le_mul_of_pos_left _ (by omega)
  omega
 unfold sg
 generalize isq (d.toNat * (N * N)) = k at *
 have hn : (0 : Rat) < (N : Rat) := Rat.natCast_pos.2 (by omega)
 have hn1 : (1 : Rat) ≤ (N : Rat) := by exact_mod_cast hN
 have hi := Rat.inv_pos.2 hn
 have e : (N : Rat) * (N : Rat)⁻¹ = 1 := by grind
 have hd0 : (1 : Rat) ≤ (d : Rat) := by exact_mod_cast hd
 have hD : (d : Rat) = (d.toNat : Rat) := by
  have : ((d.toNat : Int) : Rat) = (d : Rat) := by rw [Int.toNat_of_nonneg (by omega)]
  rw [← this]; rfl
 have c1 : (k : Rat) * (k : Rat) ≤ (d : Rat) * ((N : Rat) * (N : Rat)) := by rw [hD]; exact_mod_cast h1
 have c2 : (d : Rat) * ((N : Rat) * (N : Rat)) ≤ ((k : Rat) + 1) * ((k : Rat) + 1) := by rw [hD]; exact_mod_cast Nat.le_of_lt h2
 have c3 : (k : Rat) ≤ (d : Rat) * (N : Rat) := by rw [hD]; exact_mod_cast hk
 have k0 : (0 : Rat) ≤ (k : Rat) := Rat.natCast_nonneg
 generalize (N : Rat)⁻¹ = i at *
 generalize (N : Rat) = n at *
 generalize (k : Rat) = q at *
 generalize (d : Rat) = D at *
 clear h1 h2 hk hN hd hD
 have i0 : 0 ≤ i := Rat.le_of_lt hi
 have r1 : D * n * i = D := by grind
 have r2 : D * (n * n) * (i * i) = D := by grind
 have ii : 0 ≤ i * i := Rat.mul_nonneg i0 i0
 have i1 : i ≤ 1 := by
  have := mul_le hn1 i0
  rw [e] at this
  grind
 have s1 := mul_le c3 i0
 have s2 := mul_le c1 ii
 have s3 := mul_le c2 ii
 have s4 := mul_le i1 i0
 rw [r1] at s1
 rw [r2] at s2 s3
 have s5 : 0 ≤ q * i := Rat.mul_nonneg k0 i0
 have s6 : q * i ≤ D := by grind
 have s7 := mul_le s6 i0
 refine ⟨s5, s6, ?_, ?_⟩
 ·grind
 ·grind

theorem near {d : Int} (hd : 1 ≤ d) {ε : Rat} (hε : 0 < ε) : ∃ N0, ∀ N, N0 ≤ N → 0 ≤ sg N d ∧ sg N d ≤ d ∧ sg N d * sg N d ≤ d ∧ (d : Rat) ≤ sg N d * sg N d + ε := by
 refine ⟨((2 * (d : Rat) + 1) * ε⁻¹).ceil.toNat + 1, fun N hN => ?_⟩
 obtain ⟨h1, h2, h3, h4⟩ := sg_ok (N := N) (d := d) (by omega) hd
 refine ⟨h1, h2, h3, ?_⟩
 have c1 : (2 * (d : Rat) + 1) * ε⁻¹ ≤ (N : Rat) := by
  have g1 := Rat.le_ceil (x := (2 * (d : Rat) + 1) * ε⁻¹)
  have g2 : (((2 * (d : Rat) + 1) * ε⁻¹).ceil : Rat) ≤ ((N : Int) : Rat) := Rat.intCast_le_intCast.2 (by omega)
  exact Rat.le_trans g1 g2
 have hn : (0 : Rat) < (N : Rat) := Rat.natCast_pos.2 (by omega)
 have hi := Rat.inv_pos.2 hn
 have e : (N : Rat) * (N : Rat)⁻¹ = 1 := by grind
 have e2 : ε⁻¹ * ε = 1 := by grind
 generalize (N : Rat)⁻¹ = i at *
 generalize (N : Rat) = n at *
 generalize ε⁻¹ = j at *
 have g := mul_le (mul_le c1 (Rat.le_of_lt hε)) (Rat.le_of_lt hi)
 have r1 : (2 * (d : Rat) + 1) * j * ε * i = (2 * (d : Rat) + 1) * i := by grind
 have r2 : n * ε * i = ε := by grind
 rw [r1, r2] at g
 grind

/-- In the end above a bound that is above 0. -/
def EvP (f : Nat → Rat) : Prop := ∃ δ, 0 < δ ∧ ∃ N0, ∀ N, N0 ≤ N → δ ≤ f N
theorem EvP.le {f g : Nat → Rat} (h : EvP f) (k : ∃ N0, ∀ N, N0 ≤ N → f N ≤ g N) : EvP g := by
 obtain ⟨δ, h1, n1, h2⟩ := h
 obtain ⟨n2, h3⟩ := k
 exact ⟨δ, h1, max n1 n2, fun N hN => Rat.le_trans (h2 N (by omega)) (h3 N (by omega))⟩
theorem EvP.congr {f g : Nat → Rat} (h : EvP f) (k : ∀ N, f N = g N) : EvP g := h.le ⟨0, fun N _ => by rw [k N]; exact Rat.le_refl⟩
theorem EvP.add {f g : Nat → Rat} (h : EvP f) (k : EvP g) : EvP (fun N => f N + g N) := by
 obtain ⟨δ, h1, n1, h2⟩ := h
 obtain ⟨ε, k1, n2, k2⟩ := k
 refine ⟨δ + ε, by grind, max n1 n2, fun N hN => ?_⟩
 have a := h2 N (by omega)
 have b := k2 N (by omega)
 grind
theorem EvP.not {f : Nat → Rat} (h : EvP f) (k : EvP (fun N => - f N)) : False := by
 obtain ⟨δ, h1, n1, h2⟩ := h
 obtain ⟨ε, k1, n2, k2⟩ := k
 have a := h2 (max n1 n2) (by omega)
 have b := k2 (max n1 n2) (by omega)
 grind
theorem EvP.scale {f : Nat → Rat} (c : Rat) (hc : 0 < c) (h : EvP f) : EvP (fun N => c * f N) := by
 obtain ⟨δ, h1, n1, h2⟩ := h
 exact ⟨c * δ, Rat.mul_pos hc h1, n1, fun N hN => Rat.mul_le_mul_of_nonneg_left (h2 N hN) (Rat.le_of_lt hc)⟩
theorem EvP.const {c : Rat} (hc : 0 < c) : EvP (fun _ => c) := ⟨c, hc, 0, fun _ _ => Rat.le_refl⟩
theorem EvP.quot {f g : Nat → Rat} {M : Rat} (h : EvP (fun N => f N * g N)) (k : ∃ N0, ∀ N, N0 ≤ N → 0 ≤ g N ∧ g N ≤ M) : EvP f := by
 obtain ⟨δ, h1, n1, h2⟩ := h
 obtain ⟨n2, k2⟩ := k
 have key : ∀ N, n1 ≤ N → n2 ≤ N → 0 < M ∧ δ ≤ f N * M := by
  intro N g1 g2
  have a : δ ≤ f N * g N := h2 N g1
  obtain ⟨b, c⟩ := k2 N g2
  have hg : 0 < g N := by
   refine Rat.not_le.1 fun hle => ?_
   have : g N = 0 := by grind
   rw [this] at a
   grind
  have hf : 0 ≤ f N := by
   refine Rat.not_lt.1 fun hlt => ?_
   have := Rat.mul_pos (show 0 < - f N by grind) hg
   grind
  have := Rat.mul_le_mul_of_nonneg_left c hf
  exact ⟨by grind, by grind⟩
 have hM := (key (max n1 n2) (by omega) (by omega)).1
 have hi := Rat.inv_pos.2 hM
 have e : M * M⁻¹ = 1 := by grind
 refine ⟨δ * M⁻¹, Rat.mul_pos h1 hi, max n1 n2, fun N hN => ?_⟩
 have a := mul_le (key N (by omega) (by omega)).2 (Rat.le_of_lt hi)
 have r : f N * M * M⁻¹ = f N := by grind
 rw [r] at a
 exact a

end Go.Proofs.YtjahbjjekednfabDoor

namespace Go.Proofs.YtjahbjjekednfabDoor

def xv (p q d : Int) (N : Nat) : Rat := (p : Rat) + (q : Rat) * sg N d

theorem cast_pos {n : Int} (h : 0 < n) : (1 : Rat) ≤ (n : Rat) := by
 have : ((1 : Int) : Rat) ≤ (n : Rat) := Rat.intCast_le_intCast.2 (by omega)
 simpa using this
theorem cast_nn {n : Int} (h : 0 ≤ n) : (0 : Rat) ≤ (n : Rat) := Rat.intCast_nonneg.2 h

/-- What the sign of p + q√d says. -/
theorem rsg_pos {p q d : Int} (hd : 1 ≤ d) (hi : q = 0 ∨ p * p ≠ q * q * d) (h : rsg p q d = 1) : EvP (xv p q d) := by
 have D1 := cast_pos (n := d) (by omega)
 unfold rsg rsS at h
 rcases sign3 p with ⟨s1, h1⟩ | ⟨s1, h1⟩ | ⟨s1, h1⟩ <;> rcases sign3 q with ⟨s2, h2⟩ | ⟨s2, h2⟩ | ⟨s2, h2⟩ <;> rw [s1, s2] at h
 ·simp at h
 ·simp at h
 ·have h3 : ¬ 0 < (p * p - q * q * d).sign := by
   intro h3
   rw [if_neg (by decide), if_pos h3] at h
   omega
  have h4 : p * p < q * q * d := by
   rcases sign3 (p * p - q * q * d) with ⟨s, k⟩ | ⟨s, k⟩ | ⟨s, k⟩ <;> omega
  have c1 : (1 : Rat) ≤ (q : Rat) * q * d - p * p := by
   have := cast_pos (n := q * q * d - p * p) (by omega)
   simpa [Rat.intCast_sub, Rat.intCast_mul] using this
  have cp : (p : Rat) ≤ -1 := by
   have := cast_pos (n := -p) (by omega)
   rw [Rat.intCast_neg] at this
   grind
  have cq := cast_pos h2
  have qq : (0 : Rat) < 2 * (q * q) := by have := Rat.mul_pos (show (0 : Rat) < q by grind) (show (0 : Rat) < q by grind); grind
  obtain ⟨N0, hN⟩ := near hd (Rat.inv_pos.2 qq)
  have e : (q : Rat) * q * (2 * ((q : Rat) * q))⁻¹ = 1 / 2 := by grind
  refine EvP.quot (g := fun N => (q : Rat) * sg N d - p) (M := (q : Rat) * d - p) ?_ ⟨N0, fun N h => ?_⟩
  ·refine (EvP.const (c := 1 / 2) (by grind)).le ⟨N0, fun N h => ?_⟩
   obtain ⟨k1, k2, k3, k4⟩ := hN N h
   have g := Rat.mul_le_mul_of_nonneg_left k4 (show (0 : Rat) ≤ (q : Rat) * q by grind)
   have r1 : xv p q d N * ((q : Rat) * sg N d - p) = (q : Rat) * q * (sg N d * sg N d) - p * p := by unfold xv; grind
   have r2 : (q : Rat) * q * (sg N d * sg N d + (2 * ((q : Rat) * q))⁻¹) = (q : Rat) * q * (sg N d * sg N d) + 1 / 2 := by grind
   rw [r2] at g
   show (1 : Rat) / 2 ≤ xv p q d N * ((q : Rat) * sg N d - p)
   rw [r1]
   grind
  ·obtain ⟨k1, k2, k3, k4⟩ := hN N h
   have a := Rat.mul_nonneg (show (0 : Rat) ≤ q by grind) k1
   have b := Rat.mul_le_mul_of_nonneg_left k2 (show (0 : Rat) ≤ q by grind)
   exact ⟨by grind, by grind⟩
 ·simp at h
 ·simp at h
 ·subst h1
  have cq := cast_pos h2
  obtain ⟨N0, hN⟩ := near hd (show (0 : Rat) < 1 / 2 by grind)
  refine EvP.quot (g := fun N => sg N d) (M := d) ?_ ⟨N0, fun N h => ⟨(hN N h).1, (hN N h).2.1⟩⟩
  refine (EvP.const (c := 1 / 2) (by grind)).le ⟨N0, fun N h => ?_⟩
  obtain ⟨k1, k2, k3, k4⟩ := hN N h
  have g := mul_le cq (Rat.mul_nonneg k1 k1)
  have r1 : xv 0 q d N * sg N d = (q : Rat) * (sg N d * sg N d) := by unfold xv; grind
  show (1 : Rat) / 2 ≤ xv 0 q d N * sg N d
  rw [r1]
  grind
 ·have h3 : 0 < (p * p - q * q * d).sign := by
   refine Int.not_le.1 fun h3 => ?_
   rw [if_neg (by decide), if_neg (by omega)] at h
   omega
  have h4 : q * q * d < p * p := by
   rcases sign3 (p * p - q * q * d) with ⟨s, k⟩ | ⟨s, k⟩ | ⟨s, k⟩ <;> omega
  have c1 : (1 : Rat) ≤ (p : Rat) * p - q * q * d := by
   have := cast_pos (n := p * p - q * q * d) (by omega)
   simpa [Rat.intCast_sub, Rat.intCast_mul] using this
  have cq : (q : Rat) ≤ -1 := by
   have := cast_pos (n := -q) (by omega)
   rw [Rat.intCast_neg] at this
   grind
  have cp := cast_pos h1
  have qq : (0 : Rat) ≤ (q : Rat) * q := by have := Rat.mul_nonneg (show (0 : Rat) ≤ -q by grind) (show (0 : Rat) ≤ -q by grind); grind
  obtain ⟨N0, hN⟩ := near hd (show (0 : Rat) < 1 / 2 by grind)
  refine EvP.quot (g := fun N => (p : Rat) - q * sg N d) (M := (p : Rat) - q * d) ?_ ⟨N0, fun N h => ?_⟩
  ·refine (EvP.const (c := 1) (by grind)).le ⟨N0, fun N h => ?_⟩
   obtain ⟨k1, k2, k3, k4⟩ := hN N h
   have g := Rat.mul_le_mul_of_nonneg_left k3 qq
   have r1 : xv p q d N * ((p : Rat) - q * sg N d) = (p : Rat) * p - (q : Rat) * q * (sg N d * sg N d) := by unfold xv; grind
   show (1 : Rat) ≤ xv p q d N * ((p : Rat) - q * sg N d)
   rw [r1]
   grind
  ·obtain ⟨k1, k2, k3, k4⟩ := hN N h
   have a := Rat.mul_nonneg (show (0 : Rat) ≤ -q by grind) k1
   have b := Rat.mul_le_mul_of_nonneg_left k2 (show (0 : Rat) ≤ -q by grind)
   exact ⟨by grind, by grind⟩
 ·subst h2
  have cp := cast_pos h1
  refine (EvP.const (c := 1) (by grind)).le ⟨0, fun N h => ?_⟩
  unfold xv
  simp only [Rat.intCast_zero]
  grind
 ·have cp := cast_pos h1
  have cq := cast_pos h2
  obtain ⟨N0, hN⟩ := near hd (show (0 : Rat) < 1 / 2 by grind)
  refine (EvP.const (c := 1) (by grind)).le ⟨N0, fun N h => ?_⟩
  have a := Rat.mul_nonneg (show (0 : Rat) ≤ q by grind) (hN N h).1
  unfold xv
  grind

theorem rsg_neg {p q d : Int} (hi : q = 0 ∨ p * p ≠ q * q * d) : rsg (-p) (-q) d = - rsg p q d := by
 unfold rsg rsS
 have e : (-p) * (-p) - (-q) * (-q) * d = p * p - q * q * d := by grind
 rw [e, Int.sign_neg, Int.sign_neg]
 rcases sign3 p with ⟨s1, h1⟩ | ⟨s1, h1⟩ | ⟨s1, h1⟩ <;> rcases sign3 q with ⟨s2, h2⟩ | ⟨s2, h2⟩ | ⟨s2, h2⟩ <;> rcases sign3 (p * p - q * q * d) with ⟨s3, h3⟩ | ⟨s3, h3⟩ | ⟨s3, h3⟩ <;> first | omega | (rw [s1, s2, s3]; decide)
theorem rsg_val (p q d : Int) : rsg p q d = -1 ∨ rsg p q d = 0 ∨ rsg p q d = 1 := by
 unfold rsg rsS
 rcases sign3 p with ⟨s1, h1⟩ | ⟨s1, h1⟩ | ⟨s1, h1⟩ <;> rcases sign3 q with ⟨s2, h2⟩ | ⟨s2, h2⟩ | ⟨s2, h2⟩ <;> rcases sign3 (p * p - q * q * d) with ⟨s3, h3⟩ | ⟨s3, h3⟩ | ⟨s3, h3⟩ <;> rw [s1, s2, s3] <;> decide
theorem rsg_nil {p q d : Int} (h : rsg p q d = 0) : p = 0 ∧ q = 0 := by
 unfold rsg rsS at h
 rcases sign3 p with ⟨s1, h1⟩ | ⟨s1, h1⟩ | ⟨s1, h1⟩ <;> rcases sign3 q with ⟨s2, h2⟩ | ⟨s2, h2⟩ | ⟨s2, h2⟩ <;> rcases sign3 (p * p - q * q * d) with ⟨s3, h3⟩ | ⟨s3, h3⟩ | ⟨s3, h3⟩ <;> rw [s1, s2, s3] at h <;> first | exact ⟨h1, h2⟩ | exact absurd h (by decide)
theorem rsg_min {p q d : Int} (hd : 1 ≤ d) (hi : q = 0 ∨ p * p ≠ q * q * d) (h : rsg p q d = -1) : EvP (fun N => - xv p q d N) := by
 have := rsg_pos (p := -p) (q := -q) hd (by rcases hi with h | h; exact Or.inl (by omega); exact Or.inr (by rw [Int.neg_mul_neg, Int.neg_mul_neg]; exact h)) (by rw [rsg_neg hi, h]; rfl)
 refine this.congr fun N => ?_
 unfold xv
 simp only [Rat.intCast_neg]
 grind

end Go.Proofs.YtjahbjjekednfabDoor

namespace Go.Proofs.YtjahbjjekednfabDoor

def vl (a : Qn) (N : Nat) : Rat := rx a + ry a * sg N a.d

end Go.Proofs.YtjahbjjekednfabDoor
