import Derived.Test.YtjahbjjekednfabDoorMath
namespace Go.Proofs.YtjahbjjekednfabDoor

/-- x and y solve ax + by = c, with y = 0 if b is, else the least x from 0 on. -/
structure Sol (a b c x y : Int) : Prop where
 eq : a * x + b * y = c
 z : b = 0 → y = 0
 r : b ≠ 0 → 0 ≤ x ∧ x * (Int.gcd a b : Int) < b.natAbs

theorem Sol.uni {a b c x y x' y' : Int} (h : Sol a b c x y) (h' : Sol a b c x' y') (h0 : ¬ (a = 0 ∧ b = 0)) : x = x' ∧ y = y' := by
 by_cases hb : b = 0
 ·have e1 := h.eq
  have e2 := h'.eq
  subst hb
  have y1 := h.z rfl
  have y2 := h'.z rfl
  have ha : a ≠ 0 := fun e => h0 ⟨e, rfl⟩
  refine ⟨Int.eq_of_mul_eq_mul_left ha (by omega), by omega⟩
 ·obtain ⟨r1, r2⟩ := h.r hb
  obtain ⟨r3, r4⟩ := h'.r hb
  have hg : Int.gcd a b ≠ 0 := fun e => hb (Int.gcd_eq_zero_iff.1 e).2
  obtain ⟨k, hk⟩ := Int.gcd_dvd_left a b
  obtain ⟨l, hl⟩ := Int.gcd_dvd_right a b
  have hc : Int.gcd l k = 1 := by
   have := Int.gcd_mul_left (Int.gcd a b) k l
   rw [← hk, ← hl, Int.natAbs_natCast] at this
   rw [Int.gcd_comm]
   exact Nat.eq_of_mul_eq_mul_left (Nat.pos_of_ne_zero hg) (by omega)
  have e : k * (x - x') = l * (y' - y) := by
   have e1 := h.eq
   have e2 := h'.eq
   have h3 : (Int.gcd a b : Int) * (k * (x - x')) = (Int.gcd a b : Int) * (l * (y' - y)) := by
    rw [← Int.mul_assoc, ← Int.mul_assoc, ← hk, ← hl]
    grind
   exact Int.eq_of_mul_eq_mul_left (by omega) h3
  have hd : l ∣ x - x' := by
   have h3 : l ∣ k * (x - x') := ⟨_, e⟩
   have h4 : l.natAbs ∣ k.natAbs * (x - x').natAbs := by
    rw [← Int.natAbs_mul]; exact Int.natAbs_dvd_natAbs.2 h3
   exact Int.natAbs_dvd_natAbs.1 ((Nat.Coprime.dvd_of_dvd_mul_left (show Nat.Coprime l.natAbs k.natAbs from hc)) h4)
  have hn : (b.natAbs : Int) = (Int.gcd a b : Int) * l.natAbs := by
   generalize Int.gcd a b = g at *
   rw [hl, Int.natAbs_mul, Int.natAbs_natCast, Int.natCast_mul]
  have hx : x = x' := by
   rw [hn] at r2 r4
   have g0 : (0 : Int) < (Int.gcd a b : Int) := by omega
   rw [Int.mul_comm x, ] at r2
   rw [Int.mul_comm x'] at r4
   have b1 := Int.lt_of_mul_lt_mul_left r2 (by omega)
   have b2 := Int.lt_of_mul_lt_mul_left r4 (by omega)
   have : (x - x').natAbs = 0 := Nat.eq_zero_of_dvd_of_lt (Int.natAbs_dvd_natAbs.2 hd) (by omega)
   omega
  refine ⟨hx, ?_⟩
  have e1 := h.eq
  have e2 := h'.eq
  rw [hx] at e1
  exact Int.eq_of_mul_eq_mul_left hb (by omega)
theorem Sol.make {a b c x : Int} (hb : b ≠ 0) (hd : b ∣ c - a * x) (h0 : 0 ≤ x) (h1 : x * (Int.gcd a b : Int) < b.natAbs) : Sol a b c x ((c - a * x).tdiv b) :=
 ⟨by rw [Int.mul_tdiv_cancel' hd]; omega, fun e => absurd e hb, fun _ => ⟨h0, h1⟩⟩

/-- Of one x all: the one within a step. -/
theorem line_mod {a b c x n : Int} (hb : b ≠ 0) (hd : b ∣ c - a * x) (hn : n * (Int.gcd a b : Int) = b.natAbs) : 0 < n ∧ b ∣ c - a * (x % n) ∧ 0 ≤ x % n ∧ (x % n) * (Int.gcd a b : Int) < b.natAbs := by
 have hg : (0 : Int) < (Int.gcd a b : Int) := by
  have : Int.gcd a b ≠ 0 := fun e => hb (Int.gcd_eq_zero_iff.1 e).2
  omega
 have hn0 : 0 < n := by
  refine Int.pos_of_mul_pos_left ?_ hg
  omega
 have m0 := Int.emod_nonneg x (show n ≠ 0 by omega)
 have m1 := Int.emod_lt_of_pos x hn0
 refine ⟨hn0, ?_, m0, ?_⟩
 ·have e : c - a * (x % n) = (c - a * x) + a * n * (x / n) := by
   have := Int.mul_ediv_add_emod x n
   grind
  rw [e]
  refine Int.dvd_add hd (Int.dvd_trans ?_ (Int.dvd_mul_right _ _))
  obtain ⟨k, hk⟩ := Int.gcd_dvd_left a b
  have h2 : a * n = b.natAbs * k := by
   rw [← hn]
   generalize Int.gcd a b = g at *
   rw [hk]; grind
  rw [h2]
  exact Int.dvd_trans (Int.dvd_natAbs.2 (Int.dvd_refl b)) (Int.dvd_mul_right _ _)
 ·rw [← hn]
  exact Int.mul_lt_mul_of_pos_right m1 hg

/-- The program's way: g is the greatest common divisor or its opposite. -/
theorem line_prog {a b c g x k : Int} (hg : g.natAbs = Int.gcd a b) (he : g = a * x + b * k) (hd : c.tmod g = 0) :
  (b = 0 → Sol a b c (x * c.tdiv g) 0) ∧ (b ≠ 0 → b.tdiv g ≠ 0 ∧ Sol a b c ((x * c.tdiv g) % (b.tdiv g).natAbs) ((c - a * ((x * c.tdiv g) % (b.tdiv g).natAbs)).tdiv b)) := by
 have hc : c = g * c.tdiv g := (Int.mul_tdiv_cancel' (Int.dvd_of_tmod_eq_zero hd)).symm
 generalize c.tdiv g = t at *
 refine ⟨fun hb => ⟨?_, fun _ => rfl, fun h => absurd hb h⟩, fun hb => ?_⟩
 ·rw [hc, he, hb]; grind
 ·have hgb : g ∣ b := by
   have := Int.gcd_dvd_right a b
   rw [← hg] at this
   exact Int.natAbs_dvd.1 this
  have hbg : b = g * b.tdiv g := (Int.mul_tdiv_cancel' hgb).symm
  generalize b.tdiv g = s at *
  have hs : s ≠ 0 := fun e => hb (by rw [hbg, e, Int.mul_zero])
  refine ⟨hs, ?_⟩
  have hn : (s.natAbs : Int) * (Int.gcd a b : Int) = b.natAbs := by
   rw [← hg]
   have : b.natAbs = g.natAbs * s.natAbs := by rw [← Int.natAbs_mul, ← hbg]
   rw [this, Int.natCast_mul, Int.mul_comm]
  have hdv : b ∣ c - a * (x * t) := ⟨k * t, by rw [hc, he]; grind⟩
  obtain ⟨_, h1, h2, h3⟩ := line_mod hb hdv hn
  exact Sol.make hb h1 h2 h3
theorem line_none {a b c g x y : Int} (hg : g.natAbs = Int.gcd a b) (hd : c.tmod g ≠ 0) : a * x + b * y ≠ c := by
 intro e
 apply hd
 refine Int.tmod_eq_zero_of_dvd (Int.natAbs_dvd.1 ?_)
 rw [hg, ← e]
 exact Int.dvd_add (Int.dvd_trans (Int.gcd_dvd_left a b) (Int.dvd_mul_right _ _)) (Int.dvd_trans (Int.gcd_dvd_right a b) (Int.dvd_mul_right _ _))
def flp (a c z : Int) : Int := if decide (a < 0) = decide (c < 0) then z else -z
theorem line_ref {a b c x y : Int} (hp : (a.natAbs : Int) * x + b.natAbs * y = Int.gcd a b) (hd : (c.natAbs : Int) % (Int.gcd a b : Int) = 0) :
  (b = 0 → Sol a b c (flp a c (x * ((c.natAbs : Int) / (Int.gcd a b : Int)))) 0) ∧ (b ≠ 0 → 0 < (b.natAbs : Int).tdiv (Int.gcd a b : Int) ∧ Sol a b c ((flp a c (x * ((c.natAbs : Int) / (Int.gcd a b : Int)))) % ((b.natAbs : Int).tdiv (Int.gcd a b : Int))) ((c - a * ((flp a c (x * ((c.natAbs : Int) / (Int.gcd a b : Int)))) % ((b.natAbs : Int).tdiv (Int.gcd a b : Int)))).tdiv b)) := by
 have hc : (c.natAbs : Int) = (Int.gcd a b : Int) * ((c.natAbs : Int) / (Int.gcd a b : Int)) := (Int.mul_ediv_cancel' (Int.dvd_of_emod_eq_zero hd)).symm
 generalize (c.natAbs : Int) / (Int.gcd a b : Int) = t at *
 have hm : ∃ s : Int, (s = 1 ∨ s = -1) ∧ a * flp a c (x * t) = c - s * t * b.natAbs * y := by
  rw [← hp] at hc
  unfold flp
  by_cases h1 : a < 0 <;> by_cases h2 : c < 0
  ·rw [if_pos (by simp [h1, h2])]
   refine ⟨-1, Or.inr rfl, ?_⟩
   rw [show (a.natAbs : Int) = -a by omega, show (c.natAbs : Int) = -c by omega] at hc
   grind
  ·rw [if_neg (by simp [h1, h2])]
   refine ⟨1, Or.inl rfl, ?_⟩
   rw [show (a.natAbs : Int) = -a by omega, show (c.natAbs : Int) = c by omega] at hc
   grind
  ·rw [if_neg (by simp [h1, h2])]
   refine ⟨-1, Or.inr rfl, ?_⟩
   rw [show (a.natAbs : Int) = a by omega, show (c.natAbs : Int) = -c by omega] at hc
   grind
  ·rw [if_pos (by simp [h1, h2])]
   refine ⟨1, Or.inl rfl, ?_⟩
   rw [show (a.natAbs : Int) = a by omega, show (c.natAbs : Int) = c by omega] at hc
   grind
 obtain ⟨s, hs, hm⟩ := hm
 generalize flp a c (x * t) = X at *
 refine ⟨fun hb => ⟨?_, fun _ => rfl, fun h => absurd hb h⟩, fun hb => ?_⟩
 ·rw [hm, hb]; simp
 ·have hgb : (Int.gcd a b : Int) ∣ (b.natAbs : Int) := by
   exact_mod_cast Nat.gcd_dvd_right a.natAbs b.natAbs
  have hn : (b.natAbs : Int).tdiv (Int.gcd a b : Int) * (Int.gcd a b : Int) = b.natAbs := by
   rw [Int.mul_comm]; exact Int.mul_tdiv_cancel' hgb
  generalize (b.natAbs : Int).tdiv (Int.gcd a b : Int) = n at *
  have hdv : b ∣ c - a * X := by
   rw [hm]
   have e : c - (c - s * t * b.natAbs * y) = b.natAbs * (s * t * y) := by grind
   rw [e]
   exact Int.dvd_trans (Int.dvd_natAbs.2 (Int.dvd_refl b)) (Int.dvd_mul_right _ _)
  obtain ⟨h0, h1, h2, h3⟩ := line_mod hb hdv hn
  exact ⟨h0, Sol.make hb h1 h2 h3⟩
theorem ltdiv_abs {y b : Int} : (if b < 0 then -(y.tdiv b.natAbs) else y.tdiv b.natAbs) = y.tdiv b := by
 split
 ·rw [show (b.natAbs : Int) = -b by omega, Int.tdiv_neg, Int.neg_neg]
 ·rw [show (b.natAbs : Int) = b by omega]
theorem lemod_abs {x n : Int} (hn : 0 < n) : (if x < 0 ∧ (x.natAbs : Int) % n ≠ 0 then n - (x.natAbs : Int) % n else (x.natAbs : Int) % n) = x % n := by
 by_cases h : x < 0
 ·rw [show (x.natAbs : Int) = -x by omega]
  have m0 := Int.emod_nonneg x (show n ≠ 0 by omega)
  have m1 := Int.emod_lt_of_pos x hn
  have k0 := Int.emod_nonneg (-x) (show n ≠ 0 by omega)
  have k1 := Int.emod_lt_of_pos (-x) hn
  have hs : ((-x) % n + x % n) % n = 0 := by
   rw [← Int.add_emod]; simp [Int.add_left_neg]
  by_cases h2 : (-x) % n = 0
  ·rw [if_neg (by omega), h2]
   rw [h2, Int.zero_add, Int.emod_eq_of_lt m0 m1] at hs
   omega
  ·rw [if_pos ⟨h, h2⟩]
   obtain ⟨k, hk⟩ := Int.dvd_of_emod_eq_zero hs
   have : k = 1 := by
    have a1 : 0 < n * k := by omega
    have a2 : n * k < n * 2 := by omega
    have b1 := Int.pos_of_mul_pos_right a1 hn
    have b2 := Int.lt_of_mul_lt_mul_left a2 (by omega)
    omega
   rw [this] at hk
   omega
 ·rw [if_neg (by omega), show (x.natAbs : Int) = x by omega]

end Go.Proofs.YtjahbjjekednfabDoor
