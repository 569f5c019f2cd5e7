import Derived.Test.YtjahbjjekednfabDoorK3
import Derived.Test.YtjahbjjekednfabDoorY1
import Derived.Test.YtjahbjjekednfabDoorS4
import Derived.Test.YtjahbjjekednfabDoorDr
namespace Go.Proofs.YtjahbjjekednfabDoor
open Go.RowKit

/-- How the root of n is read. -/
theorem root_rk {n : Nat} (hn : n < 1000000) {r : Rs} (h : Rk (⟨#[114]⟩ ++ strOf (Go.Lib.itoa n)) r) : r.e = 0 ∧ r.v = qsqrt n := by
 have hb : bl (⟨#[114]⟩ ++ strOf (Go.Lib.itoa n)) = 114 :: bl (strOf (Go.Lib.itoa n)) := by rw [bl_app]; rfl
 have hl : (Go.Lib.itoa n).length ≤ 6 := by
  unfold Go.Lib.itoa
  rw [if_neg (by omega)]
  exact dec_le (k := 5) (by omega)
 have hT : NumT (strOf (Go.Lib.itoa n)) n := rfl
 generalize Go.Lib.itoa n = t at *
 obtain ⟨hne, hD, hv⟩ : t ≠ [] ∧ Digs (bi t) ∧ (n : Int) = decN (bi t) := by
  rcases numT_of hT with ⟨_, h2, h3⟩ | ⟨h2, _⟩
  ·rcases h2 with rfl | ⟨h4, h5, _⟩
   ·exact ⟨by simp, fun c hc => by simp [bi] at hc; rw [hc]; rfl, h3⟩
   ·exact ⟨h4, h5, h3⟩
  ·omega
 have hne' : bi t ≠ [] := by simpa [bi] using hne
 have hl' : (bi t).length ≤ 6 := by simpa [bi] using hl
 have g : Gv (Sm 8) (bl (⟨#[114]⟩ ++ strOf t)) (qsqrt n, 0) := by
  rw [hb, bl_strOf]
  have := p2s (f2p (Gv.root (n := 8) hne' hl' hD))
  rw [← hv, Int.toNat_natCast] at this
  exact this
 have hE : Ends ⟨0, 18, 0⟩ (bl (⟨#[114]⟩ ++ strOf t)) := by
  rw [hb, bl_strOf]
  obtain ⟨z, h1, h2, h3⟩ := dig_run (bi t) ⟨1, 6, 0⟩ hD (by show ((bi t).length : Int) ≤ 6; omega)
  refine ⟨z, ?_, h3 hne', by rw [h2]; exact Int.le_refl _⟩
  unfold pRun
  rw [show plStep ⟨0, 18, 0⟩ 114 = (⟨1, 6, 0⟩, true) by rfl]
  simpa using h1
 have hF := (fault_iff _).2 hE
 have hsz : (⟨#[114]⟩ ++ strOf t).size ≤ 7 := by
  rw [ByteArray.size_append, strOf_size]
  have : (⟨#[114]⟩ : ByteArray).size = 1 := rfl
  omega
 rcases rk_gv h g with ⟨_, g1⟩ | ⟨_, _, g1⟩ | ⟨_, _, g1, g2⟩
 ·omega
 ·omega
 ·exact ⟨g1, g2 g1⟩
theorem qsqrt_root {d : Nat} (h2 : 1 ≤ d) (hd : d < 1000000) (hs : ∀ m, m * m ≠ d) : p0 (qsqrt d) = 0 ∧ q0 (qsqrt d) = 1 ∧ n0 (qsqrt d) = (d : Int) ∧ (qsqrt d).d ≠ 1 := by
 have hr := sqf_root (n := d) (by omega) hd
 have e := qsqrt_of hr hd
 have e1 := hr.eq
 generalize sqf d 1000 = o at *
 generalize d / (o * o) = s at *
 have s1 : s ≠ 1 := fun k => hs o (by rw [k, Nat.mul_one] at e1; exact e1)
 rw [if_neg s1] at e
 rw [e]
 refine ⟨?_, ?_, ?_, ?_⟩
 ·simp [p0]
 ·simp only [q0]
  rw [if_neg (by omega)]; rfl
 ·simp only [n0, Int.mul_one]
  rw [← e1, Int.natCast_mul, Int.natCast_mul]
 ·show (s : Int) ≠ 1
  omega
/-- What Period tells of a root, and its terms. -/
theorem root_rep {d m b J : Nat} (m1 : 1 ≤ m) (h0 : m * m < d) (h1 : d < (m + 1) * (m + 1)) (hd : d < 1000000) (hR : Rep (qsqrt d) b J) :
 b = 1 ∧ (∀ i, 1 ≤ i → i < J - 1 → tm 0 1 d i = tm 0 1 d (J - 1 - i)) ∧ tm 0 1 d (J - 1) = 2 * m := by
 have hs : ∀ k, k * k ≠ d := fun k hk => by
  by_cases c : k ≤ m
  ·have := Nat.mul_le_mul c c
   omega
  ·have := Nat.mul_le_mul (show m + 1 ≤ k by omega) (show m + 1 ≤ k by omega)
   omega
 obtain ⟨e1, e2, e3, _⟩ := qsqrt_root (by omega) hd hs
 have er : ∀ i, rs (qsqrt d) i = rst 0 1 d i := fun i => by unfold rs; rw [e1, e2, e3]
 have hf := hR.fst
 have he := hR.eq
 have hlt := hR.lt
 unfold Fst at hf
 simp only [er] at hf he
 have hb := mir_b m1 h0 h1 hf hlt he
 subst hb
 obtain ⟨l, rfl⟩ : ∃ l, J = l + 2 := ⟨J - 2, by omega⟩
 refine ⟨rfl, fun i i1 i2 => ?_, ?_⟩
 ·exact mir_pal m1 h0 h1 he i1 (by omega) (by omega)
 ·exact (mir_end m1 h0 h1 he).2.2
theorem root_first {d m : Nat} (h0 : m * m ≤ d) (h1 : d < (m + 1) * (m + 1)) : tm 0 1 d 0 = m := by
 show trm 0 1 d = (m : Int)
 rw [trm_pos h0 h1 (by decide)]
 simp

end Go.Proofs.YtjahbjjekednfabDoor

namespace Go.Proofs.YtjahbjjekednfabDoor
open Go.RowKit

theorem qsqrt_sq {m : Nat} (hm : m * m < 1000000) : qsqrt (m * m) = ⟨m, 0, 1, 1⟩ := by
 by_cases h : m = 0
 ·subst h
  rfl
 ·have i2 : IsRoot (m * m) m 1 := ⟨by omega, by decide, by omega, sqfree_one⟩
  rw [qsqrt_of i2 hm, if_pos rfl]
/-- What Terms and Period tell of the root of a square. -/
theorem mir_sq {m : Nat} {r : Rs} (he : r.e = 0) (hv : r.v = qsqrt (m * m)) (hm : m * m < 1000000) : OutT r 100 [(m : Int)] true 0 ∧ OutD r 0 0 6 := by
 rw [qsqrt_sq hm] at hv
 have e1 : p0 r.v = m := by rw [hv]; simp [p0]
 have e2 : q0 r.v = 1 := by rw [hv]; simp [q0]
 have e3 : n0 r.v = 0 := by rw [hv]; simp [n0]
 have ht : tm m 1 0 0 = m := by
  show trm m 1 0 = (m : Int)
  rw [show (0 : Int) = ((0 : Nat) : Int) from rfl, trm_pos (m := 0) (by decide) (by decide) (by decide)]
  simp
 have hz : (rst m 1 0 1).2 = 0 := by
  have hp : (rst m 1 0 1).1 = 0 := by
   show tm m 1 0 0 * 1 - m = 0
   rw [ht]
   omega
  show (0 - (rst m 1 0 1).1 * (rst m 1 0 1).1).tdiv 1 = 0
  rw [hp]
  rfl
 refine ⟨Or.inr (Or.inr ⟨he, by decide, by decide, 1, ?_, ?_, ?_, rfl⟩), Or.inr (Or.inl ⟨he, by rw [hv], rfl, rfl, rfl⟩)⟩
 ·rw [e1, e2, e3]
  refine ⟨by decide, fun i hi => ?_, Or.inr hz⟩
  have : i = 0 := by omega
  subst this
  show (1 : Int) ≠ 0
  decide
 ·rw [e1, e2, e3]
  show [(m : Int)] = [tm m 1 0 0]
  rw [ht]
 ·unfold rs
  rw [e1, e2, e3, hz]
  rfl
/-- What Terms tells of the root of another number. -/
theorem mir_ns {n : Nat} {r : Rs} (he : r.e = 0) (hv : r.v = qsqrt n) (hc : Cn r.v) (h2 : 1 ≤ n) (hn : n < 1000000) (hs : ∀ m, m * m ≠ n) : OutT r 100 (tms 0 1 n 100) false 0 ∧ r.v.d ≠ 1 := by
 obtain ⟨e1, e2, e3, e4⟩ := qsqrt_root h2 hn hs
 rw [← hv] at e1 e2 e3 e4
 refine ⟨Or.inr (Or.inr ⟨he, by decide, by decide, 100, ?_, ?_, ?_, rfl⟩), e4⟩
 ·exact ⟨Nat.le_refl _, fun i _ => rs_irr hc e4 i, Or.inl rfl⟩
 ·rw [e1, e2, e3]
 ·exact (decide_eq_false (rs_irr hc e4 100)).symm

end Go.Proofs.YtjahbjjekednfabDoor
