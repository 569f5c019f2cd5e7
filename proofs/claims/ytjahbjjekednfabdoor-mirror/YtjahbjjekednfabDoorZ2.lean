import Derived.Test.YtjahbjjekednfabDoorZ1
namespace Go.Proofs.YtjahbjjekednfabDoor
open Go.RowKit

theorem qsqrt_sq {m : Nat} (hm : m * m < 1000000) : qsqrt (m * m) = ⟨m, 0, 1, 1⟩ := by
 by_cases h : m = 0
 ·subst h
  rfl
 ·have i2 : IsRoot (m * m) m 1 := ⟨by omega, by decide, by omega, sqfree_one⟩
  rw [qsqrt_of i2 hm, if_pos rfl]
/-- What Terms and Period tell of the root of a square. -/
theorem mir_sq {m : Nat} {r : Rs} (he : r.e = 0) (hv : r.v = qsqrt (m * m)) (hm : m * m < 1000000) : OutT r 100 [(m : Int)] true 0 ∧ OutD r 0 0 6 := by
 rw [qsqrt_sq hm] at hv
 have e1 : p0 r.v = m := by rw [hv]; simp [p0]
 have e2 : q0 r.v = 1 := by rw [hv]; simp [q0]
 have e3 : n0 r.v = 0 := by rw [hv]; simp [n0]
 have ht : tm m 1 0 0 = m := by
  show trm m 1 0 = (m : Int)
  rw [show (0 : Int) = ((0 : Nat) : Int) from rfl, trm_pos (m := 0) (by decide) (by decide) (by decide)]
  simp
 have hz : (rst m 1 0 1).2 = 0 := by
  have hp : (rst m 1 0 1).1 = 0 := by
   show tm m 1 0 0 * 1 - m = 0
   rw [ht]
   omega
  show (0 - (rst m 1 0 1).1 * (rst m 1 0 1).1).tdiv 1 = 0
  rw [hp]
  rfl
 refine ⟨Or.inr (Or.inr ⟨he, by decide, by decide, 1, ?_, ?_, ?_, rfl⟩), Or.inr (Or.inl ⟨he, by rw [hv], rfl, rfl, rfl⟩)⟩
 ·rw [e1, e2, e3]
  refine ⟨by decide, fun i hi => ?_, Or.inr hz⟩
  have : i = 0 := by omega
  subst this
  show (1 : Int) ≠ 0
  decide
 ·rw [e1, e2, e3]
  show [(m : Int)] = [tm m 1 0 0]
  rw [ht]
 ·unfold rs
  rw [e1, e2, e3, hz]
  rfl
/-- What Terms tells of the root of another number. -/
theorem mir_ns {n : Nat} {r : Rs} (he : r.e = 0) (hv : r.v = qsqrt n) (hc : Cn r.v) (h2 : 1 ≤ n) (hn : n < 1000000) (hs : ∀ m, m * m ≠ n) : OutT r 100 (tms 0 1 n 100) false 0 ∧ r.v.d ≠ 1 := by
 obtain ⟨e1, e2, e3, e4⟩ := qsqrt_root h2 hn hs
 rw [← hv] at e1 e2 e3 e4
 refine ⟨Or.inr (Or.inr ⟨he, by decide, by decide, 100, ?_, ?_, ?_, rfl⟩), e4⟩
 ·exact ⟨Nat.le_refl _, fun i _ => rs_irr hc e4 i, Or.inl rfl⟩
 ·rw [e1, e2, e3]
 ·exact (decide_eq_false (rs_irr hc e4 100)).symm

end Go.Proofs.YtjahbjjekednfabDoor
