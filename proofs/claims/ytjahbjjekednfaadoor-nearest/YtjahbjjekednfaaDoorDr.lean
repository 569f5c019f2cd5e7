import Derived.Test.YtjahbjjekednfaaDoorG1
import Derived.Test.YtjahbjjekednfaaDoorLa
namespace Go.Proofs.YtjahbjjekednfaaDoor
open Go.RowKit

theorem dec_le {u k : Nat} (h : u < 10 ^ (k + 1)) : (Go.Lib.decDigits u).length ≤ k + 1 := by
 obtain ⟨j, hj, _⟩ := pad_dec k u h
 omega
theorem dig_run : ∀ (t : List Int) (a : Pl), Digs t → (t.length : Int) ≤ a.r → ∃ z, pRun a t = some z ∧ z.d = a.d ∧ (t ≠ [] → z.k = 2)
 | [], a, _, _ => ⟨a, rfl, rfl, fun h => absurd rfl h⟩
 | c :: t, a, hd, hr => by
  have hc : isDig c = true := hd c (by simp)
  have hl : (t.length : Int) + 1 ≤ a.r := by simpa using hr
  obtain ⟨z, h1, h2, h3⟩ := dig_run t ⟨2, a.r - 1, a.d⟩ (fun x hx => hd x (by simp [hx])) (by show (t.length : Int) ≤ a.r - 1; omega)
  have hs : plStep a c = (⟨2, a.r - 1, a.d⟩, true) := by
   unfold plStep
   rw [if_pos hc, decide_eq_true (by omega)]
  refine ⟨z, by unfold pRun; rw [hs]; simpa using h1, h2, fun _ => ?_⟩
  by_cases e : t = []
  ·subst e
   simp only [pRun, Option.some.injEq] at h1
   rw [← h1]
  ·exact h3 e

end Go.Proofs.YtjahbjjekednfaaDoor
