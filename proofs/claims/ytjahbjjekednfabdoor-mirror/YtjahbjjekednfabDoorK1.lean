import Derived.Test.YtjahbjjekednfabDoorN1
namespace Go.Proofs.YtjahbjjekednfabDoor
open Go.RowKit

/-- 1 or -1, by turns. -/
def alt (k : Nat) : Int := if k % 2 = 0 then 1 else -1
theorem alt_succ (k : Nat) : alt (k + 1) = - alt k := by
 unfold alt
 by_cases h : k % 2 = 0
 ·rw [if_neg (by omega), if_pos h]
 ·rw [if_pos (by omega), if_neg h]; rfl
theorem alt_sq (k : Nat) : alt k * alt k = 1 := by
 unfold alt
 split <;> rfl
theorem cv_det (p q n : Int) : ∀ k, (cv p q n k).lp * (cv p q n k).aq - (cv p q n k).ap * (cv p q n k).lq = alt k
 | 0 => by simp [cv, alt]
 | k + 1 => by
  have ih := cv_det p q n k
  rw [alt_succ, ← ih]
  simp only [cv]
  grind
theorem step_id {p q n P Q t lp lq ap aq P' Q' : Int} (hQ : Q ≠ 0) (hP : P' = t * Q - P) (hm : Q * Q' = n - P' * P') (e1 : q * lp - p * lq = lq * P + aq * Q) (e2 : P * (q * lp - p * lq) + Q * (q * ap - p * aq) = n * lq) :
  q * (t * lp + ap) - p * (t * lq + aq) = (t * lq + aq) * P' + lq * Q' ∧ P' * (q * (t * lp + ap) - p * (t * lq + aq)) + Q' * (q * lp - p * lq) = n * (t * lq + aq) := by
 have h1 : q * (t * lp + ap) - p * (t * lq + aq) = (t * lq + aq) * P' + lq * Q' := by
  refine Int.eq_of_mul_eq_mul_left hQ ?_
  grind
 refine ⟨h1, ?_⟩
 refine Int.eq_of_mul_eq_mul_left hQ ?_
 grind
/-- Each rest's q times the next one's is n less the square of the next one's p. -/
def Stp (p q n : Int) (k : Nat) : Prop := ∀ j, j < k → (rst p q n j).2 ≠ 0 ∧ (rst p q n j).2 * (rst p q n (j + 1)).2 = n - (rst p q n (j + 1)).1 * (rst p q n (j + 1)).1
theorem stp_rl {g p q n : Int} {a : Qn} (h : Rl g p q n a) (k : Nat) (hk : ∀ j, j < k → (rst p q n j).2 ≠ 0) : Stp p q n k := fun j hj =>
 ⟨hk j hj, nxq_mul (rl_num h j (fun i hi => hk i (by omega)))⟩
/-- What is still to be expanded, and what the terms so far come to. -/
theorem cv_id {p q n : Int} : ∀ k, Stp p q n k →
  q * (cv p q n k).lp - p * (cv p q n k).lq = (cv p q n k).lq * (rst p q n k).1 + (cv p q n k).aq * (rst p q n k).2 ∧
  (rst p q n k).1 * (q * (cv p q n k).lp - p * (cv p q n k).lq) + (rst p q n k).2 * (q * (cv p q n k).ap - p * (cv p q n k).aq) = n * (cv p q n k).lq
 | 0, _ => by simp [cv, rst]; grind
 | k + 1, hk => by
  obtain ⟨e1, e2⟩ := cv_id k (fun j hj => hk j (by omega))
  exact step_id (t := tm p q n k) (hk k (by omega)).1 rfl (hk k (by omega)).2 e1 e2
/-- The norm of what is left. -/
theorem cv_norm {p q n : Int} (k : Nat) (hk : Stp p q n k) :
  (q * (cv p q n k).lp - p * (cv p q n k).lq) * (q * (cv p q n k).lp - p * (cv p q n k).lq) - n * ((cv p q n k).lq * (cv p q n k).lq) = alt k * q * (rst p q n k).2 := by
 obtain ⟨e1, e2⟩ := cv_id k hk
 rw [← cv_det p q n k]
 generalize (cv p q n k).lp = lp at *
 generalize (cv p q n k).lq = lq at *
 generalize (cv p q n k).ap = ap at *
 generalize (cv p q n k).aq = aq at *
 grind

end Go.Proofs.YtjahbjjekednfabDoor
