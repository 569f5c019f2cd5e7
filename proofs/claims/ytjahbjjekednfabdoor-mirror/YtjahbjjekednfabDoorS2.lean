import Derived.Test.YtjahbjjekednfabDoorL4
import Derived.Test.YtjahbjjekednfabDoorS1
namespace Go.Proofs.YtjahbjjekednfabDoor
open Go.RowKit

set_option maxHeartbeats 1600000 in
theorem shared_any (a b : Int) (w : World) (ha : a.natAbs ≤ 1000000000) (hb : b.natAbs ≤ 1000000000) : Calls Tryd.prog 26 #[.int .i64 a, .int .i64 b] w (RetV w (.int .i64 (Int.gcd a b : Int))) := by
 go_enter Tryd.func26, Tryd.ntmps26
 go_wp2_with fail
 go_loopw [0, 1] (fun x y wr => ∃ (A B : Int), x = .int .i64 A ∧ y = .int .i64 B ∧ A.natAbs ≤ 1000000000 ∧ B.natAbs ≤ 1000000000 ∧ Hid (Int.gcd A B = Int.gcd a b) ∧ Kp w wr)
  (fun _ y _ => (intOf y).natAbs)
 case atStart => exact ⟨a, b, rfl, rfl, ha, hb, rfl, Below.refl _ _⟩
 case round =>
  obtain ⟨A, B, rfl, rfl, hA, hB, HG, hkr⟩ := hrel
  by_cases hz : B = 0
  ·subst hz
   have HG2 : Hid ((A.natAbs : Int) = (Int.gcd a b : Int)) := by
    unfold Hid
    rw [← HG.out, Int.gcd_zero_right]
   by_cases hn : A < 0
   ·have HG3 : Hid (-A = (Int.gcd a b : Int)) := by
     unfold Hid
     rw [← HG2.out]
     omega
    clear HG HG2
    go_wp2_with fail
    go_ret
    exact ⟨by rw [← HG3.out]; rfl, hkr⟩
   ·have HG3 : Hid (A = (Int.gcd a b : Int)) := by
     unfold Hid
     rw [← HG2.out]
     omega
    clear HG HG2
    go_wp2_with fail
    go_ret
    exact ⟨by rw [← HG3.out]; rfl, hkr⟩
  ·have hm := tmod_abs A B
   have h1 := Int.emod_nonneg (A.natAbs : Int) (show (B.natAbs : Int) ≠ 0 by omega)
   have h2 := Int.emod_lt_of_pos (A.natAbs : Int) (show (0 : Int) < (B.natAbs : Int) by omega)
   have hlt : (A.tmod B).natAbs < B.natAbs := by omega
   have HG' : Hid (Int.gcd B (A.tmod B) = Int.gcd a b) := by
    unfold Hid
    rw [← HG.out, gcd_tmod']
   have hzb : (B == 0) = false := by simp [hz]
   have hzb2 : (B != 0) = true := by simp [hz]
   clear hm h1 h2 HG
   go_wp2_with fail
   go_roundw
   case rel => exact ⟨B, A.tmod B, by first | rfl | go_num, by first | rfl | go_num, hB, by omega, HG', hkr⟩
   case measure => exact hlt

theorem pair_ex : ∀ (k : Nat) (a b : Int), b.natAbs ≤ k → 0 ≤ a → 0 ≤ b → ∃ x y, a * x + b * y = (Int.gcd a b : Int)
 | 0, a, b, hk, ha, hb => ⟨1, 0, by
  have e : b = 0 := by omega
  rw [e, Int.gcd_zero_right]
  omega⟩
 | k + 1, a, b, hk, ha, hb => by
  by_cases hz : b = 0
  ·exact ⟨1, 0, by rw [hz, Int.gcd_zero_right]; omega⟩
  ·have r0 := Int.emod_nonneg a hz
   have r1 := Int.emod_lt_of_pos a (show 0 < b by omega)
   obtain ⟨x, y, e⟩ := pair_ex k b (a % b) (by omega) hb r0
   have h2 : Int.gcd b (a % b) = Int.gcd a b := by
    unfold Int.gcd
    rw [Int.natAbs_emod_of_nonneg ha, Nat.gcd_comm, ← Nat.gcd_rec, Nat.gcd_comm]
   refine ⟨y, x - a / b * y, ?_⟩
   rw [← h2, ← e]
   have := Int.mul_ediv_add_emod a b
   grind
/-- ax + by = c has a solution if the greatest common divisor divides c. -/
theorem line_ex {a b c : Int} (h : (Int.gcd a b : Int) ∣ c) : ∃ x y, a * x + b * y = c := by
 obtain ⟨k, hk⟩ := h
 obtain ⟨x, y, e⟩ := pair_ex _ (a.natAbs : Int) (b.natAbs : Int) (Nat.le_refl _) (by omega) (by omega)
 have hg : Int.gcd (a.natAbs : Int) (b.natAbs : Int) = Int.gcd a b := rfl
 rw [hg] at e
 have ha : ∃ u, (a.natAbs : Int) = a * u := by
  rcases Int.natAbs_eq a with e | e
  ·exact ⟨1, by omega⟩
  ·exact ⟨-1, by omega⟩
 have hb : ∃ u, (b.natAbs : Int) = b * u := by
  rcases Int.natAbs_eq b with e | e
  ·exact ⟨1, by omega⟩
  ·exact ⟨-1, by omega⟩
 obtain ⟨u, hu⟩ := ha
 obtain ⟨v, hv⟩ := hb
 refine ⟨u * x * k, v * y * k, ?_⟩
 rw [hk, ← e, hu, hv]
 grind

end Go.Proofs.YtjahbjjekednfabDoor
