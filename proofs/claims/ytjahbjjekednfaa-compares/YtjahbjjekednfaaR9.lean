import Derived.Test.YtjahbjjekednfaaR9g
namespace Go.Proofs.Ytjahbjjekednfaa
open Go.RowKit

/-- The reference's number. -/
def NN (w : World) (v : Value) (a : Qn) : Prop := ∃ b1 ao1 n1 c1 b2 ao2 n2 c2 b3 ao3 n3 c3, v = .agg #[.bool b1, .slice ao1 n1 c1, .bool b2, .slice ao2 n2 c2, .bool b3, .slice ao3 n3 c3, .int .i64 a.d] ∧
 IN w (.agg #[.bool b1, .slice ao1 n1 c1]) a.p ∧ IN w (.agg #[.bool b2, .slice ao2 n2 c2]) a.q ∧ IN w (.agg #[.bool b3, .slice ao3 n3 c3]) a.r
def RetNN (w : World) (a : Qn) (e : Ending) (w' : World) : Prop := ∃ v, e = .returned v ∧ NN w' v a ∧ Kp w w'
theorem NN.soft {w W : World} {v : Value} {a : Qn} (hs : Sf 3 w W) (h : NN w v a) : NN W v a := by
 obtain ⟨b1, ao1, n1, c1, b2, ao2, n2, c2, b3, ao3, n3, c3, e, h1, h2, h3⟩ := h
 exact ⟨b1, ao1, n1, c1, b2, ao2, n2, c2, b3, ao3, n3, c3, e, h1.soft hs, h2.soft hs, h3.soft hs⟩
theorem NN.keep {w W : World} {v : Value} {a : Qn} (hk : Kp w W) (h : NN w v a) : NN W v a := h.soft (Sf.keep hk)
theorem nn_zero (w : World) : NN w (.agg #[.bool false, .slice none 0 0, .bool false, .slice none 0 0, .bool false, .slice none 0 0, .int .i64 0]) qzero :=
 ⟨false, none, 0, 0, false, none, 0, 0, false, none, 0, 0, rfl, in_zero w, in_zero w, in_zero w⟩

set_option maxHeartbeats 800000 in
theorem root_ref (a b : Qn) (u v : Value) (w : World) (ha : NN w u a) (hb : NN w v b) : Calls Try.prog 58 #[u, v] w (RetV w (.int .i64 (if 1 < a.d then a.d else b.d))) := by
 obtain ⟨b1, ao1, n1, c1, b2, ao2, n2, c2, b3, ao3, n3, c3, rfl, h1, h2, h3⟩ := ha
 obtain ⟨b4, ao4, n4, c4, b5, ao5, n5, c5, b6, ao6, n6, c6, rfl, h4, h5, h6⟩ := hb
 clear h1 h2 h3 h4 h5 h6
 by_cases h : 1 < a.d
 ·rw [if_pos h]
  go_enter Try.func58, Try.ntmps58
  go_wp2_with fail
  go_ret
  exact ⟨rfl, (kp_alloc _ _).alloc' _⟩
 ·rw [if_neg h]
  go_enter Try.func58, Try.ntmps58
  go_wp2_with fail
  go_ret
  exact ⟨rfl, (kp_alloc _ _).alloc' _⟩

set_option maxHeartbeats 800000 in
theorem zero_ref (a : Qn) (u : Value) (w : World) (ha : NN w u a) : Calls Try.prog 42 #[u] w (RetV w (.bool (decide (a.p = 0 ∧ a.q = 0)))) := by
 obtain ⟨b1, ao1, n1, c1, b2, ao2, n2, c2, b3, ao3, n3, c3, rfl, h1, h2, h3⟩ := ha
 have l1 := h1.len
 have l2 := h2.len
 clear h1 h2 h3
 by_cases hp : a.p = 0
 ·have e1 := l1.1.mpr hp
  subst e1
  by_cases hq : a.q = 0
  ·have e2 := l2.1.mpr hq
   subst e2
   rw [decide_eq_true ⟨hp, hq⟩]
   clear l1 l2
   go_enter Try.func42, Try.ntmps42
   go_wp2_with fail
   go_ret
   exact ⟨rfl, kp_alloc _ _⟩
  ·have e2 : ¬ n2 = 0 := fun h => hq (l2.1.mp h)
   have e3 : ((n2 : Int) == 0) = false := by simp; omega
   have hn2 := l2.2
   rw [decide_eq_false (by simp [hq])]
   clear l1 l2
   go_enter Try.func42, Try.ntmps42
   go_wp2_with fail
   go_ret
   exact ⟨rfl, kp_alloc _ _⟩
 ·have e1 : ¬ n1 = 0 := fun h => hp (l1.1.mp h)
  have e3 : ((n1 : Int) == 0) = false := by simp; omega
  have hn1 := l1.2
  rw [decide_eq_false (by simp [hp])]
  clear l1 l2
  go_enter Try.func42, Try.ntmps42
  go_wp2_with fail
  go_ret
  exact ⟨rfl, kp_alloc _ _⟩

theorem sqf_one (n : Nat) : sqf n 1 = 1 := by unfold sqf; split <;> simp [sqf]
set_option maxHeartbeats 800000 in
theorem square_ref (n : Nat) (w : World) (hn : n < 1000000) : Calls Try.prog 78 #[.int .i64 (n : Int)] w (RetV w (.int .i64 (sqf n 1000))) := by
 go_enter Try.func78, Try.ntmps78
 go_wp2_with fail
 go_loopw [3] (fun f wr => ∃ k : Nat, 1 ≤ k ∧ k ≤ 1000 ∧ f = .int .i64 k ∧ Kp w wr ∧ Hid (sqf n 1000 = sqf n k))
  (fun f _ => (intOf f).toNat)
 case atStart => exact ⟨1000, by decide, by decide, rfl, Below.refl _ _, rfl⟩
 case round =>
  obtain ⟨k, hk1, hk2, rfl, hkr, HS⟩ := hrel
  by_cases h1 : 1 < k
  ·have hmul : k * k ≤ 1000000 := Nat.mul_le_mul hk2 hk2
   have hpos : 0 < k * k := Nat.mul_pos (by omega) (by omega)
   have hq0 : 0 < (k : Int) * (k : Int) := by rw [← Int.natCast_mul]; omega
   have hq1 : (k : Int) * (k : Int) ≤ 1000000 := by rw [← Int.natCast_mul]; omega
   have hq2 : (k : Int) * (k : Int) ≠ 0 := by omega
   have hsq : sqf n k = if n % (k * k) = 0 then k else sqf n (k - 1) := by
    obtain ⟨j, rfl⟩ : ∃ j, k = j + 1 := ⟨k - 1, by omega⟩
    rfl
   have hki : (1 : Int) < (k : Int) := by omega
   by_cases h2 : n % (k * k) = 0
   ·have HR : Hid (sqf n 1000 = k) := by unfold Hid; rw [HS.out, hsq, if_pos h2]
    have hb : ((n : Int) % ((k : Int) * (k : Int)) == 0) = true := by rw [← Int.natCast_mul, ← Int.natCast_emod, h2]; rfl
    clear hsq h2
    go_wp2_with fail
    go_ret
    exact ⟨by rw [HR.out]; rfl, hkr⟩
   ·have HR : Hid (sqf n 1000 = sqf n (k - 1)) := by unfold Hid; rw [HS.out, hsq, if_neg h2]
    have hb : ((n : Int) % ((k : Int) * (k : Int)) == 0) = false := beq_eq_false_iff_ne.2 (fun h => h2 (by exact_mod_cast h))
    clear hsq h2
    go_wp2_with fail
    go_roundw
    case rel => exact ⟨k - 1, by omega, by omega, by rw [show ((k - 1 : Nat) : Int) = (k : Int) - 1 by omega], hkr, HR⟩
    case measure => simp [intOf]; omega
  ·have hke : k = 1 := by omega
   subst hke
   have HR : Hid (sqf n 1000 = 1) := by unfold Hid; rw [HS.out, sqf_one]
   go_wp2_with fail
   go_ret
   exact ⟨by rw [HR.out]; rfl, hkr⟩

end Go.Proofs.Ytjahbjjekednfaa
