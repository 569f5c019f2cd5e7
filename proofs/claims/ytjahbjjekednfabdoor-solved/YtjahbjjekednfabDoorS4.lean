import Derived.Test.YtjahbjjekednfabDoorL8
import Derived.Test.YtjahbjjekednfabDoorR1
import Derived.Test.YtjahbjjekednfabDoorH1
namespace Go.Proofs.YtjahbjjekednfabDoor
open Go.RowKit

set_option maxHeartbeats 1600000 in
/-- surdkeep.whole. -/
theorem whole_any (n m : Nat) (w : World) (hn : n ≤ 1000000) (h0 : m * m ≤ n) (h1 : n < (m + 1) * (m + 1)) : Calls Tryd.prog 16 #[.int .i64 (n : Int)] w (RetV w (.int .i64 (m : Int))) := by
 have hm : m ≤ 1000 := by
  refine Nat.not_lt.1 fun h => ?_
  have : 1001 * 1001 ≤ m * m := Nat.mul_le_mul h h
  omega
 have H0 := Hid.mk h0
 have H1 := Hid.mk h1
 clear h0 h1
 go_enter Tryd.func16, Tryd.ntmps16
 go_wp2_with fail
 go_loopw [3] (fun x wr => ∃ j : Nat, j ≤ m ∧ x = .int .i64 j ∧ Kp w wr) (fun x _ => m - (intOf x).toNat)
 case atStart => exact ⟨0, by omega, rfl, Below.refl _ _⟩
 case round =>
  obtain ⟨j, hj, rfl, hkr⟩ := hrel
  have hjj : ((j : Int) + 1) * ((j : Int) + 1) = (((j + 1) * (j + 1) : Nat) : Int) := by rw [Int.natCast_mul, Int.natCast_add]; rfl
  have hj1 : (j + 1) * (j + 1) ≤ 1001 * 1001 := Nat.mul_le_mul (by omega) (by omega)
  by_cases h : j < m
  ·have hle : ((j : Int) + 1) * ((j : Int) + 1) ≤ (n : Int) := by
    have h2 : (j + 1) * (j + 1) ≤ m * m := Nat.mul_le_mul h h
    have := H0.out
    rw [hjj]; omega
   have hb : 0 ≤ ((j : Int) + 1) * ((j : Int) + 1) := by rw [hjj]; omega
   clear hjj hj1
   go_wp2_with fail
   go_roundw
   case rel => exact ⟨j + 1, by omega, by go_num, hkr⟩
   case measure => simp [intOf]; omega
  ·have hjm : j = m := by omega
   subst hjm
   have hle : ¬ ((j : Int) + 1) * ((j : Int) + 1) ≤ (n : Int) := by
    have := H1.out
    rw [hjj]; omega
   have hb : 0 ≤ ((j : Int) + 1) * ((j : Int) + 1) := by rw [hjj]; omega
   have hb2 : ((j : Int) + 1) * ((j : Int) + 1) ≤ 1002001 := by rw [hjj]; omega
   clear hjj hj1
   go_wp2_with fail
   go_ret
   exact ⟨rfl, hkr⟩
/-- The digits, the lowest first. -/
def dgs (s : ByteArray) (k : Nat) : List Int := ((bl s).drop (s.size - k)).reverse.map (· - 48)
theorem dgs_len (s : ByteArray) {k : Nat} (h : k ≤ s.size) : (dgs s k).length = k := by
 simp only [dgs, List.length_map, List.length_reverse, List.length_drop, bl_len]
 omega
theorem dgs_succ (s : ByteArray) {k : Nat} (h : k < s.size) : dgs s (k + 1) = dgs s k ++ [byteAt s (s.size - 1 - k) - 48] := by
 unfold dgs
 have e : (bl s).drop (s.size - (k + 1)) = at0 (bl s) (s.size - 1 - k) :: (bl s).drop (s.size - k) := by
  have h1 : s.size - (k + 1) < (bl s).length := by rw [bl_len]; omega
  rw [List.drop_eq_getElem_cons h1, at0_eq (by rw [bl_len]; omega)]
  congr 1
  · congr 1
    omega
  · congr 1
    omega
 rw [e, List.reverse_cons, List.map_append, byteAt_bl]
 rfl
theorem dgs_zero (s : ByteArray) : dgs s 0 = [] := List.length_eq_zero_iff.1 (dgs_len s (Nat.zero_le _))
theorem dgs_dig {s : ByteArray} (hd : Digs (bl s)) : ∀ k, k ≤ s.size → Dig 10 (dgs s k)
 | 0, _ => by rw [dgs_zero]; exact Dig.nil (by decide)
 | k + 1, h => by
  rw [dgs_succ s (by omega)]
  refine (dgs_dig hd k (by omega)).snoc ?_
  have := isDig_bd (digs_at hd (show s.size - 1 - k < (bl s).length by rw [bl_len]; omega))
  rw [byteAt_bl]
  omega
theorem dgs_val {s : ByteArray} : ∀ k, k ≤ s.size → val 10 (dgs s k) = decN ((bl s).drop (s.size - k))
 | 0, _ => by
  rw [show s.size - 0 = (bl s).length by rw [bl_len]; omega, List.drop_length, dgs_zero]
  rfl
 | k + 1, h => by
  rw [dgs_succ s (by omega), val_snoc, dgs_len s (by omega), dgs_val k (by omega)]
  have h1 : s.size - (k + 1) < (bl s).length := by rw [bl_len]; omega
  have e : (bl s).drop (s.size - (k + 1)) = [byteAt s (s.size - 1 - k)] ++ (bl s).drop (s.size - k) := by
   rw [List.drop_eq_getElem_cons h1, byteAt_bl, at0_eq (by rw [bl_len]; omega)]
   show _ = _ :: _
   congr 1
   · congr 1
     omega
   · congr 1
     omega
  rw [e, decN_app, List.length_drop, bl_len, show s.size - (s.size - k) = k by omega]
  simp [decN]
  grind

end Go.Proofs.YtjahbjjekednfabDoor
