import Derived.Test.YtjahbjjekednfabDoorL4
import Derived.Test.YtjahbjjekednfabDoorR1
import Derived.Test.YtjahbjjekednfabDoorH1
import Derived.Test.YtjahbjjekednfabDoorSt
namespace Go.Proofs.YtjahbjjekednfabDoor
open Go.RowKit

set_option maxHeartbeats 1600000 in
/-- surdkeep.whole. -/
theorem whole_any (n m : Nat) (w : World) (hn : n ≤ 1000000) (h0 : m * m ≤ n) (h1 : n < (m + 1) * (m + 1)) : Calls Tryd.prog 16 #[.int .i64 (n : Int)] w (RetV w (.int .i64 (m : Int))) := by
 have hm : m ≤ 1000 := by
  refine Nat.not_lt.1 fun h => ?_
  have : 1001 * 1001 ≤ m * m := Nat.mul_le_mul h h
  omega
 have H0 := Hid.mk h0
 have H1 := Hid.mk h1
 clear h0 h1
 go_enter Tryd.func16, Tryd.ntmps16
 go_wp2_with fail
 go_loopw [3] (fun x wr => ∃ j : Nat, j ≤ m ∧ x = .int .i64 j ∧ Kp w wr) (fun x _ => m - (intOf x).toNat)
 case atStart => exact ⟨0, by omega, rfl, Below.refl _ _⟩
 case round =>
  obtain ⟨j, hj, rfl, hkr⟩ := hrel
  have hjj : ((j : Int) + 1) * ((j : Int) + 1) = (((j + 1) * (j + 1) : Nat) : Int) := by rw [Int.natCast_mul, Int.natCast_add]; rfl
  have hj1 : (j + 1) * (j + 1) ≤ 1001 * 1001 := Nat.mul_le_mul (by omega) (by omega)
  by_cases h : j < m
  ·have hle : ((j : Int) + 1) * ((j : Int) + 1) ≤ (n : Int) := by
    have h2 : (j + 1) * (j + 1) ≤ m * m := Nat.mul_le_mul h h
    have := H0.out
    rw [hjj]; omega
   have hb : 0 ≤ ((j : Int) + 1) * ((j : Int) + 1) := by rw [hjj]; omega
   clear hjj hj1
   go_wp2_with fail
   go_roundw
   case rel => exact ⟨j + 1, by omega, by go_num, hkr⟩
   case measure => simp [intOf]; omega
  ·have hjm : j = m := by omega
   subst hjm
   have hle : ¬ ((j : Int) + 1) * ((j : Int) + 1) ≤ (n : Int) := by
    have := H1.out
    rw [hjj]; omega
   have hb : 0 ≤ ((j : Int) + 1) * ((j : Int) + 1) := by rw [hjj]; omega
   have hb2 : ((j : Int) + 1) * ((j : Int) + 1) ≤ 1002001 := by rw [hjj]; omega
   clear hjj hj1
   go_wp2_with fail
   go_ret
   exact ⟨rfl, hkr⟩
/-- The digits, the lowest first. -/
def dgs (s : ByteArray) (k : Nat) : List Int := ((bl s).drop (s.size - k)).reverse.map (· - 48)
theorem dgs_len (s : ByteArray) {k : Nat} (h : k ≤ s.size) : (dgs s k).length = k := by
 simp only [dgs, List.length_map, List.length_reverse, List.length_drop, bl_len]
 omega
theorem dgs_succ (s : ByteArray) {k : Nat} (h : k < s.size) : dgs s (k + 1) = dgs s k ++ [byteAt s (s.size - 1 - k) - 48] := by
 unfold dgs
 have e : (bl s).drop (s.size - (k + 1)) = at0 (bl s) (s.size - 1 - k) :: (bl s).drop (s.size - k) := by
  have h1 : s.size - (k + 1) < (bl s).length := by rw [bl_len]; omega
  rw [List.drop_eq_getElem_cons h1, at0_eq (by rw [bl_len]; omega)]
  congr 1
  · congr 1
    omega
  · congr 1
    omega
 rw [e, List.reverse_cons, List.map_append, byteAt_bl]
 rfl
theorem dgs_zero (s : ByteArray) : dgs s 0 = [] := List.length_eq_zero_iff.1 (dgs_len s (Nat.zero_le _))
theorem dgs_dig {s : ByteArray} (hd : Digs (bl s)) : ∀ k, k ≤ s.size → Dig 10 (dgs s k)
 | 0, _ => by rw [dgs_zero]; exact Dig.nil (by decide)
 | k + 1, h => by
  rw [dgs_succ s (by omega)]
  refine (dgs_dig hd k (by omega)).snoc ?_
  have := isDig_bd (digs_at hd (show s.size - 1 - k < (bl s).length by rw [bl_len]; omega))
  rw [byteAt_bl]
  omega
theorem dgs_val {s : ByteArray} : ∀ k, k ≤ s.size → val 10 (dgs s k) = decN ((bl s).drop (s.size - k))
 | 0, _ => by
  rw [show s.size - 0 = (bl s).length by rw [bl_len]; omega, List.drop_length, dgs_zero]
  rfl
 | k + 1, h => by
  rw [dgs_succ s (by omega), val_snoc, dgs_len s (by omega), dgs_val k (by omega)]
  have h1 : s.size - (k + 1) < (bl s).length := by rw [bl_len]; omega
  have e : (bl s).drop (s.size - (k + 1)) = [byteAt s (s.size - 1 - k)] ++ (bl s).drop (s.size - k) := by
   rw [List.drop_eq_getElem_cons h1, byteAt_bl, at0_eq (by rw [bl_len]; omega)]
   show _ = _ :: _
   congr 1
   · congr 1
     omega
   · congr 1
     omega
  rw [e, decN_app, List.length_drop, bl_len, show s.size - (s.size - k) = k by omega]
  simp [decN]
  grind

end Go.Proofs.YtjahbjjekednfabDoor

namespace Go.Proofs.YtjahbjjekednfabDoor
open Go.RowKit

/-- A call that returns the digits of a text, the lowest first. -/
def RetFg (w : World) (s : ByteArray) (e : Ending) (w' : World) : Prop := ∃ v, e = .returned (.tuple #[v, .bool true]) ∧ Row w' 3 v (dgs s s.size) ∧ Kp w w'

set_option maxHeartbeats 3200000 in
set_option maxRecDepth 100000 in
/-- surdkeep.figures. -/
theorem figures_any (s : ByteArray) (w : World) (hd : Digs (bl s)) (h1 : 1 ≤ s.size) (h9 : s.size ≤ 1000) (h48 : byteAt s 0 ≠ 48) : Calls Tryd.prog 22 #[.string s] w (RetFg w s) := by
 obtain ⟨i0, hi, hz0, hz1, hz2⟩ := info_parts Tryd.infoInt
 have HDG := Hid.mk hd
 have HL := Hid.mk (bl_len s)
 have hb0 := byteAt_eq s 0 h1
 have h48b : (byteAt s 0 != 48) = true := by simpa using h48
 clear hd h48
 go_enter Tryd.func22, Tryd.ntmps22
 go_wp2_with fail
 go_loopw [4, 5] (fun v i wr => ∃ (k : Nat) (y : Int), k ≤ s.size ∧ i = .int .i64 y ∧ -1 ≤ y ∧ y < s.size ∧ wr.ownsRow w.heap.size 3 1 v k (vals (dgs s k)) ∧ Kp w wr ∧ Hid (y = (s.size : Int) - 1 - k))
  (fun _ i _ => (intOf i + 1).toNat)
 case atStart => exact ⟨0, _, by omega, rfl, by omega, by omega, by rw [dgs_zero]; exact World.ownsRow_nil _ _ _ _, Below.refl _ _, by unfold Hid; omega⟩
 case round =>
  obtain ⟨k, y, hk, rfl, hy0, hy1, hown, hkr, HY⟩ := hrel
  by_cases h : 0 ≤ y
  ·obtain ⟨p, rfl⟩ : ∃ p : Nat, y = p := ⟨y.toNat, by omega⟩
   have hps : p < s.size := by omega
   have hb := byteAt_eq s p hps
   have hbd : 48 ≤ byteAt s p ∧ byteAt s p ≤ 57 := by
    rw [byteAt_bl]; exact isDig_bd (digs_at HDG.out (by rw [HL.out]; exact hps))
   have hc1 := hbd.1
   have hc2 := hbd.2
   have hpi : (p : Int) < (s.size : Int) := by omega
   have hkl : k < s.size := by have := HY.out; omega
   have HD : Hid (dgs s (k + 1) = dgs s k ++ [byteAt s p - 48]) := by
    unfold Hid
    rw [dgs_succ s hkl, show s.size - 1 - k = p by have := HY.out; omega]
   have HY2 : Hid ((p : Int) - 1 = (s.size : Int) - 1 - (k + 1 : Nat)) := by have := HY.out; unfold Hid; omega
   clear hbd HY
   generalize byteAt s p = C at *
   go_wp2_with (at_builtin; (refine wpList_append_one _ rfl _ _ 47 rfl w 3 i0 (.int .i64 0) 8 Tryd.underlying47 hi hz0 hz1 hz2 rfl u4 k (dgs s k) (C - 48) rfl hown hkr rfl (by unfold maxLen; omega) (by omega) ?_))
   intro v' w1 hown' hbw'
   clear hown hkr
   rw [← HD.out] at hown'
   go_wp2
   go_roundw
   case rel => exact ⟨k + 1, _, by omega, rfl, by omega, by omega, hown', hbw', HY2⟩
   case measure => simp [intOf]
  ·have hke : k = s.size := by have := HY.out; omega
   subst hke
   have hr := Row.of_owns hown
   have hsz : (0 : Int) < (s.size : Int) := by omega
   clear hown HY
   go_wp2_with fail
   refine wp_region_l (S := fun w' => Row w' 3 u4 (dgs s s.size) ∧ Kp w w') (by kernel_rfl) ⟨hr.soft (Sf.drew (Sf.refl _ _)), Kp.drew' hkr⟩ (fun hS0 => ?_)
   generalize wr.drew = wd at *
   refine wpAnyL_tk (i := 0) (k := 9) (v := u4) rfl ?_ hS0 ?_
   ·intro w' hw'; go_simp
   simp only [sq]
   refine wpAnyL_tk (i := 1) (k := 2) (v := .string s) rfl ?_ hS0 ?_
   ·intro w' hw'; go_simp
   simp only [sq]
   refine wpAnyL_tk (i := 2) (k := 3) (v := .int .i64 (s.size : Int)) rfl ?_ hS0 ?_
   ·intro w' hw'; go_simp
   simp only [sq]
   refine wpAnyL_tk (i := 3) (k := 4) (v := .bool true) rfl ?_ hS0 ?_
   ·intro w' hw'; go_simp; omega
   simp only [sq]
   refine wpAnyL_tk (i := 4) (k := 5) (v := .bool true) rfl ?_ hS0 ?_
   ·intro w' hw'; go_simp
   simp only [sq]
   refine wpAnyL_tk (i := 5) (k := 6) (v := .string s) rfl ?_ hS0 ?_
   ·intro w' hw'; go_simp
   simp only [sq]
   refine wpAnyL_tk (i := 6) (k := 7) (v := .int .u8 (byteAt s 0)) rfl ?_ hS0 ?_
   ·intro w' hw'; go_simp
    intro he
    rw [he] at h1
    exact absurd h1 (by decide)
   simp only [sq]
   refine wpAnyL_tk (i := 7) (k := 8) (v := .bool true) rfl ?_ hS0 ?_
   ·intro w' hw'; go_simp
   simp only [sq]
   refine wpAnyL_tk (i := 8) (k := 10) (v := .bool true) rfl ?_ hS0 ?_
   ·intro w' hw'; go_simp
   simp only [sq]
   refine wpAnyL_on (i := 9) rfl (fun K hK => ?_)
   go_simp
   refine hK.out _ _ hS0 (fun hS1 => ?_)
   clear hK K
   try simp only [sq]
   refine wpAnyL_last (i := 10) rfl (by kernel_rfl) (by kernel_rfl) (by kernel_rfl) (fun K hK => ?_)
   go_simp
   refine hK.out _ _ ?_
   clear hK K
   go_wp2_with fail
   refine bodyPost_ret (v := .tuple #[u4, .bool true]) (by simp [results, Tryd.results22, go_sem]) rfl ?_
   exact ⟨_, rfl, hS1.1, hS1.2⟩

end Go.Proofs.YtjahbjjekednfabDoor
