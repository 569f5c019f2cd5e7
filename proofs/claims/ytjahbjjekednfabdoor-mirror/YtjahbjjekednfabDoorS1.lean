import Derived.Test.YtjahbjjekednfabDoorLa
import Derived.Test.YtjahbjjekednfabDoorSoft
import Derived.Test.YtjahbjjekednfabDoorSt
namespace Go.Proofs.YtjahbjjekednfabDoor
open Go.RowKit

set_option maxHeartbeats 3200000 in
set_option maxRecDepth 100000 in
theorem small_pos (s : ByteArray) (w : World) (hd : Digs (bl s)) (h1 : 1 ≤ s.size) (h9 : s.size ≤ 9) : Calls Tryd.prog 25 #[.string s] w (RetV w (.tuple #[.int .i64 (decN (bl s)), .bool true])) := by
 have hlen := bl_len s
 have hb0 := byteAt_eq s 0 h1
 have hbd0 : 48 ≤ byteAt s 0 ∧ byteAt s 0 ≤ 57 := by
  rw [byteAt_bl]; exact isDig_bd (digs_at hd (by omega))
 have h45 : (byteAt s 0 == 45) = false := by simp; omega
 clear hbd0
 go_enter Tryd.func25, Tryd.ntmps25
 go_wp2_with fail
 go_loopw [4, 5] (fun n i wr => ∃ j : Nat, j ≤ s.size ∧ i = .int .i64 j ∧ n = .int .i64 (decN ((bl s).take j)) ∧ Kp w wr)
  (fun _ i _ => s.size - (intOf i).toNat)
 case atStart => exact ⟨0, by omega, rfl, rfl, Below.refl _ _⟩
 case round =>
  obtain ⟨j, hj, rfl, rfl, hkr⟩ := hrel
  by_cases hjs : j < s.size
  ·have hb := byteAt_eq s j hjs
   have hjl : j < (bl s).length := by omega
   have HD : Hid (decN ((bl s).take (j + 1)) = decN ((bl s).take j) * 10 + (byteAt s j - 48)) := by
    unfold Hid
    rw [take_snoc hjl, decN_snoc, byteAt_bl]
   have hbd : 48 ≤ byteAt s j ∧ byteAt s j ≤ 57 := by
    rw [byteAt_bl]; exact isDig_bd (digs_at hd hjl)
   have hn := decN_bd (digs_take hd j)
   have hlt : ((bl s).take j).length = j := by rw [List.length_take]; omega
   rw [hlt] at hn
   have hn0 := hn.1
   have hn1 : decN ((bl s).take j) < 1000000000 := Int.lt_of_lt_of_le hn.2 (show (10 : Int) ^ j ≤ 10 ^ 9 by exact_mod_cast Nat.pow_le_pow_right (show 0 < 10 by decide) (show j ≤ 9 by omega))
   have hji : (j : Int) < (s.size : Int) := by omega
   have hj0 : (0 : Int) ≤ (j : Int) := by omega
   have hc1 := hbd.1
   have hc2 := hbd.2
   clear hn hbd
   by_cases hz : j = 0
   ·subst hz
    generalize decN ((bl s).take 0) = N at *
    generalize byteAt s 0 = C at *
    go_wp2_with fail
    go_roundw
    case rel => exact ⟨1, by omega, by go_num, by rw [HD.out]; go_num, hkr⟩
    case measure => simp [intOf]; omega
   ·have hzb : ((j : Int) == 0) = false := by simp; omega
    generalize decN ((bl s).take j) = N at *
    generalize byteAt s j = C at *
    go_wp2_with fail
    go_roundw
    case rel => exact ⟨j + 1, by omega, by go_num, by rw [HD.out]; go_num, hkr⟩
    case measure => simp [intOf]; omega
  ·have hje : j = s.size := by omega
   have e : decN ((bl s).take j) = decN (bl s) := by rw [hje, ← hlen, List.take_length]
   rw [e]
   have hsz : (0 : Int) < (s.size : Int) := by omega
   clear e hje
   generalize decN (bl s) = N at *
   generalize byteAt s 0 = C at *
   go_wp2_with fail
   refine bodyPost_ret (v := .tuple #[.int .i64 N, .bool true]) (by simp [results, Tryd.results25, go_sem]) rfl ?_
   exact ⟨rfl, hkr⟩

set_option maxHeartbeats 3200000 in
set_option maxRecDepth 100000 in
theorem small_neg (s : ByteArray) (w : World) (hd : Digs ((bl s).drop 1)) (h45 : byteAt s 0 = 45) (h2 : 2 ≤ s.size) (h9 : s.size ≤ 9) : Calls Tryd.prog 25 #[.string s] w (RetV w (.tuple #[.int .i64 (- decN ((bl s).drop 1)), .bool true])) := by
 have hlen := bl_len s
 have hb0 := byteAt_eq s 0 (by omega)
 rw [h45] at hb0
 have hld : ((bl s).drop 1).length = s.size - 1 := by rw [List.length_drop, hlen]
 have hsz1 : (1 : Int) < (s.size : Int) := by omega
 have hsz0 : (0 : Int) < (s.size : Int) := by omega
 clear h45
 go_enter Tryd.func25, Tryd.ntmps25
 go_wp2_with fail
 go_loopw [4, 5] (fun n i wr => ∃ j : Nat, j ≤ s.size ∧ i = .int .i64 j ∧ n = .int .i64 (decN (((bl s).drop 1).take (j - 1))) ∧ Kp w wr)
  (fun _ i _ => s.size - (intOf i).toNat)
 case atStart => exact ⟨0, by omega, rfl, rfl, Below.refl _ _⟩
 case round =>
  obtain ⟨j, hj, rfl, rfl, hkr⟩ := hrel
  by_cases hjs : j < s.size
  ·by_cases hz : j = 0
   ·subst hz
    have e : decN (((bl s).drop 1).take (0 - 1)) = 0 := rfl
    have HE : Hid (decN (((bl s).drop 1).take (1 - 1)) = 0) := rfl
    rw [e]
    clear e hd hld
    go_wp2_with fail
    go_roundw
    case rel => exact ⟨1, by omega, by go_num, by rw [HE.out], hkr⟩
    case measure => simp [intOf]; omega
   ·have hb := byteAt_eq s j hjs
    have hjl : j - 1 < ((bl s).drop 1).length := by omega
    have hat : at0 ((bl s).drop 1) (j - 1) = byteAt s j := by
     rw [byteAt_bl, at0_eq hjl, List.getElem_drop, at0_eq (by omega)]
     congr 1
     omega
    have HD : Hid (decN (((bl s).drop 1).take (j + 1 - 1)) = decN (((bl s).drop 1).take (j - 1)) * 10 + (byteAt s j - 48)) := by
     unfold Hid
     rw [show j + 1 - 1 = (j - 1) + 1 by omega, take_snoc hjl, decN_snoc, hat]
    have hbd : 48 ≤ byteAt s j ∧ byteAt s j ≤ 57 := by
     rw [← hat]; exact isDig_bd (digs_at hd hjl)
    have hn := decN_bd (digs_take hd (j - 1))
    have hlt : (((bl s).drop 1).take (j - 1)).length = j - 1 := by rw [List.length_take]; omega
    rw [hlt] at hn
    have hn0 := hn.1
    have hn1 : decN (((bl s).drop 1).take (j - 1)) < 1000000000 := Int.lt_of_lt_of_le hn.2 (show (10 : Int) ^ (j - 1) ≤ 10 ^ 9 by exact_mod_cast Nat.pow_le_pow_right (show 0 < 10 by decide) (show j - 1 ≤ 9 by omega))
    have hji : (j : Int) < (s.size : Int) := by omega
    have hj0 : (0 : Int) ≤ (j : Int) := by omega
    have hc1 := hbd.1
    have hc2 := hbd.2
    have hzb : ((j : Int) == 0) = false := by simp; omega
    clear hn hbd hat hlt
    generalize decN (((bl s).drop 1).take (j - 1)) = N at *
    generalize byteAt s j = C at *
    go_wp2_with fail
    go_roundw
    case rel => exact ⟨j + 1, by omega, by go_num, by rw [HD.out]; go_num, hkr⟩
    case measure => simp [intOf]; omega
  ·have e : decN (((bl s).drop 1).take (j - 1)) = decN ((bl s).drop 1) := by rw [show j - 1 = ((bl s).drop 1).length by omega, List.take_length]
   rw [e]
   have hn := decN_bd hd
   have hn1 : decN ((bl s).drop 1) < 1000000000 := Int.lt_of_lt_of_le hn.2 (show (10 : Int) ^ ((bl s).drop 1).length ≤ 10 ^ 9 by exact_mod_cast Nat.pow_le_pow_right (show 0 < 10 by decide) (show ((bl s).drop 1).length ≤ 9 by omega))
   have hn0 := hn.1
   clear e hn
   generalize decN ((bl s).drop 1) = N at *
   go_wp2_with fail
   refine bodyPost_ret (v := .tuple #[.int .i64 (-N), .bool true]) (by simp [results, Tryd.results25, go_sem]) rfl ?_
   exact ⟨rfl, hkr⟩

set_option maxHeartbeats 800000 in
theorem small_long (s : ByteArray) (w : World) (h9 : 9 < s.size) : Calls Tryd.prog 25 #[.string s] w (RetV w (.tuple #[.int .i64 0, .bool false])) := by
 go_enter Tryd.func25, Tryd.ntmps25
 go_wp2_with fail
 refine bodyPost_ret (v := .tuple #[.int .i64 0, .bool false]) (by simp [results, Tryd.results25, go_sem]) rfl ?_
 exact ⟨rfl, Below.refl _ _⟩
/-- surdkeep.small of a whole number's text. -/
theorem small_num (s : ByteArray) (z : Int) (w : World) (h : NumT s z) (h9 : s.size ≤ 9) : Calls Tryd.prog 25 #[.string s] w (RetV w (.tuple #[.int .i64 z, .bool true])) := by
 have e : s = strOf s.data.toList := by apply ByteArray.ext; simp [strOf]
 have hl : s.data.toList.length ≤ 9 := by
  rw [Array.length_toList]
  exact h9
 generalize s.data.toList = t at e hl
 subst e
 rcases numT_of h with ⟨_, h2, h3⟩ | ⟨_, t', rfl, h3, h4, _, h5⟩
 ·rw [h3, ← bl_strOf]
  have hd : Digs (bl (strOf t)) := by
   rcases h2 with rfl | ⟨_, h6, _⟩
   ·exact fun c hc => by simp [bl_strOf, bi] at hc; rw [hc]; rfl
   ·exact h6
  refine small_pos (strOf t) w hd ?_ h9
  rcases h2 with rfl | ⟨h6, _, _⟩
  ·decide
  ·rw [strOf_size]
   have := List.length_pos_iff.2 h6
   omega
 ·rw [h5]
  have e1 : (bl (strOf (45 :: t'))).drop 1 = bi t' := rfl
  rw [← e1]
  refine small_neg (strOf (45 :: t')) w h4 ?_ ?_ h9
  ·rw [byteAt_bl]; rfl
  ·rw [str_sz]
   have := List.length_pos_iff.2 h3
   omega

end Go.Proofs.YtjahbjjekednfabDoor

namespace Go.Proofs.YtjahbjjekednfabDoor
open Go.RowKit

theorem itoa_at (n : Int) (h0 : -9223372036854775808 ≤ n) (h1 : n ≤ 9223372036854775807) (w : World) (ht : Tens w) : Calls Tryd.prog 15 #[.int .i64 n] w (RetV w (.string (strOf (Go.Lib.itoa n)))) := by
 refine (Tryd.strconv_Itoa n h0 h1 w ht).mono ?_
 rintro e w' ⟨rfl, k, os, rfl⟩
 refine ⟨rfl, rfl, rfl, rfl, ?_, fun i hi => ?_⟩
 ·show w.heap.size ≤ (w.heap ++ os).size
  simp
 ·show (w.heap ++ os)[i]? = w.heap[i]?
  rw [Array.getElem?_append_left hi]
/-- Which of n things the raw number c speaks of. -/
def pk (c n : Int) : Int := (if c < 0 then -(c + 1) else c) % n
theorem pk_bd (c : Int) {n : Int} (hn : 0 < n) : 0 ≤ pk c n ∧ pk c n < n := ⟨Int.emod_nonneg _ (by omega), Int.emod_lt_of_pos _ hn⟩

set_option maxHeartbeats 800000 in
theorem pick_any (c n : Int) (w : World) (h0 : -9223372036854775808 ≤ c) (h1 : c ≤ 9223372036854775807) (hn : 0 < n) (hn1 : n ≤ 1000000000) : Calls Tryd.prog 14 #[.int .i64 c, .int .i64 n] w (RetV w (.int .i64 (pk c n))) := by
 by_cases h : c < 0
 ·have HE : Hid (-((c + 1).tmod n) = pk c n) := by
   unfold Hid pk
   rw [if_pos h, ← Int.neg_tmod, Int.tmod_eq_emod_of_nonneg (by omega)]
  have HF : Hid ((-(c + 1)) % n = pk c n) := by unfold Hid pk; rw [if_pos h]
  have hz : (n == 0) = false := by simp; omega
  generalize pk c n = R at *
  go_enter Tryd.func14, Tryd.ntmps14
  go_wp2_with fail
  go_ret
  refine ⟨?_, Below.refl _ _⟩
  first
   | (rw [← HE.out]; rfl)
   | (rw [← HF.out]; rfl)
 ·have HE : Hid (c.tmod n = pk c n) := by
   unfold Hid pk
   rw [if_neg h, Int.tmod_eq_emod_of_nonneg (by omega)]
  have HF : Hid (c % n = pk c n) := by unfold Hid pk; rw [if_neg h]
  have hz : (n == 0) = false := by simp; omega
  generalize pk c n = R at *
  go_enter Tryd.func14, Tryd.ntmps14
  go_wp2_with fail
  go_ret
  refine ⟨?_, Below.refl _ _⟩
  first
   | (rw [← HE.out]; rfl)
   | (rw [← HF.out]; rfl)
theorem itoa_len {z : Int} (h : z.natAbs < 100000000) : (strOf (Go.Lib.itoa z)).size ≤ 9 := by
 rw [strOf_size]
 obtain ⟨j, hj, _⟩ := pad_dec 7 z.natAbs (by omega)
 unfold Go.Lib.itoa
 split
 ·simp only [List.length_cons]
  omega
 ·have e : z.toNat = z.natAbs := by omega
  simp only [e]
  omega

theorem sz_bd {z : Int} (h : (strOf (Go.Lib.itoa z)).size ≤ 9) : z.natAbs < 1000000000 := by
 have key : ∀ t : List UInt8, t.length ≤ 9 → Digs (bi t) → 0 ≤ decN (bi t) ∧ decN (bi t) < 1000000000 := by
  intro t hl hD
  have h1 := chk_bd hD 0 (bi t).length
  have h2 : chk (bi t) 0 (bi t).length = decN (bi t) := by
   unfold chk
   rw [List.take_length, List.drop_zero]
  rw [h2] at h1
  have hl' : (bi t).length ≤ 9 := by simpa [bi] using hl
  have h3 : (10 : Int) ^ ((bi t).length - 0) ≤ 10 ^ 9 := by
   have := Nat.pow_le_pow_right (n := 10) (by decide) (show (bi t).length - 0 ≤ 9 by omega)
   exact_mod_cast this
  omega
 have hT : NumT (strOf (Go.Lib.itoa z)) z := rfl
 rw [strOf_size] at h
 generalize Go.Lib.itoa z = t at *
 rcases numT_of hT with ⟨_, h2, h3⟩ | ⟨_, t', h1, h2, h3, _, h5⟩
 ·rcases h2 with rfl | ⟨_, h5, _⟩
  ·have : decN (bi [48]) = 0 := by decide
   omega
  ·have := key t h h5
   omega
 ·subst h1
  rw [List.length_cons] at h
  have := key t' (by omega) h3
  omega
/-- What small tells of a whole number's text. -/
theorem small_ex (z : Int) : ∃ (x : Int) (b : Bool), (∀ W, Calls Tryd.prog 25 #[.string (strOf (Go.Lib.itoa z))] W (RetV W (.tuple #[.int .i64 x, .bool b]))) ∧ (b = true → x = z ∧ (strOf (Go.Lib.itoa z)).size ≤ 9) := by
 by_cases h : (strOf (Go.Lib.itoa z)).size ≤ 9
 ·exact ⟨z, true, fun W => small_num _ z W rfl h, fun _ => ⟨rfl, h⟩⟩
 ·exact ⟨0, false, fun W => small_long _ W (by omega), fun h => by cases h⟩

end Go.Proofs.YtjahbjjekednfabDoor
