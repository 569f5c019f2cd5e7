import Derived.Test.YtjahbjjekednfabDoorL1
import Derived.Test.YtjahbjjekednfabDoorW1
namespace Go.Proofs.YtjahbjjekednfabDoor
open Go.RowKit

theorem pow9 (k : Nat) : (10 : Int) ^ (9 * k) = 1000000000 ^ k := by
 rw [Int.pow_mul]; rfl

set_option maxHeartbeats 3200000 in
set_option maxRecDepth 100000 in
/-- whole.limbsOf: the number that digits tell. -/
theorem limbsOf_any (s : ByteArray) (w : World) (hd : Digs (bl s)) (hs : s.size ≤ 1000) : Calls Tryd.prog 80 #[.string s] w (RetRp 2 1000000000 w (decN (bl s))) := by
 obtain ⟨i0, hi, hz0, hz1, hz2⟩ := info_parts Tryd.infoI64
 have HL := Hid.mk (bl_len s)
 have HDG := Hid.mk hd
 clear hd
 go_enter Tryd.func80, Tryd.ntmps80
 go_wp2_with fail
 go_loopw [3, 4] (fun v e wr => ∃ (k E : Nat) (l : List Int) (x : Int), k ≤ s.size ∧ E ≤ s.size ∧ e = .int .i64 x ∧ -9 < x ∧ x ≤ s.size ∧ wr.ownsRow w.heap.size 2 1 v k (vals l) ∧ Kp w wr ∧ Hid (x = (s.size : Int) - 9 * k ∧ E = s.size - 9 * k ∧ l.length = k ∧ Dig 1000000000 l ∧ val 1000000000 l = decN ((bl s).drop E)))
  (fun _ e _ => (intOf e).toNat)
 case atStart => exact ⟨0, s.size, [], _, by omega, by omega, rfl, by omega, by omega, by have := World.ownsRow_made (base := w.heap.size) (e := 2) (size := 1) w #[] 0 (by simp) (by decide) rfl; exact this, kp_alloc _ _, by simp, by omega, rfl, Dig.nil (by decide), by rw [← HL.out, List.drop_length]; rfl⟩
 case round =>
  obtain ⟨k, E, l, x, hk, hEs, rfl, hx0, hx1, hown, hkr, HV⟩ := hrel
  by_cases h1 : 0 < x
  ·have hEx : x = E := by have := HV.out; omega
   subst hEx
   have hE0 : 0 < E := by omega
   clear hx0 h1
   go_wp2_with fail
   go_loopw [5, 6] (fun m i wq => ∃ (j : Nat) (y M : Int), j ≤ 9 ∧ i = .int .i64 y ∧ m = .int .i64 M ∧ -9 ≤ y ∧ y ≤ E ∧ wq = wr ∧ Hid (y = (E : Int) + j - 9 ∧ M = chk (bl s) (E - 9) (E + j - 9)))
    (fun _ i _ => ((E : Int) - intOf i).toNat)
   case atStart => exact ⟨0, _, _, by omega, rfl, rfl, by omega, by omega, rfl, by simp, (chk_nil _ _).symm⟩
   case round =>
    obtain ⟨j, y, M, hj, rfl, rfl, hy0, hy1, rfl, HM⟩ := hrel
    have hM := chk_bd HDG.out (E - 9) (E + j - 9)
    rw [← HM.out.2] at hM
    have hM0 := hM.1
    have hM1 : M < 1000000000 := Int.lt_of_lt_of_le hM.2 (show (10 : Int) ^ (E + j - 9 - (E - 9)) ≤ 10 ^ 9 by exact_mod_cast Nat.pow_le_pow_right (show 0 < 10 by decide) (by omega))
    have hM2 : y < E → M < 100000000 := fun h => Int.lt_of_lt_of_le hM.2 (show (10 : Int) ^ (E + j - 9 - (E - 9)) ≤ 10 ^ 8 by exact_mod_cast Nat.pow_le_pow_right (show 0 < 10 by decide) (by have := HM.out.1; omega))
    clear hM
    by_cases h2 : y < E
    ·replace hM2 := hM2 h2
     by_cases h3 : 0 ≤ y
     ·obtain ⟨p, rfl⟩ : ∃ p : Nat, y = p := ⟨y.toNat, by omega⟩
      have hps : p < s.size := by omega
      have hb := byteAt_eq s p hps
      have hbd : 48 ≤ byteAt s p ∧ byteAt s p ≤ 57 := by
       rw [byteAt_bl]; exact isDig_bd (digs_at HDG.out (by rw [HL.out]; exact hps))
      have hpi : (p : Int) < (s.size : Int) := by omega
      have HN : Hid (((p + 1 : Int)) = (E : Int) + (j + 1 : Nat) - 9 ∧ M * 10 + (byteAt s p - 48) = chk (bl s) (E - 9) (E + (j + 1) - 9)) := by
       have := HM.out.1
       refine ⟨by omega, ?_⟩
       rw [HM.out.2, show E + (j + 1) - 9 = (E + j - 9) + 1 by omega, chk_step (by omega) (by rw [HL.out]; omega), byteAt_bl, show E + j - 9 = p by omega]
      generalize byteAt s p = C at *
      go_wp2_with fail
      go_roundw
      case rel => exact ⟨j + 1, _, _, by have := HM.out.1; omega, rfl, rfl, by omega, by omega, trivial, HN⟩
      case measure => simp [intOf]; omega
     ·have HN : Hid (y + 1 = (E : Int) + (j + 1 : Nat) - 9 ∧ M = chk (bl s) (E - 9) (E + (j + 1) - 9)) := by
       have := HM.out.1
       refine ⟨by omega, ?_⟩
       rw [HM.out.2, show E + (j + 1) - 9 = E + j - 9 by omega]
      go_wp2_with fail
      go_roundw
      case rel => exact ⟨j + 1, _, _, by have := HM.out.1; omega, rfl, rfl, by omega, by omega, trivial, HN⟩
      case measure => simp [intOf]; omega
    ·have hj9 : j = 9 := by have := HM.out.1; omega
     subst hj9
     have hye : y = E := by omega
     subst hye
     have HN : Hid ((E : Int) - 9 = (s.size : Int) - 9 * (k + 1 : Nat) ∧ E - 9 = s.size - 9 * (k + 1) ∧ (l ++ [M]).length = k + 1 ∧ Dig 1000000000 (l ++ [M]) ∧ val 1000000000 (l ++ [M]) = decN ((bl s).drop (E - 9))) := by
      obtain ⟨v1, v2, v3, v4, v5⟩ := HV.out
      refine ⟨by omega, by omega, by simp [v3], v4.snoc ⟨hM0, hM1⟩, ?_⟩
      rw [val_snoc, v5, v3, chk_split (a := E - 9) (b := E) (by omega) (by rw [HL.out]; omega), HM.out.2, HL.out, show E + 9 - 9 = E by omega, ← pow9, show s.size - E = 9 * k by omega, Int.mul_comm, Int.add_comm]
     have hcap : k < 1000 := by have := HV.out; omega
     have hks : k + 1 ≤ s.size := by have := HV.out; omega
     go_wp2_with (at_builtin; (refine wpList_append_one _ rfl _ _ 58 rfl w 2 i0 (.int .i64 0) 8 Tryd.underlying58 hi hz0 hz1 hz2 rfl u3 k l M rfl hown hkr rfl (by unfold maxLen; omega) (by omega) ?_))
     intro v' w1 hown' hbw'
     clear hown hkr
     go_wp2
     go_roundw
     case rel => exact ⟨k + 1, E - 9, l ++ [M], _, by omega, by omega, rfl, by omega, by omega, hown', hbw', HN⟩
     case measure => simp [intOf]; omega
  ·have HE : Hid (Dig 1000000000 l ∧ val 1000000000 l = decN (bl s)) := by
    obtain ⟨v1, v2, v3, v4, v5⟩ := HV.out
    rw [show E = 0 by omega, List.drop_zero] at v5
    exact ⟨v4, v5⟩
   clear HV
   have hr := Row.of_owns hown
   have hfr := fresh_of hown
   obtain ⟨ao, cap, hv', hc1, hc2⟩ := hr.slice
   clear hown
   subst hv'
   go_wp2_with (go_at_call 103; refine (significant_any _ _ _ (by exact hr)).mono ?_; rintro e w2 ⟨n, rfl, rfl, hsig⟩; have hn1 := hsig.1)
   go_ret
   exact subtract_end rfl hr HE.out.1 HE.out.2 hsig hkr hfr

end Go.Proofs.YtjahbjjekednfabDoor
