import Derived.Test.YtjahbjjekednfabDoorQ1
import Derived.Test.YtjahbjjekednfabDoorW8
import Derived.Test.YtjahbjjekednfabDoorL0
namespace Go.Proofs.YtjahbjjekednfabDoor
open Go.RowKit

theorem decN_fold : ∀ (b : List Int) (n : Int), b.foldl (fun n c => n * 10 + (c - 48)) n = n * 10 ^ b.length + decN b
 | [], n => by simp [decN]
 | c :: b, n => by
  unfold decN
  rw [List.foldl_cons, List.foldl_cons, decN_fold b, decN_fold b (0 * 10 + (c - 48)), List.length_cons, Int.pow_succ]
  grind
theorem decN_app (a b : List Int) : decN (a ++ b) = decN a * 10 ^ b.length + decN b := by
 rw [← decN_fold b (decN a)]
 unfold decN
 rw [List.foldl_append]

set_option maxHeartbeats 800000 in
theorem allDigits_any (s : ByteArray) (w : World) (hs : s.size ≤ 1000) : Calls Tryd.prog 79 #[.string s] w (RetV w (.bool ((bl s).all isDig))) := by
 go_enter Tryd.func79, Tryd.ntmps79
 go_wp2_with fail
 go_loopw [3] (fun i wr => ∃ j : Nat, j ≤ s.size ∧ i = .int .i64 j ∧ Kp w wr ∧ Hid (∀ k, k < j → isDig (at0 (bl s) k) = true))
  (fun i _ => s.size - (intOf i).toNat)
 case atStart => exact ⟨0, by omega, rfl, Below.refl _ _, fun k hk => absurd hk (by omega)⟩
 case round =>
  obtain ⟨j, hj, rfl, hkr, HP⟩ := hrel
  have hlen := bl_len s
  by_cases h1 : j < s.size
  ·have hb := byteAt_eq s j h1
   have hbb := byteAt_bl s j
   have hj0 : (0 : Int) ≤ (j : Int) := by omega
   have hj1 : (j : Int) < (s.size : Int) := by omega
   by_cases hd : isDig (at0 (bl s) j) = true
   ·have hbd := isDig_bd hd
    rw [← hbb] at hbd
    have HP' : Hid (∀ k, k < j + 1 → isDig (at0 (bl s) k) = true) := fun k hk => by
     rcases Nat.lt_or_ge k j with h | h
     ·exact HP.out k h
     ·rw [show k = j by omega]; exact hd
    clear hd hbb HP hlen
    generalize byteAt s j = C at *
    go_wp2_with fail
    go_roundw
    case rel => exact ⟨j + 1, by omega, by go_num, hkr, HP'⟩
    case measure => simp [intOf]; omega
   ·have HF : Hid ((bl s).all isDig = false) := by
     unfold Hid
     rw [List.all_eq_false]
     exact ⟨at0 (bl s) j, by rw [at0_eq (by omega)]; exact List.getElem_mem _, hd⟩
    rw [← hbb] at hd
    unfold isDig at hd
    rw [HF.out]
    clear hbb HP hlen HF
    generalize byteAt s j = C at *
    by_cases h2 : C < 48
    ·clear hd
     go_wp2_with fail
     go_ret
     exact ⟨rfl, hkr⟩
    ·have h3 : 57 < C := by simp at hd; omega
     clear hd
     go_wp2_with fail
     go_ret
     exact ⟨rfl, hkr⟩
  ·have HT : Hid ((bl s).all isDig = true) := by
    unfold Hid
    rw [List.all_eq_true]
    intro c hc
    obtain ⟨k, hk, rfl⟩ := List.getElem_of_mem hc
    rw [← at0_eq hk]
    exact HP.out k (by omega)
   clear HP hlen
   go_wp2_with fail
   go_ret
   exact ⟨by rw [HT.out]; rfl, hkr⟩

/-- A part of the digits. -/
def chk (t : List Int) (a b : Nat) : Int := decN ((t.take b).drop a)
theorem chk_nil (t : List Int) (a : Nat) : chk t a a = 0 := by
 unfold chk
 rw [List.drop_eq_nil_of_le (by rw [List.length_take]; omega)]
 rfl
theorem chk_step {t : List Int} {a b : Nat} (h : a ≤ b) (hb : b < t.length) : chk t a (b + 1) = chk t a b * 10 + (at0 t b - 48) := by
 unfold chk
 rw [take_snoc hb, List.drop_append_of_le_length (by rw [List.length_take]; omega), decN_snoc]
theorem chk_bd {t : List Int} (h : Digs t) (a b : Nat) : 0 ≤ chk t a b ∧ chk t a b < 10 ^ (b - a) := by
 have hd : Digs ((t.take b).drop a) := fun c hc => h c (List.mem_of_mem_take (List.mem_of_mem_drop hc))
 obtain ⟨h0, h1⟩ := decN_bd hd
 refine ⟨h0, Int.lt_of_lt_of_le h1 ?_⟩
 exact_mod_cast Nat.pow_le_pow_right (show 0 < 10 by decide) (show ((t.take b).drop a).length ≤ b - a by rw [List.length_drop, List.length_take]; omega)
theorem chk_split {t : List Int} {a b : Nat} (h : a ≤ b) (hb : b ≤ t.length) : decN (t.drop a) = chk t a b * 10 ^ (t.length - b) + decN (t.drop b) := by
 unfold chk
 have e : t.drop a = (t.take b).drop a ++ t.drop b := by
  conv => lhs; rw [← List.take_append_drop b t]
  rw [List.drop_append_of_le_length (by rw [List.length_take]; omega)]
 rw [e, decN_app, List.length_drop]

end Go.Proofs.YtjahbjjekednfabDoor
