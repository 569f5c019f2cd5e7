import Derived.Test.YtjahbjjekednfaaE1
import Derived.Test.YtjahbjjekednfaaQ1
import Derived.Test.YtjahbjjekednfaaP4
namespace Go.Proofs.Ytjahbjjekednfaa
open Go.RowKit

theorem lst_step (l : List Int) (a b : Int) (j : Nat) (o : Int) : lst l a b (j + 1) o = if at0 l (j + 1) = 41 then lst l a b j (o + 1) else if at0 l (j + 1) = 40 then lst l a b j (o - 1)
  else if o = 0 ∧ (at0 l (j + 1) = a ∨ at0 l (j + 1) = b) ∧ (isDig (at0 l j) = true ∨ at0 l j = 41) then ((j + 1 : Nat) : Int) else lst l a b j o := rfl

set_option maxHeartbeats 3200000 in
set_option maxRecDepth 100000 in
theorem last_any (s : ByteArray) (a b : Int) (w : World) (hs1 : 1 ≤ s.size) (hs : s.size ≤ 1000) : Calls Try.prog 49 #[.string s, .int .u8 a, .int .u8 b] w (RetV w (.int .i64 (lst (bl s) a b (s.size - 1) 0))) := by
 generalize hR : lst (bl s) a b (s.size - 1) 0 = RR
 go_enter Try.func49, Try.ntmps49
 go_wp2_with fail
 go_loopw [7, 8, 9] (fun op i _ wr => ∃ (k : Nat) (o : Int), k ≤ s.size - 1 ∧ i = .int .i64 k ∧ op = .int .i64 o ∧ -1000 + (k : Int) ≤ o ∧ o ≤ 1000 - (k : Int) ∧ Kp w wr ∧ Hid (RR = lst (bl s) a b k o))
  (fun _ i _ _ => (intOf i).toNat)
 case atStart => exact ⟨s.size - 1, 0, by omega, by rw [show ((s.size - 1 : Nat) : Int) = (s.size : Int) - 1 by omega], rfl, by omega, by omega, Below.refl _ _, hR.symm⟩
 case round =>
  obtain ⟨k, o, hk, rfl, rfl, ho1, ho2, hkr, HL⟩ := hrel
  clear hR
  by_cases h0 : k = 0
  ·subst h0
   have HE : Hid (RR = -1) := HL.out
   go_wp2_with fail
   go_ret
   exact ⟨by rw [HE.out]; rfl, hkr⟩
  ·obtain ⟨j, hj⟩ : ∃ j, k = j + 1 := ⟨k - 1, by omega⟩
   have hks : k < s.size := by omega
   have hjs : j < s.size := by omega
   have HK := Hid.mk hj
   have hb := byteAt_eq s k hks
   have hb0 := byteAt_eq s j hjs
   have HS := HL.out
   rw [hj, lst_step, ← byteAt_bl, ← byteAt_bl, ← hj] at HS
   have HSH := Hid.mk HS
   have hki : (0 : Int) < (k : Int) := by omega
   have hk2 : (k : Int) < (s.size : Int) := by omega
   have hjk : ((k : Int) - 1).toNat = j := by omega
   have hjz : (0 : Int) ≤ (k : Int) - 1 := by omega
   have hjl : (k : Int) - 1 < (s.size : Int) := by omega
   have hkj : (k : Int) - 1 = ((j : Nat) : Int) := by omega
   clear HS HL hj
   generalize byteAt s k = ck at *
   generalize byteAt s j = cj at *
   by_cases c1 : ck = 41
   ·have y1 : (ck == 41) = true := by simp [c1]
    have HN : Hid (RR = lst (bl s) a b j (o + 1)) := by unfold Hid; rw [HSH.out, if_pos c1]
    clear c1 HSH hb0
    go_wp2_with fail
    go_roundw
    case rel => exact ⟨j, o + 1, by have := HK.out; omega, rfl, rfl, by have := HK.out; omega, by have := HK.out; omega, hkr, HN⟩
    case measure => simp [intOf]; omega
   ·have y1 : (ck == 41) = false := by simp [c1]
    by_cases c2 : ck = 40
    ·have y2 : (ck == 40) = true := by simp [c2]
     have HN : Hid (RR = lst (bl s) a b j (o - 1)) := by unfold Hid; rw [HSH.out, if_neg c1, if_pos c2]
     clear c1 c2 HSH hb0
     go_wp2_with fail
     go_roundw
     case rel => exact ⟨j, o - 1, by have := HK.out; omega, rfl, rfl, by have := HK.out; omega, by have := HK.out; omega, hkr, HN⟩
     case measure => simp [intOf]; omega
    ·have y2 : (ck == 40) = false := by simp [c2]
     by_cases c3 : o = 0 ∧ (ck = a ∨ ck = b)
     ·obtain ⟨c3, c4⟩ := c3
      have y3 : (o == 0) = true := by simp [c3]
      have HC : Hid (RR = if isDig cj = true ∨ cj = 41 then ((k : Nat) : Int) else lst (bl s) a b j o) := by
       unfold Hid
       rw [HSH.out, if_neg c1, if_neg c2]
       by_cases c5 : isDig cj = true ∨ cj = 41
       ·rw [if_pos ⟨c3, c4, c5⟩, if_pos c5]
       ·rw [if_neg (fun h => c5 h.2.2), if_neg c5]
      clear HSH c1 c2
      by_cases c5 : ck = a
      ·have y4 : (ck == a) = true := by simp [c5]
       clear c3 c4 c5
       go_wp2_with fail
       refine (rdigit_any cj _).mono ?_
       rintro e w1 ⟨rfl, rfl⟩
       cases hdg : isDig cj
       ·by_cases c6 : cj = 41
        ·have y6 : (cj == 41) = true := by simp [c6]
         have HE : Hid (RR = ((k : Nat) : Int)) := by unfold Hid; rw [HC.out, if_pos (Or.inr c6)]
         clear c6 hdg HC
         go_wp2_with fail
         go_ret
         exact ⟨by rw [HE.out]; rfl, hkr⟩
        ·have y6 : (cj == 41) = false := by simp [c6]
         have HN : Hid (RR = lst (bl s) a b j o) := by unfold Hid; rw [HC.out, if_neg (by simp [hdg, c6])]
         clear c6 hdg HC
         go_wp2_with fail
         go_roundw
         case rel => exact ⟨j, o, by have := HK.out; omega, rfl, rfl, by have := HK.out; omega, by have := HK.out; omega, hkr, HN⟩
         case measure => simp [intOf]; omega
       ·have HE : Hid (RR = ((k : Nat) : Int)) := by unfold Hid; rw [HC.out, if_pos (Or.inl hdg)]
        clear hdg HC
        go_wp2_with fail
        go_ret
        exact ⟨by rw [HE.out]; rfl, hkr⟩
      ·have y4 : (ck == a) = false := by simp [c5]
       have y5 : (ck == b) = true := by
        rcases c4 with c4 | c4
        ·exact absurd c4 c5
        ·simp [c4]
       clear c3 c4 c5
       go_wp2_with fail
       refine (rdigit_any cj _).mono ?_
       rintro e w1 ⟨rfl, rfl⟩
       cases hdg : isDig cj
       ·by_cases c6 : cj = 41
        ·have y6 : (cj == 41) = true := by simp [c6]
         have HE : Hid (RR = ((k : Nat) : Int)) := by unfold Hid; rw [HC.out, if_pos (Or.inr c6)]
         clear c6 hdg HC
         go_wp2_with fail
         go_ret
         exact ⟨by rw [HE.out]; rfl, hkr⟩
        ·have y6 : (cj == 41) = false := by simp [c6]
         have HN : Hid (RR = lst (bl s) a b j o) := by unfold Hid; rw [HC.out, if_neg (by simp [hdg, c6])]
         clear c6 hdg HC
         go_wp2_with fail
         go_roundw
         case rel => exact ⟨j, o, by have := HK.out; omega, rfl, rfl, by have := HK.out; omega, by have := HK.out; omega, hkr, HN⟩
         case measure => simp [intOf]; omega
       ·have HE : Hid (RR = ((k : Nat) : Int)) := by unfold Hid; rw [HC.out, if_pos (Or.inl hdg)]
        clear hdg HC
        go_wp2_with fail
        go_ret
        exact ⟨by rw [HE.out]; rfl, hkr⟩
     ·have HN : Hid (RR = lst (bl s) a b j o) := by
       unfold Hid
       rw [HSH.out, if_neg c1, if_neg c2, if_neg (fun h => c3 ⟨h.1, h.2.1⟩)]
      clear HSH c1 c2
      by_cases c4 : o = 0
      ·have y3 : (o == 0) = true := by simp [c4]
       have y4 : (ck == a) = false := by
        have : ck ≠ a := fun h => c3 ⟨c4, Or.inl h⟩
        simp [this]
       have y5 : (ck == b) = false := by
        have : ck ≠ b := fun h => c3 ⟨c4, Or.inr h⟩
        simp [this]
       clear c3 c4
       go_wp2_with fail
       go_roundw
       case rel => exact ⟨j, o, by have := HK.out; omega, rfl, rfl, by have := HK.out; omega, by have := HK.out; omega, hkr, HN⟩
       case measure => simp [intOf]; omega
      ·have y3 : (o == 0) = false := by simp [c4]
       clear c3 c4
       go_wp2_with fail
       go_roundw
       case rel => exact ⟨j, o, by have := HK.out; omega, rfl, rfl, by have := HK.out; omega, by have := HK.out; omega, hkr, HN⟩
       case measure => simp [intOf]; omega

end Go.Proofs.Ytjahbjjekednfaa
