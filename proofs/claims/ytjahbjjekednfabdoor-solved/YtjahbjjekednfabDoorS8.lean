import Derived.Test.YtjahbjjekednfabDoorS7
namespace Go.Proofs.YtjahbjjekednfabDoor
open Go.RowKit

theorem drop_val (l : List Int) (j : Nat) : val 10 (l.drop j) = at0 l j + 10 * val 10 (l.drop (j + 1)) := by
 rcases Nat.lt_or_ge j l.length with h | h
 ·rw [List.drop_eq_getElem_cons h, at0_eq h]
  rfl
 ·rw [List.drop_eq_nil_of_le h, List.drop_eq_nil_of_le (by omega), at0_ge h]
  rfl

set_option maxHeartbeats 800000 in
theorem figure_any (l : List Int) (v : Value) (k : Nat) (w : World) (hk : k ≤ 1000000) (hr : Row w 3 v l) : Calls Tryd.prog 57 #[v, .int .i64 k] w (RetV w (.int .i64 (at0 l k))) := by
 obtain ⟨ao, cap, b, off, rfl, hcap, hmax, hn, hao, hcell⟩ := hr
 by_cases h : k < l.length
 ·have ha := (hao (by omega)).1
  subst ha
  have hc := hcell k h
  have hki : (k : Int) < (l.length : Int) := by omega
  clear hcell hao hn
  generalize at0 l k = X at *
  go_enter Tryd.func57, Tryd.ntmps57
  go_wp2_with fail
  go_ret
  exact ⟨rfl, Below.refl _ _⟩
 ·have HE := Hid.mk (at0_ge (l := l) (i := k) (by omega))
  have hki : ¬ (k : Int) < (l.length : Int) := by omega
  clear hcell hao hn
  go_enter Tryd.func57, Tryd.ntmps57
  go_wp2_with fail
  go_ret
  exact ⟨by rw [HE.out]; rfl, Below.refl _ _⟩

set_option maxHeartbeats 3200000 in
set_option maxRecDepth 100000 in
/-- surdkeep.one. -/
theorem one_any (u v : Value) (l m : List Int) (w : World) (hu : Row w 3 u l) (hv : Row w 3 v m) (dl : Dig 10 l) (dm : Dig 10 m) (ll : l.length ≤ 10000) (lm : m.length ≤ 10000) (h : val 10 l = val 10 m + 1) : Calls Tryd.prog 23 #[u, v] w (RetV w (.bool true)) := by
 have HU := Hid.mk (fun (k : Nat) (W : World) (hk : k ≤ 1000000) (hK : Kp w W) => figure_any l u k W hk (hu.keep hK))
 have HV := Hid.mk (fun (k : Nat) (W : World) (hk : k ≤ 1000000) (hK : Kp w W) => figure_any m v k W hk (hv.keep hK))
 obtain ⟨ao, c, rfl, hc1, hc2⟩ := hu.slice
 obtain ⟨ao', c', rfl, kc1, kc2⟩ := hv.slice
 have DL := Hid.mk dl
 have DM := Hid.mk dm
 have H0 := Hid.mk h
 clear dl dm h hu hv
 go_enter Tryd.func23, Tryd.ntmps23
 go_wp2_with fail
 go_loopw [5, 6, 7] (fun o i _ wr => ∃ (j : Nat) (O : Int), o = .int .i64 O ∧ i = .int .i64 j ∧ 0 ≤ O ∧ O ≤ 1 ∧ j ≤ 20000 ∧ Hid (val 10 (l.drop j) = val 10 (m.drop j) + O ∧ (j ≤ l.length ∨ j ≤ m.length)) ∧ Kp w wr)
  (fun _ i _ _ => 20001 - (intOf i).toNat)
 case atStart => exact ⟨0, 1, rfl, rfl, by decide, by decide, by omega, ⟨H0.out, by omega⟩, Below.refl _ _⟩
 case round =>
  obtain ⟨j, O, rfl, rfl, hO0, hO1, hj, HI, hkr⟩ := hrel
  by_cases hc : j < l.length ∨ j < m.length
  ·have e1 := drop_val l j
   have e2 := drop_val m j
   have hI := HI.out.1
   have da := DL.out j
   have db := DM.out j
   have HUj := HU.out j
   have HVj := HV.out j
   have HN : Hid (val 10 (l.drop (j + 1)) = val 10 (m.drop (j + 1)) + (at0 m j + O) / 10 ∧ (j + 1 ≤ l.length ∨ j + 1 ≤ m.length)) := by
    refine ⟨?_, by omega⟩
    omega
   have hA : (at0 m j + O) % 10 = at0 l j := by omega
   clear HI e1 e2 hI
   generalize at0 l j = X at *
   generalize at0 m j = Y at *
   have htm : (Y + O).tmod 10 = (Y + O) % 10 := Int.tmod_eq_emod_of_nonneg (by omega)
   have htd : (Y + O).tdiv 10 = (Y + O) / 10 := Int.tdiv_eq_ediv_of_nonneg (by omega)
   have hne : ((Y + O) % 10 != X) = false := by rw [hA]; simp
   replace hA := Hid.mk hA
   by_cases h1 : j < l.length
   ·have h1i : (j : Int) < (l.length : Int) := by omega
    go_wp2_with fail
    refine (HVj _ (by omega) hkr).mono ?_
    rintro e w1 ⟨rfl, hk1⟩
    go_wp2_with fail
    refine (HUj _ (by omega) (hkr.trans' hk1)).mono ?_
    rintro e w2 ⟨rfl, hk2⟩
    go_wp2_with fail
    go_roundw
    case rel => exact ⟨j + 1, (Y + O) / 10, by first | rfl | go_num, by go_num, by omega, by omega, by omega, HN, (hkr.trans' hk1).trans' hk2⟩
    case measure => simp [intOf]; omega
   ·have h1i : ¬ (j : Int) < (l.length : Int) := by omega
    have h2i : (j : Int) < (m.length : Int) := by omega
    go_wp2_with fail
    refine (HVj _ (by omega) hkr).mono ?_
    rintro e w1 ⟨rfl, hk1⟩
    go_wp2_with fail
    refine (HUj _ (by omega) (hkr.trans' hk1)).mono ?_
    rintro e w2 ⟨rfl, hk2⟩
    go_wp2_with fail
    go_roundw
    case rel => exact ⟨j + 1, (Y + O) / 10, by first | rfl | go_num, by go_num, by omega, by omega, by omega, HN, (hkr.trans' hk1).trans' hk2⟩
    case measure => simp [intOf]; omega
  ·have hO : O = 0 := by
    have hI := HI.out.1
    rw [List.drop_eq_nil_of_le (by omega), List.drop_eq_nil_of_le (by omega)] at hI
    simp only [val] at hI
    omega
   subst hO
   have h1i : ¬ (j : Int) < (l.length : Int) := by omega
   have h2i : ¬ (j : Int) < (m.length : Int) := by omega
   clear HI hc
   go_wp2_with fail
   go_ret
   exact ⟨rfl, hkr⟩

end Go.Proofs.YtjahbjjekednfabDoor
