import Derived.Test.YtjahbjjekednfabDoorS6
import Derived.Test.YtjahbjjekednfabDoorS5
namespace Go.Proofs.YtjahbjjekednfabDoor
open Go.RowKit

/-- A call that returns the digits of a product. -/
def RetPd (w : World) (l m : List Int) (e : Ending) (w' : World) : Prop := ∃ x, e = .returned x ∧ Row w' 3 x (crr (pTo l m l.length) (l.length + m.length)) ∧ Kp w w'

set_option maxHeartbeats 6400000 in
set_option maxRecDepth 100000 in
/-- surdkeep.product. -/
theorem kprod_any (u v : Value) (l m : List Int) (w : World) (hu : Row w 3 u l) (hv : Row w 3 v m) (dl : Dig 10 l) (dm : Dig 10 m) (ll : l.length ≤ 900) (lm : m.length ≤ 900) : Calls Tryd.prog 24 #[u, v] w (RetPd w l m) := by
 obtain ⟨i0, hi, hz0, hz1, hz2⟩ := info_parts Tryd.infoInt
 obtain ⟨ao, c, b, off, rfl, hc1, hc2, hc3, hc4, hc5⟩ := hu
 obtain ⟨ao', c', b', off', rfl, kc1, kc2, kc3, kc4, kc5⟩ := hv
 have DL := Hid.mk dl
 have DM := Hid.mk dm
 have HC5 := Hid.mk hc5
 have KC5 := Hid.mk kc5
 have HC4 := Hid.mk hc4
 have KC4 := Hid.mk kc4
 clear hc3 kc3 hc4 kc4 hc5 kc5 dl dm
 go_enter Tryd.func24, Tryd.ntmps24
 go_wp2_with (at_make; refine wpList_make_row _ rfl _ _ 47 rfl w 3 i0 8 Tryd.underlying47 hi hz0 hz1 hz2 _ _ _ _ (l.length + m.length + 1) rfl rfl (by omega) (by omega) (by omega) (by unfold maxLen; omega) (Below.refl _ _) ?_)
 intro w1 hown1 hk1
 have hg1 : w.heap.size < w1.heap.size := (hown1.lt _ rfl).2
 go_wp2_with fail
 go_loopw [6, 7] (fun i _ wr => ∃ k : Nat, k ≤ l.length ∧ i = .int .i64 k ∧ wr.ownsRow w.heap.size 3 1 (.slice (some ⟨w.heap.size, 0, none⟩) (l.length + m.length + 1) (l.length + m.length + 1)) (l.length + m.length + 1) (vals (pTo l m k)) ∧ Kp w wr)
  (fun i _ _ => l.length - (intOf i).toNat)
 case atStart => exact ⟨0, by omega, rfl, hown1, hk1⟩
 case round =>
  obtain ⟨k, hk, rfl, hown, hkr⟩ := hrel
  clear hown1 hk1
  by_cases h1 : k < l.length
  ·have LOW := Hid.mk (pTo_bd DL.out DM.out k)
   have dl := DL.out k
   go_wp2_with fail
   go_loopw [7] (fun j wq => ∃ i : Nat, i ≤ m.length ∧ j = .int .i64 i ∧ wq.ownsRow w.heap.size 3 1 (.slice (some ⟨w.heap.size, 0, none⟩) (l.length + m.length + 1) (l.length + m.length + 1)) (l.length + m.length + 1) (vals (timIn l m (pTo l m k) k i)) ∧ Kp w wq)
    (fun j _ => m.length - (intOf j).toNat)
   case atStart => exact ⟨0, by omega, rfl, hown, hkr⟩
   case round =>
    obtain ⟨i, hi', rfl, hownq, hkq⟩ := hrel
    clear hown hkr
    by_cases h2 : i < m.length
    ·have dm := DM.out i
     have hmu := dig_mul dl dm
     have hm1 := hmu.1
     have hm2 : at0 l k * at0 m i ≤ 81 := hmu.2
     have hlo := (pIn_bd DL.out DM.out LOW.out i (k + i)).1
     have hw1 : IntKind.i64.wrap (at0 l k * at0 m i) = at0 l k * at0 m i := IntWalk.i64_in _ (by omega)
     have hw2 : IntKind.i64.wrap (at0 (timIn l m (pTo l m k) k i) (k + i) + at0 l k * at0 m i) = at0 (timIn l m (pTo l m k) k i) (k + i) + at0 l k * at0 m i := IntWalk.i64_in _ (by omega)
     have hw3 : IntKind.i64.wrap ((k : Int) + (i : Int)) = (k : Int) + (i : Int) := IntWalk.i64_in _ (by omega)
     have hco := owns_cell hownq (i := k + i) (by omega)
     have hfz : wr.frozen? ⟨w.heap.size, k + i, none⟩ = false := hownq.frozenAt (k + i)
     have htn : ((k : Int) + (i : Int)).toNat = k + i := by omega
     have HS := Hid.mk (timIn_succ l m (pTo l m k) k i)
     obtain ⟨rfl, he1⟩ := HC4.out (by omega)
     obtain ⟨rfl, he2⟩ := KC4.out (by omega)
     have hca := (World.cell?_of_block (w := w) (a := ⟨b, off + k, none⟩) (hkq.block b (elemOf_lt he1))).trans (HC5.out k h1)
     have hcb := (World.cell?_of_block (w := w) (a := ⟨b', off' + i, none⟩) (hkq.block b' (elemOf_lt he2))).trans (KC5.out i h2)
     have hb0 : (0 : Int) ≤ (k : Int) + (i : Int) := by omega
     have hb1 : (k : Int) + (i : Int) < (l.length : Int) + (m.length : Int) + 1 := by omega
     have HST := Hid.mk (hownq.drew.stored (k + i) (.int .i64 (at0 (timIn l m (pTo l m k) k i) (k + i) + at0 l k * at0 m i)))
     clear LOW hlo he1 he2
     go_wp2_with fail
     go_region
     all_goals
      go_wp2_with fail
      go_roundw
      case rel => exact ⟨i + 1, by omega, by go_num, by rw [HS.out, ← vals_set]; exact HST.out.1, Below.setCell hkq.drew (Nat.le_refl _) _⟩
      case measure => simp [intOf]; omega
    ·have hie : i = m.length := by omega
     subst hie
     have HS := Hid.mk (pTo_succ l m k)
     go_wp2_with fail
     go_roundw
     case rel => exact ⟨k + 1, by omega, by go_num, by rw [HS.out]; exact hownq, hkq⟩
     case measure => simp [intOf]; omega
  ·have hke : k = l.length := by omega
   subst hke
   clear h1
   have hM : ∀ i, 0 ≤ at0 (pTo l m l.length) i ∧ at0 (pTo l m l.length) i ≤ 81000 := fun i => by
    have := pTo_bd DL.out DM.out l.length i
    omega
   have HB := Hid.mk (fun j => crr_bd hM j)
   have HLN := Hid.mk (pTo_length l m l.length)
   clear hM DL DM HC4 HC5 KC4 KC5
   generalize hR : pTo l m l.length = R at *
   replace hR := Hid.mk hR
   go_wp2_with fail
   go_loopw [8] (fun x wq => ∃ j : Nat, j ≤ l.length + m.length ∧ x = .int .i64 j ∧ wq.ownsRow w.heap.size 3 1 (.slice (some ⟨w.heap.size, 0, none⟩) (l.length + m.length + 1) (l.length + m.length + 1)) (l.length + m.length + 1) (vals (crr R j)) ∧ Kp w wq)
    (fun x _ => l.length + m.length - (intOf x).toNat)
   case atStart => exact ⟨0, by omega, rfl, hown, hkr⟩
   case round =>
    obtain ⟨j, hj, rfl, hownq, hkq⟩ := hrel
    clear hown hkr
    by_cases h2 : j < l.length + m.length
    ·obtain ⟨b1, _, b3, b4⟩ := HB.out j
     have hx0 := b1 j
     have hy0 := b1 (j + 1)
     have hy1 := b4 (j + 1) (by omega)
     have hco := owns_cell hownq (i := j) (by omega)
     have hc1 := owns_cell hownq (i := j + 1) (by omega)
     have hfz : wr.frozen? ⟨w.heap.size, j + 1, none⟩ = false := hownq.frozenAt (j + 1)
     have hfz0 : wr.frozen? ⟨w.heap.size, j, none⟩ = false := hownq.frozenAt j
     have HS := Hid.mk (crr_succ R j)
     have HA : Hid (crA (crr R j) j = (crr R j).set (j + 1) (at0 (crr R j) (j + 1) + at0 (crr R j) j / 10)) := rfl
     have hji : (j : Int) + 1 < (l.length : Int) + (m.length : Int) + 1 := by omega
     have hw3 : IntKind.i64.wrap ((j : Int) + 1) = (j : Int) + 1 := IntWalk.i64_in _ (by omega)
     have htn : ((j : Int) + 1).toNat = j + 1 := by omega
     have HST := Hid.mk (hownq.stored (j + 1) (.int .i64 (at0 (crr R j) (j + 1) + at0 (crr R j) j / 10)))
     have HST2 := Hid.mk (HST.out.1.stored j (.int .i64 (at0 (crr R j) j % 10)))
     have hne : ¬ (j = j + 1) := by omega
     generalize at0 (crr R j) j = X at *
     generalize at0 (crr R j) (j + 1) = Y at *
     have htd : X.tdiv 10 = X / 10 := Int.tdiv_eq_ediv_of_nonneg hx0
     have htm : X.tmod 10 = X % 10 := Int.tmod_eq_emod_of_nonneg hx0
     have hwa : wrap64 (X / 10) = X / 10 := IntWalk.wrap64_in _ (by omega)
     have hwb : wrap64 (Y + X / 10) = Y + X / 10 := IntWalk.wrap64_in _ (by omega)
     clear b1 b3 b4 HST
     go_wp2_with fail
     go_region
     all_goals
      go_wp2_with fail
      go_roundw
      case rel => exact ⟨j + 1, by omega, by go_num, by rw [HS.out, HA.out, ← vals_set, ← vals_set]; exact HST2.out.1.drew, Kp.drew' (Below.setCell (Below.setCell hkq (Nat.le_refl _) _) (Nat.le_refl _) _)⟩
      case measure => simp [intOf]; omega
    ·have hje : j = l.length + m.length := by omega
     subst hje
     have hr := Row.of_owns hownq
     go_wp2_with fail
     refine bodyPost_ret (v := .slice (some ⟨w.heap.size, 0, none⟩) (l.length + m.length + 1) (l.length + m.length + 1)) (by simp [results, Tryd.results24, go_sem]) rfl ?_
     exact ⟨_, rfl, by rw [hR.out]; exact hr, hkq⟩

end Go.Proofs.YtjahbjjekednfabDoor
