import Derived.Test.YtjahbjjekednfabDoorJt
import Derived.Deep.QuietTactic
namespace Go.Proofs.YtjahbjjekednfabDoor
open Go.RowKit

theorem ba_ne {S S' : ByteArray} (h : S ≠ S') : (S.toList == S'.toList) = false := by
 refine beq_eq_false_iff_ne.2 fun e => h (ByteArray.ext (Array.toList_inj.1 ?_))
 rw [← ByteArray.toList_eq, ← ByteArray.toList_eq, e]

set_option maxHeartbeats 1600000 in
/-- surdkeep.repeats: the terms from b to J are those l behind. -/
theorem repeats_at (v : Value) (ss : List ByteArray) (b l J : Nat) (r : Bool) (w : World) (hu : RowS w v ss) (hl : ss.length ≤ 1000) (hb : b ≤ J) (hJ : J ≤ 1000) (hll : l ≤ 1000)
  (hm : ∀ i, b ≤ i → i < J → i + l < ss.length ∧ ss.getD i ByteArray.empty = ss.getD (i + l) ByteArray.empty)
  (he : (r = true ∧ ss.length ≤ J + l) ∨ (r = false ∧ J + l < ss.length ∧ ss.getD J ByteArray.empty ≠ ss.getD (J + l) ByteArray.empty)) : Calls Tryd.prog 13 #[v, .int .i64 (b : Int), .int .i64 (l : Int)] w (RetV w (.bool r)) := by
 obtain ⟨ao, cap, bb, rfl, h2, h3, h4, h5⟩ := hu
 have HM := Hid.mk hm
 have HE := Hid.mk he
 clear hm he
 go_enter Tryd.func13, Tryd.ntmps13
 go_wp2_with fail
 go_loopw [7] (fun i wr => ∃ j : Nat, b ≤ j ∧ j ≤ J ∧ i = .int .i64 j ∧ Kp w wr)
  (fun i _ => J - (intOf i).toNat)
 case atStart => exact ⟨b, by omega, hb, rfl, Below.refl _ _⟩
 case round =>
  obtain ⟨j, hbj, hj, rfl, hkr⟩ := hrel
  by_cases h : j + l < ss.length
  ·have ha := (h4 (by omega)).1
   have hB := (h4 (by omega)).2
   subst ha
   have hc := (World.cell?_of_block (w := w) (a := ⟨bb, j, none⟩) (hkr.block bb hB)).trans (h5 j (by omega))
   have hc' := (World.cell?_of_block (w := w) (a := ⟨bb, j + l, none⟩) (hkr.block bb hB)).trans (h5 (j + l) h)
   have hji : (j : Int) + (l : Int) < (ss.length : Int) := by omega
   have hjl : (j : Int) < (ss.length : Int) := by omega
   have hj0 : (0 : Int) ≤ (j : Int) := by omega
   have hn : ((j : Int) + (l : Int)).toNat = j + l := by omega
   clear h4 h5
   by_cases hjJ : j < J
   ·have hS := (HM.out j hbj hjJ).2
    rw [← hS] at hc'
    clear hS
    generalize ss.getD j ByteArray.empty = S at *
    go_wp2_with fail
    go_quiet (fail)
    go_wp2_with fail
    go_roundw
    case rel => exact ⟨j + 1, by omega, by omega, by go_num, hkr.drewN _⟩
    case measure => simp [intOf]; omega
   ·have hjE : j = J := by omega
    have hS : r = false ∧ ss.getD j ByteArray.empty ≠ ss.getD (j + l) ByteArray.empty := by
     rcases HE.out with ⟨_, k⟩ | ⟨k1, _, k3⟩
     ·omega
     ·exact ⟨k1, by rw [hjE]; exact k3⟩
    obtain ⟨rfl, hS⟩ := hS
    generalize ss.getD j ByteArray.empty = S at *
    generalize ss.getD (j + l) ByteArray.empty = S' at *
    have hne := ba_ne hS
    clear hS
    clear hjE HE HM
    go_wp2_with fail
    go_quiet (fail)
    go_wp2_with fail
    go_ret
    exact ⟨rfl, hkr.drewN _⟩
  ·have hji : ¬ (j : Int) + (l : Int) < (ss.length : Int) := by omega
   have hr : r = true := by
    rcases HE.out with ⟨k, _⟩ | ⟨_, k, _⟩
    ·exact k
    ·by_cases hjJ : j < J
     ·have := (HM.out j hbj hjJ).1; omega
     ·omega
   subst hr
   clear h4 h5
   go_wp2_with fail
   go_ret
   exact ⟨rfl, hkr⟩

end Go.Proofs.YtjahbjjekednfabDoor
