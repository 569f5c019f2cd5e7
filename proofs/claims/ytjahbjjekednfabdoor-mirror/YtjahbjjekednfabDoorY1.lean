import Derived.Test.YtjahbjjekednfabDoorJt
import Derived.Deep.QuietTactic
import Derived.Test.YtjahbjjekednfabDoorK3
import Derived.Test.YtjahbjjekednfabDoorJ7
import Derived.Test.YtjahbjjekednfabDoorAl
import Derived.Test.YtjahbjjekednfabDoorLa
import Derived.Deep.LoopGhost
namespace Go.Proofs.YtjahbjjekednfabDoor
open Go.RowKit

set_option maxHeartbeats 1600000 in
/-- surdkeep.repeats: the terms from b to J are those l behind. -/
theorem repeats_at (v : Value) (ss : List ByteArray) (b l J : Nat) (r : Bool) (w : World) (hu : RowS w v ss) (hl : ss.length ≤ 1000) (hb : b ≤ J) (hJ : J ≤ 1000) (hll : l ≤ 1000)
  (hm : ∀ i, b ≤ i → i < J → i + l < ss.length ∧ ss.getD i ByteArray.empty = ss.getD (i + l) ByteArray.empty)
  (he : (r = true ∧ ss.length ≤ J + l) ∨ (r = false ∧ J + l < ss.length ∧ ss.getD J ByteArray.empty ≠ ss.getD (J + l) ByteArray.empty)) : Calls Tryd.prog 13 #[v, .int .i64 (b : Int), .int .i64 (l : Int)] w (RetV w (.bool r)) := by
 obtain ⟨ao, cap, bb, rfl, h2, h3, h4, h5⟩ := hu
 have HM := Hid.mk hm
 have HE := Hid.mk he
 clear hm he
 go_enter Tryd.func13, Tryd.ntmps13
 go_wp2_with fail
 go_loopw [7] (fun i wr => ∃ j : Nat, b ≤ j ∧ j ≤ J ∧ i = .int .i64 j ∧ Kp w wr)
  (fun i _ => J - (intOf i).toNat)
 case atStart => exact ⟨b, by omega, hb, rfl, Below.refl _ _⟩
 case round =>
  obtain ⟨j, hbj, hj, rfl, hkr⟩ := hrel
  by_cases h : j + l < ss.length
  ·have ha := (h4 (by omega)).1
   have hB := (h4 (by omega)).2
   subst ha
   have hc := (World.cell?_of_block (w := w) (a := ⟨bb, j, none⟩) (hkr.block bb hB)).trans (h5 j (by omega))
   have hc' := (World.cell?_of_block (w := w) (a := ⟨bb, j + l, none⟩) (hkr.block bb hB)).trans (h5 (j + l) h)
   have hji : (j : Int) + (l : Int) < (ss.length : Int) := by omega
   have hjl : (j : Int) < (ss.length : Int) := by omega
   have hj0 : (0 : Int) ≤ (j : Int) := by omega
   have hn : ((j : Int) + (l : Int)).toNat = j + l := by omega
   clear h4 h5
   by_cases hjJ : j < J
   ·have hS := (HM.out j hbj hjJ).2
    rw [← hS] at hc'
    clear hS
    generalize ss.getD j ByteArray.empty = S at *
    go_wp2_with fail
    go_quiet (fail)
    go_wp2_with fail
    go_roundw
    case rel => exact ⟨j + 1, by omega, by omega, by go_num, hkr.drewN _⟩
    case measure => simp [intOf]; omega
   ·have hjE : j = J := by omega
    have hS : r = false ∧ ss.getD j ByteArray.empty ≠ ss.getD (j + l) ByteArray.empty := by
     rcases HE.out with ⟨_, k⟩ | ⟨k1, _, k3⟩
     ·omega
     ·exact ⟨k1, by rw [hjE]; exact k3⟩
    obtain ⟨rfl, hS⟩ := hS
    generalize ss.getD j ByteArray.empty = S at *
    generalize ss.getD (j + l) ByteArray.empty = S' at *
    have hne := ba_ne hS
    clear hS
    clear hjE HE HM
    go_wp2_with fail
    go_quiet (fail)
    go_wp2_with fail
    go_ret
    exact ⟨rfl, hkr.drewN _⟩
  ·have hji : ¬ (j : Int) + (l : Int) < (ss.length : Int) := by omega
   have hr : r = true := by
    rcases HE.out with ⟨k, _⟩ | ⟨_, k, _⟩
    ·exact k
    ·by_cases hjJ : j < J
     ·have := (HM.out j hbj hjJ).1; omega
     ·omega
   subst hr
   clear h4 h5
   go_wp2_with fail
   go_ret
   exact ⟨rfl, hkr⟩

end Go.Proofs.YtjahbjjekednfabDoor

namespace Go.Proofs.YtjahbjjekednfabDoor
open Go.RowKit

theorem first_bad (P : Nat → Prop) : ∀ N, (∀ j, j < N → P j) ∨ ∃ j, j < N ∧ ¬ P j ∧ ∀ i, i < j → P i
 | 0 => Or.inl fun j hj => absurd hj (by omega)
 | N + 1 => by
  rcases first_bad P N with h | ⟨j, h1, h2, h3⟩
  ·by_cases e : P N
   ·refine Or.inl fun j hj => ?_
    by_cases k : j < N
    ·exact h j k
    ·rw [show j = N by omega]; exact e
   ·exact Or.inr ⟨N, by omega, e, h⟩
  ·exact Or.inr ⟨j, by omega, h2, h3⟩
theorem itoa_inj {x y : Int} (h : strOf (Go.Lib.itoa x) = strOf (Go.Lib.itoa y)) : x = y := numT_uni (s := strOf (Go.Lib.itoa x)) rfl h
/-- A hundred terms, and what Repeats asks of them. -/
structure Hun (ss : List ByteArray) (b l : Nat) : Prop where
 len : ss.length = 100
 rep : ∀ i, b ≤ i → i + l < 100 → ss.getD i ByteArray.empty = ss.getD (i + l) ByteArray.empty
 ahead : 0 < b → b - 1 + l < 100 → ss.getD (b - 1) ByteArray.empty ≠ ss.getD (b - 1 + l) ByteArray.empty
 soon : ∀ k, 0 < k → k < l → b + 2 * l ≤ 100 → ∃ j, j < l ∧ ss.getD (b + j) ByteArray.empty ≠ ss.getD (b + j + k) ByteArray.empty ∧ ∀ i, i < j → ss.getD (b + i) ByteArray.empty = ss.getD (b + i + k) ByteArray.empty
theorem hun_of {a : Qn} {b J : Nat} (h : Cn a) (hd : a.d ≠ 1) (hR : Rep a b J) : ∃ ss, strsV (tms (p0 a) (q0 a) (n0 a) 100) = ss.map Value.string ∧ Hun ss b (J - b) := by
 have hlt := hR.lt
 have hg : ∀ i, i < 100 → ((List.range 100).map (fun i => strOf (Go.Lib.itoa (tm (p0 a) (q0 a) (n0 a) i)))).getD i ByteArray.empty = strOf (Go.Lib.itoa (tm (p0 a) (q0 a) (n0 a) i)) := fun i hi => by
  simp [List.getD_eq_getElem?_getD, hi]
 refine ⟨(List.range 100).map (fun i => strOf (Go.Lib.itoa (tm (p0 a) (q0 a) (n0 a) i))), by simp [strsV, tms, Function.comp_def], by simp, fun i hi hl => ?_, fun h0 h1 => ?_, fun k hk0 hk h1 => ?_⟩
 ·rw [hg i (by omega), hg (i + (J - b)) hl]
  have := tm_rs hR.eq (i - b)
  rw [show b + (i - b) = i by omega, show J + (i - b) = i + (J - b) by omega] at this
  rw [this]
 ·rw [hg (b - 1) (by omega), hg _ h1]
  intro e
  obtain ⟨c, rfl⟩ : ∃ c, b = c + 1 := ⟨b - 1, by omega⟩
  obtain ⟨K, rfl⟩ : ∃ K, J = K + 1 := ⟨J - 1, by omega⟩
  have := itoa_inj e
  rw [show c + 1 - 1 = c by omega, show c + (K + 1 - (c + 1)) = K by omega] at this
  exact per_ahead h hd hR this
 ·rcases first_bad (fun j => tm (p0 a) (q0 a) (n0 a) (b + j) = tm (p0 a) (q0 a) (n0 a) (b + j + k)) (J - b) with hA | ⟨j, h2, h3, h4⟩
  ·exact (per_sooner h hd hR hk0 (by omega) (fun j hj => hA j (by omega))).elim
  ·refine ⟨j, h2, ?_, fun i hi => ?_⟩
   ·rw [hg (b + j) (by omega), hg (b + j + k) (by omega)]
    exact fun e => h3 (itoa_inj e)
   ·rw [hg (b + i) (by omega), hg (b + i + k) (by omega), h4 i hi]
theorem Hun.calls {ss : List ByteArray} {b l : Nat} (H : Hun ss b l) (hb : b ≤ 200) (hl : l ≤ 200) {v : Value} {w : World} (hv : RowS w v ss) : Calls Tryd.prog 13 #[v, .int .i64 (b : Int), .int .i64 (l : Int)] w (RetV w (.bool true)) := by
 by_cases c : b ≤ 100 - l
 ·exact repeats_at v ss b l (100 - l) true w hv (by rw [H.len]; omega) c (by omega) (by omega) (fun i h1 h2 => ⟨by rw [H.len]; omega, H.rep i h1 (by omega)⟩) (Or.inl ⟨rfl, by rw [H.len]; omega⟩)
 ·exact repeats_at v ss b l b true w hv (by rw [H.len]; omega) (Nat.le_refl _) (by omega) (by omega) (fun i h1 h2 => absurd h1 (by omega)) (Or.inl ⟨rfl, by rw [H.len]; omega⟩)
theorem Hun.not {ss : List ByteArray} {b l k : Nat} (H : Hun ss b l) (hk0 : 0 < k) (hk : k < l) (hbl : b + 2 * l ≤ 100) {v : Value} {w : World} (hv : RowS w v ss) : Calls Tryd.prog 13 #[v, .int .i64 (b : Int), .int .i64 (k : Int)] w (RetV w (.bool false)) := by
 obtain ⟨j, h1, h2, h3⟩ := H.soon k hk0 hk hbl
 refine repeats_at v ss b k (b + j) false w hv (by rw [H.len]; omega) (by omega) (by omega) (by omega) (fun i h4 h5 => ⟨by rw [H.len]; omega, ?_⟩) (Or.inr ⟨rfl, by rw [H.len]; omega, h2⟩)
 have := h3 (i - b) (by omega)
 rwa [show b + (i - b) = i by omega] at this

end Go.Proofs.YtjahbjjekednfabDoor
