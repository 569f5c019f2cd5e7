import Derived.Test.YtjahbjjekednfabDoorMath4
import Derived.Test.YtjahbjjekednfabDoorS4
namespace Go.Proofs.YtjahbjjekednfabDoor

/-- Products of decimal digits, not yet clean: behind i rows. -/
def pTo (l m : List Int) : Nat → List Int
 | 0 => List.replicate (l.length + m.length + 1) 0
 | i + 1 => timIn l m (pTo l m i) i m.length
theorem pTo_succ (l m : List Int) (i : Nat) : pTo l m (i + 1) = timIn l m (pTo l m i) i m.length := rfl
theorem pTo_length (l m : List Int) : ∀ i, (pTo l m i).length = l.length + m.length + 1
 | 0 => by simp [pTo]
 | i + 1 => by rw [pTo_succ, timIn_length, pTo_length l m i]
theorem pIn_val (l m S : List Int) (i : Nat) : ∀ k, i + k ≤ S.length → val 10 (timIn l m S i k) = val 10 S + 10 ^ i * (at0 l i * val 10 (m.take k))
 | 0, _ => by simp [timIn, val]
 | k + 1, h => by
  rw [timIn_succ, val_set _ _ _ _ (by rw [timIn_length]; omega), pIn_val l m S i k (by omega), val_take_succ, Int.pow_add]
  grind
theorem pTo_val (l m : List Int) : ∀ i, i ≤ l.length → val 10 (pTo l m i) = val 10 (l.take i) * val 10 m
 | 0, _ => by simp [pTo, val_replicate, val]
 | i + 1, h => by
  rw [pTo_succ, pIn_val _ _ _ _ _ (by rw [pTo_length]; omega), pTo_val l m i (by omega), List.take_length, val_take_succ]
  grind
/-- From 0 to 81 i. -/
def PLow (i : Nat) (S : List Int) : Prop := ∀ j, 0 ≤ at0 S j ∧ at0 S j ≤ (i : Int) * 81
theorem pIn_bd {l m S : List Int} (hl : Dig 10 l) (hm : Dig 10 m) {i : Nat} (hS : PLow i S) : ∀ k j, (0 ≤ at0 (timIn l m S i k) j ∧ at0 (timIn l m S i k) j ≤ ((i : Int) + 1) * 81) ∧ (i + k ≤ j → at0 (timIn l m S i k) j = at0 S j)
 | 0, j => ⟨by have := hS j; exact ⟨this.1, by simp only [timIn]; omega⟩, fun _ => rfl⟩
 | k + 1, j => by
  have ih := pIn_bd hl hm hS k
  have hm1 := dig_mul (hl i) (hm k)
  have h9 : ((10 : Int) - 1) * (10 - 1) = 81 := by decide
  rw [h9] at hm1
  rw [timIn_succ]
  by_cases hj : i + k = j
  ·subst hj
   rcases Nat.lt_or_ge (i + k) (timIn l m S i k).length with h | h
   ·rw [at0_set_eq _ h]
    have e := (ih (i + k)).2 (Nat.le_refl _)
    have h0 := hS (i + k)
    exact ⟨⟨by omega, by omega⟩, fun h2 => by omega⟩
   ·rw [List.set_eq_of_length_le h]
    exact ⟨(ih (i + k)).1, fun h2 => by omega⟩
  ·rw [at0_set_ne _ hj]
   exact ⟨(ih j).1, fun h2 => (ih j).2 (by omega)⟩
theorem pTo_bd {l m : List Int} (hl : Dig 10 l) (hm : Dig 10 m) : ∀ i, PLow i (pTo l m i)
 | 0 => fun j => by rw [pTo, at0_replicate]; omega
 | i + 1 => fun j => by
  rw [pTo_succ]
  have := (pIn_bd hl hm (pTo_bd hl hm i) m.length j).1
  omega
/-- What is above 9 is carried on, j times. -/
def crA (r : List Int) (j : Nat) : List Int := r.set (j + 1) (at0 r (j + 1) + at0 r j / 10)
def crr (r : List Int) : Nat → List Int
 | 0 => r
 | j + 1 => (crA (crr r j) j).set j (at0 (crr r j) j % 10)
theorem crA_length (r : List Int) (j : Nat) : (crA r j).length = r.length := List.length_set
theorem crA_at (r : List Int) (j : Nat) : at0 (crA r j) j = at0 r j := at0_set_ne _ (by omega)
theorem crr_succ (r : List Int) (j : Nat) : crr r (j + 1) = (crA (crr r j) j).set j (at0 (crr r j) j % 10) := rfl
theorem crr_length (r : List Int) : ∀ j, (crr r j).length = r.length
 | 0 => rfl
 | j + 1 => by rw [crr_succ, List.length_set, crA_length, crr_length r j]
theorem crr_val (r : List Int) : ∀ j, j < r.length → val 10 (crr r j) = val 10 r
 | 0, _ => rfl
 | j + 1, h => by
  have hl := crr_length r j
  rw [crr_succ, val_set _ _ _ _ (by rw [crA_length]; omega), crA_at]
  unfold crA
  rw [val_set _ _ _ _ (by omega), crr_val r j (by omega), Int.pow_succ]
  have := Int.mul_ediv_add_emod (at0 (crr r j) j) 10
  grind
theorem crr_bd {r : List Int} {M : Int} (hM : ∀ i, 0 ≤ at0 r i ∧ at0 r i ≤ M) : ∀ j, (∀ i, 0 ≤ at0 (crr r j) i) ∧ (∀ i, i < j → i < r.length → at0 (crr r j) i < 10) ∧ at0 (crr r j) j ≤ 2 * M ∧ ∀ i, j < i → at0 (crr r j) i ≤ M
 | 0 => ⟨fun i => (hM i).1, fun i h => absurd h (by omega), by have := hM 0; show at0 r 0 ≤ 2 * M; omega, fun i _ => (hM i).2⟩
 | j + 1 => by
  obtain ⟨h1, h2, h3, h4⟩ := crr_bd hM j
  have hl := crr_length r j
  have hj := h1 j
  have hj1 := h1 (j + 1)
  have hb := h4 (j + 1) (by omega)
  have hq : at0 (crr r j) j / 10 ≤ M := by omega
  have hA : ∀ i, at0 (crA (crr r j) j) i = if i = j + 1 ∧ j + 1 < r.length then at0 (crr r j) (j + 1) + at0 (crr r j) j / 10 else at0 (crr r j) i := fun i => by
   unfold crA
   by_cases hi : i = j + 1
   ·subst hi
    by_cases hlt : j + 1 < r.length
    ·rw [at0_set_eq _ (by omega), if_pos ⟨rfl, hlt⟩]
    ·rw [List.set_eq_of_length_le (by omega), if_neg (by omega)]
   ·rw [at0_set_ne _ (by omega), if_neg (by omega)]
  have hS : ∀ i, at0 (crr r (j + 1)) i = if i = j ∧ j < r.length then at0 (crr r j) j % 10 else at0 (crA (crr r j) j) i := fun i => by
   rw [crr_succ]
   by_cases hi : i = j
   ·subst hi
    by_cases hlt : i < r.length
    ·rw [at0_set_eq _ (by rw [crA_length]; omega), if_pos ⟨rfl, hlt⟩]
    ·rw [List.set_eq_of_length_le (by rw [crA_length]; omega), if_neg (by omega)]
   ·rw [at0_set_ne _ (by omega), if_neg (by omega)]
  refine ⟨fun i => ?_, fun i hi hir => ?_, ?_, fun i hi => ?_⟩
  ·rw [hS, hA]
   have := h1 i
   split
   ·omega
   ·split
    ·omega
    ·exact this
  ·rw [hS, hA]
   by_cases e : i = j
   ·rw [if_pos ⟨e, by omega⟩]; omega
   ·rw [if_neg (by omega), if_neg (by omega)]
    exact h2 i (by omega) hir
  ·rw [hS, hA, if_neg (by omega)]
   split
   ·omega
   ·omega
  ·rw [hS, hA, if_neg (by omega), if_neg (by omega)]
   exact h4 i (by omega)
/-- The product, clean. -/
theorem prod_done {l m : List Int} (hl : Dig 10 l) (hm : Dig 10 m) (hll : l.length ≤ 1000) : Dig 10 (crr (pTo l m l.length) (l.length + m.length)) ∧ val 10 (crr (pTo l m l.length) (l.length + m.length)) = val 10 l * val 10 m := by
 have hlen := pTo_length l m l.length
 have hv : val 10 (crr (pTo l m l.length) (l.length + m.length)) = val 10 l * val 10 m := by
  rw [crr_val _ _ (by omega), pTo_val l m l.length (Nat.le_refl _), List.take_length]
 refine ⟨?_, hv⟩
 have hM : ∀ i, 0 ≤ at0 (pTo l m l.length) i ∧ at0 (pTo l m l.length) i ≤ 81000 := fun i => by
  have := pTo_bd hl hm l.length i
  omega
 obtain ⟨h1, h2, _, _⟩ := crr_bd hM (l.length + m.length)
 have hcl := crr_length (pTo l m l.length) (l.length + m.length)
 intro i
 refine ⟨h1 i, ?_⟩
 by_cases hi : i < l.length + m.length
 ·exact h2 i hi (by omega)
 ·by_cases hi2 : i = l.length + m.length
  ·subst hi2
   generalize crr (pTo l m l.length) (l.length + m.length) = c at *
   have e := val_take_succ 10 c (l.length + m.length)
   rw [List.take_of_length_le (by omega), hv] at e
   have b1 := Dig.val_lt (B := 10) (by decide) hl
   have b2 := Dig.val_lt (B := 10) (by decide) hm
   have b3 : 0 ≤ val 10 (c.take (l.length + m.length)) := Dig.val_nonneg (B := 10) (by decide) (fun j => by
    by_cases hj : j < l.length + m.length
    ·rw [at0_take hj]; exact ⟨h1 j, h2 j hj (by omega)⟩
    ·rw [at0_ge (by rw [List.length_take]; omega)]; omega)
   have b4 : val 10 l * val 10 m < 10 ^ l.length * 10 ^ m.length := by
    have c2 : 0 ≤ val 10 l := Dig.val_nonneg (by decide) hl
    exact Int.lt_of_le_of_lt (Int.mul_le_mul_of_nonneg_left (Int.le_of_lt b2) c2) (Int.mul_lt_mul_of_pos_right b1 (Int.pow_pos (by decide)))
   rw [← Int.pow_add] at b4
   have b5 : (0 : Int) < 10 ^ (l.length + m.length) := Int.pow_pos (by decide)
   generalize (10 : Int) ^ (l.length + m.length) = T at *
   refine Int.not_le.1 fun hc => ?_
   have : T * 10 ≤ T * at0 c (l.length + m.length) := Int.mul_le_mul_of_nonneg_left hc (by omega)
   omega
  ·rw [at0_ge (by omega)]
   decide

end Go.Proofs.YtjahbjjekednfabDoor

namespace Go.Proofs.YtjahbjjekednfabDoor
open Go.RowKit

/-- A call that returns the digits of a product. -/
def RetPd (w : World) (l m : List Int) (e : Ending) (w' : World) : Prop := ∃ x, e = .returned x ∧ Row w' 3 x (crr (pTo l m l.length) (l.length + m.length)) ∧ Kp w w'

set_option maxHeartbeats 6400000 in
set_option maxRecDepth 100000 in
/-- surdkeep.product. -/
theorem kprod_any (u v : Value) (l m : List Int) (w : World) (hu : Row w 3 u l) (hv : Row w 3 v m) (dl : Dig 10 l) (dm : Dig 10 m) (ll : l.length ≤ 900) (lm : m.length ≤ 900) : Calls Tryd.prog 24 #[u, v] w (RetPd w l m) := by
 obtain ⟨i0, hi, hz0, hz1, hz2⟩ := info_parts Tryd.infoInt
 obtain ⟨ao, c, b, off, rfl, hc1, hc2, hc3, hc4, hc5⟩ := hu
 obtain ⟨ao', c', b', off', rfl, kc1, kc2, kc3, kc4, kc5⟩ := hv
 have DL := Hid.mk dl
 have DM := Hid.mk dm
 have HC5 := Hid.mk hc5
 have KC5 := Hid.mk kc5
 have HC4 := Hid.mk hc4
 have KC4 := Hid.mk kc4
 clear hc3 kc3 hc4 kc4 hc5 kc5 dl dm
 go_enter Tryd.func24, Tryd.ntmps24
 go_wp2_with (at_make; refine wpList_make_row _ rfl _ _ 47 rfl w 3 i0 8 Tryd.underlying47 hi hz0 hz1 hz2 _ _ _ _ (l.length + m.length + 1) rfl rfl (by omega) (by omega) (by omega) (by unfold maxLen; omega) (Below.refl _ _) ?_)
 intro w1 hown1 hk1
 have hg1 : w.heap.size < w1.heap.size := (hown1.lt _ rfl).2
 go_wp2_with fail
 go_loopw [6, 7] (fun i _ wr => ∃ k : Nat, k ≤ l.length ∧ i = .int .i64 k ∧ wr.ownsRow w.heap.size 3 1 (.slice (some ⟨w.heap.size, 0, none⟩) (l.length + m.length + 1) (l.length + m.length + 1)) (l.length + m.length + 1) (vals (pTo l m k)) ∧ Kp w wr)
  (fun i _ _ => l.length - (intOf i).toNat)
 case atStart => exact ⟨0, by omega, rfl, hown1, hk1⟩
 case round =>
  obtain ⟨k, hk, rfl, hown, hkr⟩ := hrel
  clear hown1 hk1
  by_cases h1 : k < l.length
  ·have LOW := Hid.mk (pTo_bd DL.out DM.out k)
   have dl := DL.out k
   go_wp2_with fail
   go_loopw [7] (fun j wq => ∃ i : Nat, i ≤ m.length ∧ j = .int .i64 i ∧ wq.ownsRow w.heap.size 3 1 (.slice (some ⟨w.heap.size, 0, none⟩) (l.length + m.length + 1) (l.length + m.length + 1)) (l.length + m.length + 1) (vals (timIn l m (pTo l m k) k i)) ∧ Kp w wq)
    (fun j _ => m.length - (intOf j).toNat)
   case atStart => exact ⟨0, by omega, rfl, hown, hkr⟩
   case round =>
    obtain ⟨i, hi', rfl, hownq, hkq⟩ := hrel
    clear hown hkr
    by_cases h2 : i < m.length
    ·have dm := DM.out i
     have hmu := dig_mul dl dm
     have hm1 := hmu.1
     have hm2 : at0 l k * at0 m i ≤ 81 := hmu.2
     have hlo := (pIn_bd DL.out DM.out LOW.out i (k + i)).1
     have hw1 : IntKind.i64.wrap (at0 l k * at0 m i) = at0 l k * at0 m i := IntWalk.i64_in _ (by omega)
     have hw2 : IntKind.i64.wrap (at0 (timIn l m (pTo l m k) k i) (k + i) + at0 l k * at0 m i) = at0 (timIn l m (pTo l m k) k i) (k + i) + at0 l k * at0 m i := IntWalk.i64_in _ (by omega)
     have hw3 : IntKind.i64.wrap ((k : Int) + (i : Int)) = (k : Int) + (i : Int) := IntWalk.i64_in _ (by omega)
     have hco := owns_cell hownq (i := k + i) (by omega)
     have hfz : wr.frozen? ⟨w.heap.size, k + i, none⟩ = false := hownq.frozenAt (k + i)
     have htn : ((k : Int) + (i : Int)).toNat = k + i := by omega
     have HS := Hid.mk (timIn_succ l m (pTo l m k) k i)
     obtain ⟨rfl, he1⟩ := HC4.out (by omega)
     obtain ⟨rfl, he2⟩ := KC4.out (by omega)
     have hca := (World.cell?_of_block (w := w) (a := ⟨b, off + k, none⟩) (hkq.block b (elemOf_lt he1))).trans (HC5.out k h1)
     have hcb := (World.cell?_of_block (w := w) (a := ⟨b', off' + i, none⟩) (hkq.block b' (elemOf_lt he2))).trans (KC5.out i h2)
     have hb0 : (0 : Int) ≤ (k : Int) + (i : Int) := by omega
     have hb1 : (k : Int) + (i : Int) < (l.length : Int) + (m.length : Int) + 1 := by omega
     have HST := Hid.mk (hownq.drew.stored (k + i) (.int .i64 (at0 (timIn l m (pTo l m k) k i) (k + i) + at0 l k * at0 m i)))
     clear LOW hlo he1 he2
     go_wp2_with fail
     go_region
     all_goals
      go_wp2_with fail
      go_roundw
      case rel => exact ⟨i + 1, by omega, by go_num, by rw [HS.out, ← vals_set]; exact HST.out.1, Below.setCell hkq.drew (Nat.le_refl _) _⟩
      case measure => simp [intOf]; omega
    ·have hie : i = m.length := by omega
     subst hie
     have HS := Hid.mk (pTo_succ l m k)
     go_wp2_with fail
     go_roundw
     case rel => exact ⟨k + 1, by omega, by go_num, by rw [HS.out]; exact hownq, hkq⟩
     case measure => simp [intOf]; omega
  ·have hke : k = l.length := by omega
   subst hke
   clear h1
   have hM : ∀ i, 0 ≤ at0 (pTo l m l.length) i ∧ at0 (pTo l m l.length) i ≤ 81000 := fun i => by
    have := pTo_bd DL.out DM.out l.length i
    omega
   have HB := Hid.mk (fun j => crr_bd hM j)
   have HLN := Hid.mk (pTo_length l m l.length)
   clear hM DL DM HC4 HC5 KC4 KC5
   generalize hR : pTo l m l.length = R at *
   replace hR := Hid.mk hR
   go_wp2_with fail
   go_loopw [8] (fun x wq => ∃ j : Nat, j ≤ l.length + m.length ∧ x = .int .i64 j ∧ wq.ownsRow w.heap.size 3 1 (.slice (some ⟨w.heap.size, 0, none⟩) (l.length + m.length + 1) (l.length + m.length + 1)) (l.length + m.length + 1) (vals (crr R j)) ∧ Kp w wq)
    (fun x _ => l.length + m.length - (intOf x).toNat)
   case atStart => exact ⟨0, by omega, rfl, hown, hkr⟩
   case round =>
    obtain ⟨j, hj, rfl, hownq, hkq⟩ := hrel
    clear hown hkr
    by_cases h2 : j < l.length + m.length
    ·obtain ⟨b1, _, b3, b4⟩ := HB.out j
     have hx0 := b1 j
     have hy0 := b1 (j + 1)
     have hy1 := b4 (j + 1) (by omega)
     have hco := owns_cell hownq (i := j) (by omega)
     have hc1 := owns_cell hownq (i := j + 1) (by omega)
     have hfz : wr.frozen? ⟨w.heap.size, j + 1, none⟩ = false := hownq.frozenAt (j + 1)
     have hfz0 : wr.frozen? ⟨w.heap.size, j, none⟩ = false := hownq.frozenAt j
     have HS := Hid.mk (crr_succ R j)
     have HA : Hid (crA (crr R j) j = (crr R j).set (j + 1) (at0 (crr R j) (j + 1) + at0 (crr R j) j / 10)) := rfl
     have hji : (j : Int) + 1 < (l.length : Int) + (m.length : Int) + 1 := by omega
     have hw3 : IntKind.i64.wrap ((j : Int) + 1) = (j : Int) + 1 := IntWalk.i64_in _ (by omega)
     have htn : ((j : Int) + 1).toNat = j + 1 := by omega
     have HST := Hid.mk (hownq.stored (j + 1) (.int .i64 (at0 (crr R j) (j + 1) + at0 (crr R j) j / 10)))
     have HST2 := Hid.mk (HST.out.1.stored j (.int .i64 (at0 (crr R j) j % 10)))
     have hne : ¬ (j = j + 1) := by omega
     generalize at0 (crr R j) j = X at *
     generalize at0 (crr R j) (j + 1) = Y at *
     have htd : X.tdiv 10 = X / 10 := Int.tdiv_eq_ediv_of_nonneg hx0
     have htm : X.tmod 10 = X % 10 := Int.tmod_eq_emod_of_nonneg hx0
     have hwa : wrap64 (X / 10) = X / 10 := IntWalk.wrap64_in _ (by omega)
     have hwb : wrap64 (Y + X / 10) = Y + X / 10 := IntWalk.wrap64_in _ (by omega)
     clear b1 b3 b4 HST
     go_wp2_with fail
     go_region
     all_goals
      go_wp2_with fail
      go_roundw
      case rel => exact ⟨j + 1, by omega, by go_num, by rw [HS.out, HA.out, ← vals_set, ← vals_set]; exact HST2.out.1.drew, Kp.drew' (Below.setCell (Below.setCell hkq (Nat.le_refl _) _) (Nat.le_refl _) _)⟩
      case measure => simp [intOf]; omega
    ·have hje : j = l.length + m.length := by omega
     subst hje
     have hr := Row.of_owns hownq
     go_wp2_with fail
     refine bodyPost_ret (v := .slice (some ⟨w.heap.size, 0, none⟩) (l.length + m.length + 1) (l.length + m.length + 1)) (by simp [results, Tryd.results24, go_sem]) rfl ?_
     exact ⟨_, rfl, by rw [hR.out]; exact hr, hkq⟩

end Go.Proofs.YtjahbjjekednfabDoor

namespace Go.Proofs.YtjahbjjekednfabDoor
open Go.RowKit

theorem drop_val (l : List Int) (j : Nat) : val 10 (l.drop j) = at0 l j + 10 * val 10 (l.drop (j + 1)) := by
 rcases Nat.lt_or_ge j l.length with h | h
 ·rw [List.drop_eq_getElem_cons h, at0_eq h]
  rfl
 ·rw [List.drop_eq_nil_of_le h, List.drop_eq_nil_of_le (by omega), at0_ge h]
  rfl

set_option maxHeartbeats 800000 in
theorem figure_any (l : List Int) (v : Value) (k : Nat) (w : World) (hk : k ≤ 1000000) (hr : Row w 3 v l) : Calls Tryd.prog 57 #[v, .int .i64 k] w (RetV w (.int .i64 (at0 l k))) := by
 obtain ⟨ao, cap, b, off, rfl, hcap, hmax, hn, hao, hcell⟩ := hr
 by_cases h : k < l.length
 ·have ha := (hao (by omega)).1
  subst ha
  have hc := hcell k h
  have hki : (k : Int) < (l.length : Int) := by omega
  clear hcell hao hn
  generalize at0 l k = X at *
  go_enter Tryd.func57, Tryd.ntmps57
  go_wp2_with fail
  go_ret
  exact ⟨rfl, Below.refl _ _⟩
 ·have HE := Hid.mk (at0_ge (l := l) (i := k) (by omega))
  have hki : ¬ (k : Int) < (l.length : Int) := by omega
  clear hcell hao hn
  go_enter Tryd.func57, Tryd.ntmps57
  go_wp2_with fail
  go_ret
  exact ⟨by rw [HE.out]; rfl, Below.refl _ _⟩

set_option maxHeartbeats 3200000 in
set_option maxRecDepth 100000 in
/-- surdkeep.one. -/
theorem one_any (u v : Value) (l m : List Int) (w : World) (hu : Row w 3 u l) (hv : Row w 3 v m) (dl : Dig 10 l) (dm : Dig 10 m) (ll : l.length ≤ 10000) (lm : m.length ≤ 10000) (h : val 10 l = val 10 m + 1) : Calls Tryd.prog 23 #[u, v] w (RetV w (.bool true)) := by
 have HU := Hid.mk (fun (k : Nat) (W : World) (hk : k ≤ 1000000) (hK : Kp w W) => figure_any l u k W hk (hu.keep hK))
 have HV := Hid.mk (fun (k : Nat) (W : World) (hk : k ≤ 1000000) (hK : Kp w W) => figure_any m v k W hk (hv.keep hK))
 obtain ⟨ao, c, rfl, hc1, hc2⟩ := hu.slice
 obtain ⟨ao', c', rfl, kc1, kc2⟩ := hv.slice
 have DL := Hid.mk dl
 have DM := Hid.mk dm
 have H0 := Hid.mk h
 clear dl dm h hu hv
 go_enter Tryd.func23, Tryd.ntmps23
 go_wp2_with fail
 go_loopw [5, 6, 7] (fun o i _ wr => ∃ (j : Nat) (O : Int), o = .int .i64 O ∧ i = .int .i64 j ∧ 0 ≤ O ∧ O ≤ 1 ∧ j ≤ 20000 ∧ Hid (val 10 (l.drop j) = val 10 (m.drop j) + O ∧ (j ≤ l.length ∨ j ≤ m.length)) ∧ Kp w wr)
  (fun _ i _ _ => 20001 - (intOf i).toNat)
 case atStart => exact ⟨0, 1, rfl, rfl, by decide, by decide, by omega, ⟨H0.out, by omega⟩, Below.refl _ _⟩
 case round =>
  obtain ⟨j, O, rfl, rfl, hO0, hO1, hj, HI, hkr⟩ := hrel
  by_cases hc : j < l.length ∨ j < m.length
  ·have e1 := drop_val l j
   have e2 := drop_val m j
   have hI := HI.out.1
   have da := DL.out j
   have db := DM.out j
   have HUj := HU.out j
   have HVj := HV.out j
   have HN : Hid (val 10 (l.drop (j + 1)) = val 10 (m.drop (j + 1)) + (at0 m j + O) / 10 ∧ (j + 1 ≤ l.length ∨ j + 1 ≤ m.length)) := by
    refine ⟨?_, by omega⟩
    omega
   have hA : (at0 m j + O) % 10 = at0 l j := by omega
   clear HI e1 e2 hI
   generalize at0 l j = X at *
   generalize at0 m j = Y at *
   have htm : (Y + O).tmod 10 = (Y + O) % 10 := Int.tmod_eq_emod_of_nonneg (by omega)
   have htd : (Y + O).tdiv 10 = (Y + O) / 10 := Int.tdiv_eq_ediv_of_nonneg (by omega)
   have hne : ((Y + O) % 10 != X) = false := by rw [hA]; simp
   replace hA := Hid.mk hA
   by_cases h1 : j < l.length
   ·have h1i : (j : Int) < (l.length : Int) := by omega
    go_wp2_with fail
    refine (HVj _ (by omega) hkr).mono ?_
    rintro e w1 ⟨rfl, hk1⟩
    go_wp2_with fail
    refine (HUj _ (by omega) (hkr.trans' hk1)).mono ?_
    rintro e w2 ⟨rfl, hk2⟩
    go_wp2_with fail
    go_roundw
    case rel => exact ⟨j + 1, (Y + O) / 10, by first | rfl | go_num, by go_num, by omega, by omega, by omega, HN, (hkr.trans' hk1).trans' hk2⟩
    case measure => simp [intOf]; omega
   ·have h1i : ¬ (j : Int) < (l.length : Int) := by omega
    have h2i : (j : Int) < (m.length : Int) := by omega
    go_wp2_with fail
    refine (HVj _ (by omega) hkr).mono ?_
    rintro e w1 ⟨rfl, hk1⟩
    go_wp2_with fail
    refine (HUj _ (by omega) (hkr.trans' hk1)).mono ?_
    rintro e w2 ⟨rfl, hk2⟩
    go_wp2_with fail
    go_roundw
    case rel => exact ⟨j + 1, (Y + O) / 10, by first | rfl | go_num, by go_num, by omega, by omega, by omega, HN, (hkr.trans' hk1).trans' hk2⟩
    case measure => simp [intOf]; omega
  ·have hO : O = 0 := by
    have hI := HI.out.1
    rw [List.drop_eq_nil_of_le (by omega), List.drop_eq_nil_of_le (by omega)] at hI
    simp only [val] at hI
    omega
   subst hO
   have h1i : ¬ (j : Int) < (l.length : Int) := by omega
   have h2i : ¬ (j : Int) < (m.length : Int) := by omega
   clear HI hc
   go_wp2_with fail
   go_ret
   exact ⟨rfl, hkr⟩

end Go.Proofs.YtjahbjjekednfabDoor
