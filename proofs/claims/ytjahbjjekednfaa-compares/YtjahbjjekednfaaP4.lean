import Derived.Test.YtjahbjjekednfaaP1
namespace Go.Proofs.Ytjahbjjekednfaa
open Go.RowKit

/-- The reference's scan. -/
structure Sc where
 want : Bool
 what : Int
 dg : Int
 op : Int

def scNext (x : Sc) (c : Int) : Sc × Bool :=
 if x.what = 114 ∧ x.dg = 0 then (⟨x.want, x.what, 1, x.op⟩, isDig c)
 else if x.want = true then
  if isDig c = true then (⟨false, 110, 1, x.op⟩, true)
  else if c = 114 then (⟨false, 114, 0, x.op⟩, true)
  else if c = 40 ∧ x.op < 8 then (⟨x.want, x.what, x.dg, x.op + 1⟩, true)
  else (x, c == 45)
 else if c = 43 ∨ c = 45 ∨ c = 42 ∨ c = 47 then (⟨true, 0, x.dg, x.op⟩, true)
 else if c = 41 then (⟨x.want, 41, x.dg, x.op - 1⟩, decide (1 ≤ x.op))
 else (⟨x.want, x.what, x.dg + 1, x.op⟩, isDig c && (decide (x.what ≠ 41) && decide (x.dg + 1 ≤ if x.what = 114 then 6 else 18)))

def RetN (w : World) (b : Nat) (q : Sc × Bool) (e : Ending) (w' : World) : Prop :=
 e = .returned (.bool q.2) ∧ Blk w' b #[.bool q.1.want, .int .u8 q.1.what, .int .i64 q.1.dg, .int .i64 q.1.op] 93 ∧ KeepsBut b w w'

set_option maxHeartbeats 400000 in
theorem rdigit_any (c : Int) (w : World) : Calls Try.prog 77 #[.int .u8 c] w fun e w' => e = .returned (.bool (isDig c)) ∧ w' = w := by
 by_cases h : 48 ≤ c
 ·have HD : Hid (isDig c = decide (c ≤ 57)) := by unfold Hid isDig; simp [h]
  go_enter Try.func77, Try.ntmps77
  go_wp2
  go_ret
  exact ⟨by rw [HD.out]; rfl, rfl⟩
 ·have HD : Hid (isDig c = false) := by unfold Hid isDig; simp [h]
  go_enter Try.func77, Try.ntmps77
  go_wp2
  go_ret
  exact ⟨by rw [HD.out]; rfl, rfl⟩

set_option maxHeartbeats 1600000 in
theorem next_root (want : Bool) (what dg op c : Int) (b : Nat) (w : World) (hB : Blk w b #[.bool want, .int .u8 what, .int .i64 dg, .int .i64 op] 93) (hd : 0 ≤ dg ∧ dg ≤ 1000) (ho : -1000 ≤ op ∧ op ≤ 1000) (h1 : what = 114) (h2 : dg = 0) :
  Calls Try.prog 48 #[.pointer (some ⟨b, 0, none⟩), .int .u8 c] w (RetN w b (scNext ⟨want, what, dg, op⟩ c)) := by
 obtain ⟨_, _⟩ := hd
 obtain ⟨_, _⟩ := ho
 have HB : Hid (scNext ⟨want, what, dg, op⟩ c = (⟨want, what, 1, op⟩, isDig c)) := by unfold Hid scNext; rw [if_pos ⟨h1, h2⟩]
 have e1 : (what == 114) = true := by simp [h1]
 have e2 : (dg == 0) = true := by simp [h2]
 clear h1 h2
 have hc := hB.cell
 have hf := hB.frozen
 have hl := hB.lt
 go_enter Try.func48, Try.ntmps48
 go_wp2_with fail
 refine (rdigit_any c _).mono ?_
 rintro e w1 ⟨rfl, rfl⟩
 generalize isDig c = dd at *
 go_wp2_with fail
 go_ret
 rw [HB.out]
 exact ⟨rfl, (Blk.set hB), (KeepsBut.setCell (KeepsBut.refl _ _) _ _)⟩

set_option maxHeartbeats 1600000 in
theorem next_digit_a (want : Bool) (what dg op c : Int) (b : Nat) (w : World) (hB : Blk w b #[.bool want, .int .u8 what, .int .i64 dg, .int .i64 op] 93) (hd : 0 ≤ dg ∧ dg ≤ 1000) (ho : -1000 ≤ op ∧ op ≤ 1000) (h1 : what = 114) (h2 : ¬ dg = 0) (hw : want = true) (hd0 : isDig c = true) :
  Calls Try.prog 48 #[.pointer (some ⟨b, 0, none⟩), .int .u8 c] w (RetN w b (scNext ⟨want, what, dg, op⟩ c)) := by
 obtain ⟨_, _⟩ := hd
 obtain ⟨_, _⟩ := ho
 have HB : Hid (scNext ⟨want, what, dg, op⟩ c = (⟨false, 110, 1, op⟩, true)) := by unfold Hid scNext; rw [if_neg (by simp [h2]), if_pos hw, if_pos hd0]
 have e1 : (what == 114) = true := by simp [h1]
 have e2 : (dg == 0) = false := by simp [h2]
 subst hw
 clear h1 h2
 have hc := hB.cell
 have hf := hB.frozen
 have hl := hB.lt
 go_enter Try.func48, Try.ntmps48
 go_wp2_with fail
 refine (rdigit_any c _).mono ?_
 rintro e w1 ⟨rfl, rfl⟩
 rw [hd0]
 clear hd0
 go_wp2_with fail
 go_ret
 rw [HB.out]
 exact ⟨rfl, (Blk.set (Blk.set (Blk.set hB))), (KeepsBut.setCell (KeepsBut.setCell (KeepsBut.setCell (KeepsBut.refl _ _) _ _) _ _) _ _)⟩

set_option maxHeartbeats 1600000 in
theorem next_digit_b (want : Bool) (what dg op c : Int) (b : Nat) (w : World) (hB : Blk w b #[.bool want, .int .u8 what, .int .i64 dg, .int .i64 op] 93) (hd : 0 ≤ dg ∧ dg ≤ 1000) (ho : -1000 ≤ op ∧ op ≤ 1000) (h1 : ¬ what = 114) (hw : want = true) (hd0 : isDig c = true) :
  Calls Try.prog 48 #[.pointer (some ⟨b, 0, none⟩), .int .u8 c] w (RetN w b (scNext ⟨want, what, dg, op⟩ c)) := by
 obtain ⟨_, _⟩ := hd
 obtain ⟨_, _⟩ := ho
 have HB : Hid (scNext ⟨want, what, dg, op⟩ c = (⟨false, 110, 1, op⟩, true)) := by unfold Hid scNext; rw [if_neg (by simp [h1]), if_pos hw, if_pos hd0]
 have e1 : (what == 114) = false := by simp [h1]
 subst hw
 clear h1
 have hc := hB.cell
 have hf := hB.frozen
 have hl := hB.lt
 go_enter Try.func48, Try.ntmps48
 go_wp2_with fail
 refine (rdigit_any c _).mono ?_
 rintro e w1 ⟨rfl, rfl⟩
 rw [hd0]
 clear hd0
 go_wp2_with fail
 go_ret
 rw [HB.out]
 exact ⟨rfl, (Blk.set (Blk.set (Blk.set hB))), (KeepsBut.setCell (KeepsBut.setCell (KeepsBut.setCell (KeepsBut.refl _ _) _ _) _ _) _ _)⟩

set_option maxHeartbeats 1600000 in
theorem next_r_a (want : Bool) (what dg op c : Int) (b : Nat) (w : World) (hB : Blk w b #[.bool want, .int .u8 what, .int .i64 dg, .int .i64 op] 93) (hd : 0 ≤ dg ∧ dg ≤ 1000) (ho : -1000 ≤ op ∧ op ≤ 1000) (h1 : what = 114) (h2 : ¬ dg = 0) (hw : want = true) (hd0 : isDig c = false) (h3 : c = 114) :
  Calls Try.prog 48 #[.pointer (some ⟨b, 0, none⟩), .int .u8 c] w (RetN w b (scNext ⟨want, what, dg, op⟩ c)) := by
 obtain ⟨_, _⟩ := hd
 obtain ⟨_, _⟩ := ho
 have HB : Hid (scNext ⟨want, what, dg, op⟩ c = (⟨false, 114, 0, op⟩, true)) := by unfold Hid scNext; rw [if_neg (by simp [h2]), if_pos hw, if_neg (by simp [hd0]), if_pos h3]
 have e1 : (what == 114) = true := by simp [h1]
 have e2 : (dg == 0) = false := by simp [h2]
 have e3 : (c == 114) = true := by simp [h3]
 clear h3
 subst hw
 clear h1 h2
 have hc := hB.cell
 have hf := hB.frozen
 have hl := hB.lt
 go_enter Try.func48, Try.ntmps48
 go_wp2_with fail
 refine (rdigit_any c _).mono ?_
 rintro e w1 ⟨rfl, rfl⟩
 rw [hd0]
 clear hd0
 go_wp2_with fail
 go_ret
 rw [HB.out]
 exact ⟨rfl, (Blk.set (Blk.set (Blk.set hB))), (KeepsBut.setCell (KeepsBut.setCell (KeepsBut.setCell (KeepsBut.refl _ _) _ _) _ _) _ _)⟩

set_option maxHeartbeats 1600000 in
theorem next_r_b (want : Bool) (what dg op c : Int) (b : Nat) (w : World) (hB : Blk w b #[.bool want, .int .u8 what, .int .i64 dg, .int .i64 op] 93) (hd : 0 ≤ dg ∧ dg ≤ 1000) (ho : -1000 ≤ op ∧ op ≤ 1000) (h1 : ¬ what = 114) (hw : want = true) (hd0 : isDig c = false) (h3 : c = 114) :
  Calls Try.prog 48 #[.pointer (some ⟨b, 0, none⟩), .int .u8 c] w (RetN w b (scNext ⟨want, what, dg, op⟩ c)) := by
 obtain ⟨_, _⟩ := hd
 obtain ⟨_, _⟩ := ho
 have HB : Hid (scNext ⟨want, what, dg, op⟩ c = (⟨false, 114, 0, op⟩, true)) := by unfold Hid scNext; rw [if_neg (by simp [h1]), if_pos hw, if_neg (by simp [hd0]), if_pos h3]
 have e1 : (what == 114) = false := by simp [h1]
 have e3 : (c == 114) = true := by simp [h3]
 clear h3
 subst hw
 clear h1
 have hc := hB.cell
 have hf := hB.frozen
 have hl := hB.lt
 go_enter Try.func48, Try.ntmps48
 go_wp2_with fail
 refine (rdigit_any c _).mono ?_
 rintro e w1 ⟨rfl, rfl⟩
 rw [hd0]
 clear hd0
 go_wp2_with fail
 go_ret
 rw [HB.out]
 exact ⟨rfl, (Blk.set (Blk.set (Blk.set hB))), (KeepsBut.setCell (KeepsBut.setCell (KeepsBut.setCell (KeepsBut.refl _ _) _ _) _ _) _ _)⟩

set_option maxHeartbeats 1600000 in
theorem next_open_a (want : Bool) (what dg op c : Int) (b : Nat) (w : World) (hB : Blk w b #[.bool want, .int .u8 what, .int .i64 dg, .int .i64 op] 93) (hd : 0 ≤ dg ∧ dg ≤ 1000) (ho : -1000 ≤ op ∧ op ≤ 1000) (h1 : what = 114) (h2 : ¬ dg = 0) (hw : want = true) (hd0 : isDig c = false) (h3 : ¬ c = 114) (h4 : c = 40) (h5 : op < 8) :
  Calls Try.prog 48 #[.pointer (some ⟨b, 0, none⟩), .int .u8 c] w (RetN w b (scNext ⟨want, what, dg, op⟩ c)) := by
 obtain ⟨_, _⟩ := hd
 obtain ⟨_, _⟩ := ho
 have HB : Hid (scNext ⟨want, what, dg, op⟩ c = (⟨true, what, dg, op + 1⟩, true)) := by unfold Hid scNext; rw [if_neg (by simp [h2]), if_pos hw, if_neg (by simp [hd0]), if_neg h3, if_pos ⟨h4, h5⟩, hw]
 have e1 : (what == 114) = true := by simp [h1]
 have e2 : (dg == 0) = false := by simp [h2]
 have e3 : (c == 114) = false := by simp [h3]
 have e4 : (c == 40) = true := by simp [h4]
 clear h3 h4
 subst hw
 clear h1 h2
 have hc := hB.cell
 have hf := hB.frozen
 have hl := hB.lt
 go_enter Try.func48, Try.ntmps48
 go_wp2_with fail
 refine (rdigit_any c _).mono ?_
 rintro e w1 ⟨rfl, rfl⟩
 rw [hd0]
 clear hd0
 go_wp2_with fail
 go_ret
 rw [HB.out]
 exact ⟨rfl, (Blk.set hB), (KeepsBut.setCell (KeepsBut.refl _ _) _ _)⟩

set_option maxHeartbeats 1600000 in
theorem next_open_b (want : Bool) (what dg op c : Int) (b : Nat) (w : World) (hB : Blk w b #[.bool want, .int .u8 what, .int .i64 dg, .int .i64 op] 93) (hd : 0 ≤ dg ∧ dg ≤ 1000) (ho : -1000 ≤ op ∧ op ≤ 1000) (h1 : ¬ what = 114) (hw : want = true) (hd0 : isDig c = false) (h3 : ¬ c = 114) (h4 : c = 40) (h5 : op < 8) :
  Calls Try.prog 48 #[.pointer (some ⟨b, 0, none⟩), .int .u8 c] w (RetN w b (scNext ⟨want, what, dg, op⟩ c)) := by
 obtain ⟨_, _⟩ := hd
 obtain ⟨_, _⟩ := ho
 have HB : Hid (scNext ⟨want, what, dg, op⟩ c = (⟨true, what, dg, op + 1⟩, true)) := by unfold Hid scNext; rw [if_neg (by simp [h1]), if_pos hw, if_neg (by simp [hd0]), if_neg h3, if_pos ⟨h4, h5⟩, hw]
 have e1 : (what == 114) = false := by simp [h1]
 have e3 : (c == 114) = false := by simp [h3]
 have e4 : (c == 40) = true := by simp [h4]
 clear h3 h4
 subst hw
 clear h1
 have hc := hB.cell
 have hf := hB.frozen
 have hl := hB.lt
 go_enter Try.func48, Try.ntmps48
 go_wp2_with fail
 refine (rdigit_any c _).mono ?_
 rintro e w1 ⟨rfl, rfl⟩
 rw [hd0]
 clear hd0
 go_wp2_with fail
 go_ret
 rw [HB.out]
 exact ⟨rfl, (Blk.set hB), (KeepsBut.setCell (KeepsBut.refl _ _) _ _)⟩

set_option maxHeartbeats 1600000 in
theorem next_deep_a (want : Bool) (what dg op c : Int) (b : Nat) (w : World) (hB : Blk w b #[.bool want, .int .u8 what, .int .i64 dg, .int .i64 op] 93) (hd : 0 ≤ dg ∧ dg ≤ 1000) (ho : -1000 ≤ op ∧ op ≤ 1000) (h1 : what = 114) (h2 : ¬ dg = 0) (hw : want = true) (hd0 : isDig c = false) (h3 : ¬ c = 114) (h4 : c = 40) (h5 : ¬ op < 8) :
  Calls Try.prog 48 #[.pointer (some ⟨b, 0, none⟩), .int .u8 c] w (RetN w b (scNext ⟨want, what, dg, op⟩ c)) := by
 obtain ⟨_, _⟩ := hd
 obtain ⟨_, _⟩ := ho
 have HB : Hid (scNext ⟨want, what, dg, op⟩ c = (⟨true, what, dg, op⟩, c == 45)) := by unfold Hid scNext; rw [if_neg (by simp [h2]), if_pos hw, if_neg (by simp [hd0]), if_neg h3, if_neg (by simp [h5]), hw]
 have e1 : (what == 114) = true := by simp [h1]
 have e2 : (dg == 0) = false := by simp [h2]
 have e3 : (c == 114) = false := by simp [h3]
 have e4 : (c == 40) = true := by simp [h4]
 clear h3 h4
 subst hw
 clear h1 h2
 have hc := hB.cell
 have hf := hB.frozen
 have hl := hB.lt
 go_enter Try.func48, Try.ntmps48
 go_wp2_with fail
 refine (rdigit_any c _).mono ?_
 rintro e w1 ⟨rfl, rfl⟩
 rw [hd0]
 clear hd0
 go_wp2_with fail
 go_ret
 rw [HB.out]
 exact ⟨rfl, hB, (KeepsBut.refl _ _)⟩

set_option maxHeartbeats 1600000 in
theorem next_deep_b (want : Bool) (what dg op c : Int) (b : Nat) (w : World) (hB : Blk w b #[.bool want, .int .u8 what, .int .i64 dg, .int .i64 op] 93) (hd : 0 ≤ dg ∧ dg ≤ 1000) (ho : -1000 ≤ op ∧ op ≤ 1000) (h1 : ¬ what = 114) (hw : want = true) (hd0 : isDig c = false) (h3 : ¬ c = 114) (h4 : c = 40) (h5 : ¬ op < 8) :
  Calls Try.prog 48 #[.pointer (some ⟨b, 0, none⟩), .int .u8 c] w (RetN w b (scNext ⟨want, what, dg, op⟩ c)) := by
 obtain ⟨_, _⟩ := hd
 obtain ⟨_, _⟩ := ho
 have HB : Hid (scNext ⟨want, what, dg, op⟩ c = (⟨true, what, dg, op⟩, c == 45)) := by unfold Hid scNext; rw [if_neg (by simp [h1]), if_pos hw, if_neg (by simp [hd0]), if_neg h3, if_neg (by simp [h5]), hw]
 have e1 : (what == 114) = false := by simp [h1]
 have e3 : (c == 114) = false := by simp [h3]
 have e4 : (c == 40) = true := by simp [h4]
 clear h3 h4
 subst hw
 clear h1
 have hc := hB.cell
 have hf := hB.frozen
 have hl := hB.lt
 go_enter Try.func48, Try.ntmps48
 go_wp2_with fail
 refine (rdigit_any c _).mono ?_
 rintro e w1 ⟨rfl, rfl⟩
 rw [hd0]
 clear hd0
 go_wp2_with fail
 go_ret
 rw [HB.out]
 exact ⟨rfl, hB, (KeepsBut.refl _ _)⟩

set_option maxHeartbeats 1600000 in
theorem next_other_a (want : Bool) (what dg op c : Int) (b : Nat) (w : World) (hB : Blk w b #[.bool want, .int .u8 what, .int .i64 dg, .int .i64 op] 93) (hd : 0 ≤ dg ∧ dg ≤ 1000) (ho : -1000 ≤ op ∧ op ≤ 1000) (h1 : what = 114) (h2 : ¬ dg = 0) (hw : want = true) (hd0 : isDig c = false) (h3 : ¬ c = 114) (h4 : ¬ c = 40) :
  Calls Try.prog 48 #[.pointer (some ⟨b, 0, none⟩), .int .u8 c] w (RetN w b (scNext ⟨want, what, dg, op⟩ c)) := by
 obtain ⟨_, _⟩ := hd
 obtain ⟨_, _⟩ := ho
 have HB : Hid (scNext ⟨want, what, dg, op⟩ c = (⟨true, what, dg, op⟩, c == 45)) := by unfold Hid scNext; rw [if_neg (by simp [h2]), if_pos hw, if_neg (by simp [hd0]), if_neg h3, if_neg (by simp [h4]), hw]
 have e1 : (what == 114) = true := by simp [h1]
 have e2 : (dg == 0) = false := by simp [h2]
 have e3 : (c == 114) = false := by simp [h3]
 have e4 : (c == 40) = false := by simp [h4]
 clear h3 h4
 subst hw
 clear h1 h2
 have hc := hB.cell
 have hf := hB.frozen
 have hl := hB.lt
 go_enter Try.func48, Try.ntmps48
 go_wp2_with fail
 refine (rdigit_any c _).mono ?_
 rintro e w1 ⟨rfl, rfl⟩
 rw [hd0]
 clear hd0
 go_wp2_with fail
 go_ret
 rw [HB.out]
 exact ⟨rfl, hB, (KeepsBut.refl _ _)⟩

set_option maxHeartbeats 1600000 in
theorem next_other_b (want : Bool) (what dg op c : Int) (b : Nat) (w : World) (hB : Blk w b #[.bool want, .int .u8 what, .int .i64 dg, .int .i64 op] 93) (hd : 0 ≤ dg ∧ dg ≤ 1000) (ho : -1000 ≤ op ∧ op ≤ 1000) (h1 : ¬ what = 114) (hw : want = true) (hd0 : isDig c = false) (h3 : ¬ c = 114) (h4 : ¬ c = 40) :
  Calls Try.prog 48 #[.pointer (some ⟨b, 0, none⟩), .int .u8 c] w (RetN w b (scNext ⟨want, what, dg, op⟩ c)) := by
 obtain ⟨_, _⟩ := hd
 obtain ⟨_, _⟩ := ho
 have HB : Hid (scNext ⟨want, what, dg, op⟩ c = (⟨true, what, dg, op⟩, c == 45)) := by unfold Hid scNext; rw [if_neg (by simp [h1]), if_pos hw, if_neg (by simp [hd0]), if_neg h3, if_neg (by simp [h4]), hw]
 have e1 : (what == 114) = false := by simp [h1]
 have e3 : (c == 114) = false := by simp [h3]
 have e4 : (c == 40) = false := by simp [h4]
 clear h3 h4
 subst hw
 clear h1
 have hc := hB.cell
 have hf := hB.frozen
 have hl := hB.lt
 go_enter Try.func48, Try.ntmps48
 go_wp2_with fail
 refine (rdigit_any c _).mono ?_
 rintro e w1 ⟨rfl, rfl⟩
 rw [hd0]
 clear hd0
 go_wp2_with fail
 go_ret
 rw [HB.out]
 exact ⟨rfl, hB, (KeepsBut.refl _ _)⟩

set_option maxHeartbeats 1600000 in
theorem next_sign0_a (want : Bool) (what dg op c : Int) (b : Nat) (w : World) (hB : Blk w b #[.bool want, .int .u8 what, .int .i64 dg, .int .i64 op] 93) (hd : 0 ≤ dg ∧ dg ≤ 1000) (ho : -1000 ≤ op ∧ op ≤ 1000) (h1 : what = 114) (h2 : ¬ dg = 0) (hw : want = false) (g0 : c = 43) :
  Calls Try.prog 48 #[.pointer (some ⟨b, 0, none⟩), .int .u8 c] w (RetN w b (scNext ⟨want, what, dg, op⟩ c)) := by
 obtain ⟨_, _⟩ := hd
 obtain ⟨_, _⟩ := ho
 have HB : Hid (scNext ⟨want, what, dg, op⟩ c = (⟨true, 0, dg, op⟩, true)) := by unfold Hid scNext; rw [if_neg (by simp [h2]), if_neg (by simp [hw]), if_pos (by simp [g0])]
 have e1 : (what == 114) = true := by simp [h1]
 have e2 : (dg == 0) = false := by simp [h2]
 have x0 : (c == 43) = true := by simp [g0]
 clear g0
 subst hw
 clear h1 h2
 have hc := hB.cell
 have hf := hB.frozen
 have hl := hB.lt
 go_enter Try.func48, Try.ntmps48
 go_wp2_with fail
 refine (rdigit_any c _).mono ?_
 rintro e w1 ⟨rfl, rfl⟩
 generalize isDig c = dd at *
 go_wp2_with fail
 go_ret
 rw [HB.out]
 exact ⟨rfl, (Blk.set (Blk.set hB)), (KeepsBut.setCell (KeepsBut.setCell (KeepsBut.refl _ _) _ _) _ _)⟩

set_option maxHeartbeats 1600000 in
theorem next_sign0_b (want : Bool) (what dg op c : Int) (b : Nat) (w : World) (hB : Blk w b #[.bool want, .int .u8 what, .int .i64 dg, .int .i64 op] 93) (hd : 0 ≤ dg ∧ dg ≤ 1000) (ho : -1000 ≤ op ∧ op ≤ 1000) (h1 : ¬ what = 114) (hw : want = false) (g0 : c = 43) :
  Calls Try.prog 48 #[.pointer (some ⟨b, 0, none⟩), .int .u8 c] w (RetN w b (scNext ⟨want, what, dg, op⟩ c)) := by
 obtain ⟨_, _⟩ := hd
 obtain ⟨_, _⟩ := ho
 have HB : Hid (scNext ⟨want, what, dg, op⟩ c = (⟨true, 0, dg, op⟩, true)) := by unfold Hid scNext; rw [if_neg (by simp [h1]), if_neg (by simp [hw]), if_pos (by simp [g0])]
 have e1 : (what == 114) = false := by simp [h1]
 have x0 : (c == 43) = true := by simp [g0]
 clear g0
 subst hw
 clear h1
 have hc := hB.cell
 have hf := hB.frozen
 have hl := hB.lt
 go_enter Try.func48, Try.ntmps48
 go_wp2_with fail
 refine (rdigit_any c _).mono ?_
 rintro e w1 ⟨rfl, rfl⟩
 generalize isDig c = dd at *
 go_wp2_with fail
 go_ret
 rw [HB.out]
 exact ⟨rfl, (Blk.set (Blk.set hB)), (KeepsBut.setCell (KeepsBut.setCell (KeepsBut.refl _ _) _ _) _ _)⟩

set_option maxHeartbeats 1600000 in
theorem next_sign1_a (want : Bool) (what dg op c : Int) (b : Nat) (w : World) (hB : Blk w b #[.bool want, .int .u8 what, .int .i64 dg, .int .i64 op] 93) (hd : 0 ≤ dg ∧ dg ≤ 1000) (ho : -1000 ≤ op ∧ op ≤ 1000) (h1 : what = 114) (h2 : ¬ dg = 0) (hw : want = false) (g0 : ¬ c = 43) (g1 : c = 45) :
  Calls Try.prog 48 #[.pointer (some ⟨b, 0, none⟩), .int .u8 c] w (RetN w b (scNext ⟨want, what, dg, op⟩ c)) := by
 obtain ⟨_, _⟩ := hd
 obtain ⟨_, _⟩ := ho
 have HB : Hid (scNext ⟨want, what, dg, op⟩ c = (⟨true, 0, dg, op⟩, true)) := by unfold Hid scNext; rw [if_neg (by simp [h2]), if_neg (by simp [hw]), if_pos (by simp [g1])]
 have e1 : (what == 114) = true := by simp [h1]
 have e2 : (dg == 0) = false := by simp [h2]
 have x0 : (c == 43) = false := by simp [g0]
 have x1 : (c == 45) = true := by simp [g1]
 clear g0 g1
 subst hw
 clear h1 h2
 have hc := hB.cell
 have hf := hB.frozen
 have hl := hB.lt
 go_enter Try.func48, Try.ntmps48
 go_wp2_with fail
 refine (rdigit_any c _).mono ?_
 rintro e w1 ⟨rfl, rfl⟩
 generalize isDig c = dd at *
 go_wp2_with fail
 go_ret
 rw [HB.out]
 exact ⟨rfl, (Blk.set (Blk.set hB)), (KeepsBut.setCell (KeepsBut.setCell (KeepsBut.refl _ _) _ _) _ _)⟩

set_option maxHeartbeats 1600000 in
theorem next_sign1_b (want : Bool) (what dg op c : Int) (b : Nat) (w : World) (hB : Blk w b #[.bool want, .int .u8 what, .int .i64 dg, .int .i64 op] 93) (hd : 0 ≤ dg ∧ dg ≤ 1000) (ho : -1000 ≤ op ∧ op ≤ 1000) (h1 : ¬ what = 114) (hw : want = false) (g0 : ¬ c = 43) (g1 : c = 45) :
  Calls Try.prog 48 #[.pointer (some ⟨b, 0, none⟩), .int .u8 c] w (RetN w b (scNext ⟨want, what, dg, op⟩ c)) := by
 obtain ⟨_, _⟩ := hd
 obtain ⟨_, _⟩ := ho
 have HB : Hid (scNext ⟨want, what, dg, op⟩ c = (⟨true, 0, dg, op⟩, true)) := by unfold Hid scNext; rw [if_neg (by simp [h1]), if_neg (by simp [hw]), if_pos (by simp [g1])]
 have e1 : (what == 114) = false := by simp [h1]
 have x0 : (c == 43) = false := by simp [g0]
 have x1 : (c == 45) = true := by simp [g1]
 clear g0 g1
 subst hw
 clear h1
 have hc := hB.cell
 have hf := hB.frozen
 have hl := hB.lt
 go_enter Try.func48, Try.ntmps48
 go_wp2_with fail
 refine (rdigit_any c _).mono ?_
 rintro e w1 ⟨rfl, rfl⟩
 generalize isDig c = dd at *
 go_wp2_with fail
 go_ret
 rw [HB.out]
 exact ⟨rfl, (Blk.set (Blk.set hB)), (KeepsBut.setCell (KeepsBut.setCell (KeepsBut.refl _ _) _ _) _ _)⟩

set_option maxHeartbeats 1600000 in
theorem next_sign2_a (want : Bool) (what dg op c : Int) (b : Nat) (w : World) (hB : Blk w b #[.bool want, .int .u8 what, .int .i64 dg, .int .i64 op] 93) (hd : 0 ≤ dg ∧ dg ≤ 1000) (ho : -1000 ≤ op ∧ op ≤ 1000) (h1 : what = 114) (h2 : ¬ dg = 0) (hw : want = false) (g0 : ¬ c = 43) (g1 : ¬ c = 45) (g2 : c = 42) :
  Calls Try.prog 48 #[.pointer (some ⟨b, 0, none⟩), .int .u8 c] w (RetN w b (scNext ⟨want, what, dg, op⟩ c)) := by
 obtain ⟨_, _⟩ := hd
 obtain ⟨_, _⟩ := ho
 have HB : Hid (scNext ⟨want, what, dg, op⟩ c = (⟨true, 0, dg, op⟩, true)) := by unfold Hid scNext; rw [if_neg (by simp [h2]), if_neg (by simp [hw]), if_pos (by simp [g2])]
 have e1 : (what == 114) = true := by simp [h1]
 have e2 : (dg == 0) = false := by simp [h2]
 have x0 : (c == 43) = false := by simp [g0]
 have x1 : (c == 45) = false := by simp [g1]
 have x2 : (c == 42) = true := by simp [g2]
 clear g0 g1 g2
 subst hw
 clear h1 h2
 have hc := hB.cell
 have hf := hB.frozen
 have hl := hB.lt
 go_enter Try.func48, Try.ntmps48
 go_wp2_with fail
 refine (rdigit_any c _).mono ?_
 rintro e w1 ⟨rfl, rfl⟩
 generalize isDig c = dd at *
 go_wp2_with fail
 go_ret
 rw [HB.out]
 exact ⟨rfl, (Blk.set (Blk.set hB)), (KeepsBut.setCell (KeepsBut.setCell (KeepsBut.refl _ _) _ _) _ _)⟩

set_option maxHeartbeats 1600000 in
theorem next_sign2_b (want : Bool) (what dg op c : Int) (b : Nat) (w : World) (hB : Blk w b #[.bool want, .int .u8 what, .int .i64 dg, .int .i64 op] 93) (hd : 0 ≤ dg ∧ dg ≤ 1000) (ho : -1000 ≤ op ∧ op ≤ 1000) (h1 : ¬ what = 114) (hw : want = false) (g0 : ¬ c = 43) (g1 : ¬ c = 45) (g2 : c = 42) :
  Calls Try.prog 48 #[.pointer (some ⟨b, 0, none⟩), .int .u8 c] w (RetN w b (scNext ⟨want, what, dg, op⟩ c)) := by
 obtain ⟨_, _⟩ := hd
 obtain ⟨_, _⟩ := ho
 have HB : Hid (scNext ⟨want, what, dg, op⟩ c = (⟨true, 0, dg, op⟩, true)) := by unfold Hid scNext; rw [if_neg (by simp [h1]), if_neg (by simp [hw]), if_pos (by simp [g2])]
 have e1 : (what == 114) = false := by simp [h1]
 have x0 : (c == 43) = false := by simp [g0]
 have x1 : (c == 45) = false := by simp [g1]
 have x2 : (c == 42) = true := by simp [g2]
 clear g0 g1 g2
 subst hw
 clear h1
 have hc := hB.cell
 have hf := hB.frozen
 have hl := hB.lt
 go_enter Try.func48, Try.ntmps48
 go_wp2_with fail
 refine (rdigit_any c _).mono ?_
 rintro e w1 ⟨rfl, rfl⟩
 generalize isDig c = dd at *
 go_wp2_with fail
 go_ret
 rw [HB.out]
 exact ⟨rfl, (Blk.set (Blk.set hB)), (KeepsBut.setCell (KeepsBut.setCell (KeepsBut.refl _ _) _ _) _ _)⟩

set_option maxHeartbeats 1600000 in
theorem next_sign3_a (want : Bool) (what dg op c : Int) (b : Nat) (w : World) (hB : Blk w b #[.bool want, .int .u8 what, .int .i64 dg, .int .i64 op] 93) (hd : 0 ≤ dg ∧ dg ≤ 1000) (ho : -1000 ≤ op ∧ op ≤ 1000) (h1 : what = 114) (h2 : ¬ dg = 0) (hw : want = false) (g0 : ¬ c = 43) (g1 : ¬ c = 45) (g2 : ¬ c = 42) (g3 : c = 47) :
  Calls Try.prog 48 #[.pointer (some ⟨b, 0, none⟩), .int .u8 c] w (RetN w b (scNext ⟨want, what, dg, op⟩ c)) := by
 obtain ⟨_, _⟩ := hd
 obtain ⟨_, _⟩ := ho
 have HB : Hid (scNext ⟨want, what, dg, op⟩ c = (⟨true, 0, dg, op⟩, true)) := by unfold Hid scNext; rw [if_neg (by simp [h2]), if_neg (by simp [hw]), if_pos (by simp [g3])]
 have e1 : (what == 114) = true := by simp [h1]
 have e2 : (dg == 0) = false := by simp [h2]
 have x0 : (c == 43) = false := by simp [g0]
 have x1 : (c == 45) = false := by simp [g1]
 have x2 : (c == 42) = false := by simp [g2]
 have x3 : (c == 47) = true := by simp [g3]
 clear g0 g1 g2 g3
 subst hw
 clear h1 h2
 have hc := hB.cell
 have hf := hB.frozen
 have hl := hB.lt
 go_enter Try.func48, Try.ntmps48
 go_wp2_with fail
 refine (rdigit_any c _).mono ?_
 rintro e w1 ⟨rfl, rfl⟩
 generalize isDig c = dd at *
 go_wp2_with fail
 go_ret
 rw [HB.out]
 exact ⟨rfl, (Blk.set (Blk.set hB)), (KeepsBut.setCell (KeepsBut.setCell (KeepsBut.refl _ _) _ _) _ _)⟩

set_option maxHeartbeats 1600000 in
theorem next_sign3_b (want : Bool) (what dg op c : Int) (b : Nat) (w : World) (hB : Blk w b #[.bool want, .int .u8 what, .int .i64 dg, .int .i64 op] 93) (hd : 0 ≤ dg ∧ dg ≤ 1000) (ho : -1000 ≤ op ∧ op ≤ 1000) (h1 : ¬ what = 114) (hw : want = false) (g0 : ¬ c = 43) (g1 : ¬ c = 45) (g2 : ¬ c = 42) (g3 : c = 47) :
  Calls Try.prog 48 #[.pointer (some ⟨b, 0, none⟩), .int .u8 c] w (RetN w b (scNext ⟨want, what, dg, op⟩ c)) := by
 obtain ⟨_, _⟩ := hd
 obtain ⟨_, _⟩ := ho
 have HB : Hid (scNext ⟨want, what, dg, op⟩ c = (⟨true, 0, dg, op⟩, true)) := by unfold Hid scNext; rw [if_neg (by simp [h1]), if_neg (by simp [hw]), if_pos (by simp [g3])]
 have e1 : (what == 114) = false := by simp [h1]
 have x0 : (c == 43) = false := by simp [g0]
 have x1 : (c == 45) = false := by simp [g1]
 have x2 : (c == 42) = false := by simp [g2]
 have x3 : (c == 47) = true := by simp [g3]
 clear g0 g1 g2 g3
 subst hw
 clear h1
 have hc := hB.cell
 have hf := hB.frozen
 have hl := hB.lt
 go_enter Try.func48, Try.ntmps48
 go_wp2_with fail
 refine (rdigit_any c _).mono ?_
 rintro e w1 ⟨rfl, rfl⟩
 generalize isDig c = dd at *
 go_wp2_with fail
 go_ret
 rw [HB.out]
 exact ⟨rfl, (Blk.set (Blk.set hB)), (KeepsBut.setCell (KeepsBut.setCell (KeepsBut.refl _ _) _ _) _ _)⟩

set_option maxHeartbeats 1600000 in
theorem next_close_a (want : Bool) (what dg op c : Int) (b : Nat) (w : World) (hB : Blk w b #[.bool want, .int .u8 what, .int .i64 dg, .int .i64 op] 93) (hd : 0 ≤ dg ∧ dg ≤ 1000) (ho : -1000 ≤ op ∧ op ≤ 1000) (h1 : what = 114) (h2 : ¬ dg = 0) (hw : want = false) (g0 : ¬ c = 43) (g1 : ¬ c = 45) (g2 : ¬ c = 42) (g3 : ¬ c = 47) (g4 : c = 41) :
  Calls Try.prog 48 #[.pointer (some ⟨b, 0, none⟩), .int .u8 c] w (RetN w b (scNext ⟨want, what, dg, op⟩ c)) := by
 obtain ⟨_, _⟩ := hd
 obtain ⟨_, _⟩ := ho
 have HB : Hid (scNext ⟨want, what, dg, op⟩ c = (⟨false, 41, dg, op - 1⟩, decide (1 ≤ op))) := by unfold Hid scNext; rw [if_neg (by simp [h2]), if_neg (by simp [hw]), if_neg (by simp [g0, g1, g2, g3]), if_pos g4, hw]
 have e1 : (what == 114) = true := by simp [h1]
 have e2 : (dg == 0) = false := by simp [h2]
 have x0 : (c == 43) = false := by simp [g0]
 have x1 : (c == 45) = false := by simp [g1]
 have x2 : (c == 42) = false := by simp [g2]
 have x3 : (c == 47) = false := by simp [g3]
 have x4 : (c == 41) = true := by simp [g4]
 clear g0 g1 g2 g3 g4
 subst hw
 clear h1 h2
 have hc := hB.cell
 have hf := hB.frozen
 have hl := hB.lt
 go_enter Try.func48, Try.ntmps48
 go_wp2_with fail
 refine (rdigit_any c _).mono ?_
 rintro e w1 ⟨rfl, rfl⟩
 generalize isDig c = dd at *
 go_wp2_with fail
 go_ret
 rw [HB.out]
 exact ⟨rfl, (Blk.set (Blk.set hB)), (KeepsBut.setCell (KeepsBut.setCell (KeepsBut.refl _ _) _ _) _ _)⟩

set_option maxHeartbeats 1600000 in
theorem next_close_b (want : Bool) (what dg op c : Int) (b : Nat) (w : World) (hB : Blk w b #[.bool want, .int .u8 what, .int .i64 dg, .int .i64 op] 93) (hd : 0 ≤ dg ∧ dg ≤ 1000) (ho : -1000 ≤ op ∧ op ≤ 1000) (h1 : ¬ what = 114) (hw : want = false) (g0 : ¬ c = 43) (g1 : ¬ c = 45) (g2 : ¬ c = 42) (g3 : ¬ c = 47) (g4 : c = 41) :
  Calls Try.prog 48 #[.pointer (some ⟨b, 0, none⟩), .int .u8 c] w (RetN w b (scNext ⟨want, what, dg, op⟩ c)) := by
 obtain ⟨_, _⟩ := hd
 obtain ⟨_, _⟩ := ho
 have HB : Hid (scNext ⟨want, what, dg, op⟩ c = (⟨false, 41, dg, op - 1⟩, decide (1 ≤ op))) := by unfold Hid scNext; rw [if_neg (by simp [h1]), if_neg (by simp [hw]), if_neg (by simp [g0, g1, g2, g3]), if_pos g4, hw]
 have e1 : (what == 114) = false := by simp [h1]
 have x0 : (c == 43) = false := by simp [g0]
 have x1 : (c == 45) = false := by simp [g1]
 have x2 : (c == 42) = false := by simp [g2]
 have x3 : (c == 47) = false := by simp [g3]
 have x4 : (c == 41) = true := by simp [g4]
 clear g0 g1 g2 g3 g4
 subst hw
 clear h1
 have hc := hB.cell
 have hf := hB.frozen
 have hl := hB.lt
 go_enter Try.func48, Try.ntmps48
 go_wp2_with fail
 refine (rdigit_any c _).mono ?_
 rintro e w1 ⟨rfl, rfl⟩
 generalize isDig c = dd at *
 go_wp2_with fail
 go_ret
 rw [HB.out]
 exact ⟨rfl, (Blk.set (Blk.set hB)), (KeepsBut.setCell (KeepsBut.setCell (KeepsBut.refl _ _) _ _) _ _)⟩

set_option maxHeartbeats 1600000 in
theorem next_bad_a (want : Bool) (what dg op c : Int) (b : Nat) (w : World) (hB : Blk w b #[.bool want, .int .u8 what, .int .i64 dg, .int .i64 op] 93) (hd : 0 ≤ dg ∧ dg ≤ 1000) (ho : -1000 ≤ op ∧ op ≤ 1000) (h1 : what = 114) (h2 : ¬ dg = 0) (hw : want = false) (g0 : ¬ c = 43) (g1 : ¬ c = 45) (g2 : ¬ c = 42) (g3 : ¬ c = 47) (g4 : ¬ c = 41) (hd0 : isDig c = false) :
  Calls Try.prog 48 #[.pointer (some ⟨b, 0, none⟩), .int .u8 c] w (RetN w b (scNext ⟨want, what, dg, op⟩ c)) := by
 obtain ⟨_, _⟩ := hd
 obtain ⟨_, _⟩ := ho
 have HB : Hid (scNext ⟨want, what, dg, op⟩ c = (⟨false, what, dg + 1, op⟩, false)) := by unfold Hid scNext; rw [if_neg (by simp [h2]), if_neg (by simp [hw]), if_neg (by simp [g0, g1, g2, g3]), if_neg g4, hw, hd0, Bool.false_and]
 have e1 : (what == 114) = true := by simp [h1]
 have e2 : (dg == 0) = false := by simp [h2]
 have x0 : (c == 43) = false := by simp [g0]
 have x1 : (c == 45) = false := by simp [g1]
 have x2 : (c == 42) = false := by simp [g2]
 have x3 : (c == 47) = false := by simp [g3]
 have x4 : (c == 41) = false := by simp [g4]
 clear g0 g1 g2 g3 g4
 subst hw
 clear h1 h2
 have hc := hB.cell
 have hf := hB.frozen
 have hl := hB.lt
 go_enter Try.func48, Try.ntmps48
 go_wp2_with fail
 refine (rdigit_any c _).mono ?_
 rintro e w1 ⟨rfl, rfl⟩
 rw [hd0]
 clear hd0
 go_wp2_with fail
 go_ret
 rw [HB.out]
 exact ⟨rfl, (Blk.set hB), (KeepsBut.setCell (KeepsBut.refl _ _) _ _)⟩

set_option maxHeartbeats 1600000 in
theorem next_bad_b (want : Bool) (what dg op c : Int) (b : Nat) (w : World) (hB : Blk w b #[.bool want, .int .u8 what, .int .i64 dg, .int .i64 op] 93) (hd : 0 ≤ dg ∧ dg ≤ 1000) (ho : -1000 ≤ op ∧ op ≤ 1000) (h1 : ¬ what = 114) (hw : want = false) (g0 : ¬ c = 43) (g1 : ¬ c = 45) (g2 : ¬ c = 42) (g3 : ¬ c = 47) (g4 : ¬ c = 41) (hd0 : isDig c = false) :
  Calls Try.prog 48 #[.pointer (some ⟨b, 0, none⟩), .int .u8 c] w (RetN w b (scNext ⟨want, what, dg, op⟩ c)) := by
 obtain ⟨_, _⟩ := hd
 obtain ⟨_, _⟩ := ho
 have HB : Hid (scNext ⟨want, what, dg, op⟩ c = (⟨false, what, dg + 1, op⟩, false)) := by unfold Hid scNext; rw [if_neg (by simp [h1]), if_neg (by simp [hw]), if_neg (by simp [g0, g1, g2, g3]), if_neg g4, hw, hd0, Bool.false_and]
 have e1 : (what == 114) = false := by simp [h1]
 have x0 : (c == 43) = false := by simp [g0]
 have x1 : (c == 45) = false := by simp [g1]
 have x2 : (c == 42) = false := by simp [g2]
 have x3 : (c == 47) = false := by simp [g3]
 have x4 : (c == 41) = false := by simp [g4]
 clear g0 g1 g2 g3 g4
 subst hw
 clear h1
 have hc := hB.cell
 have hf := hB.frozen
 have hl := hB.lt
 go_enter Try.func48, Try.ntmps48
 go_wp2_with fail
 refine (rdigit_any c _).mono ?_
 rintro e w1 ⟨rfl, rfl⟩
 rw [hd0]
 clear hd0
 go_wp2_with fail
 go_ret
 rw [HB.out]
 exact ⟨rfl, (Blk.set hB), (KeepsBut.setCell (KeepsBut.refl _ _) _ _)⟩

set_option maxHeartbeats 1600000 in
theorem next_shut_a (want : Bool) (what dg op c : Int) (b : Nat) (w : World) (hB : Blk w b #[.bool want, .int .u8 what, .int .i64 dg, .int .i64 op] 93) (hd : 0 ≤ dg ∧ dg ≤ 1000) (ho : -1000 ≤ op ∧ op ≤ 1000) (h1 : what = 114) (h2 : ¬ dg = 0) (hw : want = false) (g0 : ¬ c = 43) (g1 : ¬ c = 45) (g2 : ¬ c = 42) (g3 : ¬ c = 47) (g4 : ¬ c = 41) (hd0 : isDig c = true) (h6 : what = 41) :
  Calls Try.prog 48 #[.pointer (some ⟨b, 0, none⟩), .int .u8 c] w (RetN w b (scNext ⟨want, what, dg, op⟩ c)) := by
 obtain ⟨_, _⟩ := hd
 obtain ⟨_, _⟩ := ho
 have HB : Hid (scNext ⟨want, what, dg, op⟩ c = (⟨false, what, dg + 1, op⟩, false)) := by unfold Hid scNext; rw [if_neg (by simp [h2]), if_neg (by simp [hw]), if_neg (by simp [g0, g1, g2, g3]), if_neg g4, hw, hd0, decide_eq_false (by simp [h6]), Bool.false_and, Bool.and_false]
 have e1 : (what == 114) = true := by simp [h1]
 have e2 : (dg == 0) = false := by simp [h2]
 have x0 : (c == 43) = false := by simp [g0]
 have x1 : (c == 45) = false := by simp [g1]
 have x2 : (c == 42) = false := by simp [g2]
 have x3 : (c == 47) = false := by simp [g3]
 have x4 : (c == 41) = false := by simp [g4]
 clear g0 g1 g2 g3 g4
 have x6 : (what != 41) = false := by simp [h6]
 clear h6
 subst hw
 clear h1 h2
 have hc := hB.cell
 have hf := hB.frozen
 have hl := hB.lt
 go_enter Try.func48, Try.ntmps48
 go_wp2_with fail
 refine (rdigit_any c _).mono ?_
 rintro e w1 ⟨rfl, rfl⟩
 rw [hd0]
 clear hd0
 go_wp2_with fail
 go_ret
 rw [HB.out]
 exact ⟨rfl, (Blk.set hB), (KeepsBut.setCell (KeepsBut.refl _ _) _ _)⟩

set_option maxHeartbeats 1600000 in
theorem next_shut_b (want : Bool) (what dg op c : Int) (b : Nat) (w : World) (hB : Blk w b #[.bool want, .int .u8 what, .int .i64 dg, .int .i64 op] 93) (hd : 0 ≤ dg ∧ dg ≤ 1000) (ho : -1000 ≤ op ∧ op ≤ 1000) (h1 : ¬ what = 114) (hw : want = false) (g0 : ¬ c = 43) (g1 : ¬ c = 45) (g2 : ¬ c = 42) (g3 : ¬ c = 47) (g4 : ¬ c = 41) (hd0 : isDig c = true) (h6 : what = 41) :
  Calls Try.prog 48 #[.pointer (some ⟨b, 0, none⟩), .int .u8 c] w (RetN w b (scNext ⟨want, what, dg, op⟩ c)) := by
 obtain ⟨_, _⟩ := hd
 obtain ⟨_, _⟩ := ho
 have HB : Hid (scNext ⟨want, what, dg, op⟩ c = (⟨false, what, dg + 1, op⟩, false)) := by unfold Hid scNext; rw [if_neg (by simp [h1]), if_neg (by simp [hw]), if_neg (by simp [g0, g1, g2, g3]), if_neg g4, hw, hd0, decide_eq_false (by simp [h6]), Bool.false_and, Bool.and_false]
 have e1 : (what == 114) = false := by simp [h1]
 have x0 : (c == 43) = false := by simp [g0]
 have x1 : (c == 45) = false := by simp [g1]
 have x2 : (c == 42) = false := by simp [g2]
 have x3 : (c == 47) = false := by simp [g3]
 have x4 : (c == 41) = false := by simp [g4]
 clear g0 g1 g2 g3 g4
 have x6 : (what != 41) = false := by simp [h6]
 clear h6
 subst hw
 clear h1
 have hc := hB.cell
 have hf := hB.frozen
 have hl := hB.lt
 go_enter Try.func48, Try.ntmps48
 go_wp2_with fail
 refine (rdigit_any c _).mono ?_
 rintro e w1 ⟨rfl, rfl⟩
 rw [hd0]
 clear hd0
 go_wp2_with fail
 go_ret
 rw [HB.out]
 exact ⟨rfl, (Blk.set hB), (KeepsBut.setCell (KeepsBut.refl _ _) _ _)⟩

set_option maxHeartbeats 1600000 in
theorem next_more_a (want : Bool) (what dg op c : Int) (b : Nat) (w : World) (hB : Blk w b #[.bool want, .int .u8 what, .int .i64 dg, .int .i64 op] 93) (hd : 0 ≤ dg ∧ dg ≤ 1000) (ho : -1000 ≤ op ∧ op ≤ 1000) (h1 : what = 114) (h2 : ¬ dg = 0) (hw : want = false) (g0 : ¬ c = 43) (g1 : ¬ c = 45) (g2 : ¬ c = 42) (g3 : ¬ c = 47) (g4 : ¬ c = 41) (hd0 : isDig c = true) (h6 : ¬ what = 41) :
  Calls Try.prog 48 #[.pointer (some ⟨b, 0, none⟩), .int .u8 c] w (RetN w b (scNext ⟨want, what, dg, op⟩ c)) := by
 obtain ⟨_, _⟩ := hd
 obtain ⟨_, _⟩ := ho
 have HB : Hid (scNext ⟨want, what, dg, op⟩ c = (⟨false, what, dg + 1, op⟩, decide (dg + 1 ≤ 6))) := by unfold Hid scNext; rw [if_neg (by simp [h2]), if_neg (by simp [hw]), if_neg (by simp [g0, g1, g2, g3]), if_neg g4, hw, hd0, decide_eq_true (show what ≠ 41 from h6), Bool.true_and, Bool.true_and, if_pos h1]
 have e1 : (what == 114) = true := by simp [h1]
 have e2 : (dg == 0) = false := by simp [h2]
 have x0 : (c == 43) = false := by simp [g0]
 have x1 : (c == 45) = false := by simp [g1]
 have x2 : (c == 42) = false := by simp [g2]
 have x3 : (c == 47) = false := by simp [g3]
 have x4 : (c == 41) = false := by simp [g4]
 clear g0 g1 g2 g3 g4
 have x6 : (what != 41) = true := by simp [h6]
 clear h6
 subst hw
 clear h1 h2
 have hc := hB.cell
 have hf := hB.frozen
 have hl := hB.lt
 go_enter Try.func48, Try.ntmps48
 go_wp2_with fail
 refine (rdigit_any c _).mono ?_
 rintro e w1 ⟨rfl, rfl⟩
 rw [hd0]
 clear hd0
 go_wp2_with fail
 go_ret
 rw [HB.out]
 exact ⟨rfl, (Blk.set hB), (KeepsBut.setCell (KeepsBut.refl _ _) _ _)⟩

set_option maxHeartbeats 1600000 in
theorem next_more_b (want : Bool) (what dg op c : Int) (b : Nat) (w : World) (hB : Blk w b #[.bool want, .int .u8 what, .int .i64 dg, .int .i64 op] 93) (hd : 0 ≤ dg ∧ dg ≤ 1000) (ho : -1000 ≤ op ∧ op ≤ 1000) (h1 : ¬ what = 114) (hw : want = false) (g0 : ¬ c = 43) (g1 : ¬ c = 45) (g2 : ¬ c = 42) (g3 : ¬ c = 47) (g4 : ¬ c = 41) (hd0 : isDig c = true) (h6 : ¬ what = 41) :
  Calls Try.prog 48 #[.pointer (some ⟨b, 0, none⟩), .int .u8 c] w (RetN w b (scNext ⟨want, what, dg, op⟩ c)) := by
 obtain ⟨_, _⟩ := hd
 obtain ⟨_, _⟩ := ho
 have HB : Hid (scNext ⟨want, what, dg, op⟩ c = (⟨false, what, dg + 1, op⟩, decide (dg + 1 ≤ 18))) := by unfold Hid scNext; rw [if_neg (by simp [h1]), if_neg (by simp [hw]), if_neg (by simp [g0, g1, g2, g3]), if_neg g4, hw, hd0, decide_eq_true (show what ≠ 41 from h6), Bool.true_and, Bool.true_and, if_neg h1]
 have e1 : (what == 114) = false := by simp [h1]
 have x0 : (c == 43) = false := by simp [g0]
 have x1 : (c == 45) = false := by simp [g1]
 have x2 : (c == 42) = false := by simp [g2]
 have x3 : (c == 47) = false := by simp [g3]
 have x4 : (c == 41) = false := by simp [g4]
 clear g0 g1 g2 g3 g4
 have x6 : (what != 41) = true := by simp [h6]
 clear h6
 subst hw
 clear h1
 have hc := hB.cell
 have hf := hB.frozen
 have hl := hB.lt
 go_enter Try.func48, Try.ntmps48
 go_wp2_with fail
 refine (rdigit_any c _).mono ?_
 rintro e w1 ⟨rfl, rfl⟩
 rw [hd0]
 clear hd0
 go_wp2_with fail
 go_ret
 rw [HB.out]
 exact ⟨rfl, (Blk.set hB), (KeepsBut.setCell (KeepsBut.refl _ _) _ _)⟩

end Go.Proofs.Ytjahbjjekednfaa
