import Derived.Test.YtjahbjjekednfaaSoft
import Derived.Deep.RegionHeld3
namespace Go.Proofs.Ytjahbjjekednfaa
open Go.RowKit

/-- The program's place in a text. -/
structure Pl where
 k : Int
 r : Int
 d : Int

def isDig (c : Int) : Bool := decide (48 ≤ c) && decide (c ≤ 57)
def beginF (a : Pl) (c : Int) : Pl × Bool :=
 if c = 114 then (⟨1, 6, a.d⟩, true) else if c = 45 then (a, true) else if c = 40 then (⟨0, 18, a.d + 1⟩, decide (a.d < 8)) else (a, false)
def goOnP (a : Pl) (c : Int) : Pl × Bool :=
 if c = 43 ∨ c = 45 ∨ c = 42 ∨ c = 47 then (⟨0, 18, a.d⟩, true) else if c = 41 then (⟨2, 0, a.d - 1⟩, decide (0 < a.d)) else (a, false)
def plStep (a : Pl) (c : Int) : Pl × Bool :=
 if isDig c = true then (⟨2, a.r - 1, a.d⟩, decide (0 < a.r)) else if a.k = 0 then beginF a c else if a.k = 2 then goOnP a c else (a, false)

/-- v is the place a. -/
def plV (a : Pl) : Value := .agg #[.int .i64 a.k, .int .i64 a.r, .int .i64 a.d]
/-- A call that returns a place and a bool. -/
def RetP (w : World) (x : Pl × Bool) (e : Ending) (w' : World) : Prop := e = .returned (.tuple #[.agg #[.int .i64 x.1.k, .int .i64 x.1.r, .int .i64 x.1.d], .bool x.2]) ∧ Kp w w'
def PlOk (a : Pl) : Prop := -1000 ≤ a.r ∧ a.r ≤ 1000 ∧ -1000 ≤ a.d ∧ a.d ≤ 1000

set_option maxHeartbeats 400000 in
theorem isDigit_any (c : Int) (w : World) : Calls Try.prog 72 #[.int .u8 c] w fun e w' => e = .returned (.bool (isDig c)) ∧ w' = w := by
 by_cases h : 48 ≤ c
 ·have HD : Hid (isDig c = decide (c ≤ 57)) := by unfold Hid isDig; simp [h]
  go_enter Try.func72, Try.ntmps72
  go_wp2
  go_ret
  exact ⟨by rw [HD.out]; rfl, rfl⟩
 ·have HD : Hid (isDig c = false) := by unfold Hid isDig; simp [h]
  go_enter Try.func72, Try.ntmps72
  go_wp2
  go_ret
  exact ⟨by rw [HD.out]; rfl, rfl⟩

set_option maxHeartbeats 1600000 in
theorem beginFactor_any (a : Pl) (c : Int) (w : World) (ha : PlOk a) : Calls Try.prog 73 #[.agg #[.int .i64 a.k, .int .i64 a.r, .int .i64 a.d], .int .u8 c] w (RetP w (beginF a c)) := by
 obtain ⟨hr1, hr2, hd1, hd2⟩ := ha
 obtain ⟨k, r, d⟩ := a
 simp only at hr1 hr2 hd1 hd2
 by_cases h1 : c = 114
 ·have HB : Hid (beginF ⟨k, r, d⟩ c = (⟨1, 6, d⟩, true)) := by unfold Hid beginF; simp [h1]
  have e1 : (c == 114) = true := by simp [h1]
  clear h1
  go_enter Try.func73, Try.ntmps73
  go_wp2
  refine bodyPost_ret (v := .tuple #[.agg #[.int .i64 1, .int .i64 6, .int .i64 d], .bool true]) (by simp [results, Try.results73, go_sem]) rfl ?_
  rw [HB.out]
  exact ⟨rfl, (kp_alloc w _).alloc' _⟩
 ·have e1 : (c == 114) = false := by simp [h1]
  by_cases h2 : c = 45
  ·have HB : Hid (beginF ⟨k, r, d⟩ c = (⟨k, r, d⟩, true)) := by unfold Hid beginF; simp [h2]
   have e2 : (c == 45) = true := by simp [h2]
   clear h1 h2
   go_enter Try.func73, Try.ntmps73
   go_wp2
   refine bodyPost_ret (v := .tuple #[.agg #[.int .i64 k, .int .i64 r, .int .i64 d], .bool true]) (by simp [results, Try.results73, go_sem]) rfl ?_
   rw [HB.out]
   exact ⟨rfl, (kp_alloc w _).alloc' _⟩
  ·have e2 : (c == 45) = false := by simp [h2]
   by_cases h3 : c = 40
   ·have HB : Hid (beginF ⟨k, r, d⟩ c = (⟨0, 18, d + 1⟩, decide (d < 8))) := by unfold Hid beginF; simp [h3]
    have e3 : (c == 40) = true := by simp [h3]
    clear h1 h2 h3
    go_enter Try.func73, Try.ntmps73
    go_wp2
    go_region
    all_goals go_wp2
    all_goals
     refine bodyPost_ret (v := .tuple #[.agg #[.int .i64 0, .int .i64 18, .int .i64 (d + 1)], .bool (decide (d < 8))]) (by simp [results, Try.results73, go_sem]) rfl ?_
     rw [HB.out]
     exact ⟨rfl, ((kp_alloc w _).alloc' _).drew⟩
   ·have HB : Hid (beginF ⟨k, r, d⟩ c = (⟨k, r, d⟩, false)) := by unfold Hid beginF; simp [h1, h2, h3]
    have e3 : (c == 40) = false := by simp [h3]
    clear h1 h2 h3
    go_enter Try.func73, Try.ntmps73
    go_wp2
    refine bodyPost_ret (v := .tuple #[.agg #[.int .i64 k, .int .i64 r, .int .i64 d], .bool false]) (by simp [results, Try.results73, go_sem]) rfl ?_
    rw [HB.out]
    exact ⟨rfl, (kp_alloc w _).alloc' _⟩

end Go.Proofs.Ytjahbjjekednfaa

namespace Go.Proofs.Ytjahbjjekednfaa
open Go.RowKit

set_option maxHeartbeats 3200000 in
theorem goOn_any (a : Pl) (c : Int) (w : World) (ha : PlOk a) : Calls Try.prog 74 #[.agg #[.int .i64 a.k, .int .i64 a.r, .int .i64 a.d], .int .u8 c] w (RetP w (goOnP a c)) := by
 obtain ⟨hr1, hr2, hd1, hd2⟩ := ha
 obtain ⟨k, r, d⟩ := a
 simp only at hr1 hr2 hd1 hd2
 by_cases h0 : c = 43
 ·have HB : Hid (goOnP ⟨k, r, d⟩ c = (⟨0, 18, d⟩, true)) := by unfold Hid goOnP; simp [h0]
  have e0 : (c == 43) = true := by simp [h0]
  clear h0
  go_enter Try.func74, Try.ntmps74
  go_wp2
  refine bodyPost_ret (v := .tuple #[.agg #[.int .i64 0, .int .i64 18, .int .i64 d], .bool true]) (by simp [results, Try.results74, go_sem]) rfl ?_
  rw [HB.out]
  exact ⟨rfl, (kp_alloc w _).alloc' _⟩
 ·have e0 : (c == 43) = false := by simp [h0]
  by_cases h1 : c = 45
  ·have HB : Hid (goOnP ⟨k, r, d⟩ c = (⟨0, 18, d⟩, true)) := by unfold Hid goOnP; simp [h1]
   have e1 : (c == 45) = true := by simp [h1]
   clear h0 h1
   go_enter Try.func74, Try.ntmps74
   go_wp2
   refine bodyPost_ret (v := .tuple #[.agg #[.int .i64 0, .int .i64 18, .int .i64 d], .bool true]) (by simp [results, Try.results74, go_sem]) rfl ?_
   rw [HB.out]
   exact ⟨rfl, (kp_alloc w _).alloc' _⟩
  ·have e1 : (c == 45) = false := by simp [h1]
   by_cases h2 : c = 42
   ·have HB : Hid (goOnP ⟨k, r, d⟩ c = (⟨0, 18, d⟩, true)) := by unfold Hid goOnP; simp [h2]
    have e2 : (c == 42) = true := by simp [h2]
    clear h0 h1 h2
    go_enter Try.func74, Try.ntmps74
    go_wp2
    refine bodyPost_ret (v := .tuple #[.agg #[.int .i64 0, .int .i64 18, .int .i64 d], .bool true]) (by simp [results, Try.results74, go_sem]) rfl ?_
    rw [HB.out]
    exact ⟨rfl, (kp_alloc w _).alloc' _⟩
   ·have e2 : (c == 42) = false := by simp [h2]
    by_cases h3 : c = 47
    ·have HB : Hid (goOnP ⟨k, r, d⟩ c = (⟨0, 18, d⟩, true)) := by unfold Hid goOnP; simp [h3]
     have e3 : (c == 47) = true := by simp [h3]
     clear h0 h1 h2 h3
     go_enter Try.func74, Try.ntmps74
     go_wp2
     refine bodyPost_ret (v := .tuple #[.agg #[.int .i64 0, .int .i64 18, .int .i64 d], .bool true]) (by simp [results, Try.results74, go_sem]) rfl ?_
     rw [HB.out]
     exact ⟨rfl, (kp_alloc w _).alloc' _⟩
    ·have e3 : (c == 47) = false := by simp [h3]
     by_cases h4 : c = 41
     ·have HB : Hid (goOnP ⟨k, r, d⟩ c = (⟨2, 0, d - 1⟩, decide (0 < d))) := by unfold Hid goOnP; simp [h4]
      have e4 : (c == 41) = true := by simp [h4]
      clear h0 h1 h2 h3 h4
      go_enter Try.func74, Try.ntmps74
      go_wp2
      go_region
      all_goals go_wp2
      all_goals
       refine bodyPost_ret (v := .tuple #[.agg #[.int .i64 2, .int .i64 0, .int .i64 (d - 1)], .bool (decide (0 < d))]) (by simp [results, Try.results74, go_sem]) rfl ?_
       rw [HB.out]
       exact ⟨rfl, ((kp_alloc w _).alloc' _).drew⟩
     ·have HB : Hid (goOnP ⟨k, r, d⟩ c = (⟨k, r, d⟩, false)) := by unfold Hid goOnP; simp [h0, h1, h2, h3, h4]
      have e4 : (c == 41) = false := by simp [h4]
      clear h0 h1 h2 h3 h4
      go_enter Try.func74, Try.ntmps74
      go_wp2
      refine bodyPost_ret (v := .tuple #[.agg #[.int .i64 k, .int .i64 r, .int .i64 d], .bool false]) (by simp [results, Try.results74, go_sem]) rfl ?_
      rw [HB.out]
      exact ⟨rfl, (kp_alloc w _).alloc' _⟩

set_option maxHeartbeats 3200000 in
theorem step_any (a : Pl) (c : Int) (w : World) (ha : PlOk a) : Calls Try.prog 44 #[.agg #[.int .i64 a.k, .int .i64 a.r, .int .i64 a.d], .int .u8 c] w (RetP w (plStep a c)) := by
 have ha' := ha
 obtain ⟨hr1, hr2, hd1, hd2⟩ := ha
 obtain ⟨k, r, d⟩ := a
 simp only at hr1 hr2 hd1 hd2
 by_cases h1 : isDig c = true
 ·have HB : Hid (plStep ⟨k, r, d⟩ c = (⟨2, r - 1, d⟩, decide (0 < r))) := by unfold Hid plStep; rw [if_pos h1]
  clear ha'
  go_enter Try.func44, Try.ntmps44
  go_wp2_with fail
  refine (isDigit_any c _).mono ?_
  rintro e w1 ⟨rfl, rfl⟩
  rw [h1]
  clear h1
  go_wp2_with fail
  go_region
  all_goals go_wp2_with fail
  all_goals
   refine bodyPost_ret (v := .tuple #[.agg #[.int .i64 2, .int .i64 (r - 1), .int .i64 d], .bool (decide (0 < r))]) (by simp [results, Try.results44, go_sem]) rfl ?_
   rw [HB.out]
   exact ⟨rfl, ((kp_alloc w _).alloc' _).drew⟩
 ·rw [Bool.not_eq_true] at h1
  by_cases h2 : k = 0
  ·have HB : Hid (plStep ⟨k, r, d⟩ c = beginF ⟨k, r, d⟩ c) := by unfold Hid plStep; rw [if_neg (by simp [h1]), if_pos h2]
   have e2 : (k == 0) = true := by simp [h2]
   clear h2
   go_enter Try.func44, Try.ntmps44
   go_wp2_with fail
   refine (isDigit_any c _).mono ?_
   rintro e w1 ⟨rfl, hw⟩
   have kp0 : Kp w w1 := by rw [hw]; exact (kp_alloc w _).alloc' _
   have B1 : Blk w1 (w.heap.size + 1) #[.int .i64 0, .int .i64 0, .int .i64 0] 85 := by rw [hw]; exact Blk.at (Blk.new _ _ _) (by simp)
   have B0 : Blk w1 w.heap.size #[.int .i64 k, .int .i64 r, .int .i64 d] 85 := by rw [hw]; exact Blk.alloc (Blk.new _ _ _) _
   rw [h1]
   have c0 := B0.cell
   clear h1 hw
   go_wp2_with fail
   refine (beginFactor_any ⟨k, r, d⟩ c _ ha').mono ?_
   rintro e w2 ⟨rfl, hk2⟩
   generalize hQ : beginF ⟨k, r, d⟩ c = Q at *
   have B1' := B1.keep hk2
   have c1 := B1'.cell
   have f1 := B1'.frozen
   have l1 := B1'.lt
   go_wp2_with fail
   refine bodyPost_ret (v := .tuple #[.agg #[.int .i64 Q.1.k, .int .i64 Q.1.r, .int .i64 Q.1.d], .bool Q.2]) (by simp [results, Try.results44, go_sem, c1]) rfl ?_
   rw [HB.out]
   exact ⟨rfl, Below.setCell (Below.setCell (Below.setCell (kp0.trans' hk2) (Nat.le_succ _) _) (Nat.le_succ _) _) (Nat.le_succ _) _⟩
  ·have e2 : (k == 0) = false := by simp [h2]
   by_cases h3 : k = 2
   ·have HB : Hid (plStep ⟨k, r, d⟩ c = goOnP ⟨k, r, d⟩ c) := by unfold Hid plStep; rw [if_neg (by simp [h1]), if_neg h2, if_pos h3]
    have e3 : (k == 2) = true := by simp [h3]
    clear h2 h3
    go_enter Try.func44, Try.ntmps44
    go_wp2_with fail
    refine (isDigit_any c _).mono ?_
    rintro e w1 ⟨rfl, hw⟩
    have kp0 : Kp w w1 := by rw [hw]; exact (kp_alloc w _).alloc' _
    have B1 : Blk w1 (w.heap.size + 1) #[.int .i64 0, .int .i64 0, .int .i64 0] 85 := by rw [hw]; exact Blk.at (Blk.new _ _ _) (by simp)
    have B0 : Blk w1 w.heap.size #[.int .i64 k, .int .i64 r, .int .i64 d] 85 := by rw [hw]; exact Blk.alloc (Blk.new _ _ _) _
    rw [h1]
    have c0 := B0.cell
    clear h1 hw
    go_wp2_with fail
    refine (goOn_any ⟨k, r, d⟩ c _ ha').mono ?_
    rintro e w2 ⟨rfl, hk2⟩
    generalize hQ : goOnP ⟨k, r, d⟩ c = Q at *
    have B1' := B1.keep hk2
    have c1 := B1'.cell
    have f1 := B1'.frozen
    have l1 := B1'.lt
    go_wp2_with fail
    refine bodyPost_ret (v := .tuple #[.agg #[.int .i64 Q.1.k, .int .i64 Q.1.r, .int .i64 Q.1.d], .bool Q.2]) (by simp [results, Try.results44, go_sem, c1]) rfl ?_
    rw [HB.out]
    exact ⟨rfl, Below.setCell (Below.setCell (Below.setCell (kp0.trans' hk2) (Nat.le_succ _) _) (Nat.le_succ _) _) (Nat.le_succ _) _⟩
   ·have HB : Hid (plStep ⟨k, r, d⟩ c = (⟨k, r, d⟩, false)) := by unfold Hid plStep; rw [if_neg (by simp [h1]), if_neg h2, if_neg h3]
    have e3 : (k == 2) = false := by simp [h3]
    clear h2 h3 ha'
    go_enter Try.func44, Try.ntmps44
    go_wp2_with fail
    refine (isDigit_any c _).mono ?_
    rintro e w1 ⟨rfl, rfl⟩
    rw [h1]
    clear h1
    go_wp2_with fail
    refine bodyPost_ret (v := .tuple #[.agg #[.int .i64 k, .int .i64 r, .int .i64 d], .bool false]) (by simp [results, Try.results44, go_sem]) rfl ?_
    rw [HB.out]
    exact ⟨rfl, (kp_alloc w _).alloc' _⟩

end Go.Proofs.Ytjahbjjekednfaa

namespace Go.Proofs.Ytjahbjjekednfaa
open Go.RowKit

/-- The i-th byte of a text, 0 behind its end. -/
def byteAt (s : ByteArray) (i : Nat) : Int := ((s.data.toList.getD i 0).toNat : Int)
theorem byteAt_eq (s : ByteArray) (i : Nat) (h : i < s.size) : ((s[i]'h).toNat : Int) = byteAt s i := by
 unfold byteAt
 have h' : i < s.data.toList.length := by simpa using h
 rw [List.getD_eq_getElem?_getD, List.getElem?_eq_getElem h']
 rfl
theorem byteAt_bd (s : ByteArray) (i : Nat) : 0 ≤ byteAt s i ∧ byteAt s i ≤ 255 := by
 unfold byteAt
 have := (s.data.toList.getD i 0).toNat_lt
 omega

/-- Where the program stands before byte i. -/
def plAt (s : ByteArray) : Nat → Pl
 | 0 => ⟨0, 18, 0⟩
 | i + 1 => (plStep (plAt s i) (byteAt s i)).1
/-- May byte i stand there? -/
def plGo (s : ByteArray) (i : Nat) : Bool := (plStep (plAt s i) (byteAt s i)).2
/-- The first fault, from i on, with so many bytes left. -/
def plFault (s : ByteArray) (i : Nat) : Nat → Int
 | 0 => if (plAt s i).k ≠ 2 ∨ 0 < (plAt s i).d then i else -1
 | m + 1 => if plGo s i = true then plFault s (i + 1) m else i

def PlGood (a : Pl) : Prop := 0 ≤ a.r ∧ a.r ≤ 18 ∧ 0 ≤ a.d ∧ a.d ≤ 8
theorem PlGood.ok {a : Pl} (h : PlGood a) : PlOk a := by
 obtain ⟨h1, h2, h3, h4⟩ := h
 exact ⟨by omega, by omega, by omega, by omega⟩
theorem plStep_good {a : Pl} {c : Int} (h : PlGood a) (hg : (plStep a c).2 = true) : PlGood (plStep a c).1 := by
 obtain ⟨h1, h2, h3, h4⟩ := h
 unfold plStep at *
 split at hg
 ·rename_i hd
  rw [if_pos hd]
  simp only [decide_eq_true_eq] at hg
  exact ⟨by simp only; omega, by simp only; omega, h3, h4⟩
 ·rename_i hd
  rw [if_neg hd]
  split at hg
  ·rename_i hk
   rw [if_pos hk]
   unfold beginF at *
   split at hg
   ·rename_i e; rw [if_pos e]; exact ⟨by simp, by simp, h3, h4⟩
   ·rename_i e; rw [if_neg e]
    split at hg
    ·rename_i e; rw [if_pos e]; exact ⟨h1, h2, h3, h4⟩
    ·rename_i e; rw [if_neg e]
     split at hg
     ·rename_i e; rw [if_pos e]
      simp only [decide_eq_true_eq] at hg
      exact ⟨by simp, by simp, by simp only; omega, by simp only; omega⟩
     ·exact absurd hg (by simp)
  ·rename_i hk
   rw [if_neg hk]
   split at hg
   ·rename_i hk2
    rw [if_pos hk2]
    unfold goOnP at *
    split at hg
    ·rename_i e; rw [if_pos e]; exact ⟨by simp, by simp, h3, h4⟩
    ·rename_i e; rw [if_neg e]
     split at hg
     ·rename_i e; rw [if_pos e]
      simp only [decide_eq_true_eq] at hg
      exact ⟨by simp, by simp, by simp only; omega, by simp only; omega⟩
     ·exact absurd hg (by simp)
   ·exact absurd hg (by simp)

set_option maxHeartbeats 800000 in
set_option maxRecDepth 100000 in
theorem faultOf_any (s : ByteArray) (w : World) (hs : s.size ≤ 1000) : Calls Try.prog 21 #[.string s] w (RetV w (.int .i64 (plFault s 0 s.size))) := by
 go_enter Try.func21, Try.ntmps21
 go_wp2_with fail
 go_loopw [4, 5, 6] (fun i _ _ wr => ∃ j : Nat, j ≤ s.size ∧ i = .int .i64 j ∧ Blk wr w.heap.size #[.int .i64 (plAt s j).k, .int .i64 (plAt s j).r, .int .i64 (plAt s j).d] 85 ∧ Kp w wr ∧ Hid (PlGood (plAt s j) ∧ plFault s 0 s.size = plFault s j (s.size - j)))
  (fun i _ _ _ => s.size - (intOf i).toNat)
 case atStart => exact ⟨0, by omega, rfl, Blk.new _ _ _, kp_alloc _ _, ⟨by simp [plAt], by simp [plAt], by simp [plAt], by simp [plAt]⟩, rfl⟩
 case round =>
  obtain ⟨j, hj, rfl, hB, hkr, hgood⟩ := hrel
  obtain ⟨hBc, hBf, hBl⟩ := hB.all
  have HG := Hid.mk hgood.out.1.ok
  by_cases h1 : j < s.size
  ·have hb := byteAt_eq s j h1
   have hj0 : (0 : Int) ≤ (j : Int) := by omega
   have hj1 : (j : Int) < (s.size : Int) := by omega
   have HF : Hid (plFault s j (s.size - j) = if plGo s j = true then plFault s (j + 1) (s.size - (j + 1)) else (j : Int)) := by
    unfold Hid
    rw [show s.size - j = (s.size - (j + 1)) + 1 by omega]; rfl
   by_cases hg : plGo s j = true
   ·have hq : (plStep (plAt s j) (byteAt s j)).2 = true := hg
    have HGN : Hid (PlGood (plAt s (j + 1)) ∧ plFault s 0 s.size = plFault s (j + 1) (s.size - (j + 1))) := ⟨plStep_good hgood.out.1 hg, by rw [hgood.out.2, HF.out, if_pos hg]⟩
    clear hg hgood HF
    go_wp2_with fail
    go_region_held3 (fun w' => w'.cell? ⟨w.heap.size, 0, none⟩ = some (.int .i64 (plAt s j).k) ∧ w'.cell? ⟨w.heap.size, 1, none⟩ = some (.int .i64 (plAt s j).r) ∧ w'.cell? ⟨w.heap.size, 2, none⟩ = some (.int .i64 (plAt s j).d))
     (first | (go_keep; done) | (simp [hB1c]; done) | (exact ⟨Blk.cell (Blk.other (Blk.other (Blk.other hB1 (by omega)) (by omega)) (by omega)) 0, Blk.cell (Blk.other (Blk.other (Blk.other hB1 (by omega)) (by omega)) (by omega)) 1, Blk.cell (Blk.other (Blk.other (Blk.other hB1 (by omega)) (by omega)) (by omega)) 2⟩))
     ((first
      | (go_at_call 44; refine (step_any (plAt s j) (byteAt s j) wr.drew HG.out).mono ?_; rintro e w1 ⟨rfl, hk1⟩; have hB1 := Blk.keep hk1 (Blk.drew hB); have hB1c := hB1.cell; have hB1f := hB1.frozen; have hB1l := hB1.lt; have hkw := (Kp.drew' hkr).trans' hk1)
      | (go_at_call 44; refine (step_any (plAt s j) (byteAt s j) _ HG.out).mono ?_; rintro e w1 ⟨rfl, hk1⟩; have hB1 := Blk.keep hk1 (Blk.drew (Blk.alloc hB _)); have hB1c := hB1.cell; have hB1f := hB1.frozen; have hB1l := hB1.lt; have BN := Blk.keep hk1 (Blk.drew (Blk.new wr _ _)); have BNc := BN.cell; have BNf := BN.frozen; have BNl := BN.lt; have hkw := (Kp.drew' (Kp.alloc' hkr _)).trans' hk1)))
    all_goals go_wp2_with fail
    ·go_roundw
     case rel => exact ⟨j + 1, by omega, by go_num, Blk.alloc (Blk.set (Blk.set (Blk.set hB1))) _, Kp.alloc' (Below.setCell (Below.setCell (Below.setCell hkw (Nat.le_refl _) _) (Nat.le_refl _) _) (Nat.le_refl _) _) _, HGN⟩
     case measure => simp [intOf]; omega
    ·go_roundw
     case rel => exact ⟨j + 1, by omega, by go_num, Blk.set (Blk.set (Blk.set (Blk.other (Blk.other (Blk.other hB1 (by omega)) (by omega)) (by omega)))), Below.setCell (Below.setCell (Below.setCell (Below.setCell (Below.setCell (Below.setCell hkw hkr.size _) hkr.size _) hkr.size _) (Nat.le_refl _) _) (Nat.le_refl _) _) (Nat.le_refl _) _, HGN⟩
     case measure => simp [intOf]; omega
    ·go_roundw
     case rel => exact ⟨j + 1, by omega, by go_num, Blk.set (Blk.set (Blk.set (Blk.other (Blk.other (Blk.other hB1 (by omega)) (by omega)) (by omega)))), Below.setCell (Below.setCell (Below.setCell (Below.setCell (Below.setCell (Below.setCell hkw hkr.size _) hkr.size _) hkr.size _) (Nat.le_refl _) _) (Nat.le_refl _) _) (Nat.le_refl _) _, HGN⟩
     case measure => simp [intOf]; omega
   ·have hg' : plGo s j = false := by simpa using hg
    have hq : (plStep (plAt s j) (byteAt s j)).2 = false := hg'
    have HR : Hid (plFault s 0 s.size = (j : Int)) := by unfold Hid; rw [hgood.out.2, HF.out, if_neg hg]
    clear hg hg' hgood HF
    go_wp2_with fail
    go_region_held3 (fun w' => w'.cell? ⟨w.heap.size, 0, none⟩ = some (.int .i64 (plAt s j).k) ∧ w'.cell? ⟨w.heap.size, 1, none⟩ = some (.int .i64 (plAt s j).r) ∧ w'.cell? ⟨w.heap.size, 2, none⟩ = some (.int .i64 (plAt s j).d))
     (first | (go_keep; done) | (simp [hB1c]; done) | (exact ⟨Blk.cell (Blk.other (Blk.other (Blk.other hB1 (by omega)) (by omega)) (by omega)) 0, Blk.cell (Blk.other (Blk.other (Blk.other hB1 (by omega)) (by omega)) (by omega)) 1, Blk.cell (Blk.other (Blk.other (Blk.other hB1 (by omega)) (by omega)) (by omega)) 2⟩))
     ((first
      | (go_at_call 44; refine (step_any (plAt s j) (byteAt s j) wr.drew HG.out).mono ?_; rintro e w1 ⟨rfl, hk1⟩; have hB1 := Blk.keep hk1 (Blk.drew hB); have hB1c := hB1.cell; have hB1f := hB1.frozen; have hB1l := hB1.lt; have hkw := (Kp.drew' hkr).trans' hk1)
      | (go_at_call 44; refine (step_any (plAt s j) (byteAt s j) _ HG.out).mono ?_; rintro e w1 ⟨rfl, hk1⟩; have hB1 := Blk.keep hk1 (Blk.drew (Blk.alloc hB _)); have hB1c := hB1.cell; have hB1f := hB1.frozen; have hB1l := hB1.lt; have BN := Blk.keep hk1 (Blk.drew (Blk.new wr _ _)); have BNc := BN.cell; have BNf := BN.frozen; have BNl := BN.lt; have hkw := (Kp.drew' (Kp.alloc' hkr _)).trans' hk1)))
    all_goals go_wp2_with fail
    ·go_ret
     exact ⟨by rw [HR.out]; rfl, Kp.alloc' hkw _⟩
    ·go_ret
     exact ⟨by rw [HR.out]; rfl, Below.setCell (Below.setCell (Below.setCell hkw hkr.size _) hkr.size _) hkr.size _⟩
    ·go_ret
     exact ⟨by rw [HR.out]; rfl, Below.setCell (Below.setCell (Below.setCell hkw hkr.size _) hkr.size _) hkr.size _⟩
  ·have hje : j = s.size := by omega
   subst hje
   have HR : Hid (plFault s 0 s.size = if (plAt s s.size).k ≠ 2 ∨ 0 < (plAt s s.size).d then (s.size : Int) else -1) := by
    unfold Hid
    rw [hgood.out.2, Nat.sub_self]; rfl
   clear hgood HG
   generalize plAt s s.size = a at *
   by_cases h2 : a.k = 2
   ·have e2 : (a.k != 2) = false := by simp [h2]
    by_cases h3 : 0 < a.d
    ·have HR2 := HR.out
     rw [if_pos (Or.inr h3)] at HR2
     have HR3 := Hid.mk HR2
     clear HR HR2 h2
     go_wp2_with fail
     go_ret
     exact ⟨by rw [HR3.out]; rfl, hkr⟩
    ·have HR2 := HR.out
     rw [if_neg (by simp [h2]; omega)] at HR2
     have HR3 := Hid.mk HR2
     clear HR HR2 h2
     go_wp2_with fail
     go_ret
     exact ⟨by rw [HR3.out]; rfl, hkr⟩
   ·have e2 : (a.k != 2) = true := by simp [h2]
    have HR2 := HR.out
    rw [if_pos (Or.inl h2)] at HR2
    have HR3 := Hid.mk HR2
    clear HR HR2 h2
    go_wp2_with fail
    go_ret
    exact ⟨by rw [HR3.out]; rfl, hkr⟩

end Go.Proofs.Ytjahbjjekednfaa
