import Derived.Test.YtjahbjjekednfaaP4
namespace Go.Proofs.Ytjahbjjekednfaa
open Go.RowKit

theorem scnext_any (x : Sc) (c : Int) (b : Nat) (w : World) (hB : Blk w b #[.bool x.want, .int .u8 x.what, .int .i64 x.dg, .int .i64 x.op] 93) (hd : 0 ≤ x.dg ∧ x.dg ≤ 1000) (ho : -1000 ≤ x.op ∧ x.op ≤ 1000) :
    Calls Try.prog 48 #[.pointer (some ⟨b, 0, none⟩), .int .u8 c] w (RetN w b (scNext x c)) := by
  obtain ⟨want, what, dg, op⟩ := x
  simp only at hB hd ho
  by_cases h1 : what = 114
  · by_cases h2 : dg = 0
    · exact next_root want what dg op c b w hB hd ho h1 h2
    · cases hw : want
      · subst hw
        by_cases g0 : c = 43
        · exact next_sign0_a false what dg op c b w hB hd ho h1 h2 rfl g0
        by_cases g1 : c = 45
        · exact next_sign1_a false what dg op c b w hB hd ho h1 h2 rfl g0 g1
        by_cases g2 : c = 42
        · exact next_sign2_a false what dg op c b w hB hd ho h1 h2 rfl g0 g1 g2
        by_cases g3 : c = 47
        · exact next_sign3_a false what dg op c b w hB hd ho h1 h2 rfl g0 g1 g2 g3
        by_cases g4 : c = 41
        · exact next_close_a false what dg op c b w hB hd ho h1 h2 rfl g0 g1 g2 g3 g4
        cases hdd : isDig c
        · exact next_bad_a false what dg op c b w hB hd ho h1 h2 rfl g0 g1 g2 g3 g4 hdd
        · exact next_more_a false what dg op c b w hB hd ho h1 h2 rfl g0 g1 g2 g3 g4 hdd (by omega)
      · subst hw
        cases hdd : isDig c
        · by_cases h3 : c = 114
          · exact next_r_a true what dg op c b w hB hd ho h1 h2 rfl hdd h3
          by_cases h4 : c = 40
          · by_cases h5 : op < 8
            · exact next_open_a true what dg op c b w hB hd ho h1 h2 rfl hdd h3 h4 h5
            · exact next_deep_a true what dg op c b w hB hd ho h1 h2 rfl hdd h3 h4 h5
          · exact next_other_a true what dg op c b w hB hd ho h1 h2 rfl hdd h3 h4
        · exact next_digit_a true what dg op c b w hB hd ho h1 h2 rfl hdd
  · cases hw : want
    · subst hw
      by_cases g0 : c = 43
      · exact next_sign0_b false what dg op c b w hB hd ho h1 rfl g0
      by_cases g1 : c = 45
      · exact next_sign1_b false what dg op c b w hB hd ho h1 rfl g0 g1
      by_cases g2 : c = 42
      · exact next_sign2_b false what dg op c b w hB hd ho h1 rfl g0 g1 g2
      by_cases g3 : c = 47
      · exact next_sign3_b false what dg op c b w hB hd ho h1 rfl g0 g1 g2 g3
      by_cases g4 : c = 41
      · exact next_close_b false what dg op c b w hB hd ho h1 rfl g0 g1 g2 g3 g4
      cases hdd : isDig c
      · exact next_bad_b false what dg op c b w hB hd ho h1 rfl g0 g1 g2 g3 g4 hdd
      · by_cases h6 : what = 41
        · exact next_shut_b false what dg op c b w hB hd ho h1 rfl g0 g1 g2 g3 g4 hdd h6
        · exact next_more_b false what dg op c b w hB hd ho h1 rfl g0 g1 g2 g3 g4 hdd h6
    · subst hw
      cases hdd : isDig c
      · by_cases h3 : c = 114
        · exact next_r_b true what dg op c b w hB hd ho h1 rfl hdd h3
        by_cases h4 : c = 40
        · by_cases h5 : op < 8
          · exact next_open_b true what dg op c b w hB hd ho h1 rfl hdd h3 h4 h5
          · exact next_deep_b true what dg op c b w hB hd ho h1 rfl hdd h3 h4 h5
        · exact next_other_b true what dg op c b w hB hd ho h1 rfl hdd h3 h4
      · exact next_digit_b true what dg op c b w hB hd ho h1 rfl hdd

/-- The two readers stand at the same place. -/
def Same (a : Pl) (x : Sc) : Prop := x.op = a.d ∧
  ((a.k = 0 ∧ x.want = true ∧ x.what = 0 ∧ a.r = 18) ∨ (a.k = 1 ∧ x.want = false ∧ x.what = 114 ∧ x.dg = 0 ∧ a.r = 6) ∨
   (a.k = 2 ∧ x.want = false ∧ ((x.what = 110 ∧ a.r = 18 - x.dg ∧ 1 ≤ x.dg) ∨ (x.what = 114 ∧ a.r = 6 - x.dg ∧ 1 ≤ x.dg) ∨ (x.what = 41 ∧ a.r = 0))))

theorem dig_not {c : Int} (h : isDig c = true) : ¬ (c = 43 ∨ c = 45 ∨ c = 42 ∨ c = 47) ∧ ¬ c = 41 := by
  unfold isDig at h
  simp at h
  omega

theorem same_step {a : Pl} {x : Sc} (c : Int) (h : Same a x) : (plStep a c).2 = (scNext x c).2 ∧ ((plStep a c).2 = true → Same (plStep a c).1 (scNext x c).1) := by
  obtain ⟨k, r, d⟩ := a
  obtain ⟨want, what, dg, op⟩ := x
  obtain ⟨h0, h⟩ := h
  simp only at h0 h
  subst h0
  rcases h with ⟨rfl, rfl, rfl, rfl⟩ | ⟨rfl, rfl, rfl, rfl, rfl⟩ | ⟨rfl, rfl, h⟩
  · -- a factor is wanted
    cases hd : isDig c
    · by_cases h3 : c = 114
      · subst h3; simp [plStep, scNext, beginF, hd, Same]
      by_cases h4 : c = 45
      · subst h4; simp [plStep, scNext, beginF, hd, Same]
      by_cases h5 : c = 40
      · subst h5
        by_cases h6 : op < 8
        · simp [plStep, scNext, beginF, hd, Same, h6]
        · simp [plStep, scNext, beginF, hd, Same, h6]
      · simp [plStep, scNext, beginF, hd, Same, h3, h4, h5]
    · simp [plStep, scNext, hd, Same]
  · -- behind r
    cases hd : isDig c
    · simp [plStep, scNext, hd, Same]
    · simp [plStep, scNext, hd, Same]
  · -- behind a factor
    cases hd : isDig c
    · by_cases h3 : c = 43 ∨ c = 45 ∨ c = 42 ∨ c = 47
      · rcases h with ⟨rfl, rfl, h7⟩ | ⟨rfl, rfl, h7⟩ | ⟨rfl, rfl⟩
        · simp [plStep, scNext, goOnP, hd, Same, h3]
        · simp [plStep, scNext, goOnP, hd, Same, h3, show ¬ dg = 0 by omega]
        · simp [plStep, scNext, goOnP, hd, Same, h3]
      · by_cases h4 : c = 41
        · subst h4
          rcases h with ⟨rfl, rfl, h7⟩ | ⟨rfl, rfl, h7⟩ | ⟨rfl, rfl⟩
          · simp [plStep, scNext, goOnP, hd, Same]; omega
          · simp [plStep, scNext, goOnP, hd, Same, show ¬ dg = 0 by omega]; omega
          · simp [plStep, scNext, goOnP, hd, Same]; omega
        · rcases h with ⟨rfl, rfl, h7⟩ | ⟨rfl, rfl, h7⟩ | ⟨rfl, rfl⟩
          · simp [plStep, scNext, goOnP, hd, Same, h3, h4]
          · simp [plStep, scNext, goOnP, hd, Same, h3, h4, show ¬ dg = 0 by omega]
          · simp [plStep, scNext, goOnP, hd, Same, h3, h4]
    · obtain ⟨h3, h4⟩ := dig_not hd
      rcases h with ⟨rfl, rfl, h7⟩ | ⟨rfl, rfl, h7⟩ | ⟨rfl, rfl⟩
      · simp [plStep, scNext, hd, Same, h3, h4]; omega
      · simp [plStep, scNext, hd, Same, h3, h4, show ¬ dg = 0 by omega]; omega
      · simp [plStep, scNext, hd, Same, h3, h4]

end Go.Proofs.Ytjahbjjekednfaa

namespace Go.Proofs.Ytjahbjjekednfaa
open Go.RowKit

theorem scNext_dg {x : Sc} {c : Int} (h : 0 ≤ x.dg ∧ x.dg ≤ 18) (hg : (scNext x c).2 = true) : 0 ≤ (scNext x c).1.dg ∧ (scNext x c).1.dg ≤ 18 := by
 obtain ⟨want, what, dg, op⟩ := x
 simp only at h
 unfold scNext at *
 simp only at *
 split at hg
 ·rename_i e; rw [if_pos e]; simp
 ·rename_i e; rw [if_neg e]
  split at hg
  ·rename_i e; rw [if_pos e]
   split at hg
   ·rename_i e; rw [if_pos e]; simp
   ·rename_i e; rw [if_neg e]
    split at hg
    ·rename_i e; rw [if_pos e]; simp
    ·rename_i e; rw [if_neg e]
     split at hg
     ·rename_i e; rw [if_pos e]; exact h
     ·rename_i e; rw [if_neg e]; exact h
  ·rename_i e; rw [if_neg e]
   split at hg
   ·rename_i e; rw [if_pos e]; exact h
   ·rename_i e; rw [if_neg e]
    split at hg
    ·rename_i e; rw [if_pos e]; exact h
    ·rename_i e; rw [if_neg e]
     simp only [Bool.and_eq_true, decide_eq_true_eq] at hg
     have h3 := hg.2.2
     split at h3 <;> (simp only; omega)

/-- What the reference's scan holds before byte j. -/
def ScAt (s : ByteArray) (j : Nat) (x : Sc) : Prop := Same (plAt s j) x ∧ (0 ≤ x.dg ∧ x.dg ≤ 18) ∧ PlGood (plAt s j) ∧ plFault s 0 s.size = plFault s j (s.size - j)

theorem same_end {a : Pl} {x : Sc} (h : Same a x) : (a.k ≠ 2 ∨ 0 < a.d) ↔ (x.want = true ∨ 0 < x.op ∨ (x.what = 114 ∧ x.dg = 0)) := by
 obtain ⟨h0, h⟩ := h
 rcases h with ⟨h1, h2, _⟩ | ⟨h1, h2, h3, h4, _⟩ | ⟨h1, h2, h⟩
 ·simp [h1, h2]
 ·simp [h1, h3, h4]
 ·rw [h0, h1, h2]
  simp only [ne_eq, not_true_eq_false, false_or, Bool.false_eq_true]
  constructor
  ·intro h5; exact Or.inl h5
  ·rintro (h5 | ⟨h5, h6⟩)
   ·exact h5
   ·rcases h with ⟨h7, _⟩ | ⟨_, _, h7⟩ | ⟨h7, _⟩ <;> omega

set_option maxHeartbeats 1600000 in
set_option maxRecDepth 100000 in
theorem form_any (s : ByteArray) (w : World) (hs : s.size ≤ 1000) : Calls Try.prog 23 #[.string s] w (RetV w (.int .i64 (plFault s 0 s.size))) := by
 go_enter Try.func23, Try.ntmps23
 go_wp2_with fail
 go_loopw [4, 5] (fun i _ wr => ∃ (j : Nat) (want : Bool) (what dg op : Int), j ≤ s.size ∧ i = .int .i64 j ∧ Blk wr w.heap.size #[.bool want, .int .u8 what, .int .i64 dg, .int .i64 op] 93 ∧ Kp w wr ∧ Hid (ScAt s j ⟨want, what, dg, op⟩))
  (fun i _ _ => s.size - (intOf i).toNat)
 case atStart => exact ⟨0, true, 0, 0, 0, by omega, rfl, Blk.new _ _ _, kp_alloc _ _, ⟨rfl, Or.inl ⟨rfl, rfl, rfl, rfl⟩⟩, ⟨by simp, by simp⟩, ⟨by simp [plAt], by simp [plAt], by simp [plAt], by simp [plAt]⟩, rfl⟩
 case round =>
  obtain ⟨j, want, what, dg, op, hj, rfl, hB, hkr, hsc⟩ := hrel
  have hBc := hB.cell
  have hBl := hB.lt
  obtain ⟨hsame, hdg, hgood, hfl⟩ := hsc.out
  have hop : -1000 ≤ op ∧ op ≤ 1000 := by
   have h1 := hsame.1
   simp only at h1
   obtain ⟨_, _, h3, h4⟩ := hgood
   omega
  by_cases h1 : j < s.size
  ·have hb := byteAt_eq s j h1
   have hj1 : (j : Int) < (s.size : Int) := by omega
   have hst := same_step (byteAt s j) hsame
   have hfs : plFault s j (s.size - j) = if plGo s j = true then plFault s (j + 1) (s.size - (j + 1)) else (j : Int) := by
    rw [show s.size - j = (s.size - (j + 1)) + 1 by omega]; rfl
   have HN := Hid.mk (fun b w' hB' => scnext_any ⟨want, what, dg, op⟩ (byteAt s j) b w' hB' ⟨hdg.1, Int.le_trans hdg.2 (by decide)⟩ hop)
   by_cases hg : plGo s j = true
   ·have hq : (scNext ⟨want, what, dg, op⟩ (byteAt s j)).2 = true := by rw [← hst.1]; exact hg
    have HA : Hid (ScAt s (j + 1) (scNext ⟨want, what, dg, op⟩ (byteAt s j)).1) := ⟨hst.2 hg, scNext_dg hdg hq, plStep_good hgood hg, by rw [hfl, hfs, if_pos hg]⟩
    clear hsc hsame hdg hgood hfl hop hst hfs hg
    go_wp2_with fail
    refine (HN.out w.heap.size _ hB).mono ?_
    rintro e w1 ⟨rfl, hB1, hk1⟩
    rw [hq]
    have hkw : Kp w w1 := ⟨hk1.os.trans hkr.os, hk1.tape.trans hkr.tape, hk1.output.trans hkr.output, Nat.le_trans hkr.size hk1.size, fun i hi => (hk1.block i (Nat.lt_of_lt_of_le hi hkr.size) (by omega)).trans (hkr.block i hi)⟩
    generalize scNext ⟨want, what, dg, op⟩ (byteAt s j) = Q at *
    clear hq HN
    go_wp2_with fail
    go_roundw
    case rel => exact ⟨j + 1, Q.1.want, Q.1.what, Q.1.dg, Q.1.op, by omega, by go_num, hB1, hkw, HA⟩
    case measure => simp [intOf]; omega
   ·have hq : (scNext ⟨want, what, dg, op⟩ (byteAt s j)).2 = false := by rw [← hst.1]; exact Bool.eq_false_iff.mpr hg
    have HR : Hid (plFault s 0 s.size = (j : Int)) := by unfold Hid; rw [hfl, hfs, if_neg hg]
    clear hsc hsame hdg hgood hfl hop hst hfs hg
    go_wp2_with fail
    refine (HN.out w.heap.size _ hB).mono ?_
    rintro e w1 ⟨rfl, hB1, hk1⟩
    rw [hq]
    have hkw : Kp w w1 := ⟨hk1.os.trans hkr.os, hk1.tape.trans hkr.tape, hk1.output.trans hkr.output, Nat.le_trans hkr.size hk1.size, fun i hi => (hk1.block i (Nat.lt_of_lt_of_le hi hkr.size) (by omega)).trans (hkr.block i hi)⟩
    clear hq HN
    go_wp2_with fail
    go_ret
    exact ⟨by rw [HR.out]; rfl, hkw⟩
  ·have hje : j = s.size := by omega
   subst hje
   have he := same_end hsame
   have hR : plFault s 0 s.size = if (plAt s s.size).k ≠ 2 ∨ 0 < (plAt s s.size).d then (s.size : Int) else -1 := by rw [hfl, Nat.sub_self]; rfl
   simp only at he
   clear hsc hsame hdg hgood hfl
   by_cases g1 : want = true
   ·have HR : Hid (plFault s 0 s.size = (s.size : Int)) := by unfold Hid; rw [hR, if_pos (he.mpr (Or.inl g1))]
    subst g1
    clear he hR
    go_wp2_with fail
    go_ret
    exact ⟨by rw [HR.out]; rfl, hkr⟩
   ·have g1 : want = false := by simpa using g1
    subst g1
    by_cases g2 : 0 < op
    ·have HR : Hid (plFault s 0 s.size = (s.size : Int)) := by unfold Hid; rw [hR, if_pos (he.mpr (Or.inr (Or.inl g2)))]
     clear he hR
     go_wp2_with fail
     go_ret
     exact ⟨by rw [HR.out]; rfl, hkr⟩
    ·by_cases g3 : what = 114
     ·have e3 : (what == 114) = true := by simp [g3]
      by_cases g4 : dg = 0
      ·have e4 : (dg == 0) = true := by simp [g4]
       have HR : Hid (plFault s 0 s.size = (s.size : Int)) := by unfold Hid; rw [hR, if_pos (he.mpr (Or.inr (Or.inr ⟨g3, g4⟩)))]
       clear he hR g3 g4
       go_wp2_with fail
       go_ret
       exact ⟨by rw [HR.out]; rfl, hkr⟩
      ·have e4 : (dg == 0) = false := by simp [g4]
       have HR : Hid (plFault s 0 s.size = -1) := by unfold Hid; rw [hR, if_neg (fun h => (he.mp h).elim (fun h => Bool.noConfusion h) (fun h => h.elim g2 (fun h => g4 h.2)))]
       clear he hR g3 g4
       go_wp2_with fail
       go_ret
       exact ⟨by rw [HR.out]; rfl, hkr⟩
     ·have e3 : (what == 114) = false := by simp [g3]
      have HR : Hid (plFault s 0 s.size = -1) := by unfold Hid; rw [hR, if_neg (fun h => (he.mp h).elim (fun h => Bool.noConfusion h) (fun h => h.elim g2 (fun h => g3 h.1)))]
      clear he hR g3
      go_wp2_with fail
      go_ret
      exact ⟨by rw [HR.out]; rfl, hkr⟩

end Go.Proofs.Ytjahbjjekednfaa
