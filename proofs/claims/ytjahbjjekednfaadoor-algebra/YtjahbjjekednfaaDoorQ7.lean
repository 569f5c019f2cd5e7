import Derived.Test.YtjahbjjekednfaaDoorQ6
namespace Go.Proofs.YtjahbjjekednfaaDoor
open Go.RowKit

/-- What a text comes to. -/
def Rk (s : ByteArray) (r : Rs) : Prop :=
  (100 < s.size ∧ r = ⟨qzero, 1, 0⟩) ∨ (s.size ≤ 100 ∧ 0 ≤ plFault s 0 s.size ∧ r = ⟨qzero, 2, plFault s 0 s.size⟩) ∨
  (s.size ≤ 100 ∧ plFault s 0 s.size = -1 ∧ ∃ r0, Sm 8 (bl s) 0 r0 ∧ r = if r0.e = 0 then ⟨r0.v, 0, 0⟩ else ⟨qzero, r0.e, r0.k⟩)
def Ret3 (w : World) (r : Rs) (e : Ending) (w' : World) : Prop := ∃ v, e = .returned (.tuple #[v, .int .i64 r.e, .int .i64 r.k]) ∧ XN w' v r.v ∧ Kp w w'

theorem ends_of_fault (s : ByteArray) : ∀ (m i : Nat), i + m = s.size → plFault s i m = -1 → Ends (plAt s i) ((bl s).drop i)
  | 0, i, hi, h => by
    unfold plFault at h
    rw [List.drop_of_length_le (by rw [bl_len]; omega)]
    split at h
    · omega
    · rename_i h1
      refine ⟨plAt s i, rfl, ?_, ?_⟩ <;> omega
  | m + 1, i, hi, h => by
    unfold plFault at h
    split at h
    · rename_i h1
      have ih := ends_of_fault s m (i + 1) (by omega) h
      have hl : i < (bl s).length := by rw [bl_len]; omega
      rw [List.drop_eq_getElem_cons hl, ← at0_eq hl, ← byteAt_bl]
      obtain ⟨z, h2, h3⟩ := ih
      refine ⟨z, ?_, h3⟩
      unfold pRun
      have h1' : (plStep (plAt s i) (byteAt s i)).2 = true := h1
      rw [if_pos h1']
      exact h2
    · omega
theorem plFault_ge (s : ByteArray) : ∀ (m i : Nat), -1 ≤ plFault s i m
  | 0, i => by unfold plFault; split <;> omega
  | m + 1, i => by
    unfold plFault
    split
    · exact plFault_ge s m (i + 1)
    · omega
theorem rk_all (s : ByteArray) : ∃ r, Rk s r := by
  by_cases h1 : 100 < s.size
  · exact ⟨_, Or.inl ⟨h1, rfl⟩⟩
  · by_cases h2 : 0 ≤ plFault s 0 s.size
    · exact ⟨_, Or.inr (Or.inl ⟨by omega, h2, rfl⟩)⟩
    · have h3 : plFault s 0 s.size = -1 := by have := plFault_ge s s.size 0; omega
      have h4 := ends_of_fault s s.size 0 (by omega) h3
      rw [List.drop_zero] at h4
      obtain ⟨r, hr⟩ := text_reads h4
      exact ⟨_, Or.inr (Or.inr ⟨by omega, h3, r, hr, rfl⟩)⟩

set_option maxHeartbeats 1600000 in
theorem reckon_long (s : ByteArray) (w : World) (h : 100 < s.size) : Calls Tryd.prog 28 #[.string s] w (Ret3 w ⟨qzero, 1, 0⟩) := by
  have h1 : (100 : Int) < (s.size : Int) := by omega
  go_enter Tryd.func28, Tryd.ntmps28
  go_wp2_with fail
  refine bodyPost_ret (v := .tuple #[.agg #[.bool false, .slice none 0 0, .bool false, .slice none 0 0, .bool false, .slice none 0 0, .int .i64 0], .int .i64 1, .int .i64 0]) (by simp [results, Tryd.results28, go_sem]) rfl ?_
  exact ⟨_, rfl, xn_zero _, kp_alloc _ _⟩

set_option maxHeartbeats 1600000 in
theorem reckon_fault (s : ByteArray) (w : World) (h : s.size ≤ 100) (hf : 0 ≤ plFault s 0 s.size) : Calls Tryd.prog 28 #[.string s] w (Ret3 w ⟨qzero, 2, plFault s 0 s.size⟩) := by
  have h1 : ¬ (100 : Int) < (s.size : Int) := by omega
  have hR1 : Blk (w.alloc (.cells #[.bool false, .slice none 0 0, .bool false, .slice none 0 0, .bool false, .slice none 0 0, .int .i64 0] 58)) w.heap.size #[.bool false, .slice none 0 0, .bool false, .slice none 0 0, .bool false, .slice none 0 0, .int .i64 0] 58 := Blk.new w _ _
  go_enter Tryd.func28, Tryd.ntmps28
  go_wp2_with fail
  refine (faultOf_any s _ (by omega)).mono ?_
  rintro e w1 ⟨rfl, hk1⟩
  have hR2 := hR1.keep hk1
  have rc := hR2.cell
  have rf' := hR2.frozen
  have rl := hR2.lt
  have hkw : Kp w w1 := (kp_alloc w (.cells #[.bool false, .slice none 0 0, .bool false, .slice none 0 0, .bool false, .slice none 0 0, .int .i64 0] 58)).trans' hk1
  generalize plFault s 0 s.size = fl at *
  go_wp2_with fail
  refine bodyPost_ret (v := .tuple #[.agg #[.bool false, .slice none 0 0, .bool false, .slice none 0 0, .bool false, .slice none 0 0, .int .i64 0], .int .i64 2, .int .i64 fl]) (by simp [results, Tryd.results28, go_sem, rc]) rfl ?_
  exact ⟨_, rfl, xn_zero _, (Below.setCell (Below.setCell (Below.setCell (Below.setCell (Below.setCell (Below.setCell (Below.setCell hkw (p := ⟨w.heap.size, 0, none⟩) (Nat.le_refl _) (.bool false)) (p := ⟨w.heap.size, 1, none⟩) (Nat.le_refl _) (.slice none 0 0)) (p := ⟨w.heap.size, 2, none⟩) (Nat.le_refl _) (.bool false)) (p := ⟨w.heap.size, 3, none⟩) (Nat.le_refl _) (.slice none 0 0)) (p := ⟨w.heap.size, 4, none⟩) (Nat.le_refl _) (.bool false)) (p := ⟨w.heap.size, 5, none⟩) (Nat.le_refl _) (.slice none 0 0)) (p := ⟨w.heap.size, 6, none⟩) (Nat.le_refl _) (.int .i64 0))⟩

set_option maxHeartbeats 1600000 in
theorem reckon_ok (s : ByteArray) (r : Rs) (w : World) (h : s.size ≤ 100) (hf : plFault s 0 s.size = -1) (hr : Sm 8 (bl s) 0 r) : Calls Tryd.prog 28 #[.string s] w (Ret3 w (if r.e = 0 then ⟨r.v, 0, 0⟩ else ⟨qzero, r.e, r.k⟩)) := by
  have h1 : ¬ (100 : Int) < (s.size : Int) := by omega
  have hat : At s 0 (bl s ++ []) := ⟨[], by simp, rfl⟩
  have hS := Hid.mk (fun b w' hB => sums 8 (by decide) s 0 (bl s) [] r b w' h hat hr (by intro c l e; cases e) hB)
  have hR1 : Blk (w.alloc (.cells #[.bool false, .slice none 0 0, .bool false, .slice none 0 0, .bool false, .slice none 0 0, .int .i64 0] 58)) w.heap.size #[.bool false, .slice none 0 0, .bool false, .slice none 0 0, .bool false, .slice none 0 0, .int .i64 0] 58 := Blk.new w _ _
  generalize hG : (if r.e = 0 then (⟨r.v, 0, 0⟩ : Rs) else ⟨qzero, r.e, r.k⟩) = G
  have HG := Hid.mk hG
  clear hG hr hat
  go_enter Tryd.func28, Tryd.ntmps28
  go_wp2_with fail
  refine (faultOf_any s _ (by omega)).mono ?_
  rintro e w1 ⟨rfl, hk1⟩
  have hR2 := hR1.keep hk1
  have hkw : Kp w w1 := (kp_alloc w (.cells #[.bool false, .slice none 0 0, .bool false, .slice none 0 0, .bool false, .slice none 0 0, .int .i64 0] 58)).trans' hk1
  rw [hf]
  go_wp2_with fail
  refine (hS.out w1.heap.size _ (Blk.new w1 _ _)).mono ?_
  rintro e w2 ⟨v2, i2, rfl, hv2, hB2, hi1, hi2, hk2a⟩
  have hk2 : Kp w1 w2 := ((KeepsBut.alloc (KeepsBut.refl w1.heap.size w1) (.cells #[.string s, .int .i64 ((0 : Nat) : Int), .int .i64 0, .int .i64 0] 84)).trans hk2a).below (Nat.le_refl _)
  replace hR2 := hR2.keep hk2
  have hsz1 := hkw.size
  have hRl0 := (hR1.keep hk1).lt
  obtain ⟨b1, ao1, n1, c1, b2, ao2, n2, c2, b3, ao3, n3, c3, rfl, g1, g2, g3⟩ := id hv2
  clear g1 g2 g3 hi1 hi2 hS hf
  have rc := hR2.cell
  have rf' := hR2.frozen
  have rl := hR2.lt
  have bc := hB2.cell
  have bl' := hB2.lt
  have hne : w.heap.size ≠ w1.heap.size := by omega
  by_cases he : r.e = 0
  · have HG2 : Hid (G = ⟨r.v, 0, 0⟩) := by unfold Hid; rw [← HG.out, if_pos he]
    rw [he] at bc
    go_wp2_with fail
    refine bodyPost_ret (v := .tuple #[.agg #[.bool b1, .slice ao1 n1 c1, .bool b2, .slice ao2 n2 c2, .bool b3, .slice ao3 n3 c3, .int .i64 r.v.d], .int .i64 0, .int .i64 0]) (by simp [results, Tryd.results28, go_sem, rc, rl]) rfl ?_
    rw [HG2.out]
    exact ⟨_, rfl, hv2.soft (Sf.alloc (Sf.set (t := 58) (c := w.heap.size) (o := 6) (y := .int .i64 r.v.d) (Sf.set (t := 58) (c := w.heap.size) (o := 5) (y := .slice ao3 n3 c3) (Sf.set (t := 58) (c := w.heap.size) (o := 4) (y := .bool b3) (Sf.set (t := 58) (c := w.heap.size) (o := 3) (y := .slice ao2 n2 c2) (Sf.set (t := 58) (c := w.heap.size) (o := 2) (y := .bool b2) (Sf.set (t := 58) (c := w.heap.size) (o := 1) (y := .slice ao1 n1 c1) (Sf.set (t := 58) (c := w.heap.size) (o := 0) (y := .bool b1) (Sf.refl 2 w2) (by first | (simp only [elemOf_setCell]; exact hR2.elem) | exact hR2.elem) (by decide)) (by first | (simp only [elemOf_setCell]; exact hR2.elem) | exact hR2.elem) (by decide)) (by first | (simp only [elemOf_setCell]; exact hR2.elem) | exact hR2.elem) (by decide)) (by first | (simp only [elemOf_setCell]; exact hR2.elem) | exact hR2.elem) (by decide)) (by first | (simp only [elemOf_setCell]; exact hR2.elem) | exact hR2.elem) (by decide)) (by first | (simp only [elemOf_setCell]; exact hR2.elem) | exact hR2.elem) (by decide)) (by first | (simp only [elemOf_setCell]; exact hR2.elem) | exact hR2.elem) (by decide)) (.cells #[.bool b1, .slice ao1 n1 c1, .bool b2, .slice ao2 n2 c2, .bool b3, .slice ao3 n3 c3, .int .i64 r.v.d] 58)), (Kp.alloc' (Below.setCell (Below.setCell (Below.setCell (Below.setCell (Below.setCell (Below.setCell (Below.setCell (hkw.trans' hk2) (p := ⟨w.heap.size, 0, none⟩) (Nat.le_refl _) (.bool b1)) (p := ⟨w.heap.size, 1, none⟩) (Nat.le_refl _) (.slice ao1 n1 c1)) (p := ⟨w.heap.size, 2, none⟩) (Nat.le_refl _) (.bool b2)) (p := ⟨w.heap.size, 3, none⟩) (Nat.le_refl _) (.slice ao2 n2 c2)) (p := ⟨w.heap.size, 4, none⟩) (Nat.le_refl _) (.bool b3)) (p := ⟨w.heap.size, 5, none⟩) (Nat.le_refl _) (.slice ao3 n3 c3)) (p := ⟨w.heap.size, 6, none⟩) (Nat.le_refl _) (.int .i64 r.v.d)) (.cells #[.bool b1, .slice ao1 n1 c1, .bool b2, .slice ao2 n2 c2, .bool b3, .slice ao3 n3 c3, .int .i64 r.v.d] 58))⟩
  · have HG2 : Hid (G = ⟨qzero, r.e, r.k⟩) := by unfold Hid; rw [← HG.out, if_neg he]
    have x1 : (r.e != 0) = true := by simp [he]
    go_wp2_with fail
    go_region
    all_goals go_wp2_with fail
    all_goals
      refine bodyPost_ret (v := .tuple #[.agg #[.bool false, .slice none 0 0, .bool false, .slice none 0 0, .bool false, .slice none 0 0, .int .i64 0], .int .i64 r.e, .int .i64 r.k]) (by simp [results, Tryd.results28, go_sem, rc, rl]) rfl ?_
      rw [HG2.out]
      exact ⟨_, rfl, xn_zero _, Kp.drew' (Kp.alloc' (Below.setCell (Below.setCell (Below.setCell (Below.setCell (Below.setCell (Below.setCell (Below.setCell (hkw.trans' hk2) (p := ⟨w.heap.size, 0, none⟩) (Nat.le_refl _) (.bool false)) (p := ⟨w.heap.size, 1, none⟩) (Nat.le_refl _) (.slice none 0 0)) (p := ⟨w.heap.size, 2, none⟩) (Nat.le_refl _) (.bool false)) (p := ⟨w.heap.size, 3, none⟩) (Nat.le_refl _) (.slice none 0 0)) (p := ⟨w.heap.size, 4, none⟩) (Nat.le_refl _) (.bool false)) (p := ⟨w.heap.size, 5, none⟩) (Nat.le_refl _) (.slice none 0 0)) (p := ⟨w.heap.size, 6, none⟩) (Nat.le_refl _) (.int .i64 0)) (.cells #[.bool b1, .slice ao1 n1 c1, .bool b2, .slice ao2 n2 c2, .bool b3, .slice ao3 n3 c3, .int .i64 r.v.d] 58))⟩

theorem reckon_any (s : ByteArray) (r : Rs) (w : World) (h : Rk s r) : Calls Tryd.prog 28 #[.string s] w (Ret3 w r) := by
  rcases h with ⟨h1, rfl⟩ | ⟨h1, h2, rfl⟩ | ⟨h1, h2, r0, h3, rfl⟩
  · exact reckon_long s w h1
  · exact reckon_fault s w h1 h2
  · exact reckon_ok s r0 w h1 h2 h3

end Go.Proofs.YtjahbjjekednfaaDoor
