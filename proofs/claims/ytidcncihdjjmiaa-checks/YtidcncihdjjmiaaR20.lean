import Derived.Test.YtidcncihdjjmiaaR18
namespace Go.Proofs.Ytidcncihdjjmiaa
open Go.RowKit

theorem qcom_one (p q : Int) : qcom p q 1 = 1 := by
  unfold qcom
  rw [if_neg (by decide)]
  simp
theorem qreduce_one (p q d : Int) : qreduce p q 1 d = ⟨p, q, 1, if q = 0 then 1 else d⟩ := by
  unfold qreduce
  rw [qcom_one]
  simp

set_option maxHeartbeats 3200000 in
theorem factor_minus (s : ByteArray) (p : Nat) (r : Rs) (w : World) (hs1 : 1 ≤ s.size) (hs : s.size ≤ 100) (hp : p ≤ 1000) (hc : byteAt s 0 = 45)
    (H : ∀ w, Calls Try.prog 36 #[.string (s.extract 1 s.size), .int .i64 ((p : Int) + 1)] w (RetV3 w r)) :
    Calls Try.prog 36 #[.string s, .int .i64 p] w (RetV3 w ⟨qneg r.v, r.e, r.k⟩) := by
  have hb := byteAt_eq s 0 (by omega)
  rw [hc] at hb
  have h0 : (0 : Int) < (s.size : Int) := by omega
  have h1 : (1 : Int) ≤ (s.size : Int) := by omega
  have BE0 : Blk (w.alloc (.cells #[.bool false, .slice none 0 0, .bool false, .slice none 0 0, .bool false, .slice none 0 0, .int .i64 0] 44)) w.heap.size #[.bool false, .slice none 0 0, .bool false, .slice none 0 0, .bool false, .slice none 0 0, .int .i64 0] 44 := Blk.new w _ _
  have kp0 := kp_alloc w (.cells #[.bool false, .slice none 0 0, .bool false, .slice none 0 0, .bool false, .slice none 0 0, .int .i64 0] 44)
  go_enter Try.func36, Try.ntmps36
  go_wp2_with fail
  refine (H _).mono ?_
  rintro e w2 ⟨v1, a1, rfl, hv1, ha1, hk2⟩
  obtain ⟨b1, ao1, n1, c1, b2, ao2, n2, c2, b3, ao3, n3, c3, rfl, x1, x2, x3⟩ := id hv1
  have hkb := kp0.trans' hk2
  have BE := BE0.keep hk2
  have nex := BE.lt
  have kpx := kp_alloc w2 (.cells #[.bool b1, .slice ao1 n1 c1, .bool b2, .slice ao2 n2 c2, .bool b3, .slice ao3 n3 c3, .int .i64 a1.d] 44)
  have BX : Blk (w2.alloc (.cells #[.bool b1, .slice ao1 n1 c1, .bool b2, .slice ao2 n2 c2, .bool b3, .slice ao3 n3 c3, .int .i64 a1.d] 44)) w2.heap.size #[.bool b1, .slice ao1 n1 c1, .bool b2, .slice ao2 n2 c2, .bool b3, .slice ao3 n3 c3, .int .i64 a1.d] 44 := Blk.new w2 _ _
  have BEx := BE.keep kpx
  have bxc := BX.cell
  have hkd : Kp (w2.alloc (.cells #[.bool b1, .slice ao1 n1 c1, .bool b2, .slice ao2 n2 c2, .bool b3, .slice ao3 n3 c3, .int .i64 a1.d] 44)) (w2.alloc (.cells #[.bool b1, .slice ao1 n1 c1, .bool b2, .slice ao2 n2 c2, .bool b3, .slice ao3 n3 c3, .int .i64 a1.d] 44)).drew := Kp.drew' (Below.refl _ _)
  have y1 := (x1.keep kpx).keep hkd
  have y2 := (x2.keep kpx).keep hkd
  have y3 := (x3.keep kpx).keep hkd
  have HA := Hid.mk ha1
  clear ha1 x1 x2 x3 hv1 BE0 kp0 hk2
  go_wp2_with fail
  go_region_held3 (fun w' => w'.cell? ⟨w2.heap.size, 0, none⟩ = some (.bool b1) ∧ w'.cell? ⟨w2.heap.size, 1, none⟩ = some (.slice ao1 n1 c1) ∧ w'.cell? ⟨w2.heap.size, 2, none⟩ = some (.bool b2) ∧ w'.cell? ⟨w2.heap.size, 3, none⟩ = some (.slice ao2 n2 c2) ∧ w'.cell? ⟨w2.heap.size, 4, none⟩ = some (.bool b3) ∧ w'.cell? ⟨w2.heap.size, 5, none⟩ = some (.slice ao3 n3 c3) ∧ w'.cell? ⟨w2.heap.size, 6, none⟩ = some (.int .i64 a1.d))
    (first | (go_keep; done) | (simp [bxc]; done) | (simp [bxc5]; done) | (simp [bxc6]; done) | (have BXf := (Blk.other (c := w.heap.size) (o := 6) (y := .int .i64 a1.d) (Blk.other (c := w.heap.size) (o := 5) (y := .slice ao3 n3 c3) (Blk.other (c := w.heap.size) (o := 4) (y := .bool b3) (Blk.other (c := w.heap.size) (o := 3) (y := .slice ao12 n12 c12) (Blk.other (c := w.heap.size) (o := 2) (y := .bool b12) (Blk.other (c := w.heap.size) (o := 1) (y := .slice ao11 n11 c11) (Blk.other (c := w.heap.size) (o := 0) (y := .bool b11) BX6 (by omega)) (by omega)) (by omega)) (by omega)) (by omega)) (by omega)) (by omega)); exact ⟨BXf.cell 0, BXf.cell 1, BXf.cell 2, BXf.cell 3, BXf.cell 4, BXf.cell 5, BXf.cell 6⟩))
    ((first
      | (go_at_call_of 46 (Value.agg #[.bool b1, .slice ao1 n1 c1]); refine (less_any _ _ _ y1).mono ?_; rintro e w5 ⟨v5, rfl, hv5, hk5⟩; obtain ⟨b11, ao11, n11, c11, rfl⟩ := hv5.shape'; have BX5 := BX.keep (hkd.trans' hk5); have bxc5 := BX5.cell)
      | (go_at_call_of 46 (Value.agg #[.bool b2, .slice ao2 n2 c2]); refine (less_any _ _ _ (y2.keep hk5)).mono ?_; rintro e w6 ⟨v6, rfl, hv6, hk6⟩; obtain ⟨b12, ao12, n12, c12, rfl⟩ := hv6.shape'; have BX6 := BX5.keep hk6; have bxc6 := BX6.cell; have BE6 := BEx.keep (hkd.trans' (hk5.trans' hk6)); have bec6 := BE6.cell; have bef6 := BE6.frozen; have bel6 := BE6.lt)))
  all_goals go_wp2_with fail
  refine bodyPost_ret (v := .tuple #[.agg #[.bool b11, .slice ao11 n11 c11, .bool b12, .slice ao12 n12 c12, .bool b3, .slice ao3 n3 c3, .int .i64 a1.d], .int .i64 r.e, .int .i64 r.k]) (by simp [results, Try.results36, go_sem, bec6]) rfl ?_
  have hkq := (kpx.trans' (hkd.trans' (hk5.trans' hk6)))
  have sfE : Sf 3 w6 _ := (Sf.set (t := 44) (c := w.heap.size) (o := 6) (y := .int .i64 a1.d) (Sf.set (t := 44) (c := w.heap.size) (o := 5) (y := .slice ao3 n3 c3) (Sf.set (t := 44) (c := w.heap.size) (o := 4) (y := .bool b3) (Sf.set (t := 44) (c := w.heap.size) (o := 3) (y := .slice ao12 n12 c12) (Sf.set (t := 44) (c := w.heap.size) (o := 2) (y := .bool b12) (Sf.set (t := 44) (c := w.heap.size) (o := 1) (y := .slice ao11 n11 c11) (Sf.set (t := 44) (c := w.heap.size) (o := 0) (y := .bool b11) (Sf.refl 3 w6) (by first | (simp only [elemOf_setCell]; exact BE6.elem) | exact BE6.elem) (by decide)) (by first | (simp only [elemOf_setCell]; exact BE6.elem) | exact BE6.elem) (by decide)) (by first | (simp only [elemOf_setCell]; exact BE6.elem) | exact BE6.elem) (by decide)) (by first | (simp only [elemOf_setCell]; exact BE6.elem) | exact BE6.elem) (by decide)) (by first | (simp only [elemOf_setCell]; exact BE6.elem) | exact BE6.elem) (by decide)) (by first | (simp only [elemOf_setCell]; exact BE6.elem) | exact BE6.elem) (by decide)) (by first | (simp only [elemOf_setCell]; exact BE6.elem) | exact BE6.elem) (by decide))
  exact ⟨_, ⟨-a1.p, -a1.q, a1.r, a1.d⟩, rfl, ⟨_, _, _, _, _, _, _, _, _, _, _, _, rfl, (hv5.keep hk6).soft sfE, hv6.soft sfE, (y3.keep (hk5.trans' hk6)).soft sfE⟩, fun h => by rw [HA.out h]; rfl, (Below.setCell (Below.setCell (Below.setCell (Below.setCell (Below.setCell (Below.setCell (Below.setCell (hkb.trans' hkq) (p := ⟨w.heap.size, 0, none⟩) (Nat.le_refl _) (.bool b11)) (p := ⟨w.heap.size, 1, none⟩) (Nat.le_refl _) (.slice ao11 n11 c11)) (p := ⟨w.heap.size, 2, none⟩) (Nat.le_refl _) (.bool b12)) (p := ⟨w.heap.size, 3, none⟩) (Nat.le_refl _) (.slice ao12 n12 c12)) (p := ⟨w.heap.size, 4, none⟩) (Nat.le_refl _) (.bool b3)) (p := ⟨w.heap.size, 5, none⟩) (Nat.le_refl _) (.slice ao3 n3 c3)) (p := ⟨w.heap.size, 6, none⟩) (Nat.le_refl _) (.int .i64 a1.d))⟩

set_option maxHeartbeats 1600000 in
theorem factor_paren (s : ByteArray) (p : Nat) (r : Rs) (w : World) (hs1 : 2 ≤ s.size) (hs : s.size ≤ 100) (hp : p ≤ 1000) (hc : byteAt s 0 = 40)
    (H : ∀ w, Calls Try.prog 17 #[.string (s.extract 1 (s.size - 1)), .int .i64 ((p : Int) + 1)] w (RetV3 w r)) :
    Calls Try.prog 36 #[.string s, .int .i64 p] w (RetV3 w r) := by
  have hb := byteAt_eq s 0 (by omega)
  rw [hc] at hb
  have h0 : (0 : Int) < (s.size : Int) := by omega
  have h1 : (1 : Int) ≤ (s.size : Int) - 1 := by omega
  have h2 : ((s.size : Int) - 1).toNat = s.size - 1 := by omega
  have BE0 : Blk (w.alloc (.cells #[.bool false, .slice none 0 0, .bool false, .slice none 0 0, .bool false, .slice none 0 0, .int .i64 0] 44)) w.heap.size #[.bool false, .slice none 0 0, .bool false, .slice none 0 0, .bool false, .slice none 0 0, .int .i64 0] 44 := Blk.new w _ _
  have kp0 := kp_alloc w (.cells #[.bool false, .slice none 0 0, .bool false, .slice none 0 0, .bool false, .slice none 0 0, .int .i64 0] 44)
  go_enter Try.func36, Try.ntmps36
  go_wp2_with fail
  refine (H _).mono ?_
  rintro e w2 ⟨v1, a1, rfl, hv1, ha1, hk2⟩
  obtain ⟨b1, ao1, n1, c1, b2, ao2, n2, c2, b3, ao3, n3, c3, rfl, x1, x2, x3⟩ := id hv1
  have hkb := kp0.trans' hk2
  have BE := BE0.keep hk2
  have bec := BE.cell
  have bef := BE.frozen
  have bel := BE.lt
  have HA := Hid.mk ha1
  clear ha1 x1 x2 x3 BE0 kp0 hk2
  go_wp2_with fail
  refine bodyPost_ret (v := .tuple #[.agg #[.bool b1, .slice ao1 n1 c1, .bool b2, .slice ao2 n2 c2, .bool b3, .slice ao3 n3 c3, .int .i64 a1.d], .int .i64 r.e, .int .i64 r.k]) (by simp [results, Try.results36, go_sem, bec]) rfl ?_
  exact ⟨_, a1, rfl, hv1.soft (Sf.set (t := 44) (c := w.heap.size) (o := 6) (y := .int .i64 a1.d) (Sf.set (t := 44) (c := w.heap.size) (o := 5) (y := .slice ao3 n3 c3) (Sf.set (t := 44) (c := w.heap.size) (o := 4) (y := .bool b3) (Sf.set (t := 44) (c := w.heap.size) (o := 3) (y := .slice ao2 n2 c2) (Sf.set (t := 44) (c := w.heap.size) (o := 2) (y := .bool b2) (Sf.set (t := 44) (c := w.heap.size) (o := 1) (y := .slice ao1 n1 c1) (Sf.set (t := 44) (c := w.heap.size) (o := 0) (y := .bool b1) (Sf.refl 3 w2) (by first | (simp only [elemOf_setCell]; exact BE.elem) | exact BE.elem) (by decide)) (by first | (simp only [elemOf_setCell]; exact BE.elem) | exact BE.elem) (by decide)) (by first | (simp only [elemOf_setCell]; exact BE.elem) | exact BE.elem) (by decide)) (by first | (simp only [elemOf_setCell]; exact BE.elem) | exact BE.elem) (by decide)) (by first | (simp only [elemOf_setCell]; exact BE.elem) | exact BE.elem) (by decide)) (by first | (simp only [elemOf_setCell]; exact BE.elem) | exact BE.elem) (by decide)) (by first | (simp only [elemOf_setCell]; exact BE.elem) | exact BE.elem) (by decide)), HA.out, (Below.setCell (Below.setCell (Below.setCell (Below.setCell (Below.setCell (Below.setCell (Below.setCell hkb (p := ⟨w.heap.size, 0, none⟩) (Nat.le_refl _) (.bool b1)) (p := ⟨w.heap.size, 1, none⟩) (Nat.le_refl _) (.slice ao1 n1 c1)) (p := ⟨w.heap.size, 2, none⟩) (Nat.le_refl _) (.bool b2)) (p := ⟨w.heap.size, 3, none⟩) (Nat.le_refl _) (.slice ao2 n2 c2)) (p := ⟨w.heap.size, 4, none⟩) (Nat.le_refl _) (.bool b3)) (p := ⟨w.heap.size, 5, none⟩) (Nat.le_refl _) (.slice ao3 n3 c3)) (p := ⟨w.heap.size, 6, none⟩) (Nat.le_refl _) (.int .i64 a1.d))⟩

set_option maxHeartbeats 1600000 in
theorem factor_num (s : ByteArray) (p : Nat) (w : World) (hs1 : 1 ≤ s.size) (hl : s.size ≤ 18) (hd : Digs (bl s)) :
    Calls Try.prog 36 #[.string s, .int .i64 p] w (RetV3 w ⟨⟨decN (bl s), 0, 1, 1⟩, 0, 0⟩) := by
  have hb := byteAt_eq s 0 (by omega)
  have hlen := bl_len s
  have hdig : isDig (byteAt s 0) = true := by rw [byteAt_bl]; exact digs_at hd (by omega)
  have hbd := isDig_bd hdig
  have z1 : (byteAt s 0 == 45) = false := by simp; omega
  have z2 : (byteAt s 0 == 40) = false := by simp; omega
  have z3 : (byteAt s 0 == 114) = false := by simp; omega
  have h0 : (0 : Int) < (s.size : Int) := by omega
  have hn := decN_bd hd
  have fn : Ft 20 (decN (bl s)) := by
    have h2 : (10 : Int) ^ (bl s).length ≤ 10 ^ 18 := by exact_mod_cast Nat.pow_le_pow_right (show 0 < 10 by decide) (show (bl s).length ≤ 18 by omega)
    unfold Ft
    omega
  have f1 : Ft 20 1 := by unfold Ft; decide
  have HQR : Hid (qreduce (decN (bl s)) 0 1 1 = ⟨decN (bl s), 0, 1, 1⟩) := by unfold Hid; rw [qreduce_one]; simp
  have HRD := Hid.mk (fun w' => read_ref s w' hd hl)
  have BE0 : Blk (w.alloc (.cells #[.bool false, .slice none 0 0, .bool false, .slice none 0 0, .bool false, .slice none 0 0, .int .i64 0] 44)) w.heap.size #[.bool false, .slice none 0 0, .bool false, .slice none 0 0, .bool false, .slice none 0 0, .int .i64 0] 44 := Blk.new w _ _
  have kp0 := kp_alloc w (.cells #[.bool false, .slice none 0 0, .bool false, .slice none 0 0, .bool false, .slice none 0 0, .int .i64 0] 44)
  clear hn hd hdig hbd
  generalize decN (bl s) = N at *
  generalize byteAt s 0 = c0 at *
  go_enter Try.func36, Try.ntmps36
  go_wp2_with fail
  refine (HRD.out _).mono ?_
  rintro e w2 ⟨v2, rfl, hv2, hk2⟩
  obtain ⟨b7, ao7, n7, c7, rfl⟩ := hv2.shape'
  have BE := BE0.keep hk2
  have hkb := kp0.trans' hk2
  clear BE0 kp0
  go_wp2_with fail
  refine (of_any 1 _ (by decide) (by decide)).mono ?_
  rintro e w8 ⟨v8, rfl, hv8, hk8⟩
  obtain ⟨b8, ao8, n8, c8, rfl⟩ := hv8.shape'
  go_wp2_with fail
  refine (formed_any N 0 1 1 20 _ _ _ _ (hv2.keep hk8) (in_zero _) hv8 (by decide) (by decide) fn (Ft.zero _) f1).mono ?_
  rintro e w9 ⟨v9, rfl, hv9, hk9⟩
  rw [HQR.out] at hv9
  obtain ⟨b31, ao31, n31, c31, b32, ao32, n32, c32, b33, ao33, n33, c33, rfl, _, _, _⟩ := id hv9
  have BE9 := BE.keep (hk8.trans' hk9)
  have bec9 := BE9.cell
  have bef9 := BE9.frozen
  have bel9 := BE9.lt
  go_wp2_with fail
  refine bodyPost_ret (v := .tuple #[.agg #[.bool b31, .slice ao31 n31 c31, .bool b32, .slice ao32 n32 c32, .bool b33, .slice ao33 n33 c33, .int .i64 (⟨N, 0, 1, 1⟩ : Qn).d], .int .i64 0, .int .i64 0]) (by simp [results, Try.results36, go_sem, bec9]) rfl ?_
  exact ⟨_, _, rfl, hv9.soft (Sf.set (t := 44) (c := w.heap.size) (o := 6) (y := .int .i64 (⟨N, 0, 1, 1⟩ : Qn).d) (Sf.set (t := 44) (c := w.heap.size) (o := 5) (y := .slice ao33 n33 c33) (Sf.set (t := 44) (c := w.heap.size) (o := 4) (y := .bool b33) (Sf.set (t := 44) (c := w.heap.size) (o := 3) (y := .slice ao32 n32 c32) (Sf.set (t := 44) (c := w.heap.size) (o := 2) (y := .bool b32) (Sf.set (t := 44) (c := w.heap.size) (o := 1) (y := .slice ao31 n31 c31) (Sf.set (t := 44) (c := w.heap.size) (o := 0) (y := .bool b31) (Sf.refl 3 w9) (by first | (simp only [elemOf_setCell]; exact BE9.elem) | exact BE9.elem) (by decide)) (by first | (simp only [elemOf_setCell]; exact BE9.elem) | exact BE9.elem) (by decide)) (by first | (simp only [elemOf_setCell]; exact BE9.elem) | exact BE9.elem) (by decide)) (by first | (simp only [elemOf_setCell]; exact BE9.elem) | exact BE9.elem) (by decide)) (by first | (simp only [elemOf_setCell]; exact BE9.elem) | exact BE9.elem) (by decide)) (by first | (simp only [elemOf_setCell]; exact BE9.elem) | exact BE9.elem) (by decide)) (by first | (simp only [elemOf_setCell]; exact BE9.elem) | exact BE9.elem) (by decide)), fun _ => rfl, (Below.setCell (Below.setCell (Below.setCell (Below.setCell (Below.setCell (Below.setCell (Below.setCell (hkb.trans' (hk8.trans' hk9)) (p := ⟨w.heap.size, 0, none⟩) (Nat.le_refl _) (.bool b31)) (p := ⟨w.heap.size, 1, none⟩) (Nat.le_refl _) (.slice ao31 n31 c31)) (p := ⟨w.heap.size, 2, none⟩) (Nat.le_refl _) (.bool b32)) (p := ⟨w.heap.size, 3, none⟩) (Nat.le_refl _) (.slice ao32 n32 c32)) (p := ⟨w.heap.size, 4, none⟩) (Nat.le_refl _) (.bool b33)) (p := ⟨w.heap.size, 5, none⟩) (Nat.le_refl _) (.slice ao33 n33 c33)) (p := ⟨w.heap.size, 6, none⟩) (Nat.le_refl _) (.int .i64 (⟨N, 0, 1, 1⟩ : Qn).d))⟩

set_option maxHeartbeats 3200000 in
set_option maxRecDepth 100000 in
theorem factor_root (s : ByteArray) (p : Nat) (t : List Int) (w : World) (hb0 : bl s = 114 :: t) (_ : t ≠ []) (hl : t.length ≤ 6) (hd : Digs t) :
    Calls Try.prog 36 #[.string s, .int .i64 p] w (RetV3 w ⟨qsqrt (decN t).toNat, 0, 0⟩) := by
  have hlen := bl_len s
  rw [hb0, List.length_cons] at hlen
  have hb := byteAt_eq s 0 (by omega)
  have hc : byteAt s 0 = 114 := by rw [byteAt_bl, hb0, at0_cons_zero]
  rw [hc] at hb
  have h0 : (0 : Int) < (s.size : Int) := by omega
  have hn := decN_bd hd
  have f1 : Ft 20 1 := by unfold Ft; decide
  have hn2 : decN t < 1000000 := by
    have : (10 : Int) ^ t.length ≤ 10 ^ 6 := by exact_mod_cast Nat.pow_le_pow_right (show 0 < 10 by decide) hl
    omega
  have BE0 : Blk (w.alloc (.cells #[.bool false, .slice none 0 0, .bool false, .slice none 0 0, .bool false, .slice none 0 0, .int .i64 0] 44)) w.heap.size #[.bool false, .slice none 0 0, .bool false, .slice none 0 0, .bool false, .slice none 0 0, .int .i64 0] 44 := Blk.new w _ _
  have kp0 := kp_alloc w (.cells #[.bool false, .slice none 0 0, .bool false, .slice none 0 0, .bool false, .slice none 0 0, .int .i64 0] 44)
  have HBL := Hid.mk hb0
  clear hb0
  go_enter Try.func36, Try.ntmps36
  go_wp2_with fail
  go_loopw [10, 11] (fun n i wr => ∃ j k : Nat, Hid (k = j + 1) ∧ j ≤ t.length ∧ n = .int .i64 (decN (t.take j)) ∧ i = .int .i64 k ∧ Blk wr w.heap.size #[.bool false, .slice none 0 0, .bool false, .slice none 0 0, .bool false, .slice none 0 0, .int .i64 0] 44 ∧ Kp w wr)
    (fun _ i _ => s.size - (intOf i).toNat)
  case atStart => exact ⟨0, 1, rfl, by omega, rfl, rfl, BE0, kp0⟩
  case round =>
    clear BE0 kp0
    obtain ⟨j, k, HK, hj, rfl, rfl, BE, hkb⟩ := hrel
    have hkj := HK.out
    by_cases h1 : j < t.length
    · have hks : k < s.size := by omega
      have hbk := byteAt_eq s k hks
      have hbt : byteAt s k = at0 t j := by rw [byteAt_bl, HBL.out, hkj, at0_cons_succ]
      have hdg := isDig_bd (digs_at hd h1)
      rw [← hbt] at hdg
      have hnn := decN_bd (digs_take hd j)
      have hlt : (t.take j).length = j := by rw [List.length_take]; omega
      rw [hlt] at hnn
      have hn0 := hnn.1
      have hn1 : decN (t.take j) < 1000000 := Int.lt_of_lt_of_le hnn.2 (show (10 : Int) ^ j ≤ 10 ^ 6 by exact_mod_cast Nat.pow_le_pow_right (show 0 < 10 by decide) (show j ≤ 6 by omega))
      have HN : Hid (decN (t.take (j + 1)) = 10 * decN (t.take j) + byteAt s k - 48) := by
        unfold Hid
        rw [take_snoc h1, decN_snoc, hbt]
        omega
      have hki : (k : Int) < (s.size : Int) := by omega
      clear hnn hbt hkj hn hn2
      generalize decN (t.take j) = N at *
      generalize byteAt s k = C at *
      have hw0 : IntKind.i64.wrap C = C := IntWalk.i64_in _ (by omega)
      go_wp2_with fail
      go_roundw
      case rel => exact ⟨j + 1, k + 1, by have := HK.out; unfold Hid; omega, by omega, by rw [HN.out], by go_num, BE, hkb⟩
      case measure => simp [intOf]; omega
    · have hje : j = t.length := by omega
      subst hje
      have hks : ¬ (k : Int) < (s.size : Int) := by omega
      rw [List.take_length]
      clear hkj HK HBL
      obtain ⟨N, hN⟩ := Int.eq_ofNat_of_zero_le hn.1
      have HNT : Hid ((decN t).toNat = N) := by unfold Hid; omega
      rw [hN, Int.toNat_natCast]
      rw [hN] at hn2
      clear hn hN
      have hNl : N < 1000000 := by omega
      have HSQ := Hid.mk (fun w' => square_ref N w' hNl)
      by_cases hz : N = 0
      · subst hz
        have hS : sqf 0 1000 = 1000 := by unfold sqf; rw [if_pos (by decide)]
        rw [hS] at HSQ
        have HQR : Hid (qreduce 0 0 1 1 = (⟨0, 0, 1, 1⟩ : Qn)) := by unfold Hid; rw [qreduce_one]; simp
        have HQS : Hid (qsqrt 0 = ⟨0, 0, 1, 1⟩) := by unfold Hid qsqrt; rw [if_pos rfl]
        rw [HQS.out]
        go_wp2_with fail
        refine (HSQ.out _).mono ?_
        rintro e w5 ⟨rfl, hk5⟩
        replace BE := BE.keep hk5
        replace hkb := hkb.trans' hk5
        have fF : Ft 20 0 := Ft.zero _
        go_wp2_with fail
        refine (of_any 0 _ (by decide) (by decide)).mono ?_
        rintro e w6 ⟨v6, rfl, hv6, hk6⟩
        obtain ⟨b7, ao7, n7, c7, rfl⟩ := hv6.shape'
        replace BE := BE.keep hk6
        replace hkb := hkb.trans' hk6
        go_wp2_with fail
        refine (of_any 1 _ (by decide) (by decide)).mono ?_
        rintro e w8 ⟨v8, rfl, hv8, hk8⟩
        obtain ⟨b8, ao8, n8, c8, rfl⟩ := hv8.shape'
        go_wp2_with fail
        refine (formed_any 0 0 1 1 20 _ _ _ _ (hv6.keep hk8) (in_zero _) hv8 (by decide) (by decide) fF (Ft.zero _) f1).mono ?_
        rintro e w9 ⟨v9, rfl, hv9, hk9⟩
        rw [HQR.out] at hv9
        obtain ⟨b31, ao31, n31, c31, b32, ao32, n32, c32, b33, ao33, n33, c33, rfl, _, _, _⟩ := id hv9
        have BE9 := BE.keep (hk8.trans' hk9)
        have bec9 := BE9.cell
        have bef9 := BE9.frozen
        have bel9 := BE9.lt
        go_wp2_with fail
        refine bodyPost_ret (v := .tuple #[.agg #[.bool b31, .slice ao31 n31 c31, .bool b32, .slice ao32 n32 c32, .bool b33, .slice ao33 n33 c33, .int .i64 (⟨0, 0, 1, 1⟩ : Qn).d], .int .i64 0, .int .i64 0]) (by simp [results, Try.results36, go_sem, bec9]) rfl ?_
        exact ⟨_, _, rfl, hv9.soft (Sf.set (t := 44) (c := w.heap.size) (o := 6) (y := .int .i64 (⟨0, 0, 1, 1⟩ : Qn).d) (Sf.set (t := 44) (c := w.heap.size) (o := 5) (y := .slice ao33 n33 c33) (Sf.set (t := 44) (c := w.heap.size) (o := 4) (y := .bool b33) (Sf.set (t := 44) (c := w.heap.size) (o := 3) (y := .slice ao32 n32 c32) (Sf.set (t := 44) (c := w.heap.size) (o := 2) (y := .bool b32) (Sf.set (t := 44) (c := w.heap.size) (o := 1) (y := .slice ao31 n31 c31) (Sf.set (t := 44) (c := w.heap.size) (o := 0) (y := .bool b31) (Sf.refl 3 w9) (by first | (simp only [elemOf_setCell]; exact BE9.elem) | exact BE9.elem) (by decide)) (by first | (simp only [elemOf_setCell]; exact BE9.elem) | exact BE9.elem) (by decide)) (by first | (simp only [elemOf_setCell]; exact BE9.elem) | exact BE9.elem) (by decide)) (by first | (simp only [elemOf_setCell]; exact BE9.elem) | exact BE9.elem) (by decide)) (by first | (simp only [elemOf_setCell]; exact BE9.elem) | exact BE9.elem) (by decide)) (by first | (simp only [elemOf_setCell]; exact BE9.elem) | exact BE9.elem) (by decide)) (by first | (simp only [elemOf_setCell]; exact BE9.elem) | exact BE9.elem) (by decide)), fun _ => by show _ = qsqrt (decN t).toNat; rw [HNT.out, HQS.out], (Below.setCell (Below.setCell (Below.setCell (Below.setCell (Below.setCell (Below.setCell (Below.setCell (hkb.trans' (hk8.trans' hk9)) (p := ⟨w.heap.size, 0, none⟩) (Nat.le_refl _) (.bool b31)) (p := ⟨w.heap.size, 1, none⟩) (Nat.le_refl _) (.slice ao31 n31 c31)) (p := ⟨w.heap.size, 2, none⟩) (Nat.le_refl _) (.bool b32)) (p := ⟨w.heap.size, 3, none⟩) (Nat.le_refl _) (.slice ao32 n32 c32)) (p := ⟨w.heap.size, 4, none⟩) (Nat.le_refl _) (.bool b33)) (p := ⟨w.heap.size, 5, none⟩) (Nat.le_refl _) (.slice ao33 n33 c33)) (p := ⟨w.heap.size, 6, none⟩) (Nat.le_refl _) (.int .i64 (⟨0, 0, 1, 1⟩ : Qn).d))⟩
      · have hr := sqf_root (show 0 < N by omega) hNl
        have hF0 := hr.op
        have hle : sqf N 1000 * sqf N 1000 ≤ N := Nat.le_of_dvd (by omega) (sqf_dvd N 1000)
        have hF1 : sqf N 1000 ≤ sqf N 1000 * sqf N 1000 := Nat.le_mul_of_pos_left _ hF0
        have hD0 := hr.sp
        have hD1 : N / (sqf N 1000 * sqf N 1000) ≤ N := Nat.div_le_self _ _
        have hqs : qsqrt N = if N / (sqf N 1000 * sqf N 1000) = 1 then ⟨sqf N 1000, 0, 1, 1⟩ else ⟨0, sqf N 1000, 1, (N / (sqf N 1000 * sqf N 1000) : Nat)⟩ := by
          unfold qsqrt; rw [if_neg hz]
        have hmi : ((sqf N 1000 : Nat) : Int) * ((sqf N 1000 : Nat) : Int) = ((sqf N 1000 * sqf N 1000 : Nat) : Int) := by push_cast; rfl
        have hdv : (N : Int) / (((sqf N 1000 : Nat) : Int) * ((sqf N 1000 : Nat) : Int)) = ((N / (sqf N 1000 * sqf N 1000) : Nat) : Int) := by rw [hmi]; rfl
        generalize hQ : sqf N 1000 * sqf N 1000 = Q at *
        generalize hDD : N / Q = DN at *
        generalize sqf N 1000 = FN at *
        have hzb : ((N : Int) == 0) = false := by simp; omega
        have hq1 : (0 : Int) < (FN : Int) * (FN : Int) := by rw [hmi]; omega
        have hq2 : (FN : Int) * (FN : Int) ≤ 1000000 := by rw [hmi]; omega
        have hq3 : (FN : Int) * (FN : Int) ≠ 0 := by omega
        have hFp : (0 : Int) < (FN : Int) := by omega
        have fF : Ft 20 (FN : Int) := by unfold Ft; simp only [Int.natAbs_natCast]; omega
        have hf9 : (FN : Int) ≤ 1000000 := by omega
        by_cases hd1 : DN = 1
        · have HQR : Hid (qreduce (FN : Int) 0 1 1 = (⟨FN, 0, 1, 1⟩ : Qn)) := by unfold Hid; rw [qreduce_one]; simp
          have HQS := Hid.mk hqs
          rw [if_pos hd1] at HQS
          rw [HQS.out]
          have hdd : ((DN : Int) == 1) = true := by simp [hd1]
          rw [hd1] at hdv
          clear hmi hqs hr hle hF1 hQ hDD hd1
          go_wp2_with fail
          refine (HSQ.out _).mono ?_
          rintro e w5 ⟨rfl, hk5⟩
          replace BE := BE.keep hk5
          replace hkb := hkb.trans' hk5
          go_wp2_with fail
          refine (of_any (FN : Int) _ (by omega) (by omega)).mono ?_
          rintro e w6 ⟨v6, rfl, hv6, hk6⟩
          obtain ⟨b7, ao7, n7, c7, rfl⟩ := hv6.shape'
          replace BE := BE.keep hk6
          replace hkb := hkb.trans' hk6
          go_wp2_with fail
          refine (of_any 1 _ (by decide) (by decide)).mono ?_
          rintro e w8 ⟨v8, rfl, hv8, hk8⟩
          obtain ⟨b8, ao8, n8, c8, rfl⟩ := hv8.shape'
          go_wp2_with fail
          refine (formed_any (FN : Int) 0 1 1 20 _ _ _ _ (hv6.keep hk8) (in_zero _) hv8 (by decide) (by decide) fF (Ft.zero _) f1).mono ?_
          rintro e w9 ⟨v9, rfl, hv9, hk9⟩
          rw [HQR.out] at hv9
          obtain ⟨b31, ao31, n31, c31, b32, ao32, n32, c32, b33, ao33, n33, c33, rfl, _, _, _⟩ := id hv9
          have BE9 := BE.keep (hk8.trans' hk9)
          have bec9 := BE9.cell
          have bef9 := BE9.frozen
          have bel9 := BE9.lt
          go_wp2_with fail
          refine bodyPost_ret (v := .tuple #[.agg #[.bool b31, .slice ao31 n31 c31, .bool b32, .slice ao32 n32 c32, .bool b33, .slice ao33 n33 c33, .int .i64 (⟨FN, 0, 1, 1⟩ : Qn).d], .int .i64 0, .int .i64 0]) (by simp [results, Try.results36, go_sem, bec9]) rfl ?_
          exact ⟨_, _, rfl, hv9.soft (Sf.set (t := 44) (c := w.heap.size) (o := 6) (y := .int .i64 (⟨FN, 0, 1, 1⟩ : Qn).d) (Sf.set (t := 44) (c := w.heap.size) (o := 5) (y := .slice ao33 n33 c33) (Sf.set (t := 44) (c := w.heap.size) (o := 4) (y := .bool b33) (Sf.set (t := 44) (c := w.heap.size) (o := 3) (y := .slice ao32 n32 c32) (Sf.set (t := 44) (c := w.heap.size) (o := 2) (y := .bool b32) (Sf.set (t := 44) (c := w.heap.size) (o := 1) (y := .slice ao31 n31 c31) (Sf.set (t := 44) (c := w.heap.size) (o := 0) (y := .bool b31) (Sf.refl 3 w9) (by first | (simp only [elemOf_setCell]; exact BE9.elem) | exact BE9.elem) (by decide)) (by first | (simp only [elemOf_setCell]; exact BE9.elem) | exact BE9.elem) (by decide)) (by first | (simp only [elemOf_setCell]; exact BE9.elem) | exact BE9.elem) (by decide)) (by first | (simp only [elemOf_setCell]; exact BE9.elem) | exact BE9.elem) (by decide)) (by first | (simp only [elemOf_setCell]; exact BE9.elem) | exact BE9.elem) (by decide)) (by first | (simp only [elemOf_setCell]; exact BE9.elem) | exact BE9.elem) (by decide)) (by first | (simp only [elemOf_setCell]; exact BE9.elem) | exact BE9.elem) (by decide)), fun _ => by show _ = qsqrt (decN t).toNat; rw [HNT.out, HQS.out], (Below.setCell (Below.setCell (Below.setCell (Below.setCell (Below.setCell (Below.setCell (Below.setCell (hkb.trans' (hk8.trans' hk9)) (p := ⟨w.heap.size, 0, none⟩) (Nat.le_refl _) (.bool b31)) (p := ⟨w.heap.size, 1, none⟩) (Nat.le_refl _) (.slice ao31 n31 c31)) (p := ⟨w.heap.size, 2, none⟩) (Nat.le_refl _) (.bool b32)) (p := ⟨w.heap.size, 3, none⟩) (Nat.le_refl _) (.slice ao32 n32 c32)) (p := ⟨w.heap.size, 4, none⟩) (Nat.le_refl _) (.bool b33)) (p := ⟨w.heap.size, 5, none⟩) (Nat.le_refl _) (.slice ao33 n33 c33)) (p := ⟨w.heap.size, 6, none⟩) (Nat.le_refl _) (.int .i64 (⟨FN, 0, 1, 1⟩ : Qn).d))⟩
        · have HQR : Hid (qreduce 0 (FN : Int) 1 (DN : Int) = (⟨0, FN, 1, DN⟩ : Qn)) := by
            unfold Hid; rw [qreduce_one, if_neg (by omega)]
          have HQS := Hid.mk hqs
          rw [if_neg hd1] at HQS
          rw [HQS.out]
          have hdd : ((DN : Int) == 1) = false := by simp; omega
          clear hmi hqs hr hle hF1 hQ hDD hd1
          go_wp2_with fail
          refine (HSQ.out _).mono ?_
          rintro e w5 ⟨rfl, hk5⟩
          replace BE := BE.keep hk5
          replace hkb := hkb.trans' hk5
          go_wp2_with fail
          refine (of_any (FN : Int) _ (by omega) (by omega)).mono ?_
          rintro e w6 ⟨v6, rfl, hv6, hk6⟩
          obtain ⟨b7, ao7, n7, c7, rfl⟩ := hv6.shape'
          replace BE := BE.keep hk6
          replace hkb := hkb.trans' hk6
          go_wp2_with fail
          refine (of_any 1 _ (by decide) (by decide)).mono ?_
          rintro e w8 ⟨v8, rfl, hv8, hk8⟩
          obtain ⟨b8, ao8, n8, c8, rfl⟩ := hv8.shape'
          go_wp2_with fail
          refine (formed_any 0 (FN : Int) 1 (DN : Int) 20 _ _ _ _ (in_zero _) (hv6.keep hk8) hv8 (by decide) (by decide) (Ft.zero _) fF f1).mono ?_
          rintro e w9 ⟨v9, rfl, hv9, hk9⟩
          rw [HQR.out] at hv9
          obtain ⟨b31, ao31, n31, c31, b32, ao32, n32, c32, b33, ao33, n33, c33, rfl, _, _, _⟩ := id hv9
          have BE9 := BE.keep (hk8.trans' hk9)
          have bec9 := BE9.cell
          have bef9 := BE9.frozen
          have bel9 := BE9.lt
          go_wp2_with fail
          refine bodyPost_ret (v := .tuple #[.agg #[.bool b31, .slice ao31 n31 c31, .bool b32, .slice ao32 n32 c32, .bool b33, .slice ao33 n33 c33, .int .i64 (⟨0, FN, 1, DN⟩ : Qn).d], .int .i64 0, .int .i64 0]) (by simp [results, Try.results36, go_sem, bec9]) rfl ?_
          exact ⟨_, _, rfl, hv9.soft (Sf.set (t := 44) (c := w.heap.size) (o := 6) (y := .int .i64 (⟨0, FN, 1, DN⟩ : Qn).d) (Sf.set (t := 44) (c := w.heap.size) (o := 5) (y := .slice ao33 n33 c33) (Sf.set (t := 44) (c := w.heap.size) (o := 4) (y := .bool b33) (Sf.set (t := 44) (c := w.heap.size) (o := 3) (y := .slice ao32 n32 c32) (Sf.set (t := 44) (c := w.heap.size) (o := 2) (y := .bool b32) (Sf.set (t := 44) (c := w.heap.size) (o := 1) (y := .slice ao31 n31 c31) (Sf.set (t := 44) (c := w.heap.size) (o := 0) (y := .bool b31) (Sf.refl 3 w9) (by first | (simp only [elemOf_setCell]; exact BE9.elem) | exact BE9.elem) (by decide)) (by first | (simp only [elemOf_setCell]; exact BE9.elem) | exact BE9.elem) (by decide)) (by first | (simp only [elemOf_setCell]; exact BE9.elem) | exact BE9.elem) (by decide)) (by first | (simp only [elemOf_setCell]; exact BE9.elem) | exact BE9.elem) (by decide)) (by first | (simp only [elemOf_setCell]; exact BE9.elem) | exact BE9.elem) (by decide)) (by first | (simp only [elemOf_setCell]; exact BE9.elem) | exact BE9.elem) (by decide)) (by first | (simp only [elemOf_setCell]; exact BE9.elem) | exact BE9.elem) (by decide)), fun _ => by show _ = qsqrt (decN t).toNat; rw [HNT.out, HQS.out], (Below.setCell (Below.setCell (Below.setCell (Below.setCell (Below.setCell (Below.setCell (Below.setCell (hkb.trans' (hk8.trans' hk9)) (p := ⟨w.heap.size, 0, none⟩) (Nat.le_refl _) (.bool b31)) (p := ⟨w.heap.size, 1, none⟩) (Nat.le_refl _) (.slice ao31 n31 c31)) (p := ⟨w.heap.size, 2, none⟩) (Nat.le_refl _) (.bool b32)) (p := ⟨w.heap.size, 3, none⟩) (Nat.le_refl _) (.slice ao32 n32 c32)) (p := ⟨w.heap.size, 4, none⟩) (Nat.le_refl _) (.bool b33)) (p := ⟨w.heap.size, 5, none⟩) (Nat.le_refl _) (.slice ao33 n33 c33)) (p := ⟨w.heap.size, 6, none⟩) (Nat.le_refl _) (.int .i64 (⟨0, FN, 1, DN⟩ : Qn).d))⟩

end Go.Proofs.Ytidcncihdjjmiaa
