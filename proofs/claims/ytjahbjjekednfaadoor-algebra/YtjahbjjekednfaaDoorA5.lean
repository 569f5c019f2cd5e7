import Derived.Test.YtjahbjjekednfaaDoorA4
namespace Go.Proofs.YtjahbjjekednfaaDoor
open Go.RowKit

theorem sz1 (c : UInt8) : ByteArray.size ⟨#[c]⟩ = 1 := rfl
theorem sz2 (c d : UInt8) : ByteArray.size ⟨#[c, d]⟩ = 2 := rfl
def isZ (r : Rs) : Bool := decide (r.e = 0 ∧ r.v.p = 0 ∧ r.v.q = 0)
theorem right_any (s : ByteArray) (r : Rs) (w : World) (ht : Tens w) (h : Rk s r) : Calls Tryd.prog 13 #[.string s] w (RetV w (.tuple #[.bool (decide (r.e = 0)), .bool (isZ r)])) := by
  by_cases he : r.e = 0
  · rw [show isZ r = decide (r.v.p = 0 ∧ r.v.q = 0) by unfold isZ; simp [he], show decide (r.e = 0) = true by simp [he]]
    exact right_yes s r w ht h he
  · rw [show isZ r = false by unfold isZ; simp [he], show decide (r.e = 0) = false by simp [he]]
    exact right_no s r w ht h he

set_option maxHeartbeats 3200000 in
set_option maxRecDepth 100000 in
theorem algebra_off (a b c : ByteArray) (ra rb rc : Rs) (w : World) (ht : Tens w) (h1 : Rk a ra) (h2 : Rk b rb) (h3 : Rk c rc) (he : ¬ (ra.e = 0 ∧ rb.e = 0 ∧ rc.e = 0)) : Calls Tryd.prog 4 #[.string a, .string b, .string c] w (RetV w (.bool true)) := by
  have H1 := fun (W : World) (hT : Tens W) => right_any a ra W hT h1
  have H2 := fun (W : World) (hT : Tens W) => right_any b rb W hT h2
  have H3 := fun (W : World) (hT : Tens W) => right_any c rc W hT h3
  have hx : decide (ra.e = 0) = false ∨ decide (rb.e = 0) = false ∨ decide (rc.e = 0) = false := by
    simp only [decide_eq_false_iff_not]
    omega
  generalize decide (ra.e = 0) = x at *
  generalize decide (rb.e = 0) = y at *
  generalize decide (rc.e = 0) = z at *
  generalize isZ ra = xz at *
  generalize isZ rb = yz at *
  generalize isZ rc = zz at *
  clear h1 h2 h3 he
  have kw : Kp w w := Below.refl _ _
  go_enter Tryd.func4, Tryd.ntmps4
  go_wp2_with fail
  refine (alive_any _ (ht.keep kw)).mono ?_
  rintro e w1 ⟨rfl, hk1⟩
  replace kw := kw.trans' hk1
  clear hk1
  go_wp2_with fail
  refine (H1 _ (ht.keep kw)).mono ?_
  rintro e w2 ⟨rfl, hk2⟩
  replace kw := kw.trans' hk2
  clear hk2
  go_wp2_with fail
  refine (H2 _ (ht.keep kw)).mono ?_
  rintro e w3 ⟨rfl, hk3⟩
  replace kw := kw.trans' hk3
  clear hk3
  go_wp2_with fail
  refine (H3 _ (ht.keep kw)).mono ?_
  rintro e w4 ⟨rfl, hk4⟩
  replace kw := kw.trans' hk4
  clear hk4
  cases x
  · go_wp2_with fail
    go_ret
    exact ⟨rfl, kw⟩
  · cases y
    · go_wp2_with fail
      go_ret
      exact ⟨rfl, kw⟩
    · cases z
      · go_wp2_with fail
        go_ret
        exact ⟨rfl, kw⟩
      · simp at hx

set_option maxHeartbeats 6400000 in
set_option maxRecDepth 100000 in
theorem algebra_on (a b c : ByteArray) (ra rb rc : Rs) (w : World) (ht : Tens w) (h1 : Rk a ra) (h2 : Rk b rb) (h3 : Rk c rc) (e1 : ra.e = 0) (e2 : rb.e = 0) (e3 : rc.e = 0) : Calls Tryd.prog 4 #[.string a, .string b, .string c] w (RetV w (.bool true)) := by
  have H1 := fun (W : World) (hT : Tens W) => right_any a ra W hT h1
  have H2 := fun (W : World) (hT : Tens W) => right_any b rb W hT h2
  have H3 := fun (W : World) (hT : Tens W) => right_any c rc W hT h3
  rw [show decide (ra.e = 0) = true by simp [e1]] at H1
  rw [show decide (rb.e = 0) = true by simp [e2]] at H2
  rw [show decide (rc.e = 0) = true by simp [e3]] at H3
  have sa := (rk_read h1 e1).2.1
  have sb := (rk_read h2 e2).2.1
  have sc := (rk_read h3 e3).2.1
  have zA := inB_size a
  have zB := inB_size b
  have zC := inB_size c
  have T1 := t_sums h1 h2 e1 e2
  have T2 := t_products h1 h2 e1 e2
  have T3 := t_three h1 h2 h3 e1 e2 e3
  have T4 := t_also h1 h2 h3 e1 e2 e3
  have T5 := t_apart h1 h2 h3 e1 e2 e3
  have T6 := t_back h1 h2 e1 e2
  have T7 := t_nought h1 e1
  have T8 := t_minus h1 e1
  have T9 := t_turned h1 e1
  have T10 : isZ rb = false → Agrees (inB a ++ ⟨#[42]⟩ ++ inB b ++ ⟨#[47]⟩ ++ inB b) (inB a) := fun h => t_over h1 h2 e1 e2 (by unfold isZ at h; simp only [decide_eq_false_iff_not] at h; exact fun hh => h ⟨e2, hh.1, hh.2⟩)
  have T11 : isZ ra = false → Is (inB a ++ ⟨#[47]⟩ ++ inB a) 1 := fun h => t_one h1 e1 (by unfold isZ at h; simp only [decide_eq_false_iff_not] at h; exact fun hh => h ⟨e1, hh.1, hh.2⟩)
  have T12 : isZ ra = true → ∃ r, Rk (inB a ++ ⟨#[47]⟩ ++ inB a) r ∧ (r.e = 3 ∨ r.e = 1 ∨ r.e = 2) := fun h => by
    obtain ⟨r, hr⟩ := rk_all (inB a ++ ⟨#[47]⟩ ++ inB a)
    unfold isZ at h
    simp only [decide_eq_true_eq] at h
    exact ⟨r, hr, t_none h1 e1 ⟨h.2.1, h.2.2⟩ hr⟩
  have pA := fun (W : World) => run_string_add_sum (P := Tryd.prog) (w := W) ⟨#[40]⟩ a (by simp only [sz1]; omega)
  have pB := fun (W : World) => run_string_add_sum (P := Tryd.prog) (w := W) ⟨#[40]⟩ b (by simp only [sz1]; omega)
  have pC := fun (W : World) => run_string_add_sum (P := Tryd.prog) (w := W) ⟨#[40]⟩ c (by simp only [sz1]; omega)
  have qA : ∀ W : World, (Op.stringOp .add (⟨#[40]⟩ ++ a) ⟨#[41]⟩).run Tryd.prog W = .ok (.string (inB a)) W := fun W => run_string_add_sum (P := Tryd.prog) (w := W) (⟨#[40]⟩ ++ a) ⟨#[41]⟩ (by simp only [size_app, sz1]; omega)
  have qB : ∀ W : World, (Op.stringOp .add (⟨#[40]⟩ ++ b) ⟨#[41]⟩).run Tryd.prog W = .ok (.string (inB b)) W := fun W => run_string_add_sum (P := Tryd.prog) (w := W) (⟨#[40]⟩ ++ b) ⟨#[41]⟩ (by simp only [size_app, sz1]; omega)
  have qC : ∀ W : World, (Op.stringOp .add (⟨#[40]⟩ ++ c) ⟨#[41]⟩).run Tryd.prog W = .ok (.string (inB c)) W := fun W => run_string_add_sum (P := Tryd.prog) (w := W) (⟨#[40]⟩ ++ c) ⟨#[41]⟩ (by simp only [size_app, sz1]; omega)
  generalize inB a = A at *
  generalize inB b = B at *
  generalize inB c = C at *
  generalize isZ ra = xz at *
  generalize isZ rb = yz at *
  generalize isZ rc = zz at *
  clear h1 h2 h3 e1 e2 e3
  have kw : Kp w w := Below.refl _ _
  go_enter Tryd.func4, Tryd.ntmps4
  go_wp2_with fail
  refine (alive_any _ (ht.keep kw)).mono ?_
  rintro e w1 ⟨rfl, hk1⟩
  replace kw := kw.trans' hk1
  clear hk1
  go_wp2_with fail
  refine (H1 _ (ht.keep kw)).mono ?_
  rintro e w2 ⟨rfl, hk2⟩
  replace kw := kw.trans' hk2
  clear hk2
  go_wp2_with fail
  refine (H2 _ (ht.keep kw)).mono ?_
  rintro e w3 ⟨rfl, hk3⟩
  replace kw := kw.trans' hk3
  clear hk3
  go_wp2_with fail
  refine (H3 _ (ht.keep kw)).mono ?_
  rintro e w4 ⟨rfl, hk4⟩
  replace kw := kw.trans' hk4
  clear hk4
  have ad1 := fun (W : World) => run_string_add_sum (P := Tryd.prog) (w := W) A ⟨#[43]⟩ (by simp only [sz1]; omega)
  have ad2 := fun (W : World) => run_string_add_sum (P := Tryd.prog) (w := W) (A ++ ⟨#[43]⟩) B (by simp only [size_app, sz1]; omega)
  have ad3 := fun (W : World) => run_string_add_sum (P := Tryd.prog) (w := W) B ⟨#[43]⟩ (by simp only [sz1]; omega)
  have ad4 := fun (W : World) => run_string_add_sum (P := Tryd.prog) (w := W) (B ++ ⟨#[43]⟩) A (by simp only [size_app, sz1]; omega)
  go_wp2_with fail
  refine (alike_any _ _ _ (ht.keep kw) T1).mono ?_
  rintro e w5 ⟨rfl, hk5⟩
  replace kw := kw.trans' hk5
  clear hk5 ad1 ad2 ad3 ad4
  clear T1 pA pB pC qA qB qC H1 H2 H3
  have ad5 := fun (W : World) => run_string_add_sum (P := Tryd.prog) (w := W) A ⟨#[42]⟩ (by simp only [sz1]; omega)
  have ad6 := fun (W : World) => run_string_add_sum (P := Tryd.prog) (w := W) (A ++ ⟨#[42]⟩) B (by simp only [size_app, sz1]; omega)
  have ad7 := fun (W : World) => run_string_add_sum (P := Tryd.prog) (w := W) B ⟨#[42]⟩ (by simp only [sz1]; omega)
  have ad8 := fun (W : World) => run_string_add_sum (P := Tryd.prog) (w := W) (B ++ ⟨#[42]⟩) A (by simp only [size_app, sz1]; omega)
  go_wp2_with fail
  refine (alike_any _ _ _ (ht.keep kw) T2).mono ?_
  rintro e w6 ⟨rfl, hk6⟩
  replace kw := kw.trans' hk6
  clear hk6 ad5 ad6 ad7 ad8
  have ad9 := fun (W : World) => run_string_add_sum (P := Tryd.prog) (w := W) A ⟨#[43, 40]⟩ (by simp only [sz2]; omega)
  have ad10 := fun (W : World) => run_string_add_sum (P := Tryd.prog) (w := W) (A ++ ⟨#[43, 40]⟩) B (by simp only [size_app, sz2]; omega)
  have ad11 := fun (W : World) => run_string_add_sum (P := Tryd.prog) (w := W) ((A ++ ⟨#[43, 40]⟩) ++ B) ⟨#[43]⟩ (by simp only [size_app, sz1, sz2]; omega)
  have ad12 := fun (W : World) => run_string_add_sum (P := Tryd.prog) (w := W) (((A ++ ⟨#[43, 40]⟩) ++ B) ++ ⟨#[43]⟩) C (by simp only [size_app, sz1, sz2]; omega)
  have ad13 := fun (W : World) => run_string_add_sum (P := Tryd.prog) (w := W) ((((A ++ ⟨#[43, 40]⟩) ++ B) ++ ⟨#[43]⟩) ++ C) ⟨#[41]⟩ (by simp only [size_app, sz1, sz2]; omega)
  have ad14 := fun (W : World) => run_string_add_sum (P := Tryd.prog) (w := W) A ⟨#[43]⟩ (by simp only [sz1]; omega)
  have ad15 := fun (W : World) => run_string_add_sum (P := Tryd.prog) (w := W) (A ++ ⟨#[43]⟩) B (by simp only [size_app, sz1]; omega)
  have ad16 := fun (W : World) => run_string_add_sum (P := Tryd.prog) (w := W) ((A ++ ⟨#[43]⟩) ++ B) ⟨#[43]⟩ (by simp only [size_app, sz1]; omega)
  have ad17 := fun (W : World) => run_string_add_sum (P := Tryd.prog) (w := W) (((A ++ ⟨#[43]⟩) ++ B) ++ ⟨#[43]⟩) C (by simp only [size_app, sz1]; omega)
  go_wp2_with fail
  refine (agree_any _ _ _ (ht.keep kw) T3).mono ?_
  rintro e w7 ⟨rfl, hk7⟩
  replace kw := kw.trans' hk7
  clear hk7 ad9 ad10 ad11 ad12 ad13 ad14 ad15 ad16 ad17
  have ad18 := fun (W : World) => run_string_add_sum (P := Tryd.prog) (w := W) A ⟨#[42, 40]⟩ (by simp only [sz2]; omega)
  have ad19 := fun (W : World) => run_string_add_sum (P := Tryd.prog) (w := W) (A ++ ⟨#[42, 40]⟩) B (by simp only [size_app, sz2]; omega)
  have ad20 := fun (W : World) => run_string_add_sum (P := Tryd.prog) (w := W) ((A ++ ⟨#[42, 40]⟩) ++ B) ⟨#[42]⟩ (by simp only [size_app, sz1, sz2]; omega)
  have ad21 := fun (W : World) => run_string_add_sum (P := Tryd.prog) (w := W) (((A ++ ⟨#[42, 40]⟩) ++ B) ++ ⟨#[42]⟩) C (by simp only [size_app, sz1, sz2]; omega)
  have ad22 := fun (W : World) => run_string_add_sum (P := Tryd.prog) (w := W) ((((A ++ ⟨#[42, 40]⟩) ++ B) ++ ⟨#[42]⟩) ++ C) ⟨#[41]⟩ (by simp only [size_app, sz1, sz2]; omega)
  have ad23 := fun (W : World) => run_string_add_sum (P := Tryd.prog) (w := W) A ⟨#[42]⟩ (by simp only [sz1]; omega)
  have ad24 := fun (W : World) => run_string_add_sum (P := Tryd.prog) (w := W) (A ++ ⟨#[42]⟩) B (by simp only [size_app, sz1]; omega)
  have ad25 := fun (W : World) => run_string_add_sum (P := Tryd.prog) (w := W) ((A ++ ⟨#[42]⟩) ++ B) ⟨#[42]⟩ (by simp only [size_app, sz1]; omega)
  have ad26 := fun (W : World) => run_string_add_sum (P := Tryd.prog) (w := W) (((A ++ ⟨#[42]⟩) ++ B) ++ ⟨#[42]⟩) C (by simp only [size_app, sz1]; omega)
  go_wp2_with fail
  refine (agree_any _ _ _ (ht.keep kw) T4).mono ?_
  rintro e w8 ⟨rfl, hk8⟩
  replace kw := kw.trans' hk8
  clear hk8 ad18 ad19 ad20 ad21 ad22 ad23 ad24 ad25 ad26
  have ad27 := fun (W : World) => run_string_add_sum (P := Tryd.prog) (w := W) A ⟨#[42, 40]⟩ (by simp only [sz2]; omega)
  have ad28 := fun (W : World) => run_string_add_sum (P := Tryd.prog) (w := W) (A ++ ⟨#[42, 40]⟩) B (by simp only [size_app, sz2]; omega)
  have ad29 := fun (W : World) => run_string_add_sum (P := Tryd.prog) (w := W) ((A ++ ⟨#[42, 40]⟩) ++ B) ⟨#[43]⟩ (by simp only [size_app, sz1, sz2]; omega)
  have ad30 := fun (W : World) => run_string_add_sum (P := Tryd.prog) (w := W) (((A ++ ⟨#[42, 40]⟩) ++ B) ++ ⟨#[43]⟩) C (by simp only [size_app, sz1, sz2]; omega)
  have ad31 := fun (W : World) => run_string_add_sum (P := Tryd.prog) (w := W) ((((A ++ ⟨#[42, 40]⟩) ++ B) ++ ⟨#[43]⟩) ++ C) ⟨#[41]⟩ (by simp only [size_app, sz1, sz2]; omega)
  have ad32 := fun (W : World) => run_string_add_sum (P := Tryd.prog) (w := W) A ⟨#[42]⟩ (by simp only [sz1]; omega)
  have ad33 := fun (W : World) => run_string_add_sum (P := Tryd.prog) (w := W) (A ++ ⟨#[42]⟩) B (by simp only [size_app, sz1]; omega)
  have ad34 := fun (W : World) => run_string_add_sum (P := Tryd.prog) (w := W) ((A ++ ⟨#[42]⟩) ++ B) ⟨#[43]⟩ (by simp only [size_app, sz1]; omega)
  have ad35 := fun (W : World) => run_string_add_sum (P := Tryd.prog) (w := W) (((A ++ ⟨#[42]⟩) ++ B) ++ ⟨#[43]⟩) A (by simp only [size_app, sz1]; omega)
  have ad36 := fun (W : World) => run_string_add_sum (P := Tryd.prog) (w := W) ((((A ++ ⟨#[42]⟩) ++ B) ++ ⟨#[43]⟩) ++ A) ⟨#[42]⟩ (by simp only [size_app, sz1]; omega)
  have ad37 := fun (W : World) => run_string_add_sum (P := Tryd.prog) (w := W) (((((A ++ ⟨#[42]⟩) ++ B) ++ ⟨#[43]⟩) ++ A) ++ ⟨#[42]⟩) C (by simp only [size_app, sz1]; omega)
  go_wp2_with fail
  refine (agree_any _ _ _ (ht.keep kw) T5).mono ?_
  rintro e w9 ⟨rfl, hk9⟩
  replace kw := kw.trans' hk9
  clear hk9 ad27 ad28 ad29 ad30 ad31 ad32 ad33 ad34 ad35 ad36 ad37
  have ad38 := fun (W : World) => run_string_add_sum (P := Tryd.prog) (w := W) A ⟨#[43]⟩ (by simp only [sz1]; omega)
  have ad39 := fun (W : World) => run_string_add_sum (P := Tryd.prog) (w := W) (A ++ ⟨#[43]⟩) B (by simp only [size_app, sz1]; omega)
  have ad40 := fun (W : World) => run_string_add_sum (P := Tryd.prog) (w := W) ((A ++ ⟨#[43]⟩) ++ B) ⟨#[45]⟩ (by simp only [size_app, sz1]; omega)
  have ad41 := fun (W : World) => run_string_add_sum (P := Tryd.prog) (w := W) (((A ++ ⟨#[43]⟩) ++ B) ++ ⟨#[45]⟩) B (by simp only [size_app, sz1]; omega)
  go_wp2_with fail
  refine (agree_any _ _ _ (ht.keep kw) T6).mono ?_
  rintro e w10 ⟨rfl, hk10⟩
  replace kw := kw.trans' hk10
  clear hk10 ad38 ad39 ad40 ad41
  have ad42 := fun (W : World) => run_string_add_sum (P := Tryd.prog) (w := W) A ⟨#[45]⟩ (by simp only [sz1]; omega)
  have ad43 := fun (W : World) => run_string_add_sum (P := Tryd.prog) (w := W) (A ++ ⟨#[45]⟩) A (by simp only [size_app, sz1]; omega)
  go_wp2_with fail
  refine (is_any _ 0 (by decide) (by decide) _ (ht.keep kw) T7).mono ?_
  rintro e w11 ⟨rfl, hk11⟩
  replace kw := kw.trans' hk11
  clear hk11 ad42 ad43
  have ad44 := fun (W : World) => run_string_add_sum (P := Tryd.prog) (w := W) ⟨#[45, 45]⟩ A (by simp only [sz2]; omega)
  go_wp2_with fail
  refine (agree_any _ _ _ (ht.keep kw) T8).mono ?_
  rintro e w12 ⟨rfl, hk12⟩
  replace kw := kw.trans' hk12
  clear hk12 ad44
  have ad45 := fun (W : World) => run_string_add_sum (P := Tryd.prog) (w := W) ⟨#[45]⟩ A (by simp only [sz1]; omega)
  have ad46 := fun (W : World) => run_string_add_sum (P := Tryd.prog) (w := W) ⟨#[48, 45]⟩ A (by simp only [sz2]; omega)
  go_wp2_with fail
  refine (agree_any _ _ _ (ht.keep kw) T9).mono ?_
  rintro e w13 ⟨rfl, hk13⟩
  replace kw := kw.trans' hk13
  clear hk13 ad45 ad46
  clear T2 T3 T4 T5 T6 T7 T8 T9
  cases yz
  · have ad47 := fun (W : World) => run_string_add_sum (P := Tryd.prog) (w := W) A ⟨#[42]⟩ (by simp only [sz1]; omega)
    have ad48 := fun (W : World) => run_string_add_sum (P := Tryd.prog) (w := W) (A ++ ⟨#[42]⟩) B (by simp only [size_app, sz1]; omega)
    have ad49 := fun (W : World) => run_string_add_sum (P := Tryd.prog) (w := W) ((A ++ ⟨#[42]⟩) ++ B) ⟨#[47]⟩ (by simp only [size_app, sz1]; omega)
    have ad50 := fun (W : World) => run_string_add_sum (P := Tryd.prog) (w := W) (((A ++ ⟨#[42]⟩) ++ B) ++ ⟨#[47]⟩) B (by simp only [size_app, sz1]; omega)
    go_wp2_with fail
    refine (agree_any _ _ _ (ht.keep kw) (T10 (by trivial))).mono ?_
    rintro e w14 ⟨rfl, hk14⟩
    replace kw := kw.trans' hk14
    clear hk14 ad47 ad48 ad49 ad50
    cases xz
    · have ad51 := fun (W : World) => run_string_add_sum (P := Tryd.prog) (w := W) A ⟨#[47]⟩ (by simp only [sz1]; omega)
      have ad52 := fun (W : World) => run_string_add_sum (P := Tryd.prog) (w := W) (A ++ ⟨#[47]⟩) A (by simp only [size_app, sz1]; omega)
      go_wp2_with fail
      refine (is_any _ 1 (by decide) (by decide) _ (ht.keep kw) (T11 (by trivial))).mono ?_
      rintro e w15 ⟨rfl, hk15⟩
      replace kw := kw.trans' hk15
      clear hk15 ad51 ad52
      go_wp2_with fail
      go_ret
      exact ⟨rfl, kw⟩
    · obtain ⟨r, hr, he⟩ := T12 rfl
      obtain ⟨s1, s2, s3, d, hV⟩ := valV_parts r
      have H4 := fun (W : World) (hT : Tens W) => sval_any _ r W hr hT
      rw [hV] at H4
      clear hV hr
      have ad53 := fun (W : World) => run_string_add_sum (P := Tryd.prog) (w := W) A ⟨#[47]⟩ (by simp only [sz1]; omega)
      have ad54 := fun (W : World) => run_string_add_sum (P := Tryd.prog) (w := W) (A ++ ⟨#[47]⟩) A (by simp only [size_app, sz1]; omega)
      go_wp2_with fail
      refine (H4 _ (ht.keep kw)).mono ?_
      rintro e w16 ⟨rfl, hk16⟩
      replace kw := kw.trans' hk16
      clear hk16 ad53 ad54
      clear T10 T11 T12 H4
      generalize r.e = E at *
      rcases he with rfl | rfl | rfl
      · go_wp2_with fail
        go_ret
        exact ⟨rfl, Kp.alloc' kw _⟩
      · go_wp2_with fail
        go_ret
        exact ⟨rfl, Kp.alloc' kw _⟩
      · go_wp2_with fail
        go_ret
        exact ⟨rfl, Kp.alloc' kw _⟩
  · cases xz
    · have ad55 := fun (W : World) => run_string_add_sum (P := Tryd.prog) (w := W) A ⟨#[47]⟩ (by simp only [sz1]; omega)
      have ad56 := fun (W : World) => run_string_add_sum (P := Tryd.prog) (w := W) (A ++ ⟨#[47]⟩) A (by simp only [size_app, sz1]; omega)
      go_wp2_with fail
      refine (is_any _ 1 (by decide) (by decide) _ (ht.keep kw) (T11 (by trivial))).mono ?_
      rintro e w17 ⟨rfl, hk17⟩
      replace kw := kw.trans' hk17
      clear hk17 ad55 ad56
      go_wp2_with fail
      go_ret
      exact ⟨rfl, kw⟩
    · obtain ⟨r, hr, he⟩ := T12 rfl
      obtain ⟨s1, s2, s3, d, hV⟩ := valV_parts r
      have H4 := fun (W : World) (hT : Tens W) => sval_any _ r W hr hT
      rw [hV] at H4
      clear hV hr
      have ad57 := fun (W : World) => run_string_add_sum (P := Tryd.prog) (w := W) A ⟨#[47]⟩ (by simp only [sz1]; omega)
      have ad58 := fun (W : World) => run_string_add_sum (P := Tryd.prog) (w := W) (A ++ ⟨#[47]⟩) A (by simp only [size_app, sz1]; omega)
      go_wp2_with fail
      refine (H4 _ (ht.keep kw)).mono ?_
      rintro e w18 ⟨rfl, hk18⟩
      replace kw := kw.trans' hk18
      clear hk18 ad57 ad58
      clear T10 T11 T12 H4
      generalize r.e = E at *
      rcases he with rfl | rfl | rfl
      · go_wp2_with fail
        go_ret
        exact ⟨rfl, Kp.alloc' kw _⟩
      · go_wp2_with fail
        go_ret
        exact ⟨rfl, Kp.alloc' kw _⟩
      · go_wp2_with fail
        go_ret
        exact ⟨rfl, Kp.alloc' kw _⟩

theorem algebra_any (a b c : ByteArray) (w : World) (ht : Tens w) : Calls Tryd.prog 4 #[.string a, .string b, .string c] w (RetV w (.bool true)) := by
  obtain ⟨ra, h1⟩ := rk_all a
  obtain ⟨rb, h2⟩ := rk_all b
  obtain ⟨rc, h3⟩ := rk_all c
  by_cases he : ra.e = 0 ∧ rb.e = 0 ∧ rc.e = 0
  · exact algebra_on a b c ra rb rc w ht h1 h2 h3 he.1 he.2.1 he.2.2
  · exact algebra_off a b c ra rb rc w ht h1 h2 h3 he

end Go.Proofs.YtjahbjjekednfaaDoor
