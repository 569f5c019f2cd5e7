import Derived.Test.YtjahbjjekednfaaDoorO4
import Derived.Test.YtjahbjjekednfaaDoorA3
import Derived.Test.YtjahbjjekednfaaDoorC9
namespace Go.Proofs.YtjahbjjekednfaaDoor
open Go.RowKit

theorem sz1' (c : UInt8) : ByteArray.size ⟨#[c]⟩ = 1 := rfl
theorem sz3 (c d e : UInt8) : ByteArray.size ⟨#[c, d, e]⟩ = 3 := rfl
/-- "(" + a + ")-(" + b + ")" -/
def dif (a b : ByteArray) : ByteArray := ⟨#[40]⟩ ++ a ++ ⟨#[41, 45, 40]⟩ ++ b ++ ⟨#[41]⟩
theorem dif_rk {a b : ByteArray} {ra rb r : Rs} (h1 : Rk a ra) (h2 : Rk b rb) (e1 : ra.e = 0) (e2 : rb.e = 0) (h : Rk (dif a b) r) (he : r.e = 0) : r.v = (opX 45 (ra.v, 0) (rb.v, 0)).1 ∧ (opX 45 (ra.v, 0) (rb.v, 0)).2 = 0 := by
  have g : Gv (Sm 9) (bl (dif a b)) (opX 45 (ra.v, 0) (rb.v, 0)) := by
    have := Gv.op (c := 45) (F := Pd 9) (ops := addOp) (Or.inr rfl) (p2s (f2p (gv_inB h1 e1 0))) (f2p (gv_inB h2 e2 0))
    rw [show bl (dif a b) = bl (inB a) ++ 45 :: bl (inB b) by unfold dif inB; simp only [bl_app]; simp [bl]]
    exact this
  rcases rk_gv h g with ⟨g1, _⟩ | ⟨g1, _⟩ | ⟨_, _, g1, g2⟩
  · omega
  · omega
  · exact ⟨g2 he, by omega⟩
theorem nought_rk {r : Rs} (h : Rk ⟨#[48]⟩ r) : r.e = 0 ∧ r.v = ⟨0, 0, 1, 1⟩ := by
  have g : Gv (Sm 8) (bl ⟨#[48]⟩) (⟨0, 0, 1, 1⟩, 0) := p2s (f2p Gv.nought)
  rcases rk_gv h g with ⟨_, g1⟩ | ⟨_, _, g1⟩ | ⟨_, _, g1, g2⟩
  · exact absurd g1 (by decide)
  · exact absurd g1 (by rw [show plFault ⟨#[48]⟩ 0 (ByteArray.size ⟨#[48]⟩) = -1 by kernel_rfl]; decide)
  · exact ⟨g1, g2 g1⟩
theorem out_first {o : Int} {r1 r2 : Rs} (h : r1.e ≠ 0) : cmpOut o r1 r2 = (0, r1.e) := if_pos h
theorem out_second {o : Int} {r1 r2 : Rs} (h : r1.e = 0) (k : r2.e ≠ 0) : cmpOut o r1 r2 = (0, r2.e) := by unfold cmpOut; rw [if_neg (by omega), if_pos k]
theorem out_both {o : Int} {r1 r2 : Rs} (h : r1.e = 0) (k : r2.e = 0) : cmpOut o r1 r2 = (o, 0) := by unfold cmpOut; rw [if_neg (by omega), if_neg (by omega)]

set_option maxHeartbeats 3200000 in
set_option maxRecDepth 100000 in
theorem ordered_off (a b c : ByteArray) (ra rb : Rs) (w : World) (ht : Tens w) (h1 : Rk a ra) (h2 : Rk b rb) (he : ¬ (ra.e = 0 ∧ rb.e = 0)) : Calls Tryd.prog 5 #[.string a, .string b, .string c] w (RetV w (.bool true)) := by
  have H1 := fun (W : World) => scompare_any a b ra rb W h1 h2
  have H2 := fun (W : World) => scompare_any b a rb ra W h2 h1
  have H3 := fun (W : World) => check_any a ra W h1
  have H4 := fun (W : World) => check_any b rb W h2
  have kw : Kp w w := Below.refl _ _
  by_cases e1 : ra.e = 0
  · have e2 : rb.e ≠ 0 := by omega
    rw [out_second e1 e2] at H1
    rw [out_first e2] at H2
    have x1 : (ra.e == 0) = true := by simp [e1]
    have x2 : (rb.e == 0) = false := by simp [e2]
    have x3 : (rb.e != 0) = true := by simp [e2]
    rw [e1] at H3
    generalize rb.e = E at *
    clear h1 h2 he e1 e2 x1
    go_enter Tryd.func5, Tryd.ntmps5
    go_wp2_with fail
    refine (alive_any _ (ht.keep kw)).mono ?_
    rintro e w1 ⟨rfl, hk1⟩
    replace kw := kw.trans' hk1
    clear hk1
    go_wp2_with fail
    refine (H1 _).mono ?_
    rintro e w2 ⟨rfl, hk2⟩
    replace kw := kw.trans' hk2
    clear hk2
    go_wp2_with fail
    refine (H2 _).mono ?_
    rintro e w3 ⟨rfl, hk3⟩
    replace kw := kw.trans' hk3
    clear hk3
    go_wp2_with fail
    refine (H3 _).mono ?_
    rintro e w4 ⟨rfl, hk4⟩
    replace kw := kw.trans' hk4
    clear hk4
    go_wp2_with fail
    refine (H4 _).mono ?_
    rintro e w5 ⟨rfl, hk5⟩
    replace kw := kw.trans' hk5
    clear hk5
    go_wp2_with fail
    go_ret
    exact ⟨rfl, kw⟩
  · rw [out_first e1] at H1
    have x1 : (ra.e == 0) = false := by simp [e1]
    have x3 : (ra.e != 0) = true := by simp [e1]
    by_cases e2 : rb.e = 0
    · rw [out_second e2 e1] at H2
      rw [e2] at H4
      generalize ra.e = E at *
      clear h1 h2 he e1 e2
      go_enter Tryd.func5, Tryd.ntmps5
      go_wp2_with fail
      refine (alive_any _ (ht.keep kw)).mono ?_
      rintro e w1 ⟨rfl, hk1⟩
      replace kw := kw.trans' hk1
      clear hk1
      go_wp2_with fail
      refine (H1 _).mono ?_
      rintro e w2 ⟨rfl, hk2⟩
      replace kw := kw.trans' hk2
      clear hk2
      go_wp2_with fail
      refine (H2 _).mono ?_
      rintro e w3 ⟨rfl, hk3⟩
      replace kw := kw.trans' hk3
      clear hk3
      go_wp2_with fail
      refine (H3 _).mono ?_
      rintro e w4 ⟨rfl, hk4⟩
      replace kw := kw.trans' hk4
      clear hk4
      go_wp2_with fail
      refine (H4 _).mono ?_
      rintro e w5 ⟨rfl, hk5⟩
      replace kw := kw.trans' hk5
      clear hk5
      go_wp2_with fail
      go_ret
      exact ⟨rfl, kw⟩
    · rw [out_first e2] at H2
      have x2 : (rb.e == 0) = false := by simp [e2]
      generalize ra.e = E at *
      generalize rb.e = G at *
      clear h1 h2 he e1 e2
      go_enter Tryd.func5, Tryd.ntmps5
      go_wp2_with fail
      refine (alive_any _ (ht.keep kw)).mono ?_
      rintro e w1 ⟨rfl, hk1⟩
      replace kw := kw.trans' hk1
      clear hk1
      go_wp2_with fail
      refine (H1 _).mono ?_
      rintro e w2 ⟨rfl, hk2⟩
      replace kw := kw.trans' hk2
      clear hk2
      go_wp2_with fail
      refine (H2 _).mono ?_
      rintro e w3 ⟨rfl, hk3⟩
      replace kw := kw.trans' hk3
      clear hk3
      go_wp2_with fail
      refine (H3 _).mono ?_
      rintro e w4 ⟨rfl, hk4⟩
      replace kw := kw.trans' hk4
      clear hk4
      go_wp2_with fail
      refine (H4 _).mono ?_
      rintro e w5 ⟨rfl, hk5⟩
      replace kw := kw.trans' hk5
      clear hk5
      go_wp2_with fail
      go_ret
      exact ⟨rfl, kw⟩

set_option maxHeartbeats 6400000 in
set_option maxRecDepth 100000 in
theorem ordered_pos (a b c : ByteArray) (w : World) (ht : Tens w) (ea eb j k dv v u : Int) (sa : a.size ≤ 100) (sb : b.size ≤ 100) (hj : j = 0 → dv = 1) (v1 : -1 ≤ v) (v2 : v ≤ 1) (u1 : -1 ≤ u) (u2 : u ≤ 1) (hv : 0 ≤ v → 0 ≤ u)
    (H1 : ∀ W, Calls Tryd.prog 17 #[.string a, .string b] W (RetV W (.tuple #[.int .i64 1, .int .i64 0])))
    (H2 : ∀ W, Calls Tryd.prog 17 #[.string b, .string a] W (RetV W (.tuple #[.int .i64 (-1), .int .i64 0])))
    (H3 : ∀ W, Calls Tryd.prog 18 #[.string a] W (RetV W (.tuple #[.int .i64 0, .int .i64 ea])))
    (H4 : ∀ W, Calls Tryd.prog 18 #[.string b] W (RetV W (.tuple #[.int .i64 0, .int .i64 eb])))
    (H5 : ∀ W, Calls Tryd.prog 17 #[.string a, .string a] W (RetV W (.tuple #[.int .i64 0, .int .i64 0])))
    (H6 : ∀ W, Calls Tryd.prog 17 #[.string (dif a b), .string ⟨#[48]⟩] W (RetV W (.tuple #[.int .i64 dv, .int .i64 j])))
    (H7 : ∀ W, Calls Tryd.prog 17 #[.string b, .string c] W (RetV W (.tuple #[.int .i64 v, .int .i64 k])))
    (H8 : ∀ W, Calls Tryd.prog 17 #[.string a, .string c] W (RetV W (.tuple #[.int .i64 u, .int .i64 k]))) :
    Calls Tryd.prog 5 #[.string a, .string b, .string c] w (RetV w (.bool true)) := by
  have qD : ∀ W : World, (Op.stringOp .add (⟨#[40]⟩ ++ a ++ ⟨#[41, 45, 40]⟩ ++ b) ⟨#[41]⟩).run Tryd.prog W = .ok (.string (dif a b)) W := fun W => by
    unfold dif
    refine run_string_add_sum (P := Tryd.prog) (w := W) _ _ ?_
    simp only [size_app, sz1', sz3]
    omega
  generalize dif a b = D at *
  have kw : Kp w w := Below.refl _ _
  have HV : Hid (-1 ≤ v ∧ v ≤ 1 ∧ -1 ≤ u ∧ u ≤ 1 ∧ (0 ≤ v → 0 ≤ u)) := Hid.mk ⟨v1, v2, u1, u2, hv⟩
  clear v1 v2 u1 u2 hv
  go_enter Tryd.func5, Tryd.ntmps5
  go_wp2_with fail
  refine (alive_any _ (ht.keep kw)).mono ?_
  rintro e w1 ⟨rfl, hk1⟩
  replace kw := kw.trans' hk1
  clear hk1
  go_wp2_with fail
  refine (H1 _).mono ?_
  rintro e w2 ⟨rfl, hk2⟩
  replace kw := kw.trans' hk2
  clear hk2
  go_wp2_with fail
  refine (H2 _).mono ?_
  rintro e w3 ⟨rfl, hk3⟩
  replace kw := kw.trans' hk3
  clear hk3
  go_wp2_with fail
  refine (H3 _).mono ?_
  rintro e w4 ⟨rfl, hk4⟩
  replace kw := kw.trans' hk4
  clear hk4
  go_wp2_with fail
  refine (H4 _).mono ?_
  rintro e w5 ⟨rfl, hk5⟩
  replace kw := kw.trans' hk5
  clear hk5
  go_wp2_with fail
  refine (H5 _).mono ?_
  rintro e w6 ⟨rfl, hk6⟩
  replace kw := kw.trans' hk6
  clear hk6
  have ad1 := fun (W : World) => run_string_add_sum (P := Tryd.prog) (w := W) ⟨#[40]⟩ a (by simp only [sz1']; omega)
  have ad2 := fun (W : World) => run_string_add_sum (P := Tryd.prog) (w := W) (⟨#[40]⟩ ++ a) ⟨#[41, 45, 40]⟩ (by simp only [size_app, sz1', sz3]; omega)
  have ad3 := fun (W : World) => run_string_add_sum (P := Tryd.prog) (w := W) (⟨#[40]⟩ ++ a ++ ⟨#[41, 45, 40]⟩) b (by simp only [size_app, sz1', sz3]; omega)
  go_wp2_with fail
  refine (H6 _).mono ?_
  rintro e w7 ⟨rfl, hk7⟩
  replace kw := kw.trans' hk7
  clear hk7
  clear ad1 ad2 ad3
  clear H1 H2 H3 H4 H5 H6 qD
  by_cases hj0 : j = 0
  · obtain rfl := hj hj0
    subst hj0
    clear hj
    go_wp2_with fail
    refine (H7 _).mono ?_
    rintro e w8 ⟨rfl, hk8⟩
    replace kw := kw.trans' hk8
    clear hk8
    go_wp2_with fail
    refine (H8 _).mono ?_
    rintro e w9 ⟨rfl, hk9⟩
    replace kw := kw.trans' hk9
    clear hk9
    clear H7 H8
    by_cases hk : k = 0
    · subst hk
      obtain ⟨v1, v2, u1, u2, hh⟩ := HV.out
      clear HV
      have hv3 : v = -1 ∨ v = 0 ∨ v = 1 := by omega
      have hu3 : u = -1 ∨ u = 0 ∨ u = 1 := by omega
      clear v1 v2 u1 u2
      rcases hv3 with rfl | rfl | rfl <;> rcases hu3 with rfl | rfl | rfl <;> first | (exfalso; omega) | (clear hh; go_wp2_with fail; go_ret; exact ⟨rfl, kw⟩)
    · have x1 : (k != 0) = true := by simp [hk]
      clear HV hk
      go_wp2_with fail
      go_ret
      exact ⟨rfl, kw⟩
  · have y1 : (j == 0) = false := by simp [hj0]
    clear hj hj0
    go_wp2_with fail
    refine (H7 _).mono ?_
    rintro e w8 ⟨rfl, hk8⟩
    replace kw := kw.trans' hk8
    clear hk8
    go_wp2_with fail
    refine (H8 _).mono ?_
    rintro e w9 ⟨rfl, hk9⟩
    replace kw := kw.trans' hk9
    clear hk9
    clear H7 H8
    by_cases hk : k = 0
    · subst hk
      obtain ⟨v1, v2, u1, u2, hh⟩ := HV.out
      clear HV
      have hv3 : v = -1 ∨ v = 0 ∨ v = 1 := by omega
      have hu3 : u = -1 ∨ u = 0 ∨ u = 1 := by omega
      clear v1 v2 u1 u2
      rcases hv3 with rfl | rfl | rfl <;> rcases hu3 with rfl | rfl | rfl <;> first | (exfalso; omega) | (clear hh; go_wp2_with fail; go_ret; exact ⟨rfl, kw⟩)
    · have x1 : (k != 0) = true := by simp [hk]
      clear HV hk
      go_wp2_with fail
      go_ret
      exact ⟨rfl, kw⟩

set_option maxHeartbeats 6400000 in
set_option maxRecDepth 100000 in
theorem ordered_min (a b c : ByteArray) (w : World) (ht : Tens w) (ea eb j k dv v u : Int) (sa : a.size ≤ 100) (sb : b.size ≤ 100) (hj : j = 0 → dv = (-1)) (v1 : -1 ≤ v) (v2 : v ≤ 1) (u1 : -1 ≤ u) (u2 : u ≤ 1) (hv : v ≤ 0 → u ≤ 0)
    (H1 : ∀ W, Calls Tryd.prog 17 #[.string a, .string b] W (RetV W (.tuple #[.int .i64 (-1), .int .i64 0])))
    (H2 : ∀ W, Calls Tryd.prog 17 #[.string b, .string a] W (RetV W (.tuple #[.int .i64 (1), .int .i64 0])))
    (H3 : ∀ W, Calls Tryd.prog 18 #[.string a] W (RetV W (.tuple #[.int .i64 0, .int .i64 ea])))
    (H4 : ∀ W, Calls Tryd.prog 18 #[.string b] W (RetV W (.tuple #[.int .i64 0, .int .i64 eb])))
    (H5 : ∀ W, Calls Tryd.prog 17 #[.string a, .string a] W (RetV W (.tuple #[.int .i64 0, .int .i64 0])))
    (H6 : ∀ W, Calls Tryd.prog 17 #[.string (dif a b), .string ⟨#[48]⟩] W (RetV W (.tuple #[.int .i64 dv, .int .i64 j])))
    (H7 : ∀ W, Calls Tryd.prog 17 #[.string b, .string c] W (RetV W (.tuple #[.int .i64 v, .int .i64 k])))
    (H8 : ∀ W, Calls Tryd.prog 17 #[.string a, .string c] W (RetV W (.tuple #[.int .i64 u, .int .i64 k]))) :
    Calls Tryd.prog 5 #[.string a, .string b, .string c] w (RetV w (.bool true)) := by
  have qD : ∀ W : World, (Op.stringOp .add (⟨#[40]⟩ ++ a ++ ⟨#[41, 45, 40]⟩ ++ b) ⟨#[41]⟩).run Tryd.prog W = .ok (.string (dif a b)) W := fun W => by
    unfold dif
    refine run_string_add_sum (P := Tryd.prog) (w := W) _ _ ?_
    simp only [size_app, sz1', sz3]
    omega
  generalize dif a b = D at *
  have kw : Kp w w := Below.refl _ _
  have HV : Hid (-1 ≤ v ∧ v ≤ 1 ∧ -1 ≤ u ∧ u ≤ 1 ∧ (v ≤ 0 → u ≤ 0)) := Hid.mk ⟨v1, v2, u1, u2, hv⟩
  clear v1 v2 u1 u2 hv
  go_enter Tryd.func5, Tryd.ntmps5
  go_wp2_with fail
  refine (alive_any _ (ht.keep kw)).mono ?_
  rintro e w1 ⟨rfl, hk1⟩
  replace kw := kw.trans' hk1
  clear hk1
  go_wp2_with fail
  refine (H1 _).mono ?_
  rintro e w2 ⟨rfl, hk2⟩
  replace kw := kw.trans' hk2
  clear hk2
  go_wp2_with fail
  refine (H2 _).mono ?_
  rintro e w3 ⟨rfl, hk3⟩
  replace kw := kw.trans' hk3
  clear hk3
  go_wp2_with fail
  refine (H3 _).mono ?_
  rintro e w4 ⟨rfl, hk4⟩
  replace kw := kw.trans' hk4
  clear hk4
  go_wp2_with fail
  refine (H4 _).mono ?_
  rintro e w5 ⟨rfl, hk5⟩
  replace kw := kw.trans' hk5
  clear hk5
  go_wp2_with fail
  refine (H5 _).mono ?_
  rintro e w6 ⟨rfl, hk6⟩
  replace kw := kw.trans' hk6
  clear hk6
  have ad1 := fun (W : World) => run_string_add_sum (P := Tryd.prog) (w := W) ⟨#[40]⟩ a (by simp only [sz1']; omega)
  have ad2 := fun (W : World) => run_string_add_sum (P := Tryd.prog) (w := W) (⟨#[40]⟩ ++ a) ⟨#[41, 45, 40]⟩ (by simp only [size_app, sz1', sz3]; omega)
  have ad3 := fun (W : World) => run_string_add_sum (P := Tryd.prog) (w := W) (⟨#[40]⟩ ++ a ++ ⟨#[41, 45, 40]⟩) b (by simp only [size_app, sz1', sz3]; omega)
  go_wp2_with fail
  refine (H6 _).mono ?_
  rintro e w7 ⟨rfl, hk7⟩
  replace kw := kw.trans' hk7
  clear hk7
  clear ad1 ad2 ad3
  clear H1 H2 H3 H4 H5 H6 qD
  by_cases hj0 : j = 0
  · obtain rfl := hj hj0
    subst hj0
    clear hj
    go_wp2_with fail
    refine (H7 _).mono ?_
    rintro e w8 ⟨rfl, hk8⟩
    replace kw := kw.trans' hk8
    clear hk8
    go_wp2_with fail
    refine (H8 _).mono ?_
    rintro e w9 ⟨rfl, hk9⟩
    replace kw := kw.trans' hk9
    clear hk9
    clear H7 H8
    by_cases hk : k = 0
    · subst hk
      obtain ⟨v1, v2, u1, u2, hh⟩ := HV.out
      clear HV
      have hv3 : v = -1 ∨ v = 0 ∨ v = 1 := by omega
      have hu3 : u = -1 ∨ u = 0 ∨ u = 1 := by omega
      clear v1 v2 u1 u2
      rcases hv3 with rfl | rfl | rfl <;> rcases hu3 with rfl | rfl | rfl <;> first | (exfalso; omega) | (clear hh; go_wp2_with fail; go_ret; exact ⟨rfl, kw⟩)
    · have x1 : (k != 0) = true := by simp [hk]
      clear HV hk
      go_wp2_with fail
      go_ret
      exact ⟨rfl, kw⟩
  · have y1 : (j == 0) = false := by simp [hj0]
    clear hj hj0
    go_wp2_with fail
    refine (H7 _).mono ?_
    rintro e w8 ⟨rfl, hk8⟩
    replace kw := kw.trans' hk8
    clear hk8
    go_wp2_with fail
    refine (H8 _).mono ?_
    rintro e w9 ⟨rfl, hk9⟩
    replace kw := kw.trans' hk9
    clear hk9
    clear H7 H8
    by_cases hk : k = 0
    · subst hk
      obtain ⟨v1, v2, u1, u2, hh⟩ := HV.out
      clear HV
      have hv3 : v = -1 ∨ v = 0 ∨ v = 1 := by omega
      have hu3 : u = -1 ∨ u = 0 ∨ u = 1 := by omega
      clear v1 v2 u1 u2
      rcases hv3 with rfl | rfl | rfl <;> rcases hu3 with rfl | rfl | rfl <;> first | (exfalso; omega) | (clear hh; go_wp2_with fail; go_ret; exact ⟨rfl, kw⟩)
    · have x1 : (k != 0) = true := by simp [hk]
      clear HV hk
      go_wp2_with fail
      go_ret
      exact ⟨rfl, kw⟩

set_option maxHeartbeats 6400000 in
set_option maxRecDepth 100000 in
theorem ordered_nil (a b c : ByteArray) (w : World) (ht : Tens w) (ea eb j k dv v u : Int) (sa : a.size ≤ 100) (sb : b.size ≤ 100) (hj : j = 0 → dv = 0) (v1 : -1 ≤ v) (v2 : v ≤ 1) (u1 : -1 ≤ u) (u2 : u ≤ 1) (hv : v ≤ 0 → u ≤ 0) (hw : 0 ≤ v → 0 ≤ u)
    (H1 : ∀ W, Calls Tryd.prog 17 #[.string a, .string b] W (RetV W (.tuple #[.int .i64 0, .int .i64 0])))
    (H2 : ∀ W, Calls Tryd.prog 17 #[.string b, .string a] W (RetV W (.tuple #[.int .i64 (0), .int .i64 0])))
    (H3 : ∀ W, Calls Tryd.prog 18 #[.string a] W (RetV W (.tuple #[.int .i64 0, .int .i64 ea])))
    (H4 : ∀ W, Calls Tryd.prog 18 #[.string b] W (RetV W (.tuple #[.int .i64 0, .int .i64 eb])))
    (H5 : ∀ W, Calls Tryd.prog 17 #[.string a, .string a] W (RetV W (.tuple #[.int .i64 0, .int .i64 0])))
    (H6 : ∀ W, Calls Tryd.prog 17 #[.string (dif a b), .string ⟨#[48]⟩] W (RetV W (.tuple #[.int .i64 dv, .int .i64 j])))
    (H7 : ∀ W, Calls Tryd.prog 17 #[.string b, .string c] W (RetV W (.tuple #[.int .i64 v, .int .i64 k])))
    (H8 : ∀ W, Calls Tryd.prog 17 #[.string a, .string c] W (RetV W (.tuple #[.int .i64 u, .int .i64 k]))) :
    Calls Tryd.prog 5 #[.string a, .string b, .string c] w (RetV w (.bool true)) := by
  have qD : ∀ W : World, (Op.stringOp .add (⟨#[40]⟩ ++ a ++ ⟨#[41, 45, 40]⟩ ++ b) ⟨#[41]⟩).run Tryd.prog W = .ok (.string (dif a b)) W := fun W => by
    unfold dif
    refine run_string_add_sum (P := Tryd.prog) (w := W) _ _ ?_
    simp only [size_app, sz1', sz3]
    omega
  generalize dif a b = D at *
  have kw : Kp w w := Below.refl _ _
  have HV : Hid (-1 ≤ v ∧ v ≤ 1 ∧ -1 ≤ u ∧ u ≤ 1 ∧ (v ≤ 0 → u ≤ 0) ∧ (0 ≤ v → 0 ≤ u)) := Hid.mk ⟨v1, v2, u1, u2, hv, hw⟩
  clear v1 v2 u1 u2 hv hw
  go_enter Tryd.func5, Tryd.ntmps5
  go_wp2_with fail
  refine (alive_any _ (ht.keep kw)).mono ?_
  rintro e w1 ⟨rfl, hk1⟩
  replace kw := kw.trans' hk1
  clear hk1
  go_wp2_with fail
  refine (H1 _).mono ?_
  rintro e w2 ⟨rfl, hk2⟩
  replace kw := kw.trans' hk2
  clear hk2
  go_wp2_with fail
  refine (H2 _).mono ?_
  rintro e w3 ⟨rfl, hk3⟩
  replace kw := kw.trans' hk3
  clear hk3
  go_wp2_with fail
  refine (H3 _).mono ?_
  rintro e w4 ⟨rfl, hk4⟩
  replace kw := kw.trans' hk4
  clear hk4
  go_wp2_with fail
  refine (H4 _).mono ?_
  rintro e w5 ⟨rfl, hk5⟩
  replace kw := kw.trans' hk5
  clear hk5
  go_wp2_with fail
  refine (H5 _).mono ?_
  rintro e w6 ⟨rfl, hk6⟩
  replace kw := kw.trans' hk6
  clear hk6
  have ad1 := fun (W : World) => run_string_add_sum (P := Tryd.prog) (w := W) ⟨#[40]⟩ a (by simp only [sz1']; omega)
  have ad2 := fun (W : World) => run_string_add_sum (P := Tryd.prog) (w := W) (⟨#[40]⟩ ++ a) ⟨#[41, 45, 40]⟩ (by simp only [size_app, sz1', sz3]; omega)
  have ad3 := fun (W : World) => run_string_add_sum (P := Tryd.prog) (w := W) (⟨#[40]⟩ ++ a ++ ⟨#[41, 45, 40]⟩) b (by simp only [size_app, sz1', sz3]; omega)
  go_wp2_with fail
  refine (H6 _).mono ?_
  rintro e w7 ⟨rfl, hk7⟩
  replace kw := kw.trans' hk7
  clear hk7
  clear ad1 ad2 ad3
  clear H1 H2 H3 H4 H5 H6 qD
  by_cases hj0 : j = 0
  · obtain rfl := hj hj0
    subst hj0
    clear hj
    go_wp2_with fail
    refine (H7 _).mono ?_
    rintro e w8 ⟨rfl, hk8⟩
    replace kw := kw.trans' hk8
    clear hk8
    go_wp2_with fail
    refine (H8 _).mono ?_
    rintro e w9 ⟨rfl, hk9⟩
    replace kw := kw.trans' hk9
    clear hk9
    clear H7 H8
    by_cases hk : k = 0
    · subst hk
      obtain ⟨v1, v2, u1, u2, hh⟩ := HV.out
      clear HV
      have hv3 : v = -1 ∨ v = 0 ∨ v = 1 := by omega
      have hu3 : u = -1 ∨ u = 0 ∨ u = 1 := by omega
      clear v1 v2 u1 u2
      rcases hv3 with rfl | rfl | rfl <;> rcases hu3 with rfl | rfl | rfl <;> first | (exfalso; omega) | (clear hh; go_wp2_with fail; go_ret; exact ⟨rfl, kw⟩)
    · have x1 : (k != 0) = true := by simp [hk]
      clear HV hk
      go_wp2_with fail
      go_ret
      exact ⟨rfl, kw⟩
  · have y1 : (j == 0) = false := by simp [hj0]
    clear hj hj0
    go_wp2_with fail
    refine (H7 _).mono ?_
    rintro e w8 ⟨rfl, hk8⟩
    replace kw := kw.trans' hk8
    clear hk8
    go_wp2_with fail
    refine (H8 _).mono ?_
    rintro e w9 ⟨rfl, hk9⟩
    replace kw := kw.trans' hk9
    clear hk9
    clear H7 H8
    by_cases hk : k = 0
    · subst hk
      obtain ⟨v1, v2, u1, u2, hh⟩ := HV.out
      clear HV
      have hv3 : v = -1 ∨ v = 0 ∨ v = 1 := by omega
      have hu3 : u = -1 ∨ u = 0 ∨ u = 1 := by omega
      clear v1 v2 u1 u2
      rcases hv3 with rfl | rfl | rfl <;> rcases hu3 with rfl | rfl | rfl <;> first | (exfalso; omega) | (clear hh; go_wp2_with fail; go_ret; exact ⟨rfl, kw⟩)
    · have x1 : (k != 0) = true := by simp [hk]
      clear HV hk
      go_wp2_with fail
      go_ret
      exact ⟨rfl, kw⟩

theorem ordered_any (a b c : ByteArray) (w : World) (ht : Tens w) : Calls Tryd.prog 5 #[.string a, .string b, .string c] w (RetV w (.bool true)) := by
  obtain ⟨ra, h1⟩ := rk_all a
  obtain ⟨rb, h2⟩ := rk_all b
  obtain ⟨rc, h3⟩ := rk_all c
  obtain ⟨rd, h4⟩ := rk_all (dif a b)
  obtain ⟨rz, h5⟩ := rk_all ⟨#[48]⟩
  by_cases he : ra.e = 0 ∧ rb.e = 0
  · obtain ⟨e1, e2⟩ := he
    obtain ⟨z1, z2⟩ := nought_rk h5
    have ca := rk_cn h1 e1
    have cb := rk_cn h2 e2
    have sa := (rk_read h1 e1).2.1
    have sb := (rk_read h2 e2).2.1
    have H1 := fun (W : World) => scompare_any a b ra rb W h1 h2
    have H2 := fun (W : World) => scompare_any b a rb ra W h2 h1
    have H3 := fun (W : World) => check_any a ra W h1
    have H4 := fun (W : World) => check_any b rb W h2
    have H5 := fun (W : World) => scompare_any a a ra ra W h1 h1
    have H6 := fun (W : World) => scompare_any (dif a b) ⟨#[48]⟩ rd rz W h4 h5
    have H7 := fun (W : World) => scompare_any b c rb rc W h2 h3
    have H8 := fun (W : World) => scompare_any a c ra rc W h1 h3
    rw [out_both e1 e2] at H1
    rw [out_both e2 e1, cmp_flip cb ca] at H2
    rw [e1] at H3
    rw [e2] at H4
    rw [out_both e1 e1, cmp_self ca] at H5
    have hd : (cmpOut (qcmp rd.v rz.v) rd rz).2 = 0 → (cmpOut (qcmp rd.v rz.v) rd rz).1 = qcmp ra.v rb.v := by
      intro h
      by_cases hd : rd.e = 0
      · rw [out_both hd z1]
        obtain ⟨g1, g2⟩ := dif_rk h1 h2 e1 e2 h4 hd
        show qcmp rd.v rz.v = _
        rw [g1, z2, cmp_diff ca cb g2]
      · rw [out_first hd] at h
        exact absurd h hd
    obtain ⟨k, v, u, v1, v2, u1, u2, tv, tu, E7, E8⟩ : ∃ k v u : Int, -1 ≤ v ∧ v ≤ 1 ∧ -1 ≤ u ∧ u ≤ 1 ∧ (qcmp ra.v rb.v ≤ 0 → v ≤ 0 → u ≤ 0) ∧ (0 ≤ qcmp ra.v rb.v → 0 ≤ v → 0 ≤ u) ∧ cmpOut (qcmp rb.v rc.v) rb rc = (v, k) ∧ cmpOut (qcmp ra.v rc.v) ra rc = (u, k) := by
      by_cases e3 : rc.e = 0
      · have cc := rk_cn h3 e3
        have b1 := cmp_sem cb cc
        have b2 := cmp_sem ca cc
        refine ⟨0, _, _, by omega, by omega, by omega, by omega, fun g1 g2 => cmp_trans ca cb cc g1 g2, fun g1 g2 => ?_, out_both e2 e3, out_both e1 e3⟩
        have f1 := cmp_flip ca cb
        have f2 := cmp_flip cb cc
        have f3 := cmp_flip ca cc
        have := cmp_trans cc cb ca (by omega) (by omega)
        omega
      · exact ⟨rc.e, 0, 0, by omega, by omega, by omega, by omega, fun _ _ => by omega, fun _ _ => by omega, out_second e2 e3, out_second e1 e3⟩
    rw [E7] at H7
    rw [E8] at H8
    rcases cmp_sem ca cb with ⟨g, _⟩ | ⟨g, _⟩ | ⟨g, _⟩
    · rw [g] at H1 H2 hd tv tu
      exact ordered_pos a b c w ht _ _ _ k _ v u sa sb hd v1 v2 u1 u2 (fun h => tu (by decide) h) H1 H2 H3 H4 H5 H6 H7 H8
    · rw [g] at H1 H2 hd tv tu
      exact ordered_min a b c w ht _ _ _ k _ v u sa sb hd v1 v2 u1 u2 (fun h => tv (by decide) h) H1 H2 H3 H4 H5 H6 H7 H8
    · rw [g] at H1 H2 hd tv tu
      exact ordered_nil a b c w ht _ _ _ k _ v u sa sb hd v1 v2 u1 u2 (fun h => tv (by decide) h) (fun h => tu (by decide) h) H1 H2 H3 H4 H5 H6 H7 H8
  · exact ordered_off a b c ra rb w ht h1 h2 he

end Go.Proofs.YtjahbjjekednfaaDoor
