import Derived.Test.YtjahbjjekednfaaDoorSoft
import Derived.Test.YtjahbjjekednfaaDoorC1u
import Derived.Test.YtjahbjjekednfaaDoorH1
import Derived.Test.YtjahbjjekednfaaDoorW8
import Derived.Test.YtjahbjjekednfaaDoorX1
import Derived.Test.YtjahbjjekednfaaDoorSt
namespace Go.Proofs.YtjahbjjekednfaaDoor
open Go.RowKit

theorem Fit.neg {x : Int} (h : Fit x) : Fit (-x) := by
 obtain ⟨n, h1, h2⟩ := h
 exact ⟨n, h1, by rw [Int.natAbs_neg]; exact h2⟩
/-- The greatest whole number that is not above x/y. -/
def fl (x y : Int) : Int := if 0 < y then x / y else (-x) / (-y)
theorem ediv_uni {a b q : Int} (hb : 0 < b) (h1 : q * b ≤ a) (h2 : a < (q + 1) * b) : a / b = q := by
 have k1 := (Int.le_ediv_iff_mul_le hb).2 h1
 have k2 := (Int.ediv_lt_iff_lt_mul hb).2 h2
 omega
theorem fl_uni {x y t : Int} (h : (0 < y ∧ t * y ≤ x ∧ x < t * y + y) ∨ (y < 0 ∧ x ≤ t * y ∧ t * y + y < x)) : fl x y = t := by
 unfold fl
 rcases h with ⟨h0, h1, h2⟩ | ⟨h0, h1, h2⟩
 ·rw [if_pos h0]
  exact ediv_uni h0 h1 (by rw [Int.add_mul, Int.one_mul]; exact h2)
 ·rw [if_neg (by omega)]
  refine ediv_uni (by omega) ?_ ?_
  ·rw [Int.mul_neg]; omega
  ·rw [Int.mul_neg, Int.add_mul, Int.one_mul]; omega
theorem fl_div {x y : Int} (hy : y ≠ 0) : fl x y = if x.tmod y ≠ 0 ∧ (x.tmod y < 0 ↔ ¬ y < 0) then x.tdiv y - 1 else x.tdiv y := by
 have e := Int.tmod_add_mul_tdiv x y
 have l : (x.tmod y).natAbs < y.natAbs := by rw [Int.natAbs_tmod]; exact Nat.mod_lt _ (by omega)
 rw [Int.mul_comm] at e
 split
 ·rename_i h
  refine fl_uni ?_
  rw [Int.sub_mul, Int.one_mul]
  by_cases h0 : 0 < y
  ·exact Or.inl ⟨h0, by omega, by omega⟩
  ·exact Or.inr ⟨by omega, by omega, by omega⟩
 ·rename_i h
  refine fl_uni ?_
  by_cases h0 : 0 < y
  ·exact Or.inl ⟨h0, by omega, by omega⟩
  ·exact Or.inr ⟨by omega, by omega, by omega⟩

set_option maxHeartbeats 1600000 in
theorem wsub_any (x y : Int) (u v : Value) (w : World) (hx : WN w u x) (hy : WN w v y) (fx : Fit x) (fy : Fit y) :
  Calls Tryd.prog 54 #[u, v] w (RetW w (x - y)) := by
 obtain ⟨b1, ao1, n1, c1, rfl⟩ := hx.shape'
 obtain ⟨b2, ao2, n2, c2, rfl⟩ := hy.shape'
 go_enter Tryd.func54, Tryd.ntmps54
 go_wp2_with fail
 have kp0 : Kp w _ := (Kp.alloc' (Kp.alloc' (Kp.alloc' (Below.refl w.heap.size w) (.cells #[.bool b1, .slice ao1 n1 c1] 56)) (.cells #[.bool b2, .slice ao2 n2 c2] 56)) (.cells #[.bool false, .slice none 0 0] 56))
 have sf0 : Sf 2 w _ := (Sf.alloc (Sf.alloc (Sf.alloc (Sf.refl 2 w) (.cells #[.bool b1, .slice ao1 n1 c1] 56)) (.cells #[.bool b2, .slice ao2 n2 c2] 56)) (.cells #[.bool false, .slice none 0 0] 56))
 refine (negate_any y _ _ (hy.soft sf0) fy).mono ?_
 rintro e w1 ⟨v1, rfl, hv1, hk1⟩
 obtain ⟨b3, ao3, n3, c3, rfl⟩ := hv1.shape'
 have kq0 := kp0.trans' hk1
 have sq0 := sf0.trans (Sf.keep hk1)
 have B1p1 : Blk w1 (w.heap.size) #[.bool b1, .slice ao1 n1 c1] 56 := Blk.keep hk1 (Blk.at (Blk.alloc (Blk.alloc (Blk.new _ _ _) _) _) (by simp))
 have B1res : Blk w1 (w.heap.size + 1 + 1) #[.bool false, .slice none 0 0] 56 := Blk.keep hk1 (Blk.at (Blk.new _ _ _) (by simp))
 obtain ⟨B1p1c, B1p1f, B1p1l⟩ := B1p1.all
 obtain ⟨B1resc, B1resf, B1resl⟩ := B1res.all
 have ge1res : w.heap.size ≤ w.heap.size + 1 + 1 := by (first | omega | (have := kp0.size; simp only [World.size_alloc, size_setCell', size_drew'] at this; omega))
 replace hx := hx.soft sq0
 go_wp2_with fail
 have kp1 : Kp w _ := (Kp.alloc' kq0 (.cells #[.bool b3, .slice ao3 n3 c3] 56))
 have sf1 : Sf 2 w1 _ := (Sf.alloc (Sf.refl 2 w1) (.cells #[.bool b3, .slice ao3 n3 c3] 56))
 refine (add_any x (-y) _ _ _ (hx.soft sf1) (hv1.soft sf1) fx fy.neg).mono ?_
 rintro e w2 ⟨v2, rfl, hv2, hk2⟩
 obtain ⟨b4, ao4, n4, c4, rfl⟩ := hv2.shape'
 have kq1 := kp1.trans' hk2
 have sq1 := sf1.trans (Sf.keep hk2)
 have B2res := Blk.keep hk2 (Blk.alloc B1res _)
 obtain ⟨B2resc, B2resf, B2resl⟩ := B2res.all
 have ge2res : w.heap.size ≤ w.heap.size + 1 + 1 := by (first | omega | (have := kp1.size; simp only [World.size_alloc, size_setCell', size_drew'] at this; omega))
 clear B1p1 B1p1c B1p1f B1res B1resc B1resf
 go_wp2_with fail
 refine bodyPost_ret (v := .agg #[.bool b4, .slice ao4 n4 c4]) (by simp [results, Tryd.results54, go_sem, B2resc]) rfl ?_
 have kpE : Kp w _ := (stK2 (A := w.heap.size + 1 + 1) (.bool b4) (.slice ao4 n4 c4) kq1 (by have := ge2res; omega))
 have sfE : Sf 2 w2 _ := (stS2 (E := 2) (.bool b4) (.slice ao4 n4 c4) B2res (by decide))
 rw [Int.sub_eq_add_neg]
 exact retW_mk hv2 sfE kpE

set_option maxHeartbeats 1600000 in
set_option maxRecDepth 100000 in
theorem floor_none (x y : Int) (m : Nat) (u v : Value) (w : World) (hx : WN w u x) (hy : WN w v y) (hm : m ≤ 300000000) (fx : Ft m x) (fy : Ft m y) (h0 : y ≠ 0) (h : x.tmod y = 0) :
  Calls Tryd.prog 79 #[u, v] w (RetW w (x.tdiv y)) := by
 obtain ⟨b1, ao1, n1, c1, rfl⟩ := hx.shape'
 obtain ⟨b2, ao2, n2, c2, rfl⟩ := hy.shape'
 have HB2 := Hid.mk hy.rp.1
 have hn2 : 0 < n2 := by
  have := (hy.rp.2.zero_len (by decide)).1
  omega
 go_enter Tryd.func79, Tryd.ntmps79
 go_wp2_with fail
 have kp0 : Kp w _ := (Kp.alloc' (Kp.alloc' (Kp.alloc' (Below.refl w.heap.size w) (.cells #[.bool b1, .slice ao1 n1 c1] 56)) (.cells #[.bool b2, .slice ao2 n2 c2] 56)) (.cells #[.bool false, .slice none 0 0] 56))
 have sf0 : Sf 2 w _ := (Sf.alloc (Sf.alloc (Sf.alloc (Sf.refl 2 w) (.cells #[.bool b1, .slice ao1 n1 c1] 56)) (.cells #[.bool b2, .slice ao2 n2 c2] 56)) (.cells #[.bool false, .slice none 0 0] 56))
 refine (divide_any x y m _ _ _ (hx.soft sf0) (hy.soft sf0) (by omega) fx fy).mono ?_
 rintro e w1 ⟨v1, v2, rfl, hv1, hv2, hk1⟩
 obtain ⟨b3, ao3, n3, c3, rfl⟩ := hv1.shape'
 obtain ⟨b4, ao4, n4, c4, rfl⟩ := hv2.shape'
 have hb4 := hv2.rp.1
 have hb2 := HB2.out
 clear HB2
 have hz4 := (hv2.rp.2.zero_len (by decide)).1
 have kq0 := kp0.trans' hk1
 have sq0 := sf0.trans (Sf.keep hk1)
 have B1p2 : Blk w1 (w.heap.size + 1) #[.bool b2, .slice ao2 n2 c2] 56 := Blk.keep hk1 (Blk.at (Blk.alloc (Blk.new _ _ _) _) (by simp))
 have B1res : Blk w1 (w.heap.size + 1 + 1) #[.bool false, .slice none 0 0] 56 := Blk.keep hk1 (Blk.at (Blk.new _ _ _) (by simp))
 obtain ⟨B1p2c, B1p2f, B1p2l⟩ := B1p2.all
 have ge1p2 : w.heap.size ≤ w.heap.size + 1 := by (first | omega | (have := kp0.size; simp only [World.size_alloc, size_setCell', size_drew'] at this; omega))
 obtain ⟨B1resc, B1resf, B1resl⟩ := B1res.all
 have ge1res : w.heap.size ≤ w.heap.size + 1 + 1 := by (first | omega | (have := kp0.size; simp only [World.size_alloc, size_setCell', size_drew'] at this; omega))
 have nq1 : ¬ (w.heap.size = w1.heap.size) := by omega
 have nq2 : ¬ (w.heap.size + 1 = w1.heap.size) := by omega
 obtain rfl : n4 = 0 := by omega
 clear hb4 hz4 hb2
 have Tp2 : Blk ((w1.alloc (.cells #[.bool b3, .slice ao3 n3 c3] 56)).alloc (.cells #[.bool b4, .slice ao4 0 c4] 56)) (w.heap.size + 1) #[.bool b2, .slice ao2 n2 c2] 56 := Blk.alloc (Blk.alloc B1p2 _) _
 obtain ⟨Tp2c, Tp2f, Tp2l⟩ := Tp2.all
 have Tres : Blk ((w1.alloc (.cells #[.bool b3, .slice ao3 n3 c3] 56)).alloc (.cells #[.bool b4, .slice ao4 0 c4] 56)) (w.heap.size + 1 + 1) #[.bool false, .slice none 0 0] 56 := Blk.alloc (Blk.alloc B1res _) _
 obtain ⟨Tresc, Tresf, Tresl⟩ := Tres.all
 have Trem : Blk ((w1.alloc (.cells #[.bool b3, .slice ao3 n3 c3] 56)).alloc (.cells #[.bool b4, .slice ao4 0 c4] 56)) (w1.heap.size + 1) #[.bool b4, .slice ao4 0 c4] 56 := Blk.at (Blk.new (w1.alloc (.cells #[.bool b3, .slice ao3 n3 c3] 56)) _ _) (by simp)
 have Tremc := Trem.cell
 go_wp2_with fail
 have TR := Blk.alloc (Blk.alloc (Blk.set (o := 1) (y := .slice ao3 n3 c3) (Blk.set (o := 0) (y := .bool b3) B1res)) (.cells #[.bool b3, .slice ao3 n3 c3] 56)) (.cells #[.bool b4, .slice ao4 0 c4] 56)
 refine bodyPost_ret (v := .agg #[.bool b3, .slice ao3 n3 c3]) (by simp [results, Tryd.results79, go_sem, TR.cell]) rfl ?_
 have kpE : Kp w _ := (Kp.alloc' (Kp.alloc' (stK2 (A := w.heap.size + 1 + 1) (.bool b3) (.slice ao3 n3 c3) kq0 (by have := ge1res; omega)) (.cells #[.bool b3, .slice ao3 n3 c3] 56)) (.cells #[.bool b4, .slice ao4 0 c4] 56))
 have sfE : Sf 2 w1 _ := (Sf.alloc (Sf.alloc (stS2 (E := 2) (.bool b3) (.slice ao3 n3 c3) B1res (by decide)) (.cells #[.bool b3, .slice ao3 n3 c3] 56)) (.cells #[.bool b4, .slice ao4 0 c4] 56))
 exact retW_mk hv1 sfE kpE

set_option maxHeartbeats 1600000 in
set_option maxRecDepth 100000 in
theorem floor_same (x y : Int) (m : Nat) (u v : Value) (w : World) (hx : WN w u x) (hy : WN w v y) (hm : m ≤ 300000000) (fx : Ft m x) (fy : Ft m y) (h0 : y ≠ 0) (h : x.tmod y ≠ 0) (k : (x.tmod y < 0 ↔ y < 0)) :
  Calls Tryd.prog 79 #[u, v] w (RetW w (x.tdiv y)) := by
 obtain ⟨b1, ao1, n1, c1, rfl⟩ := hx.shape'
 obtain ⟨b2, ao2, n2, c2, rfl⟩ := hy.shape'
 have HB2 := Hid.mk hy.rp.1
 have hn2 : 0 < n2 := by
  have := (hy.rp.2.zero_len (by decide)).1
  omega
 go_enter Tryd.func79, Tryd.ntmps79
 go_wp2_with fail
 have kp0 : Kp w _ := (Kp.alloc' (Kp.alloc' (Kp.alloc' (Below.refl w.heap.size w) (.cells #[.bool b1, .slice ao1 n1 c1] 56)) (.cells #[.bool b2, .slice ao2 n2 c2] 56)) (.cells #[.bool false, .slice none 0 0] 56))
 have sf0 : Sf 2 w _ := (Sf.alloc (Sf.alloc (Sf.alloc (Sf.refl 2 w) (.cells #[.bool b1, .slice ao1 n1 c1] 56)) (.cells #[.bool b2, .slice ao2 n2 c2] 56)) (.cells #[.bool false, .slice none 0 0] 56))
 refine (divide_any x y m _ _ _ (hx.soft sf0) (hy.soft sf0) (by omega) fx fy).mono ?_
 rintro e w1 ⟨v1, v2, rfl, hv1, hv2, hk1⟩
 obtain ⟨b3, ao3, n3, c3, rfl⟩ := hv1.shape'
 obtain ⟨b4, ao4, n4, c4, rfl⟩ := hv2.shape'
 have hb4 := hv2.rp.1
 have hb2 := HB2.out
 clear HB2
 have hz4 := (hv2.rp.2.zero_len (by decide)).1
 have kq0 := kp0.trans' hk1
 have sq0 := sf0.trans (Sf.keep hk1)
 have B1p2 : Blk w1 (w.heap.size + 1) #[.bool b2, .slice ao2 n2 c2] 56 := Blk.keep hk1 (Blk.at (Blk.alloc (Blk.new _ _ _) _) (by simp))
 have B1res : Blk w1 (w.heap.size + 1 + 1) #[.bool false, .slice none 0 0] 56 := Blk.keep hk1 (Blk.at (Blk.new _ _ _) (by simp))
 obtain ⟨B1p2c, B1p2f, B1p2l⟩ := B1p2.all
 have ge1p2 : w.heap.size ≤ w.heap.size + 1 := by (first | omega | (have := kp0.size; simp only [World.size_alloc, size_setCell', size_drew'] at this; omega))
 obtain ⟨B1resc, B1resf, B1resl⟩ := B1res.all
 have ge1res : w.heap.size ≤ w.heap.size + 1 + 1 := by (first | omega | (have := kp0.size; simp only [World.size_alloc, size_setCell', size_drew'] at this; omega))
 have nq1 : ¬ (w.heap.size = w1.heap.size) := by omega
 have nq2 : ¬ (w.heap.size + 1 = w1.heap.size) := by omega
 have hn4 : 0 < n4 := by omega
 obtain rfl : b4 = b2 := by rw [hb4, hb2]; simp only [k]
 clear hb4 hz4 hb2
 have Tp2 : Blk ((w1.alloc (.cells #[.bool b3, .slice ao3 n3 c3] 56)).alloc (.cells #[.bool b4, .slice ao4 n4 c4] 56)) (w.heap.size + 1) #[.bool b4, .slice ao2 n2 c2] 56 := Blk.alloc (Blk.alloc B1p2 _) _
 obtain ⟨Tp2c, Tp2f, Tp2l⟩ := Tp2.all
 have Tres : Blk ((w1.alloc (.cells #[.bool b3, .slice ao3 n3 c3] 56)).alloc (.cells #[.bool b4, .slice ao4 n4 c4] 56)) (w.heap.size + 1 + 1) #[.bool false, .slice none 0 0] 56 := Blk.alloc (Blk.alloc B1res _) _
 obtain ⟨Tresc, Tresf, Tresl⟩ := Tres.all
 have Trem : Blk ((w1.alloc (.cells #[.bool b3, .slice ao3 n3 c3] 56)).alloc (.cells #[.bool b4, .slice ao4 n4 c4] 56)) (w1.heap.size + 1) #[.bool b4, .slice ao4 n4 c4] 56 := Blk.at (Blk.new (w1.alloc (.cells #[.bool b3, .slice ao3 n3 c3] 56)) _ _) (by simp)
 have Tremc := Trem.cell
 go_wp2_with fail
 have TR := Blk.alloc (Blk.alloc (Blk.set (o := 1) (y := .slice ao3 n3 c3) (Blk.set (o := 0) (y := .bool b3) B1res)) (.cells #[.bool b3, .slice ao3 n3 c3] 56)) (.cells #[.bool b4, .slice ao4 n4 c4] 56)
 refine bodyPost_ret (v := .agg #[.bool b3, .slice ao3 n3 c3]) (by simp [results, Tryd.results79, go_sem, TR.cell]) rfl ?_
 have kpE : Kp w _ := (Kp.alloc' (Kp.alloc' (stK2 (A := w.heap.size + 1 + 1) (.bool b3) (.slice ao3 n3 c3) kq0 (by have := ge1res; omega)) (.cells #[.bool b3, .slice ao3 n3 c3] 56)) (.cells #[.bool b4, .slice ao4 n4 c4] 56))
 have sfE : Sf 2 w1 _ := (Sf.alloc (Sf.alloc (stS2 (E := 2) (.bool b3) (.slice ao3 n3 c3) B1res (by decide)) (.cells #[.bool b3, .slice ao3 n3 c3] 56)) (.cells #[.bool b4, .slice ao4 n4 c4] 56))
 exact retW_mk hv1 sfE kpE

set_option maxHeartbeats 1600000 in
set_option maxRecDepth 100000 in
theorem floor_lowp (x y : Int) (m : Nat) (u v : Value) (w : World) (hx : WN w u x) (hy : WN w v y) (hm : m ≤ 300000000) (fx : Ft m x) (fy : Ft m y) (h : x.tmod y < 0) (k : 0 < y) :
  Calls Tryd.prog 79 #[u, v] w (RetW w (x.tdiv y - 1)) := by
 obtain ⟨b1, ao1, n1, c1, rfl⟩ := hx.shape'
 obtain ⟨b2, ao2, n2, c2, rfl⟩ := hy.shape'
 have HB2 := Hid.mk hy.rp.1
 have hn2 : 0 < n2 := by
  have := (hy.rp.2.zero_len (by decide)).1
  omega
 go_enter Tryd.func79, Tryd.ntmps79
 go_wp2_with fail
 have kp0 : Kp w _ := (Kp.alloc' (Kp.alloc' (Kp.alloc' (Below.refl w.heap.size w) (.cells #[.bool b1, .slice ao1 n1 c1] 56)) (.cells #[.bool b2, .slice ao2 n2 c2] 56)) (.cells #[.bool false, .slice none 0 0] 56))
 have sf0 : Sf 2 w _ := (Sf.alloc (Sf.alloc (Sf.alloc (Sf.refl 2 w) (.cells #[.bool b1, .slice ao1 n1 c1] 56)) (.cells #[.bool b2, .slice ao2 n2 c2] 56)) (.cells #[.bool false, .slice none 0 0] 56))
 refine (divide_any x y m _ _ _ (hx.soft sf0) (hy.soft sf0) (by omega) fx fy).mono ?_
 rintro e w1 ⟨v1, v2, rfl, hv1, hv2, hk1⟩
 obtain ⟨b3, ao3, n3, c3, rfl⟩ := hv1.shape'
 obtain ⟨b4, ao4, n4, c4, rfl⟩ := hv2.shape'
 have hb4 := hv2.rp.1
 have hb2 := HB2.out
 clear HB2
 have hz4 := (hv2.rp.2.zero_len (by decide)).1
 have kq0 := kp0.trans' hk1
 have sq0 := sf0.trans (Sf.keep hk1)
 have B1p2 : Blk w1 (w.heap.size + 1) #[.bool b2, .slice ao2 n2 c2] 56 := Blk.keep hk1 (Blk.at (Blk.alloc (Blk.new _ _ _) _) (by simp))
 have B1res : Blk w1 (w.heap.size + 1 + 1) #[.bool false, .slice none 0 0] 56 := Blk.keep hk1 (Blk.at (Blk.new _ _ _) (by simp))
 obtain ⟨B1p2c, B1p2f, B1p2l⟩ := B1p2.all
 have ge1p2 : w.heap.size ≤ w.heap.size + 1 := by (first | omega | (have := kp0.size; simp only [World.size_alloc, size_setCell', size_drew'] at this; omega))
 obtain ⟨B1resc, B1resf, B1resl⟩ := B1res.all
 have ge1res : w.heap.size ≤ w.heap.size + 1 + 1 := by (first | omega | (have := kp0.size; simp only [World.size_alloc, size_setCell', size_drew'] at this; omega))
 have nq1 : ¬ (w.heap.size = w1.heap.size) := by omega
 have nq2 : ¬ (w.heap.size + 1 = w1.heap.size) := by omega
 have hn4 : 0 < n4 := by omega
 obtain rfl : b4 = true := by rw [hb4]; simpa using h
 obtain rfl : b2 = false := by rw [hb2]; simp; omega
 clear hb4 hz4 hb2
 have Tp2 : Blk ((w1.alloc (.cells #[.bool b3, .slice ao3 n3 c3] 56)).alloc (.cells #[.bool true, .slice ao4 n4 c4] 56)) (w.heap.size + 1) #[.bool false, .slice ao2 n2 c2] 56 := Blk.alloc (Blk.alloc B1p2 _) _
 obtain ⟨Tp2c, Tp2f, Tp2l⟩ := Tp2.all
 have Tres : Blk ((w1.alloc (.cells #[.bool b3, .slice ao3 n3 c3] 56)).alloc (.cells #[.bool true, .slice ao4 n4 c4] 56)) (w.heap.size + 1 + 1) #[.bool false, .slice none 0 0] 56 := Blk.alloc (Blk.alloc B1res _) _
 obtain ⟨Tresc, Tresf, Tresl⟩ := Tres.all
 have Trem : Blk ((w1.alloc (.cells #[.bool b3, .slice ao3 n3 c3] 56)).alloc (.cells #[.bool true, .slice ao4 n4 c4] 56)) (w1.heap.size + 1) #[.bool true, .slice ao4 n4 c4] 56 := Blk.at (Blk.new (w1.alloc (.cells #[.bool b3, .slice ao3 n3 c3] 56)) _ _) (by simp)
 have Tremc := Trem.cell
 go_wp2_with fail
 have kp1 : Kp w _ := (Kp.alloc' (Kp.alloc' kq0 (.cells #[.bool b3, .slice ao3 n3 c3] 56)) (.cells #[.bool true, .slice ao4 n4 c4] 56))
 have sf1 : Sf 2 w1 _ := (Sf.alloc (Sf.alloc (Sf.refl 2 w1) (.cells #[.bool b3, .slice ao3 n3 c3] 56)) (.cells #[.bool true, .slice ao4 n4 c4] 56))
 refine (fromInt_any 1 _ (by decide) (by decide)).mono ?_
 rintro e w2 ⟨v3, rfl, hv3, hk2⟩
 obtain ⟨b5, ao5, n5, c5, rfl⟩ := hv3.shape'
 have kq1 := kp1.trans' hk2
 have sq1 := sf1.trans (Sf.keep hk2)
 have B2res := Blk.keep hk2 (Blk.alloc (Blk.alloc B1res _) _)
 have B2quo : Blk w2 (w1.heap.size) #[.bool b3, .slice ao3 n3 c3] 56 := Blk.keep hk2 (Blk.at (Blk.alloc (Blk.new _ _ _) _) (by simp))
 obtain ⟨B2resc, B2resf, B2resl⟩ := B2res.all
 have ge2res : w.heap.size ≤ w.heap.size + 1 + 1 := by (first | omega | (have := kp1.size; simp only [World.size_alloc, size_setCell', size_drew'] at this; omega))
 obtain ⟨B2quoc, B2quof, B2quol⟩ := B2quo.all
 have ge2quo : w.heap.size ≤ w1.heap.size := by (first | omega | (have := kp1.size; simp only [World.size_alloc, size_setCell', size_drew'] at this; omega))
 replace hv1 := hv1.soft sq1
 clear B1p2 B1p2c B1p2f B1res B1resc B1resf
 go_wp2_with fail
 have kp2 : Kp w _ := (Kp.alloc' kq1 (.cells #[.bool b5, .slice ao5 n5 c5] 56))
 have sf2 : Sf 2 w2 _ := (Sf.alloc (Sf.refl 2 w2) (.cells #[.bool b5, .slice ao5 n5 c5] 56))
 have fq : Ft m (x.tdiv y) := by refine fx.le ?_; rw [Int.natAbs_tdiv]; exact Nat.div_le_self _ _
 have f1 : Ft 1 1 := by unfold Ft; decide
 refine (wsub_any (x.tdiv y) 1 _ _ _ (hv1.soft sf2) (hv3.soft sf2) (fq.fit (by omega)) (f1.fit (by decide))).mono ?_
 rintro e w3 ⟨v4, rfl, hv4, hk3⟩
 obtain ⟨b6, ao6, n6, c6, rfl⟩ := hv4.shape'
 have kq2 := kp2.trans' hk3
 have sq2 := sf2.trans (Sf.keep hk3)
 have B3res := Blk.keep hk3 (Blk.alloc B2res _)
 have B3quo := Blk.keep hk3 (Blk.alloc B2quo _)
 obtain ⟨B3resc, B3resf, B3resl⟩ := B3res.all
 have ge3res : w.heap.size ≤ w.heap.size + 1 + 1 := by (first | omega | (have := kp2.size; simp only [World.size_alloc, size_setCell', size_drew'] at this; omega))
 obtain ⟨B3quoc, B3quof, B3quol⟩ := B3quo.all
 have ge3quo : w.heap.size ≤ w1.heap.size := by (first | omega | (have := kp2.size; simp only [World.size_alloc, size_setCell', size_drew'] at this; omega))
 clear B2res B2resc B2resf B2quo B2quoc B2quof
 go_wp2_with fail
 refine bodyPost_ret (v := .agg #[.bool b6, .slice ao6 n6 c6]) (by simp [results, Tryd.results79, go_sem, B3resc]) rfl ?_
 have kpE : Kp w _ := (stK2 (A := w.heap.size + 1 + 1) (.bool b6) (.slice ao6 n6 c6) (stK2 (A := w1.heap.size) (.bool b6) (.slice ao6 n6 c6) kq2 (by have := ge3quo; omega)) (by have := ge3res; omega))
 have sfE : Sf 2 w3 _ := (Sf.set (t := 56) (c := w.heap.size + 1 + 1) (o := 1) (y := .slice ao6 n6 c6) (Sf.set (t := 56) (c := w.heap.size + 1 + 1) (o := 0) (y := .bool b6) (stS2 (E := 2) (.bool b6) (.slice ao6 n6 c6) B3quo (by decide)) (by first | (simp only [elemOf_setCell]; exact B3res.elem) | exact B3res.elem) (by decide)) (by first | (simp only [elemOf_setCell]; exact B3res.elem) | exact B3res.elem) (by decide))
 exact retW_mk hv4 sfE kpE

set_option maxHeartbeats 1600000 in
set_option maxRecDepth 100000 in
theorem floor_lowm (x y : Int) (m : Nat) (u v : Value) (w : World) (hx : WN w u x) (hy : WN w v y) (hm : m ≤ 300000000) (fx : Ft m x) (fy : Ft m y) (h : 0 < x.tmod y) (k : y < 0) :
  Calls Tryd.prog 79 #[u, v] w (RetW w (x.tdiv y - 1)) := by
 obtain ⟨b1, ao1, n1, c1, rfl⟩ := hx.shape'
 obtain ⟨b2, ao2, n2, c2, rfl⟩ := hy.shape'
 have HB2 := Hid.mk hy.rp.1
 have hn2 : 0 < n2 := by
  have := (hy.rp.2.zero_len (by decide)).1
  omega
 go_enter Tryd.func79, Tryd.ntmps79
 go_wp2_with fail
 have kp0 : Kp w _ := (Kp.alloc' (Kp.alloc' (Kp.alloc' (Below.refl w.heap.size w) (.cells #[.bool b1, .slice ao1 n1 c1] 56)) (.cells #[.bool b2, .slice ao2 n2 c2] 56)) (.cells #[.bool false, .slice none 0 0] 56))
 have sf0 : Sf 2 w _ := (Sf.alloc (Sf.alloc (Sf.alloc (Sf.refl 2 w) (.cells #[.bool b1, .slice ao1 n1 c1] 56)) (.cells #[.bool b2, .slice ao2 n2 c2] 56)) (.cells #[.bool false, .slice none 0 0] 56))
 refine (divide_any x y m _ _ _ (hx.soft sf0) (hy.soft sf0) (by omega) fx fy).mono ?_
 rintro e w1 ⟨v1, v2, rfl, hv1, hv2, hk1⟩
 obtain ⟨b3, ao3, n3, c3, rfl⟩ := hv1.shape'
 obtain ⟨b4, ao4, n4, c4, rfl⟩ := hv2.shape'
 have hb4 := hv2.rp.1
 have hb2 := HB2.out
 clear HB2
 have hz4 := (hv2.rp.2.zero_len (by decide)).1
 have kq0 := kp0.trans' hk1
 have sq0 := sf0.trans (Sf.keep hk1)
 have B1p2 : Blk w1 (w.heap.size + 1) #[.bool b2, .slice ao2 n2 c2] 56 := Blk.keep hk1 (Blk.at (Blk.alloc (Blk.new _ _ _) _) (by simp))
 have B1res : Blk w1 (w.heap.size + 1 + 1) #[.bool false, .slice none 0 0] 56 := Blk.keep hk1 (Blk.at (Blk.new _ _ _) (by simp))
 obtain ⟨B1p2c, B1p2f, B1p2l⟩ := B1p2.all
 obtain ⟨B1resc, B1resf, B1resl⟩ := B1res.all
 have nq1 : ¬ (w.heap.size = w1.heap.size) := by omega
 have nq2 : ¬ (w.heap.size + 1 = w1.heap.size) := by omega
 have hn4 : 0 < n4 := by omega
 obtain rfl : b4 = false := by rw [hb4]; simp; omega
 obtain rfl : b2 = true := by rw [hb2]; simpa using k
 clear hb4 hz4 hb2
 have Tp2 : Blk ((w1.alloc (.cells #[.bool b3, .slice ao3 n3 c3] 56)).alloc (.cells #[.bool false, .slice ao4 n4 c4] 56)) (w.heap.size + 1) #[.bool true, .slice ao2 n2 c2] 56 := Blk.alloc (Blk.alloc B1p2 _) _
 obtain ⟨Tp2c, Tp2f, Tp2l⟩ := Tp2.all
 have Tres : Blk ((w1.alloc (.cells #[.bool b3, .slice ao3 n3 c3] 56)).alloc (.cells #[.bool false, .slice ao4 n4 c4] 56)) (w.heap.size + 1 + 1) #[.bool false, .slice none 0 0] 56 := Blk.alloc (Blk.alloc B1res _) _
 obtain ⟨Tresc, Tresf, Tresl⟩ := Tres.all
 have Trem : Blk ((w1.alloc (.cells #[.bool b3, .slice ao3 n3 c3] 56)).alloc (.cells #[.bool false, .slice ao4 n4 c4] 56)) (w1.heap.size + 1) #[.bool false, .slice ao4 n4 c4] 56 := Blk.at (Blk.new (w1.alloc (.cells #[.bool b3, .slice ao3 n3 c3] 56)) _ _) (by simp)
 have Tremc := Trem.cell
 go_wp2_with fail
 have kp1 : Kp w _ := (Kp.alloc' (Kp.alloc' kq0 (.cells #[.bool b3, .slice ao3 n3 c3] 56)) (.cells #[.bool false, .slice ao4 n4 c4] 56))
 have sf1 : Sf 2 w1 _ := (Sf.alloc (Sf.alloc (Sf.refl 2 w1) (.cells #[.bool b3, .slice ao3 n3 c3] 56)) (.cells #[.bool false, .slice ao4 n4 c4] 56))
 refine (fromInt_any 1 _ (by decide) (by decide)).mono ?_
 rintro e w2 ⟨v3, rfl, hv3, hk2⟩
 obtain ⟨b5, ao5, n5, c5, rfl⟩ := hv3.shape'
 have kq1 := kp1.trans' hk2
 have sq1 := sf1.trans (Sf.keep hk2)
 have B2res := Blk.keep hk2 (Blk.alloc (Blk.alloc B1res _) _)
 have B2quo : Blk w2 (w1.heap.size) #[.bool b3, .slice ao3 n3 c3] 56 := Blk.keep hk2 (Blk.at (Blk.alloc (Blk.new _ _ _) _) (by simp))
 obtain ⟨B2resc, B2resf, B2resl⟩ := B2res.all
 obtain ⟨B2quoc, B2quof, B2quol⟩ := B2quo.all
 replace hv1 := hv1.soft sq1
 clear B1p2 B1p2c B1p2f B1res B1resc B1resf
 go_wp2_with fail
 have kp2 : Kp w _ := (Kp.alloc' kq1 (.cells #[.bool b5, .slice ao5 n5 c5] 56))
 have sf2 : Sf 2 w2 _ := (Sf.alloc (Sf.refl 2 w2) (.cells #[.bool b5, .slice ao5 n5 c5] 56))
 have fq : Ft m (x.tdiv y) := by refine fx.le ?_; rw [Int.natAbs_tdiv]; exact Nat.div_le_self _ _
 have f1 : Ft 1 1 := by unfold Ft; decide
 refine (wsub_any (x.tdiv y) 1 _ _ _ (hv1.soft sf2) (hv3.soft sf2) (fq.fit (by omega)) (f1.fit (by decide))).mono ?_
 rintro e w3 ⟨v4, rfl, hv4, hk3⟩
 obtain ⟨b6, ao6, n6, c6, rfl⟩ := hv4.shape'
 have kq2 := kp2.trans' hk3
 have sq2 := sf2.trans (Sf.keep hk3)
 have B3res := Blk.keep hk3 (Blk.alloc B2res _)
 have B3quo := Blk.keep hk3 (Blk.alloc B2quo _)
 obtain ⟨B3resc, B3resf, B3resl⟩ := B3res.all
 have ge3res : w.heap.size ≤ w.heap.size + 1 + 1 := by (first | omega | (have := kp2.size; simp only [World.size_alloc, size_setCell', size_drew'] at this; omega))
 obtain ⟨B3quoc, B3quof, B3quol⟩ := B3quo.all
 have ge3quo : w.heap.size ≤ w1.heap.size := by (first | omega | (have := kp2.size; simp only [World.size_alloc, size_setCell', size_drew'] at this; omega))
 clear B2res B2resc B2resf B2quo B2quoc B2quof
 go_wp2_with fail
 refine bodyPost_ret (v := .agg #[.bool b6, .slice ao6 n6 c6]) (by simp [results, Tryd.results79, go_sem, B3resc]) rfl ?_
 have kpE : Kp w _ := (stK2 (A := w.heap.size + 1 + 1) (.bool b6) (.slice ao6 n6 c6) (stK2 (A := w1.heap.size) (.bool b6) (.slice ao6 n6 c6) kq2 (by have := ge3quo; omega)) (by have := ge3res; omega))
 have sfE : Sf 2 w3 _ := (Sf.set (t := 56) (c := w.heap.size + 1 + 1) (o := 1) (y := .slice ao6 n6 c6) (Sf.set (t := 56) (c := w.heap.size + 1 + 1) (o := 0) (y := .bool b6) (stS2 (E := 2) (.bool b6) (.slice ao6 n6 c6) B3quo (by decide)) (by first | (simp only [elemOf_setCell]; exact B3res.elem) | exact B3res.elem) (by decide)) (by first | (simp only [elemOf_setCell]; exact B3res.elem) | exact B3res.elem) (by decide))
 exact retW_mk hv4 sfE kpE

theorem floor_any (x y : Int) (m : Nat) (u v : Value) (w : World) (hx : WN w u x) (hy : WN w v y) (hm : m ≤ 300000000) (fx : Ft m x) (fy : Ft m y) (h0 : y ≠ 0) :
  Calls Tryd.prog 79 #[u, v] w (RetW w (fl x y)) := by
 rw [fl_div h0]
 by_cases h : x.tmod y = 0
 ·rw [if_neg (by omega)]
  exact floor_none x y m u v w hx hy hm fx fy h0 h
 ·by_cases k : x.tmod y < 0 ↔ ¬ y < 0
  ·rw [if_pos ⟨h, k⟩]
   by_cases hy0 : 0 < y
   ·exact floor_lowp x y m u v w hx hy hm fx fy (by omega) hy0
   ·exact floor_lowm x y m u v w hx hy hm fx fy (by omega) (by omega)
  ·rw [if_neg (fun hh => k hh.2)]
   exact floor_same x y m u v w hx hy hm fx fy h0 h (by omega)

end Go.Proofs.YtjahbjjekednfaaDoor

namespace Go.Proofs.YtjahbjjekednfaaDoor
open Go.RowKit

theorem isq_uni {n k : Nat} (h1 : k * k ≤ n) (h2 : n < (k + 1) * (k + 1)) : isq n = k := by
 obtain ⟨g1, g2⟩ := isq_ok n
 generalize isq n = j at *
 rcases Nat.lt_trichotomy j k with h | h | h
 ·have := Nat.mul_le_mul (show j + 1 ≤ k from h) (show j + 1 ≤ k from h)
  omega
 ·exact h
 ·have := Nat.mul_le_mul (show k + 1 ≤ j from h) (show k + 1 ≤ j from h)
  omega
theorem newton_low {a r : Nat} (hr : 0 < r) : a < ((r + a / r) / 2 + 1) * ((r + a / r) / 2 + 1) := by
 have h1 : a < r * (a / r) + r := by
  have := Nat.div_add_mod a r
  have := Nat.mod_lt a hr
  omega
 have h2 : r + a / r ≤ 2 * ((r + a / r) / 2) + 1 := by omega
 generalize (r + a / r) / 2 = n at *
 generalize a / r = q at *
 have h3 : (r : Int) * q + r ≤ (r : Int) * (2 * (n + 1) - r) := by
  have : (r : Int) * (q + 1) ≤ (r : Int) * (2 * (n + 1) - r) := Int.mul_le_mul_of_nonneg_left (by omega) (by omega)
  rw [Int.mul_add, Int.mul_one] at this
  exact this
 have h4 : (r : Int) * (2 * (n + 1) - r) = (n + 1) * (n + 1) - (n + 1 - r) * (n + 1 - r) := by grind
 have h5 := sq_nonneg' ((n : Int) + 1 - r)
 have h6 : (a : Int) < ((n + 1 : Nat) : Int) * ((n + 1 : Nat) : Int) := by
  have h7 : (a : Int) < (r : Int) * q + r := by exact_mod_cast h1
  have h8 : ((n + 1 : Nat) : Int) = (n : Int) + 1 := by omega
  rw [h8]
  omega
 exact_mod_cast h6
theorem newton_end {a r : Nat} (h : r ≤ (r + a / r) / 2) : r * r ≤ a := by
 have h1 : r ≤ a / r := by omega
 exact Nat.le_trans (Nat.mul_le_mul_right r h1) (Nat.div_mul_le_self a r)
/-- A call that returns such a number. -/
def RetRk (w : World) (x : Int) (e : Ending) (w' : World) : Prop := ∃ v, e = .returned v ∧ Rp 2 1000000000 w' v x ∧ Kp w w'
theorem rp_lit (w : World) {d : Int} (h0 : 0 < d) (h1 : d < 1000000000) : Rp 2 1000000000 (w.alloc (.cells #[.int .i64 d] 2)) (.slice (some ⟨w.heap.size, 0, none⟩) 1 1) d := by
 refine ⟨[d], row_lit1 w _ d, ⟨fun i => ?_, fun _ => ?_⟩, by simp only [val]; omega⟩
 ·cases i with
  | zero => simp [at0]; omega
  | succ i => simp [at0]
 ·simp [at0]; omega

theorem ten_pow (j : Nat) : (1000000000 : Int) ^ j = (10 : Int) ^ (9 * j) := by
 rw [Int.pow_mul]
 rfl
theorem root_room {l : List Int} {m : Nat} (h : Canon 1000000000 l) (f : Ft m (val 1000000000 l)) : 9 * l.length ≤ m + 9 := by
 have h0 := h.1.val_nonneg (by decide)
 have h1 : val 1000000000 l < (10 : Int) ^ m := by
  have e : ((val 1000000000 l).natAbs : Int) = val 1000000000 l := by omega
  have h2 : ((val 1000000000 l).natAbs : Int) < ((10 ^ m : Nat) : Int) := Int.ofNat_lt.2 f
  rw [e] at h2
  simpa using h2
 have h2 : (10 : Int) ^ m ≤ (1000000000 : Int) ^ (m / 9 + 1) := by
  rw [ten_pow]
  exact pow_mono (by decide) (by omega)
 have := h.len_le (by decide) (k := m / 9 + 1) (Int.lt_of_lt_of_le h1 h2)
 omega

set_option maxHeartbeats 1600000 in
set_option maxRecDepth 100000 in
/-- whole.rootLimbs answers the whole root. -/
theorem rootLimbs_any (x : Nat) (m : Nat) (u : Value) (w : World) (hx : Rp 2 1000000000 w u x) (hm : m ≤ 200000000) (fx : Ft m x) : Calls Tryd.prog 78 #[u] w (RetRk w (isq x : Nat)) := by
 obtain ⟨l, hl, cl, hv⟩ := id hx
 have hr := root_room cl (by rw [hv]; exact fx)
 have hlt := cl.1.val_lt (by decide)
 rw [hv] at hlt
 have hll : l.length ≤ 30000000 := by omega
 obtain ⟨ao, cap, hu, hc1, hc2⟩ := hl.slice
 subst hu
 have HX := Hid.mk hlt
 clear hlt hv cl hl
 have kp0 := kp_alloc w (.cells #[.int .i64 1] 2)
 have hone := rp_lit w (d := 1) (by decide) (by decide)
 go_enter Tryd.func78, Tryd.ntmps78
 go_wp2_with fail
 go_loopw [3, 4] (fun r i wr => ∃ j : Nat, i = .int .i64 (2 * (j : Int)) ∧ 2 * j ≤ l.length + 1 ∧ Rp 2 1000000000 wr r ((1000000000 : Int) ^ j) ∧ Kp w wr)
  (fun _ i _ => (l.length + 2 - intOf i).toNat)
 case atStart => exact ⟨0, by simp, by omega, by simpa using hone, kp0⟩
 case round =>
  clear hone kp0
  obtain ⟨j, rfl, hj, hrp, hkr⟩ := hrel
  by_cases h : 2 * j < l.length
  ·have fj : Ft (9 * j + 1) ((1000000000 : Int) ^ j) := by
    unfold Ft
    rw [ten_pow, Int.natAbs_pow]
    exact Nat.pow_lt_pow_right (by decide) (by omega)
   have HF := fj.fit (by omega)
   have HE := Hid.mk (show (0 : Int) + 1000000000 * 1000000000 ^ j = 1000000000 ^ (j + 1) by rw [Int.pow_succ]; omega)
   have hcond : 2 * (j : Int) < (l.length : Int) := by omega
   clear fj
   go_wp2_with (go_at_call 106; refine (putBelow_any _ 0 _ _ hrp HF (by decide)).mono ?_; rintro e w1 ⟨v1, rfl, hv1, hk1, _⟩)
   go_roundw
   case rel =>
    rw [HE.out] at hv1
    exact ⟨j + 1, by go_num, by omega, hv1, hkr.trans' hk1⟩
   case measure => simp [intOf]; omega
  ·have hcond : ¬ 2 * (j : Int) < (l.length : Int) := by omega
   have HJ : Hid (0 < 1000000000 ^ j ∧ x < (1000000000 ^ j + 1) * (1000000000 ^ j + 1) ∧ 1000000000 ^ j < 10 ^ (m + 20)) := by
    have g0 : 0 < 1000000000 ^ j := Nat.pow_pos (by decide)
    refine ⟨g0, ?_, ?_⟩
    ·have g1 : (x : Int) < ((1000000000 ^ (2 * j) : Nat) : Int) := by
      refine Int.lt_of_lt_of_le HX.out ?_
      have := pow_mono (B := 1000000000) (by decide) (show l.length ≤ 2 * j by omega)
      simpa using this
     have g2 : x < 1000000000 ^ (2 * j) := by exact_mod_cast g1
     have g3 : 1000000000 ^ (2 * j) = 1000000000 ^ j * 1000000000 ^ j := by rw [Nat.two_mul, Nat.pow_add]
     have g4 := Nat.mul_le_mul (Nat.le_succ (1000000000 ^ j)) (Nat.le_succ (1000000000 ^ j))
     rw [g3] at g2
     exact Nat.lt_of_lt_of_le g2 g4
    ·have : 1000000000 ^ j = 10 ^ (9 * j) := by rw [Nat.pow_mul]
     rw [this]
     exact Nat.pow_lt_pow_right (by decide) (by omega)
   have hpe : (1000000000 : Int) ^ j = ((1000000000 ^ j : Nat) : Int) := by simp
   rw [hpe] at hrp
   clear hpe
   have hrp2 := hrp
   clear hrp
   generalize 1000000000 ^ j = r0 at *
   have hx2 := hx.keep hkr
   go_wp2_with fail
   go_loopw [3, 5, 6, 7, 8, 9] (fun r _ _ _ _ _ wq => ∃ a : Nat, Rp 2 1000000000 wq r a ∧ Hid ((0 < a ∨ x = 0) ∧ x < (a + 1) * (a + 1) ∧ a < 10 ^ (m + 20)) ∧ Kp w wq)
    (fun r _ _ _ _ _ wq => readNum 1000000000 wq r)
   case atStart => exact ⟨r0, hrp2, ⟨Or.inl HJ.out.1, HJ.out.2⟩, hkr⟩
   case round =>
    clear hrp2 HJ hx2 HX
    obtain ⟨a, ha, hI, hkq⟩ := hrel
    have HRD := Hid.mk ha.read
    have fx2 : Ft (m + 20) (x : Int) := fx.mono (by omega)
    have fa : Ft (m + 20) (a : Int) := by unfold Ft; simpa using hI.out.2.2
    have hD := divideLimbs_any x a (m + 20) _ _ _ (hx.keep hkq) ha (by omega) fx2 fa
    go_wp2_with fail
    refine hD.mono ?_
    rintro e w1 ⟨v1, v2, rfl, hv1, hv2, hk1⟩
    have ha1 := ha.keep hk1
    have fq : Ft (m + 20) ((x / a : Nat) : Int) := by
     unfold Ft at *
     have := Nat.div_le_self x a
     simp only [Int.natAbs_natCast] at *
     omega
    have hv1' : Rp 2 1000000000 w1 v1 ((x / a : Nat) : Int) := by simpa using hv1
    have HR : Hid (a ≤ (a + x / a) / 2 → isq x = a) := Hid.mk (fun hc => by
     rcases hI.out.1 with h0 | h0
     ·exact isq_uni (newton_end hc) hI.out.2.1
     ·subst h0
      rw [Nat.zero_div] at hc
      have : a = 0 := by omega
      subst this
      rfl)
    have HN : Hid (¬ a ≤ (a + x / a) / 2 → (0 < (a + x / a) / 2 ∨ x = 0) ∧ x < ((a + x / a) / 2 + 1) * ((a + x / a) / 2 + 1) ∧ (a + x / a) / 2 < 10 ^ (m + 20)) := Hid.mk (fun hc => by
     have h0 : 0 < a := Nat.pos_of_ne_zero (fun h => hc (by subst h; exact Nat.zero_le _))
     have h1 := newton_low (a := x) h0
     have h2 := hI.out.2.2
     refine ⟨?_, h1, Nat.lt_trans (Nat.lt_of_not_le hc) h2⟩
     by_cases hz : (a + x / a) / 2 = 0
     ·rw [hz] at h1
      exact Or.inr (by omega)
     ·exact Or.inl (Nat.pos_of_ne_zero hz))
    clear hD hv1 hv2 ha hI
    generalize x / a = q at *
    go_wp2_with fail
    refine (addLimbs_any a (q : Nat) _ _ _ ha1 hv1' (fa.fit (by omega)) (fq.fit (by omega))).mono ?_
    rintro e w2 ⟨v3, rfl, hv3, hk2, _⟩
    have fs : Ft (m + 21) ((a + q : Nat) : Int) := by
     unfold Ft at *
     simp only [Int.natAbs_natCast] at *
     rw [show m + 21 = (m + 20) + 1 by omega, Nat.pow_succ]
     omega
    have hv3' : Rp 2 1000000000 w2 v3 ((a + q : Nat) : Int) := by simpa using hv3
    have kp2 := kp_alloc w2 (.cells #[.int .i64 2] 2)
    have htwo := rp_lit w2 (d := 2) (by decide) (by decide)
    have f2 : Ft (m + 21) (2 : Int) := by
     have : Ft 1 (2 : Int) := by unfold Ft; decide
     exact this.mono (by omega)
    have hD2 := divideLimbs_any (a + q : Nat) 2 (m + 21) _ _ _ (hv3'.keep kp2) htwo (by omega) fs f2
    clear hv1' hv3
    go_wp2_with fail
    refine hD2.mono ?_
    rintro e w3 ⟨v4, v5, rfl, hv4, hv5, hk3⟩
    have hv4' : Rp 2 1000000000 w3 v4 (((a + q) / 2 : Nat) : Int) := by simpa using hv4
    have ha3 := ((ha1.keep hk2).keep kp2).keep hk3
    have kq := (((hkq.trans' hk1).trans' hk2).trans' kp2).trans' hk3
    clear hD2 hv4 hv5 hv3' htwo ha1
    have hC := compareLimbs_any (((a + q) / 2 : Nat) : Int) a _ _ _ hv4' ha3
    by_cases hc : a ≤ (a + q) / 2
    ·have HQ := Hid.mk (HR.out hc)
     clear HR HN
     have hge : ¬ cmp3 (((a + q) / 2 : Nat) : Int) a < 0 := by
      unfold cmp3
      rw [if_neg (by omega)]
      split <;> omega
     generalize cmp3 (((a + q) / 2 : Nat) : Int) a = o at *
     go_wp2_with fail
     refine hC.mono ?_
     rintro e w4 ⟨rfl, hk4⟩
     go_wp2_with fail
     go_ret
     exact ⟨_, rfl, by rw [HQ.out]; exact ha3.keep hk4, kq.trans' hk4⟩
    ·rw [cmp3_lt (by omega)] at hC
     have HQ := Hid.mk (HN.out hc)
     clear HN HR
     have HM : Hid ((a + q) / 2 < a) := Hid.mk (by omega)
     generalize (a + q) / 2 = n at *
     clear hc
     go_wp2_with fail
     refine hC.mono ?_
     rintro e w4 ⟨rfl, hk4⟩
     have hv5 := hv4'.keep hk4
     have ha5 := ha3.keep hk4
     clear hv4' ha3 hC
     go_wp2_with fail
     go_roundw
     case rel => exact ⟨n, hv5, HQ, kq.trans' hk4⟩
     case measure =>
      have h1 := HM.out
      rw [hv5.read, HRD.out]
      omega

set_option maxHeartbeats 1600000 in
/-- whole.Root: the greatest whole number whose square is not above it. -/
theorem wroot_any (x : Nat) (m : Nat) (u : Value) (w : World) (hx : WN w u x) (hm : m ≤ 200000000) (fx : Ft m x) : Calls Tryd.prog 52 #[u] w (RetW w (isq x : Nat)) := by
 obtain ⟨ao, n, c, rfl, h⟩ := hx
 rw [show decide ((x : Int) < 0) = false by simp] at *
 have h2 : Rp 2 1000000000 w (.slice ao n c) x := by simpa using h
 have kp0 := Kp.alloc' (kp_alloc w (.cells #[.bool false, .slice ao n c] 56)) (.cells #[.bool false, .slice none 0 0] 56)
 have BR0 : Blk ((w.alloc (.cells #[.bool false, .slice ao n c] 56)).alloc (.cells #[.bool false, .slice none 0 0] 56)) (w.heap.size + 1) #[.bool false, .slice none 0 0] 56 := Blk.at (Blk.new (w.alloc (.cells #[.bool false, .slice ao n c] 56)) _ _) (by simp)
 clear h
 go_enter Tryd.func52, Tryd.ntmps52
 go_wp2_with fail
 refine (rootLimbs_any x m _ _ (h2.keep kp0) hm fx).mono ?_
 rintro e w1 ⟨v1, rfl, hv1, hk1⟩
 obtain ⟨ao1, n1, c1, rfl⟩ := hv1.shape
 have BR := BR0.keep hk1
 have bec := BR.cell
 have bef := BR.frozen
 have bel := BR.lt
 go_wp2_with fail
 refine bodyPost_ret (v := .agg #[.bool false, .slice ao1 n1 c1]) (by simp [results, Tryd.results52, go_sem, bec]) rfl ?_
 refine ⟨_, rfl, ?_, Below.setCell (Below.setCell (kp0.trans' hk1) (p := ⟨w.heap.size + 1, 0, none⟩) (by simp) _) (p := ⟨w.heap.size + 1, 1, none⟩) (by simp) _⟩
 refine WN.soft (Sf.set (t := 56) (c := w.heap.size + 1) (o := 1) (y := .slice ao1 n1 c1) (Sf.set (t := 56) (c := w.heap.size + 1) (o := 0) (y := .bool false) (Sf.refl 2 w1) BR.elem (by decide)) (by simp only [elemOf_setCell]; exact BR.elem) (by decide)) ?_
 exact ⟨ao1, n1, c1, by simp, by simpa using hv1⟩

end Go.Proofs.YtjahbjjekednfaaDoor

namespace Go.Proofs.YtjahbjjekednfaaDoor
open Go.RowKit

/-- A call that returns a number's parts. -/
def RetParts (w : World) (a : Qn) (e : Ending) (w' : World) : Prop := ∃ u v t, e = .returned (.tuple #[u, v, t, .int .i64 a.d]) ∧ WN w' u a.p ∧ WN w' v a.q ∧ WN w' t a.r ∧ Kp w w'

set_option maxHeartbeats 1600000 in
set_option maxRecDepth 100000 in
theorem parts_any (a : Qn) (v : Value) (w : World) (hv : XN w v a) : Calls Tryd.prog 50 #[v] w (RetParts w a) := by
 obtain ⟨b1, ao1, n1, c1, b2, ao2, n2, c2, b3, ao3, n3, c3, rfl, g1, g2, g3⟩ := hv
 go_enter Tryd.func50, Tryd.ntmps50
 go_wp2_with fail
 go_region
 all_goals
  go_wp2_with fail
  have kp1 := Kp.drew' (Kp.alloc' (Kp.alloc' (Kp.alloc' (kp_alloc w (.cells #[.bool b1, .slice ao1 n1 c1, .bool b2, .slice ao2 n2 c2, .bool b3, .slice ao3 n3 c3, .int .i64 a.d] 58)) (.cells #[.bool b1, .slice ao1 n1 c1] 56)) (.cells #[.bool b2, .slice ao2 n2 c2] 56)) (.cells #[.bool b3, .slice ao3 n3 c3] 56))
  refine bodyPost_ret (v := .tuple #[.agg #[.bool b1, .slice ao1 n1 c1], .agg #[.bool b2, .slice ao2 n2 c2], .agg #[.bool b3, .slice ao3 n3 c3], .int .i64 a.d]) (by simp [results, Tryd.results50, go_sem]) rfl ?_
  exact ⟨_, _, _, rfl, g1.keep kp1, g2.keep kp1, g3.keep kp1, kp1⟩

end Go.Proofs.YtjahbjjekednfaaDoor

namespace Go.Proofs.YtjahbjjekednfaaDoor
open Go.RowKit

/-- v is the program's rest (p + √n)/q. -/
def RR (w : World) (v : Value) (p q n : Int) : Prop := ∃ b1 ao1 n1 c1 b2 ao2 n2 c2 b3 ao3 n3 c3 b4 ao4 n4 c4, v = .agg #[.bool b1, .slice ao1 n1 c1, .bool b2, .slice ao2 n2 c2, .bool b3, .slice ao3 n3 c3, .bool b4, .slice ao4 n4 c4] ∧
 WN w (.agg #[.bool b1, .slice ao1 n1 c1]) p ∧ WN w (.agg #[.bool b2, .slice ao2 n2 c2]) q ∧ WN w (.agg #[.bool b3, .slice ao3 n3 c3]) n ∧ WN w (.agg #[.bool b4, .slice ao4 n4 c4]) (isq n.toNat : Nat)
def RetRR (w : World) (p q n : Int) (e : Ending) (w' : World) : Prop := ∃ v, e = .returned v ∧ RR w' v p q n ∧ Kp w w'
theorem RR.soft {w W : World} {v : Value} {p q n : Int} (hs : Sf 2 w W) (h : RR w v p q n) : RR W v p q n := by
 obtain ⟨b1, ao1, n1, c1, b2, ao2, n2, c2, b3, ao3, n3, c3, b4, ao4, n4, c4, e, h1, h2, h3, h4⟩ := h
 exact ⟨b1, ao1, n1, c1, b2, ao2, n2, c2, b3, ao3, n3, c3, b4, ao4, n4, c4, e, h1.soft hs, h2.soft hs, h3.soft hs, h4.soft hs⟩
theorem RR.keep {w W : World} {v : Value} {p q n : Int} (hk : Kp w W) (h : RR w v p q n) : RR W v p q n := h.soft (Sf.keep hk)
theorem retRR_mk {w w1 W : World} {p q n : Int} {b1 b2 b3 b4 : Bool} {ao1 ao2 ao3 ao4 : Option Addr} {n1 c1 n2 c2 n3 c3 n4 c4 : Nat} (h1 : WN w1 (.agg #[.bool b1, .slice ao1 n1 c1]) p) (h2 : WN w1 (.agg #[.bool b2, .slice ao2 n2 c2]) q) (h3 : WN w1 (.agg #[.bool b3, .slice ao3 n3 c3]) n) (h4 : WN w1 (.agg #[.bool b4, .slice ao4 n4 c4]) (isq n.toNat : Nat)) (hs : Sf 2 w1 W) (hk : Kp w W) :
  RetRR w p q n (.returned (.agg #[.bool b1, .slice ao1 n1 c1, .bool b2, .slice ao2 n2 c2, .bool b3, .slice ao3 n3 c3, .bool b4, .slice ao4 n4 c4])) W :=
 ⟨_, rfl, ⟨b1, ao1, n1, c1, b2, ao2, n2, c2, b3, ao3, n3, c3, b4, ao4, n4, c4, rfl, h1.soft hs, h2.soft hs, h3.soft hs, h4.soft hs⟩, hk⟩

set_option maxHeartbeats 3200000 in
set_option maxRecDepth 100000 in
theorem of_neg (a : Qn) (m : Nat) (v : Value) (w : World) (hv : XN w v a) (hm : m ≤ 40000000) (f : QF m a) (hd : QD a) (hs : a.q.sign = -1) :
  Calls Tryd.prog 33 #[v] w (RetRR w ((-a.p) * a.r) ((-a.r) * a.r) (a.q * a.r * (a.q * a.r) * a.d)) := by
 obtain ⟨f1, f2, f3⟩ := f
 have HN : Hid (((a.q * a.r * (a.q * a.r) * a.d).toNat : Int) = a.q * a.r * (a.q * a.r) * a.d) := Hid.mk (Int.toNat_of_nonneg (Int.mul_nonneg (sq_nonneg' _) hd.1))
 obtain ⟨d0, d1⟩ := hd
 have fd : Ft 7 a.d := by unfold Ft; omega
 have HS := Hid.mk hs
 clear hs
 obtain ⟨b1, ao1, n1, c1, b2, ao2, n2, c2, b3, ao3, n3, c3, rfl, _, _, _⟩ := id hv
 go_enter Tryd.func33, Tryd.ntmps33
 go_wp2_with fail
 have kp0 : Kp w _ := (Kp.alloc' (Kp.alloc' (Below.refl w.heap.size w) (.cells #[.bool b1, .slice ao1 n1 c1, .bool b2, .slice ao2 n2 c2, .bool b3, .slice ao3 n3 c3, .int .i64 a.d] 58)) (.cells #[.bool false, .slice none 0 0, .bool false, .slice none 0 0, .bool false, .slice none 0 0, .bool false, .slice none 0 0] 72))
 have sf0 : Sf 2 w _ := (Sf.alloc (Sf.alloc (Sf.refl 2 w) (.cells #[.bool b1, .slice ao1 n1 c1, .bool b2, .slice ao2 n2 c2, .bool b3, .slice ao3 n3 c3, .int .i64 a.d] 58)) (.cells #[.bool false, .slice none 0 0, .bool false, .slice none 0 0, .bool false, .slice none 0 0, .bool false, .slice none 0 0] 72))
 refine (parts_any a _ _ (hv.soft sf0)).mono ?_
 rintro e w1 ⟨v1, v2, v3, rfl, hp, hq, hr, hk1⟩
 obtain ⟨b4, ao4, n4, c4, rfl⟩ := hp.shape'
 obtain ⟨b5, ao5, n5, c5, rfl⟩ := hq.shape'
 obtain ⟨b6, ao6, n6, c6, rfl⟩ := hr.shape'
 have kq0 := kp0.trans' hk1
 have sq0 := sf0.trans (Sf.keep hk1)
 have B1res : Blk w1 (w.heap.size + 1) #[.bool false, .slice none 0 0, .bool false, .slice none 0 0, .bool false, .slice none 0 0, .bool false, .slice none 0 0] 72 := Blk.keep hk1 (Blk.at (Blk.new _ _ _) (by simp))
 obtain ⟨B1resc, B1resf, B1resl⟩ := B1res.all
 have ge1res : w.heap.size ≤ w.heap.size + 1 := by (first | omega | (have := kp0.size; simp only [World.size_alloc, size_setCell', size_drew'] at this; omega))
 go_wp2_with fail
 have kp1 : Kp w _ := (Kp.alloc' (Kp.alloc' (Kp.alloc' (Kp.alloc' kq0 (.cells #[.bool b4, .slice ao4 n4 c4] 56)) (.cells #[.bool b5, .slice ao5 n5 c5] 56)) (.cells #[.bool b6, .slice ao6 n6 c6] 56)) (.cells #[.bool b6, .slice ao6 n6 c6] 56))
 have sf1 : Sf 2 w1 _ := (Sf.alloc (Sf.alloc (Sf.alloc (Sf.alloc (Sf.refl 2 w1) (.cells #[.bool b4, .slice ao4 n4 c4] 56)) (.cells #[.bool b5, .slice ao5 n5 c5] 56)) (.cells #[.bool b6, .slice ao6 n6 c6] 56)) (.cells #[.bool b6, .slice ao6 n6 c6] 56))
 have hS := sign_any a.q _ _ (hq.soft sf1)
 rw [HS.out] at hS
 refine hS.mono ?_
 rintro e w2 ⟨rfl, hk2⟩
 clear hS
 have kq1 := kp1.trans' hk2
 have sq1 := sf1.trans (Sf.keep hk2)
 have B2res := Blk.keep hk2 (Blk.alloc (Blk.alloc (Blk.alloc (Blk.alloc B1res _) _) _) _)
 have B2p : Blk w2 (w1.heap.size) #[.bool b4, .slice ao4 n4 c4] 56 := Blk.keep hk2 (Blk.at (Blk.alloc (Blk.alloc (Blk.alloc (Blk.new _ _ _) _) _) _) (by simp))
 have B2factor : Blk w2 (w1.heap.size + 1) #[.bool b5, .slice ao5 n5 c5] 56 := Blk.keep hk2 (Blk.at (Blk.alloc (Blk.alloc (Blk.new _ _ _) _) _) (by simp))
 have B2r : Blk w2 (w1.heap.size + 1 + 1) #[.bool b6, .slice ao6 n6 c6] 56 := Blk.keep hk2 (Blk.at (Blk.alloc (Blk.new _ _ _) _) (by simp))
 have B2q : Blk w2 (w1.heap.size + 1 + 1 + 1) #[.bool b6, .slice ao6 n6 c6] 56 := Blk.keep hk2 (Blk.at (Blk.new _ _ _) (by simp))
 obtain ⟨B2resc, B2resf, B2resl⟩ := B2res.all
 have ge2res : w.heap.size ≤ w.heap.size + 1 := by (first | omega | (have := kp1.size; simp only [World.size_alloc, size_setCell', size_drew'] at this; omega))
 obtain ⟨B2pc, B2pf, B2pl⟩ := B2p.all
 have ge2p : w.heap.size ≤ w1.heap.size := by (first | omega | (have := kp1.size; simp only [World.size_alloc, size_setCell', size_drew'] at this; omega))
 obtain ⟨B2factorc, B2factorf, B2factorl⟩ := B2factor.all
 have ge2factor : w.heap.size ≤ w1.heap.size + 1 := by (first | omega | (have := kp1.size; simp only [World.size_alloc, size_setCell', size_drew'] at this; omega))
 obtain ⟨B2rc, B2rf, B2rl⟩ := B2r.all
 have ge2r : w.heap.size ≤ w1.heap.size + 1 + 1 := by (first | omega | (have := kp1.size; simp only [World.size_alloc, size_setCell', size_drew'] at this; omega))
 obtain ⟨B2qc, B2qf, B2ql⟩ := B2q.all
 have ge2q : w.heap.size ≤ w1.heap.size + 1 + 1 + 1 := by (first | omega | (have := kp1.size; simp only [World.size_alloc, size_setCell', size_drew'] at this; omega))
 replace hp := hp.soft sq1
 replace hq := hq.soft sq1
 replace hr := hr.soft sq1
 clear B1res B1resc B1resf
 go_wp2_with fail
 have kp2 : Kp w _ := kq1
 have sf2 : Sf 2 w2 _ := (Sf.refl 2 w2)
 refine (negate_any a.p _ _ (hp.soft sf2) (f1.fit (by omega))).mono ?_
 rintro e w3 ⟨vhp1, rfl, hp1, hk3⟩
 obtain ⟨b7, ao7, n7, c7, rfl⟩ := hp1.shape'
 have kq2 := kp2.trans' hk3
 have sq2 := sf2.trans (Sf.keep hk3)
 have B3res := Blk.keep hk3 B2res
 have B3p := Blk.keep hk3 B2p
 have B3factor := Blk.keep hk3 B2factor
 have B3r := Blk.keep hk3 B2r
 have B3q := Blk.keep hk3 B2q
 obtain ⟨B3resc, B3resf, B3resl⟩ := B3res.all
 have ge3res : w.heap.size ≤ w.heap.size + 1 := by (first | omega | (have := kp2.size; simp only [World.size_alloc, size_setCell', size_drew'] at this; omega))
 obtain ⟨B3pc, B3pf, B3pl⟩ := B3p.all
 have ge3p : w.heap.size ≤ w1.heap.size := by (first | omega | (have := kp2.size; simp only [World.size_alloc, size_setCell', size_drew'] at this; omega))
 obtain ⟨B3factorc, B3factorf, B3factorl⟩ := B3factor.all
 have ge3factor : w.heap.size ≤ w1.heap.size + 1 := by (first | omega | (have := kp2.size; simp only [World.size_alloc, size_setCell', size_drew'] at this; omega))
 obtain ⟨B3rc, B3rf, B3rl⟩ := B3r.all
 have ge3r : w.heap.size ≤ w1.heap.size + 1 + 1 := by (first | omega | (have := kp2.size; simp only [World.size_alloc, size_setCell', size_drew'] at this; omega))
 obtain ⟨B3qc, B3qf, B3ql⟩ := B3q.all
 have ge3q : w.heap.size ≤ w1.heap.size + 1 + 1 + 1 := by (first | omega | (have := kp2.size; simp only [World.size_alloc, size_setCell', size_drew'] at this; omega))
 replace hq := hq.soft sq2
 replace hr := hr.soft sq2
 clear B2res B2resc B2resf B2p B2pc B2pf B2factor B2factorc B2factorf B2r B2rc B2rf B2q B2qc B2qf
 go_wp2_with fail
 have kp3 : Kp w _ := (stK2 (A := w1.heap.size) (.bool b7) (.slice ao7 n7 c7) kq2 (by have := ge3p; omega))
 have sf3 : Sf 2 w3 _ := (stS2 (E := 2) (.bool b7) (.slice ao7 n7 c7) B3p (by decide))
 refine (negate_any a.r _ _ (hr.soft sf3) (f3.fit (by omega))).mono ?_
 rintro e w4 ⟨vhq1, rfl, hq1, hk4⟩
 obtain ⟨b8, ao8, n8, c8, rfl⟩ := hq1.shape'
 have kq3 := kp3.trans' hk4
 have sq3 := sf3.trans (Sf.keep hk4)
 have B4res := Blk.keep hk4 (Blk.other (Blk.other B3res (by omega)) (by omega))
 have B4p : Blk w4 (w1.heap.size) #[.bool b7, .slice ao7 n7 c7] 56 := Blk.keep hk4 (Blk.set (Blk.set B3p))
 have B4factor := Blk.keep hk4 (Blk.other (Blk.other B3factor (by omega)) (by omega))
 have B4r := Blk.keep hk4 (Blk.other (Blk.other B3r (by omega)) (by omega))
 have B4q := Blk.keep hk4 (Blk.other (Blk.other B3q (by omega)) (by omega))
 obtain ⟨B4resc, B4resf, B4resl⟩ := B4res.all
 have ge4res : w.heap.size ≤ w.heap.size + 1 := by (first | omega | (have := kp3.size; simp only [World.size_alloc, size_setCell', size_drew'] at this; omega))
 obtain ⟨B4pc, B4pf, B4pl⟩ := B4p.all
 have ge4p : w.heap.size ≤ w1.heap.size := by (first | omega | (have := kp3.size; simp only [World.size_alloc, size_setCell', size_drew'] at this; omega))
 obtain ⟨B4factorc, B4factorf, B4factorl⟩ := B4factor.all
 have ge4factor : w.heap.size ≤ w1.heap.size + 1 := by (first | omega | (have := kp3.size; simp only [World.size_alloc, size_setCell', size_drew'] at this; omega))
 obtain ⟨B4rc, B4rf, B4rl⟩ := B4r.all
 have ge4r : w.heap.size ≤ w1.heap.size + 1 + 1 := by (first | omega | (have := kp3.size; simp only [World.size_alloc, size_setCell', size_drew'] at this; omega))
 obtain ⟨B4qc, B4qf, B4ql⟩ := B4q.all
 have ge4q : w.heap.size ≤ w1.heap.size + 1 + 1 + 1 := by (first | omega | (have := kp3.size; simp only [World.size_alloc, size_setCell', size_drew'] at this; omega))
 replace hq := hq.soft sq3
 replace hr := hr.soft sq3
 replace hp1 := hp1.soft sq3
 clear B3res B3resc B3resf B3p B3pc B3pf B3factor B3factorc B3factorf B3r B3rc B3rf B3q B3qc B3qf
 go_wp2_with fail
 have kp4 : Kp w _ := (stK2 (A := w1.heap.size + 1 + 1 + 1) (.bool b8) (.slice ao8 n8 c8) kq3 (by have := ge4q; omega))
 have sf4 : Sf 2 w4 _ := (stS2 (E := 2) (.bool b8) (.slice ao8 n8 c8) B4q (by decide))
 refine (multiply_any (-a.p) (a.r) _ _ _ (hp1.soft sf4) (hr.soft sf4) (f1.neg.fit (by omega)) (f3.fit (by omega))).mono ?_
 rintro e w5 ⟨vhpr, rfl, hpr, hk5⟩
 obtain ⟨b9, ao9, n9, c9, rfl⟩ := hpr.shape'
 have kq4 := kp4.trans' hk5
 have sq4 := sf4.trans (Sf.keep hk5)
 have B5res := Blk.keep hk5 (Blk.other (Blk.other B4res (by omega)) (by omega))
 have B5p := Blk.keep hk5 (Blk.other (Blk.other B4p (by omega)) (by omega))
 have B5factor := Blk.keep hk5 (Blk.other (Blk.other B4factor (by omega)) (by omega))
 have B5r := Blk.keep hk5 (Blk.other (Blk.other B4r (by omega)) (by omega))
 have B5q : Blk w5 (w1.heap.size + 1 + 1 + 1) #[.bool b8, .slice ao8 n8 c8] 56 := Blk.keep hk5 (Blk.set (Blk.set B4q))
 obtain ⟨B5resc, B5resf, B5resl⟩ := B5res.all
 have ge5res : w.heap.size ≤ w.heap.size + 1 := by (first | omega | (have := kp4.size; simp only [World.size_alloc, size_setCell', size_drew'] at this; omega))
 obtain ⟨B5pc, B5pf, B5pl⟩ := B5p.all
 have ge5p : w.heap.size ≤ w1.heap.size := by (first | omega | (have := kp4.size; simp only [World.size_alloc, size_setCell', size_drew'] at this; omega))
 obtain ⟨B5factorc, B5factorf, B5factorl⟩ := B5factor.all
 obtain ⟨B5rc, B5rf, B5rl⟩ := B5r.all
 obtain ⟨B5qc, B5qf, B5ql⟩ := B5q.all
 have ge5q : w.heap.size ≤ w1.heap.size + 1 + 1 + 1 := by (first | omega | (have := kp4.size; simp only [World.size_alloc, size_setCell', size_drew'] at this; omega))
 replace hq := hq.soft sq4
 replace hr := hr.soft sq4
 replace hq1 := hq1.soft sq4
 clear B4res B4resc B4resf B4p B4pc B4pf B4factor B4factorc B4factorf B4r B4rc B4rf B4q B4qc B4qf
 go_wp2_with fail
 have kp5 : Kp w _ := (stK2 (A := w1.heap.size) (.bool b9) (.slice ao9 n9 c9) kq4 (by have := ge5p; omega))
 have sf5 : Sf 2 w5 _ := (stS2 (E := 2) (.bool b9) (.slice ao9 n9 c9) B5p (by decide))
 refine (multiply_any (-a.r) (a.r) _ _ _ (hq1.soft sf5) (hr.soft sf5) (f3.neg.fit (by omega)) (f3.fit (by omega))).mono ?_
 rintro e w6 ⟨vhqr, rfl, hqr, hk6⟩
 obtain ⟨b10, ao10, n10, c10, rfl⟩ := hqr.shape'
 have kq5 := kp5.trans' hk6
 have sq5 := sf5.trans (Sf.keep hk6)
 have B6res := Blk.keep hk6 (Blk.other (Blk.other B5res (by omega)) (by omega))
 have B6p : Blk w6 (w1.heap.size) #[.bool b9, .slice ao9 n9 c9] 56 := Blk.keep hk6 (Blk.set (Blk.set B5p))
 have B6factor := Blk.keep hk6 (Blk.other (Blk.other B5factor (by omega)) (by omega))
 have B6r := Blk.keep hk6 (Blk.other (Blk.other B5r (by omega)) (by omega))
 have B6q := Blk.keep hk6 (Blk.other (Blk.other B5q (by omega)) (by omega))
 obtain ⟨B6resc, B6resf, B6resl⟩ := B6res.all
 have ge6res : w.heap.size ≤ w.heap.size + 1 := by (first | omega | (have := kp5.size; simp only [World.size_alloc, size_setCell', size_drew'] at this; omega))
 obtain ⟨B6pc, B6pf, B6pl⟩ := B6p.all
 have ge6p : w.heap.size ≤ w1.heap.size := by (first | omega | (have := kp5.size; simp only [World.size_alloc, size_setCell', size_drew'] at this; omega))
 obtain ⟨B6factorc, B6factorf, B6factorl⟩ := B6factor.all
 obtain ⟨B6rc, B6rf, B6rl⟩ := B6r.all
 obtain ⟨B6qc, B6qf, B6ql⟩ := B6q.all
 have ge6q : w.heap.size ≤ w1.heap.size + 1 + 1 + 1 := by (first | omega | (have := kp5.size; simp only [World.size_alloc, size_setCell', size_drew'] at this; omega))
 replace hq := hq.soft sq5
 replace hr := hr.soft sq5
 replace hpr := hpr.soft sq5
 clear B5res B5resc B5resf B5p B5pc B5pf B5factor B5factorc B5factorf B5r B5rc B5rf B5q B5qc B5qf
 go_wp2_with fail
 have kp6 : Kp w _ := (stK2 (A := w1.heap.size + 1 + 1 + 1) (.bool b10) (.slice ao10 n10 c10) kq5 (by have := ge6q; omega))
 have sf6 : Sf 2 w6 _ := (stS2 (E := 2) (.bool b10) (.slice ao10 n10 c10) B6q (by decide))
 refine (multiply_any (a.q) (a.r) _ _ _ (hq.soft sf6) (hr.soft sf6) (f2.fit (by omega)) (f3.fit (by omega))).mono ?_
 rintro e w7 ⟨vhsd, rfl, hsd, hk7⟩
 obtain ⟨b11, ao11, n11, c11, rfl⟩ := hsd.shape'
 have kq6 := kp6.trans' hk7
 have sq6 := sf6.trans (Sf.keep hk7)
 have B7res := Blk.keep hk7 (Blk.other (Blk.other B6res (by omega)) (by omega))
 have B7p := Blk.keep hk7 (Blk.other (Blk.other B6p (by omega)) (by omega))
 have B7q : Blk w7 (w1.heap.size + 1 + 1 + 1) #[.bool b10, .slice ao10 n10 c10] 56 := Blk.keep hk7 (Blk.set (Blk.set B6q))
 obtain ⟨B7resc, B7resf, B7resl⟩ := B7res.all
 have ge7res : w.heap.size ≤ w.heap.size + 1 := by (first | omega | (have := kp6.size; simp only [World.size_alloc, size_setCell', size_drew'] at this; omega))
 obtain ⟨B7pc, B7pf, B7pl⟩ := B7p.all
 have ge7p : w.heap.size ≤ w1.heap.size := by (first | omega | (have := kp6.size; simp only [World.size_alloc, size_setCell', size_drew'] at this; omega))
 obtain ⟨B7qc, B7qf, B7ql⟩ := B7q.all
 have ge7q : w.heap.size ≤ w1.heap.size + 1 + 1 + 1 := by (first | omega | (have := kp6.size; simp only [World.size_alloc, size_setCell', size_drew'] at this; omega))
 replace hpr := hpr.soft sq6
 replace hqr := hqr.soft sq6
 clear B6res B6resc B6resf B6p B6pc B6pf B6factor B6factorc B6factorf B6r B6rc B6rf B6q B6qc B6qf
 go_wp2_with fail
 have kp7 : Kp w _ := (Kp.alloc' kq6 (.cells #[.bool b11, .slice ao11 n11 c11] 56))
 have sf7 : Sf 2 w7 _ := (Sf.alloc (Sf.refl 2 w7) (.cells #[.bool b11, .slice ao11 n11 c11] 56))
 refine (multiply_any (a.q * a.r) (a.q * a.r) _ _ _ (hsd.soft sf7) (hsd.soft sf7) ((f2.mul f3).fit (by omega)) ((f2.mul f3).fit (by omega))).mono ?_
 rintro e w8 ⟨vhsq, rfl, hsq, hk8⟩
 obtain ⟨b12, ao12, n12, c12, rfl⟩ := hsq.shape'
 have kq7 := kp7.trans' hk8
 have sq7 := sf7.trans (Sf.keep hk8)
 have B8res := Blk.keep hk8 (Blk.alloc B7res _)
 have B8p := Blk.keep hk8 (Blk.alloc B7p _)
 have B8q := Blk.keep hk8 (Blk.alloc B7q _)
 obtain ⟨B8resc, B8resf, B8resl⟩ := B8res.all
 have ge8res : w.heap.size ≤ w.heap.size + 1 := by (first | omega | (have := kp7.size; simp only [World.size_alloc, size_setCell', size_drew'] at this; omega))
 obtain ⟨B8pc, B8pf, B8pl⟩ := B8p.all
 have ge8p : w.heap.size ≤ w1.heap.size := by (first | omega | (have := kp7.size; simp only [World.size_alloc, size_setCell', size_drew'] at this; omega))
 obtain ⟨B8qc, B8qf, B8ql⟩ := B8q.all
 have ge8q : w.heap.size ≤ w1.heap.size + 1 + 1 + 1 := by (first | omega | (have := kp7.size; simp only [World.size_alloc, size_setCell', size_drew'] at this; omega))
 replace hpr := hpr.soft sq7
 replace hqr := hqr.soft sq7
 clear B7res B7resc B7resf B7p B7pc B7pf B7q B7qc B7qf
 go_wp2_with fail
 have kp8 : Kp w _ := (Kp.alloc' kq7 (.cells #[.bool b12, .slice ao12 n12 c12] 56))
 have sf8 : Sf 2 w8 _ := (Sf.alloc (Sf.refl 2 w8) (.cells #[.bool b12, .slice ao12 n12 c12] 56))
 refine (fromInt_any a.d _ d0 (by omega)).mono ?_
 rintro e w9 ⟨vhin, rfl, hin, hk9⟩
 obtain ⟨b13, ao13, n13, c13, rfl⟩ := hin.shape'
 have kq8 := kp8.trans' hk9
 have sq8 := sf8.trans (Sf.keep hk9)
 have B9res := Blk.keep hk9 (Blk.alloc B8res _)
 have B9p := Blk.keep hk9 (Blk.alloc B8p _)
 have B9q := Blk.keep hk9 (Blk.alloc B8q _)
 have B9square : Blk w9 (w8.heap.size) #[.bool b12, .slice ao12 n12 c12] 56 := Blk.keep hk9 (Blk.at (Blk.new _ _ _) (by simp))
 obtain ⟨B9resc, B9resf, B9resl⟩ := B9res.all
 have ge9res : w.heap.size ≤ w.heap.size + 1 := by (first | omega | (have := kp8.size; simp only [World.size_alloc, size_setCell', size_drew'] at this; omega))
 obtain ⟨B9pc, B9pf, B9pl⟩ := B9p.all
 have ge9p : w.heap.size ≤ w1.heap.size := by (first | omega | (have := kp8.size; simp only [World.size_alloc, size_setCell', size_drew'] at this; omega))
 obtain ⟨B9qc, B9qf, B9ql⟩ := B9q.all
 have ge9q : w.heap.size ≤ w1.heap.size + 1 + 1 + 1 := by (first | omega | (have := kp8.size; simp only [World.size_alloc, size_setCell', size_drew'] at this; omega))
 obtain ⟨B9squarec, B9squaref, B9squarel⟩ := B9square.all
 replace hpr := hpr.soft sq8
 replace hqr := hqr.soft sq8
 replace hsq := hsq.soft sq8
 clear B8res B8resc B8resf B8p B8pc B8pf B8q B8qc B8qf
 go_wp2_with fail
 have kp9 : Kp w _ := (Kp.alloc' kq8 (.cells #[.bool b13, .slice ao13 n13 c13] 56))
 have sf9 : Sf 2 w9 _ := (Sf.alloc (Sf.refl 2 w9) (.cells #[.bool b13, .slice ao13 n13 c13] 56))
 refine (multiply_any (a.q * a.r * (a.q * a.r)) (a.d) _ _ _ (hsq.soft sf9) (hin.soft sf9) (((f2.mul f3).mul (f2.mul f3)).fit (by omega)) (fd.fit (by decide))).mono ?_
 rintro e w10 ⟨vhn, rfl, hn, hk10⟩
 obtain ⟨b14, ao14, n14, c14, rfl⟩ := hn.shape'
 have kq9 := kp9.trans' hk10
 have sq9 := sf9.trans (Sf.keep hk10)
 have B10res := Blk.keep hk10 (Blk.alloc B9res _)
 have B10p := Blk.keep hk10 (Blk.alloc B9p _)
 have B10q := Blk.keep hk10 (Blk.alloc B9q _)
 obtain ⟨B10resc, B10resf, B10resl⟩ := B10res.all
 obtain ⟨B10pc, B10pf, B10pl⟩ := B10p.all
 obtain ⟨B10qc, B10qf, B10ql⟩ := B10q.all
 replace hpr := hpr.soft sq9
 replace hqr := hqr.soft sq9
 clear B9res B9resc B9resf B9p B9pc B9pf B9q B9qc B9qf B9square B9squarec B9squaref
 go_wp2_with fail
 have kp10 : Kp w _ := (Kp.alloc' kq9 (.cells #[.bool b14, .slice ao14 n14 c14] 56))
 have sf10 : Sf 2 w10 _ := (Sf.alloc (Sf.refl 2 w10) (.cells #[.bool b14, .slice ao14 n14 c14] 56))
 have hn2 := (hn.soft sf10)
 have fn : Ft (m + m + (m + m) + 7) (a.q * a.r * (a.q * a.r) * a.d) := ((f2.mul f3).mul (f2.mul f3)).mul fd
 rw [← HN.out] at hn2 fn
 refine (wroot_any _ (m + m + (m + m) + 7) _ _ hn2 (by omega) fn).mono ?_
 rintro e w11 ⟨vhrt, rfl, hrt, hk11⟩
 obtain ⟨b15, ao15, n15, c15, rfl⟩ := hrt.shape'
 clear hn2 fn
 have kq10 := kp10.trans' hk11
 have sq10 := sf10.trans (Sf.keep hk11)
 have B11res := Blk.keep hk11 (Blk.alloc B10res _)
 have B11p := Blk.keep hk11 (Blk.alloc B10p _)
 have B11q := Blk.keep hk11 (Blk.alloc B10q _)
 have B11n : Blk w11 (w10.heap.size) #[.bool b14, .slice ao14 n14 c14] 56 := Blk.keep hk11 (Blk.at (Blk.new _ _ _) (by simp))
 obtain ⟨B11resc, B11resf, B11resl⟩ := B11res.all
 have ge11res : w.heap.size ≤ w.heap.size + 1 := by (first | omega | (have := kp10.size; simp only [World.size_alloc, size_setCell', size_drew'] at this; omega))
 obtain ⟨B11pc, B11pf, B11pl⟩ := B11p.all
 obtain ⟨B11qc, B11qf, B11ql⟩ := B11q.all
 obtain ⟨B11nc, B11nf, B11nl⟩ := B11n.all
 replace hpr := hpr.soft sq10
 replace hqr := hqr.soft sq10
 replace hn := hn.soft sq10
 clear B10res B10resc B10resf B10p B10pc B10pf B10q B10qc B10qf
 go_wp2_with fail
 refine bodyPost_ret (v := .agg #[.bool b9, .slice ao9 n9 c9, .bool b10, .slice ao10 n10 c10, .bool b14, .slice ao14 n14 c14, .bool b15, .slice ao15 n15 c15]) (by simp [results, Tryd.results33, go_sem, B11resc, B11resl]) rfl ?_
 have kpE : Kp w _ := (Kp.alloc' (Below.setCell (stK7 (A := w.heap.size + 1) (.bool b9) (.slice ao9 n9 c9) (.bool b10) (.slice ao10 n10 c10) (.bool b14) (.slice ao14 n14 c14) (.bool b15) kq10 (by have := ge11res; omega)) (p := ⟨w.heap.size + 1, 7, none⟩) (by have := ge11res; omega) (.slice ao15 n15 c15)) (.cells #[.bool b15, .slice ao15 n15 c15] 56))
 have sfE : Sf 2 w11 _ := (Sf.alloc (Sf.set (t := 72) (c := w.heap.size + 1) (o := 7) (y := .slice ao15 n15 c15) (stS7 (E := 2) (.bool b9) (.slice ao9 n9 c9) (.bool b10) (.slice ao10 n10 c10) (.bool b14) (.slice ao14 n14 c14) (.bool b15) B11res (by decide)) (by first | (simp only [elemOf_setCell]; exact B11res.elem) | exact B11res.elem) (by decide)) (.cells #[.bool b15, .slice ao15 n15 c15] 56))
 exact retRR_mk hpr hqr hn hrt sfE kpE

set_option maxHeartbeats 3200000 in
set_option maxRecDepth 100000 in
theorem of_pos (a : Qn) (m : Nat) (v : Value) (w : World) (hv : XN w v a) (hm : m ≤ 40000000) (f : QF m a) (hd : QD a) (hs : ¬ a.q.sign < 0) :
  Calls Tryd.prog 33 #[v] w (RetRR w ((a.p) * a.r) ((a.r) * a.r) (a.q * a.r * (a.q * a.r) * a.d)) := by
 obtain ⟨f1, f2, f3⟩ := f
 have HN : Hid (((a.q * a.r * (a.q * a.r) * a.d).toNat : Int) = a.q * a.r * (a.q * a.r) * a.d) := Hid.mk (Int.toNat_of_nonneg (Int.mul_nonneg (sq_nonneg' _) hd.1))
 obtain ⟨d0, d1⟩ := hd
 have fd : Ft 7 a.d := by unfold Ft; omega
 have HS := Hid.mk hs
 clear hs
 obtain ⟨b1, ao1, n1, c1, b2, ao2, n2, c2, b3, ao3, n3, c3, rfl, _, _, _⟩ := id hv
 go_enter Tryd.func33, Tryd.ntmps33
 go_wp2_with fail
 have kp0 : Kp w _ := (Kp.alloc' (Kp.alloc' (Below.refl w.heap.size w) (.cells #[.bool b1, .slice ao1 n1 c1, .bool b2, .slice ao2 n2 c2, .bool b3, .slice ao3 n3 c3, .int .i64 a.d] 58)) (.cells #[.bool false, .slice none 0 0, .bool false, .slice none 0 0, .bool false, .slice none 0 0, .bool false, .slice none 0 0] 72))
 have sf0 : Sf 2 w _ := (Sf.alloc (Sf.alloc (Sf.refl 2 w) (.cells #[.bool b1, .slice ao1 n1 c1, .bool b2, .slice ao2 n2 c2, .bool b3, .slice ao3 n3 c3, .int .i64 a.d] 58)) (.cells #[.bool false, .slice none 0 0, .bool false, .slice none 0 0, .bool false, .slice none 0 0, .bool false, .slice none 0 0] 72))
 refine (parts_any a _ _ (hv.soft sf0)).mono ?_
 rintro e w1 ⟨v1, v2, v3, rfl, hp, hq, hr, hk1⟩
 obtain ⟨b4, ao4, n4, c4, rfl⟩ := hp.shape'
 obtain ⟨b5, ao5, n5, c5, rfl⟩ := hq.shape'
 obtain ⟨b6, ao6, n6, c6, rfl⟩ := hr.shape'
 have kq0 := kp0.trans' hk1
 have sq0 := sf0.trans (Sf.keep hk1)
 have B1res : Blk w1 (w.heap.size + 1) #[.bool false, .slice none 0 0, .bool false, .slice none 0 0, .bool false, .slice none 0 0, .bool false, .slice none 0 0] 72 := Blk.keep hk1 (Blk.at (Blk.new _ _ _) (by simp))
 obtain ⟨B1resc, B1resf, B1resl⟩ := B1res.all
 go_wp2_with fail
 have kp1 : Kp w _ := (Kp.alloc' (Kp.alloc' (Kp.alloc' (Kp.alloc' kq0 (.cells #[.bool b4, .slice ao4 n4 c4] 56)) (.cells #[.bool b5, .slice ao5 n5 c5] 56)) (.cells #[.bool b6, .slice ao6 n6 c6] 56)) (.cells #[.bool b6, .slice ao6 n6 c6] 56))
 have sf1 : Sf 2 w1 _ := (Sf.alloc (Sf.alloc (Sf.alloc (Sf.alloc (Sf.refl 2 w1) (.cells #[.bool b4, .slice ao4 n4 c4] 56)) (.cells #[.bool b5, .slice ao5 n5 c5] 56)) (.cells #[.bool b6, .slice ao6 n6 c6] 56)) (.cells #[.bool b6, .slice ao6 n6 c6] 56))
 have hS := sign_any a.q _ _ (hq.soft sf1)
 have HG := HS.out
 generalize a.q.sign = sq at hS HG
 refine hS.mono ?_
 rintro e w2 ⟨rfl, hk2⟩
 clear hS
 have kq1 := kp1.trans' hk2
 have sq1 := sf1.trans (Sf.keep hk2)
 have B2res := Blk.keep hk2 (Blk.alloc (Blk.alloc (Blk.alloc (Blk.alloc B1res _) _) _) _)
 have B2p : Blk w2 (w1.heap.size) #[.bool b4, .slice ao4 n4 c4] 56 := Blk.keep hk2 (Blk.at (Blk.alloc (Blk.alloc (Blk.alloc (Blk.new _ _ _) _) _) _) (by simp))
 have B2factor : Blk w2 (w1.heap.size + 1) #[.bool b5, .slice ao5 n5 c5] 56 := Blk.keep hk2 (Blk.at (Blk.alloc (Blk.alloc (Blk.new _ _ _) _) _) (by simp))
 have B2r : Blk w2 (w1.heap.size + 1 + 1) #[.bool b6, .slice ao6 n6 c6] 56 := Blk.keep hk2 (Blk.at (Blk.alloc (Blk.new _ _ _) _) (by simp))
 have B2q : Blk w2 (w1.heap.size + 1 + 1 + 1) #[.bool b6, .slice ao6 n6 c6] 56 := Blk.keep hk2 (Blk.at (Blk.new _ _ _) (by simp))
 obtain ⟨B2resc, B2resf, B2resl⟩ := B2res.all
 obtain ⟨B2pc, B2pf, B2pl⟩ := B2p.all
 obtain ⟨B2factorc, B2factorf, B2factorl⟩ := B2factor.all
 obtain ⟨B2rc, B2rf, B2rl⟩ := B2r.all
 obtain ⟨B2qc, B2qf, B2ql⟩ := B2q.all
 replace hp := hp.soft sq1
 replace hq := hq.soft sq1
 replace hr := hr.soft sq1
 clear B1res B1resc B1resf
 go_wp2_with fail
 have kp2 : Kp w _ := kq1
 have sf2 : Sf 2 w2 _ := (Sf.refl 2 w2)
 refine (multiply_any (a.p) (a.r) _ _ _ (hp.soft sf2) (hr.soft sf2) (f1.fit (by omega)) (f3.fit (by omega))).mono ?_
 rintro e w3 ⟨vhpr, rfl, hpr, hk3⟩
 obtain ⟨b7, ao7, n7, c7, rfl⟩ := hpr.shape'
 have kq2 := kp2.trans' hk3
 have sq2 := sf2.trans (Sf.keep hk3)
 have B3res := Blk.keep hk3 B2res
 have B3p := Blk.keep hk3 B2p
 have B3factor := Blk.keep hk3 B2factor
 have B3r := Blk.keep hk3 B2r
 have B3q := Blk.keep hk3 B2q
 obtain ⟨B3resc, B3resf, B3resl⟩ := B3res.all
 obtain ⟨B3pc, B3pf, B3pl⟩ := B3p.all
 have ge3p : w.heap.size ≤ w1.heap.size := by (first | omega | (have := kp2.size; simp only [World.size_alloc, size_setCell', size_drew'] at this; omega))
 obtain ⟨B3factorc, B3factorf, B3factorl⟩ := B3factor.all
 obtain ⟨B3rc, B3rf, B3rl⟩ := B3r.all
 obtain ⟨B3qc, B3qf, B3ql⟩ := B3q.all
 replace hq := hq.soft sq2
 replace hr := hr.soft sq2
 clear B2res B2resc B2resf B2p B2pc B2pf B2factor B2factorc B2factorf B2r B2rc B2rf B2q B2qc B2qf
 go_wp2_with fail
 have kp3 : Kp w _ := (stK2 (A := w1.heap.size) (.bool b7) (.slice ao7 n7 c7) kq2 (by have := ge3p; omega))
 have sf3 : Sf 2 w3 _ := (stS2 (E := 2) (.bool b7) (.slice ao7 n7 c7) B3p (by decide))
 refine (multiply_any (a.r) (a.r) _ _ _ (hr.soft sf3) (hr.soft sf3) (f3.fit (by omega)) (f3.fit (by omega))).mono ?_
 rintro e w4 ⟨vhqr, rfl, hqr, hk4⟩
 obtain ⟨b8, ao8, n8, c8, rfl⟩ := hqr.shape'
 have kq3 := kp3.trans' hk4
 have sq3 := sf3.trans (Sf.keep hk4)
 have B4res := Blk.keep hk4 (Blk.other (Blk.other B3res (by omega)) (by omega))
 have B4p : Blk w4 (w1.heap.size) #[.bool b7, .slice ao7 n7 c7] 56 := Blk.keep hk4 (Blk.set (Blk.set B3p))
 have B4factor := Blk.keep hk4 (Blk.other (Blk.other B3factor (by omega)) (by omega))
 have B4r := Blk.keep hk4 (Blk.other (Blk.other B3r (by omega)) (by omega))
 have B4q := Blk.keep hk4 (Blk.other (Blk.other B3q (by omega)) (by omega))
 obtain ⟨B4resc, B4resf, B4resl⟩ := B4res.all
 obtain ⟨B4pc, B4pf, B4pl⟩ := B4p.all
 obtain ⟨B4factorc, B4factorf, B4factorl⟩ := B4factor.all
 obtain ⟨B4rc, B4rf, B4rl⟩ := B4r.all
 obtain ⟨B4qc, B4qf, B4ql⟩ := B4q.all
 have ge4q : w.heap.size ≤ w1.heap.size + 1 + 1 + 1 := by (first | omega | (have := kp3.size; simp only [World.size_alloc, size_setCell', size_drew'] at this; omega))
 replace hq := hq.soft sq3
 replace hr := hr.soft sq3
 replace hpr := hpr.soft sq3
 clear B3res B3resc B3resf B3p B3pc B3pf B3factor B3factorc B3factorf B3r B3rc B3rf B3q B3qc B3qf
 go_wp2_with fail
 have kp4 : Kp w _ := (stK2 (A := w1.heap.size + 1 + 1 + 1) (.bool b8) (.slice ao8 n8 c8) kq3 (by have := ge4q; omega))
 have sf4 : Sf 2 w4 _ := (stS2 (E := 2) (.bool b8) (.slice ao8 n8 c8) B4q (by decide))
 refine (multiply_any (a.q) (a.r) _ _ _ (hq.soft sf4) (hr.soft sf4) (f2.fit (by omega)) (f3.fit (by omega))).mono ?_
 rintro e w5 ⟨vhsd, rfl, hsd, hk5⟩
 obtain ⟨b9, ao9, n9, c9, rfl⟩ := hsd.shape'
 have kq4 := kp4.trans' hk5
 have sq4 := sf4.trans (Sf.keep hk5)
 have B5res := Blk.keep hk5 (Blk.other (Blk.other B4res (by omega)) (by omega))
 have B5p := Blk.keep hk5 (Blk.other (Blk.other B4p (by omega)) (by omega))
 have B5q : Blk w5 (w1.heap.size + 1 + 1 + 1) #[.bool b8, .slice ao8 n8 c8] 56 := Blk.keep hk5 (Blk.set (Blk.set B4q))
 obtain ⟨B5resc, B5resf, B5resl⟩ := B5res.all
 obtain ⟨B5pc, B5pf, B5pl⟩ := B5p.all
 obtain ⟨B5qc, B5qf, B5ql⟩ := B5q.all
 replace hpr := hpr.soft sq4
 replace hqr := hqr.soft sq4
 clear B4res B4resc B4resf B4p B4pc B4pf B4factor B4factorc B4factorf B4r B4rc B4rf B4q B4qc B4qf
 go_wp2_with fail
 have kp5 : Kp w _ := (Kp.alloc' kq4 (.cells #[.bool b9, .slice ao9 n9 c9] 56))
 have sf5 : Sf 2 w5 _ := (Sf.alloc (Sf.refl 2 w5) (.cells #[.bool b9, .slice ao9 n9 c9] 56))
 refine (multiply_any (a.q * a.r) (a.q * a.r) _ _ _ (hsd.soft sf5) (hsd.soft sf5) ((f2.mul f3).fit (by omega)) ((f2.mul f3).fit (by omega))).mono ?_
 rintro e w6 ⟨vhsq, rfl, hsq, hk6⟩
 obtain ⟨b10, ao10, n10, c10, rfl⟩ := hsq.shape'
 have kq5 := kp5.trans' hk6
 have sq5 := sf5.trans (Sf.keep hk6)
 have B6res := Blk.keep hk6 (Blk.alloc B5res _)
 have B6p := Blk.keep hk6 (Blk.alloc B5p _)
 have B6q := Blk.keep hk6 (Blk.alloc B5q _)
 obtain ⟨B6resc, B6resf, B6resl⟩ := B6res.all
 obtain ⟨B6pc, B6pf, B6pl⟩ := B6p.all
 obtain ⟨B6qc, B6qf, B6ql⟩ := B6q.all
 replace hpr := hpr.soft sq5
 replace hqr := hqr.soft sq5
 clear B5res B5resc B5resf B5p B5pc B5pf B5q B5qc B5qf
 go_wp2_with fail
 have kp6 : Kp w _ := (Kp.alloc' kq5 (.cells #[.bool b10, .slice ao10 n10 c10] 56))
 have sf6 : Sf 2 w6 _ := (Sf.alloc (Sf.refl 2 w6) (.cells #[.bool b10, .slice ao10 n10 c10] 56))
 refine (fromInt_any a.d _ d0 (by omega)).mono ?_
 rintro e w7 ⟨vhin, rfl, hin, hk7⟩
 obtain ⟨b11, ao11, n11, c11, rfl⟩ := hin.shape'
 have kq6 := kp6.trans' hk7
 have sq6 := sf6.trans (Sf.keep hk7)
 have B7res := Blk.keep hk7 (Blk.alloc B6res _)
 have B7p := Blk.keep hk7 (Blk.alloc B6p _)
 have B7q := Blk.keep hk7 (Blk.alloc B6q _)
 have B7square : Blk w7 (w6.heap.size) #[.bool b10, .slice ao10 n10 c10] 56 := Blk.keep hk7 (Blk.at (Blk.new _ _ _) (by simp))
 obtain ⟨B7resc, B7resf, B7resl⟩ := B7res.all
 obtain ⟨B7pc, B7pf, B7pl⟩ := B7p.all
 obtain ⟨B7qc, B7qf, B7ql⟩ := B7q.all
 obtain ⟨B7squarec, B7squaref, B7squarel⟩ := B7square.all
 replace hpr := hpr.soft sq6
 replace hqr := hqr.soft sq6
 replace hsq := hsq.soft sq6
 clear B6res B6resc B6resf B6p B6pc B6pf B6q B6qc B6qf
 go_wp2_with fail
 have kp7 : Kp w _ := (Kp.alloc' kq6 (.cells #[.bool b11, .slice ao11 n11 c11] 56))
 have sf7 : Sf 2 w7 _ := (Sf.alloc (Sf.refl 2 w7) (.cells #[.bool b11, .slice ao11 n11 c11] 56))
 refine (multiply_any (a.q * a.r * (a.q * a.r)) (a.d) _ _ _ (hsq.soft sf7) (hin.soft sf7) (((f2.mul f3).mul (f2.mul f3)).fit (by omega)) (fd.fit (by decide))).mono ?_
 rintro e w8 ⟨vhn, rfl, hn, hk8⟩
 obtain ⟨b12, ao12, n12, c12, rfl⟩ := hn.shape'
 have kq7 := kp7.trans' hk8
 have sq7 := sf7.trans (Sf.keep hk8)
 have B8res := Blk.keep hk8 (Blk.alloc B7res _)
 have B8p := Blk.keep hk8 (Blk.alloc B7p _)
 have B8q := Blk.keep hk8 (Blk.alloc B7q _)
 obtain ⟨B8resc, B8resf, B8resl⟩ := B8res.all
 obtain ⟨B8pc, B8pf, B8pl⟩ := B8p.all
 obtain ⟨B8qc, B8qf, B8ql⟩ := B8q.all
 replace hpr := hpr.soft sq7
 replace hqr := hqr.soft sq7
 clear B7res B7resc B7resf B7p B7pc B7pf B7q B7qc B7qf B7square B7squarec B7squaref
 go_wp2_with fail
 have kp8 : Kp w _ := (Kp.alloc' kq7 (.cells #[.bool b12, .slice ao12 n12 c12] 56))
 have sf8 : Sf 2 w8 _ := (Sf.alloc (Sf.refl 2 w8) (.cells #[.bool b12, .slice ao12 n12 c12] 56))
 have hn2 := (hn.soft sf8)
 have fn : Ft (m + m + (m + m) + 7) (a.q * a.r * (a.q * a.r) * a.d) := ((f2.mul f3).mul (f2.mul f3)).mul fd
 rw [← HN.out] at hn2 fn
 refine (wroot_any _ (m + m + (m + m) + 7) _ _ hn2 (by omega) fn).mono ?_
 rintro e w9 ⟨vhrt, rfl, hrt, hk9⟩
 obtain ⟨b13, ao13, n13, c13, rfl⟩ := hrt.shape'
 clear hn2 fn
 have kq8 := kp8.trans' hk9
 have sq8 := sf8.trans (Sf.keep hk9)
 have B9res := Blk.keep hk9 (Blk.alloc B8res _)
 have B9p := Blk.keep hk9 (Blk.alloc B8p _)
 have B9q := Blk.keep hk9 (Blk.alloc B8q _)
 have B9n : Blk w9 (w8.heap.size) #[.bool b12, .slice ao12 n12 c12] 56 := Blk.keep hk9 (Blk.at (Blk.new _ _ _) (by simp))
 obtain ⟨B9resc, B9resf, B9resl⟩ := B9res.all
 have ge9res : w.heap.size ≤ w.heap.size + 1 := by (first | omega | (have := kp8.size; simp only [World.size_alloc, size_setCell', size_drew'] at this; omega))
 obtain ⟨B9pc, B9pf, B9pl⟩ := B9p.all
 obtain ⟨B9qc, B9qf, B9ql⟩ := B9q.all
 obtain ⟨B9nc, B9nf, B9nl⟩ := B9n.all
 replace hpr := hpr.soft sq8
 replace hqr := hqr.soft sq8
 replace hn := hn.soft sq8
 clear B8res B8resc B8resf B8p B8pc B8pf B8q B8qc B8qf
 go_wp2_with fail
 refine bodyPost_ret (v := .agg #[.bool b7, .slice ao7 n7 c7, .bool b8, .slice ao8 n8 c8, .bool b12, .slice ao12 n12 c12, .bool b13, .slice ao13 n13 c13]) (by simp [results, Tryd.results33, go_sem, B9resc, B9resl]) rfl ?_
 have kpE : Kp w _ := (Kp.alloc' (Below.setCell (stK7 (A := w.heap.size + 1) (.bool b7) (.slice ao7 n7 c7) (.bool b8) (.slice ao8 n8 c8) (.bool b12) (.slice ao12 n12 c12) (.bool b13) kq8 (by have := ge9res; omega)) (p := ⟨w.heap.size + 1, 7, none⟩) (by have := ge9res; omega) (.slice ao13 n13 c13)) (.cells #[.bool b13, .slice ao13 n13 c13] 56))
 have sfE : Sf 2 w9 _ := (Sf.alloc (Sf.set (t := 72) (c := w.heap.size + 1) (o := 7) (y := .slice ao13 n13 c13) (stS7 (E := 2) (.bool b7) (.slice ao7 n7 c7) (.bool b8) (.slice ao8 n8 c8) (.bool b12) (.slice ao12 n12 c12) (.bool b13) B9res (by decide)) (by first | (simp only [elemOf_setCell]; exact B9res.elem) | exact B9res.elem) (by decide)) (.cells #[.bool b13, .slice ao13 n13 c13] 56))
 exact retRR_mk hpr hqr hn hrt sfE kpE


end Go.Proofs.YtjahbjjekednfaaDoor

namespace Go.Proofs.YtjahbjjekednfaaDoor
open Go.RowKit

set_option maxHeartbeats 1600000 in
theorem ended_any (p q n : Int) (v : Value) (w : World) (hv : RR w v p q n) : Calls Tryd.prog 34 #[v] w (RetV w (.bool (decide (q = 0)))) := by
 obtain ⟨b1, ao1, n1, c1, b2, ao2, n2, c2, b3, ao3, n3, c3, b4, ao4, n4, c4, rfl, hp, hq, hn, hr⟩ := hv
 have kp0 := kp_alloc w (.cells #[.bool b1, .slice ao1 n1 c1, .bool b2, .slice ao2 n2 c2, .bool b3, .slice ao3 n3 c3, .bool b4, .slice ao4 n4 c4] 72)
 by_cases h : q = 0
 ·rw [decide_eq_true h]
  have hs : q.sign = 0 := by rw [h]; rfl
  have hS := sign_any q _ _ (hq.keep kp0)
  rw [hs] at hS
  clear hp hq hn hr
  go_enter Tryd.func34, Tryd.ntmps34
  go_wp2_with fail
  refine hS.mono ?_
  rintro e w1 ⟨rfl, hk1⟩
  go_wp2_with fail
  go_ret
  exact ⟨rfl, kp0.trans' hk1⟩
 ·rw [decide_eq_false h]
  have hs : (q.sign == 0) = false := by
   have := Int.sign_eq_zero_iff_zero (a := q)
   simp [h]
  have hS := sign_any q _ _ (hq.keep kp0)
  generalize q.sign = s at *
  clear hp hq hn hr
  go_enter Tryd.func34, Tryd.ntmps34
  go_wp2_with fail
  refine hS.mono ?_
  rintro e w1 ⟨rfl, hk1⟩
  go_wp2_with fail
  go_ret
  exact ⟨rfl, kp0.trans' hk1⟩

/-- The term of (p + √n)/q. -/
def trm (p q n : Int) : Int := fl (p + (isq n.toNat : Nat) + (if q < 0 ∧ 0 < n then 1 else 0)) q
theorem fl_abs (x y : Int) : (fl x y).natAbs ≤ x.natAbs := by
 unfold fl
 split
 ·rename_i h
  have := Int.natAbs_ediv_le_natAbs x y
  omega
 ·have := Int.natAbs_ediv_le_natAbs (-x) (-y)
  omega

set_option maxHeartbeats 1600000 in
set_option maxRecDepth 100000 in
theorem term_pos (p q n : Int) (m : Nat) (v : Value) (w : World) (hv : RR w v p q n) (hm : m ≤ 100000000) (fp : Ft m p) (fq : Ft m q) (fr : Ft m ((isq n.toNat : Nat) : Int)) (h : 0 < q) :
  Calls Tryd.prog 53 #[v] w (RetW w (fl (p + (isq n.toNat : Nat)) q)) := by
 obtain ⟨b1, ao1, n1, c1, b2, ao2, n2, c2, b3, ao3, n3, c3, b4, ao4, n4, c4, rfl, hp, hq, hn, hr⟩ := hv
 have HQ : Hid (q.sign = 1) := Hid.mk (Int.sign_eq_one_of_pos h)
 have hq0 : q ≠ 0 := by omega
 have f1 : Ft m (1 : Int) := fq.le (by omega)
 generalize ((isq n.toNat : Nat) : Int) = rt at *
 clear h
 go_enter Tryd.func53, Tryd.ntmps53
 go_wp2_with fail
 have kp0 : Kp w _ := (Kp.alloc' (Kp.alloc' (Below.refl w.heap.size w) (.cells #[.bool b1, .slice ao1 n1 c1, .bool b2, .slice ao2 n2 c2, .bool b3, .slice ao3 n3 c3, .bool b4, .slice ao4 n4 c4] 72)) (.cells #[.bool false, .slice none 0 0] 56))
 have sf0 : Sf 2 w _ := (Sf.alloc (Sf.alloc (Sf.refl 2 w) (.cells #[.bool b1, .slice ao1 n1 c1, .bool b2, .slice ao2 n2 c2, .bool b3, .slice ao3 n3 c3, .bool b4, .slice ao4 n4 c4] 72)) (.cells #[.bool false, .slice none 0 0] 56))
 refine (add_any p rt _ _ _ (hp.soft sf0) (hr.soft sf0) (fp.fit (by omega)) (fr.fit (by omega))).mono ?_
 rintro e w1 ⟨v1, rfl, hab, hk1⟩
 obtain ⟨b5, ao5, n5, c5, rfl⟩ := hab.shape'
 have kq0 := kp0.trans' hk1
 have sq0 := sf0.trans (Sf.keep hk1)
 have B1px : Blk w1 (w.heap.size) #[.bool b1, .slice ao1 n1 c1, .bool b2, .slice ao2 n2 c2, .bool b3, .slice ao3 n3 c3, .bool b4, .slice ao4 n4 c4] 72 := Blk.keep hk1 (Blk.at (Blk.alloc (Blk.new _ _ _) _) (by simp))
 have B1res : Blk w1 (w.heap.size + 1) #[.bool false, .slice none 0 0] 56 := Blk.keep hk1 (Blk.at (Blk.new _ _ _) (by simp))
 obtain ⟨B1pxc, B1pxf, B1pxl⟩ := B1px.all
 have ge1px : w.heap.size ≤ w.heap.size := by (first | omega | (have := kp0.size; simp only [World.size_alloc, size_setCell', size_drew'] at this; omega))
 obtain ⟨B1resc, B1resf, B1resl⟩ := B1res.all
 have ge1res : w.heap.size ≤ w.heap.size + 1 := by (first | omega | (have := kp0.size; simp only [World.size_alloc, size_setCell', size_drew'] at this; omega))
 replace hq := hq.soft sq0
 replace hn := hn.soft sq0
 go_wp2_with fail
 have kp1 : Kp w _ := (Kp.alloc' kq0 (.cells #[.bool b5, .slice ao5 n5 c5] 56))
 have sf1 : Sf 2 w1 _ := (Sf.alloc (Sf.refl 2 w1) (.cells #[.bool b5, .slice ao5 n5 c5] 56))
 have hS := sign_any q _ _ (hq.soft sf1)
 rw [HQ.out] at hS
 refine hS.mono ?_
 rintro e w2 ⟨rfl, hk2⟩
 clear hS
 have kq1 := kp1.trans' hk2
 have sq1 := sf1.trans (Sf.keep hk2)
 have B2px := Blk.keep hk2 (Blk.alloc B1px _)
 have B2res := Blk.keep hk2 (Blk.alloc B1res _)
 have B2above : Blk w2 (w1.heap.size) #[.bool b5, .slice ao5 n5 c5] 56 := Blk.keep hk2 (Blk.at (Blk.new _ _ _) (by simp))
 obtain ⟨B2pxc, B2pxf, B2pxl⟩ := B2px.all
 have ge2px : w.heap.size ≤ w.heap.size := by (first | omega | (have := kp1.size; simp only [World.size_alloc, size_setCell', size_drew'] at this; omega))
 obtain ⟨B2resc, B2resf, B2resl⟩ := B2res.all
 have ge2res : w.heap.size ≤ w.heap.size + 1 := by (first | omega | (have := kp1.size; simp only [World.size_alloc, size_setCell', size_drew'] at this; omega))
 obtain ⟨B2abovec, B2abovef, B2abovel⟩ := B2above.all
 have ge2above : w.heap.size ≤ w1.heap.size := by (first | omega | (have := kp1.size; simp only [World.size_alloc, size_setCell', size_drew'] at this; omega))
 replace hq := hq.soft sq1
 replace hn := hn.soft sq1
 replace hab := hab.soft sq1
 clear B1px B1pxc B1pxf B1res B1resc B1resf
 go_wp2_with fail
 have kp2 : Kp w _ := kq1
 have sf2 : Sf 2 w2 _ := (Sf.refl 2 w2)
 have hS := sign_any n _ _ (hn.soft sf2)
 generalize n.sign = sn at hS
 refine hS.mono ?_
 rintro e w3 ⟨rfl, hk3⟩
 clear hS
 have kq2 := kp2.trans' hk3
 have sq2 := sf2.trans (Sf.keep hk3)
 have B3px := Blk.keep hk3 B2px
 have B3res := Blk.keep hk3 B2res
 have B3above := Blk.keep hk3 B2above
 obtain ⟨B3pxc, B3pxf, B3pxl⟩ := B3px.all
 have ge3px : w.heap.size ≤ w.heap.size := by (first | omega | (have := kp2.size; simp only [World.size_alloc, size_setCell', size_drew'] at this; omega))
 obtain ⟨B3resc, B3resf, B3resl⟩ := B3res.all
 have ge3res : w.heap.size ≤ w.heap.size + 1 := by (first | omega | (have := kp2.size; simp only [World.size_alloc, size_setCell', size_drew'] at this; omega))
 obtain ⟨B3abovec, B3abovef, B3abovel⟩ := B3above.all
 have ge3above : w.heap.size ≤ w1.heap.size := by (first | omega | (have := kp2.size; simp only [World.size_alloc, size_setCell', size_drew'] at this; omega))
 replace hq := hq.soft sq2
 replace hab := hab.soft sq2
 clear B2px B2pxc B2pxf B2res B2resc B2resf B2above B2abovec B2abovef
 go_wp2_with fail
 have kp3 : Kp w _ := kq2
 have sf3 : Sf 2 w3 _ := (Sf.refl 2 w3)
 refine (floor_any (p + rt) q (m + 1) _ _ _ (hab.soft sf3) (hq.soft sf3) (by omega) (Ft.add fp fr) (fq.mono (by omega)) hq0).mono ?_
 rintro e w4 ⟨v6, rfl, hfl, hk4⟩
 obtain ⟨b8, ao8, n8, c8, rfl⟩ := hfl.shape'
 have kq3 := kp3.trans' hk4
 have sq3 := sf3.trans (Sf.keep hk4)
 have B4res := Blk.keep hk4 B3res
 obtain ⟨B4resc, B4resf, B4resl⟩ := B4res.all
 have ge4res : w.heap.size ≤ w.heap.size + 1 := by (first | omega | (have := kp3.size; simp only [World.size_alloc, size_setCell', size_drew'] at this; omega))
 clear B3px B3pxc B3pxf B3res B3resc B3resf B3above B3abovec B3abovef
 go_wp2_with fail
 refine bodyPost_ret (v := .agg #[.bool b8, .slice ao8 n8 c8]) (by simp [results, Tryd.results53, go_sem, B4resc]) rfl ?_
 have kpE : Kp w _ := (stK2 (A := w.heap.size + 1) (.bool b8) (.slice ao8 n8 c8) kq3 (by have := ge4res; omega))
 have sfE : Sf 2 w4 _ := (stS2 (E := 2) (.bool b8) (.slice ao8 n8 c8) B4res (by decide))
 exact retW_mk hfl sfE kpE

set_option maxHeartbeats 1600000 in
set_option maxRecDepth 100000 in
theorem term_nil (p q n : Int) (m : Nat) (v : Value) (w : World) (hv : RR w v p q n) (hm : m ≤ 100000000) (fp : Ft m p) (fq : Ft m q) (fr : Ft m ((isq n.toNat : Nat) : Int)) (h : q < 0) (k : n = 0) :
  Calls Tryd.prog 53 #[v] w (RetW w (fl (p + (isq n.toNat : Nat)) q)) := by
 obtain ⟨b1, ao1, n1, c1, b2, ao2, n2, c2, b3, ao3, n3, c3, b4, ao4, n4, c4, rfl, hp, hq, hn, hr⟩ := hv
 have HQ : Hid (q.sign = -1) := Hid.mk (Int.sign_eq_neg_one_of_neg h)
 have HK : Hid (n.sign = 0) := Hid.mk (by rw [k]; rfl)
 have hq0 : q ≠ 0 := by omega
 have f1 : Ft m (1 : Int) := fq.le (by omega)
 generalize ((isq n.toNat : Nat) : Int) = rt at *
 clear h k
 go_enter Tryd.func53, Tryd.ntmps53
 go_wp2_with fail
 have kp0 : Kp w _ := (Kp.alloc' (Kp.alloc' (Below.refl w.heap.size w) (.cells #[.bool b1, .slice ao1 n1 c1, .bool b2, .slice ao2 n2 c2, .bool b3, .slice ao3 n3 c3, .bool b4, .slice ao4 n4 c4] 72)) (.cells #[.bool false, .slice none 0 0] 56))
 have sf0 : Sf 2 w _ := (Sf.alloc (Sf.alloc (Sf.refl 2 w) (.cells #[.bool b1, .slice ao1 n1 c1, .bool b2, .slice ao2 n2 c2, .bool b3, .slice ao3 n3 c3, .bool b4, .slice ao4 n4 c4] 72)) (.cells #[.bool false, .slice none 0 0] 56))
 refine (add_any p rt _ _ _ (hp.soft sf0) (hr.soft sf0) (fp.fit (by omega)) (fr.fit (by omega))).mono ?_
 rintro e w1 ⟨v1, rfl, hab, hk1⟩
 obtain ⟨b5, ao5, n5, c5, rfl⟩ := hab.shape'
 have kq0 := kp0.trans' hk1
 have sq0 := sf0.trans (Sf.keep hk1)
 have B1px : Blk w1 (w.heap.size) #[.bool b1, .slice ao1 n1 c1, .bool b2, .slice ao2 n2 c2, .bool b3, .slice ao3 n3 c3, .bool b4, .slice ao4 n4 c4] 72 := Blk.keep hk1 (Blk.at (Blk.alloc (Blk.new _ _ _) _) (by simp))
 have B1res : Blk w1 (w.heap.size + 1) #[.bool false, .slice none 0 0] 56 := Blk.keep hk1 (Blk.at (Blk.new _ _ _) (by simp))
 obtain ⟨B1pxc, B1pxf, B1pxl⟩ := B1px.all
 have ge1px : w.heap.size ≤ w.heap.size := by (first | omega | (have := kp0.size; simp only [World.size_alloc, size_setCell', size_drew'] at this; omega))
 obtain ⟨B1resc, B1resf, B1resl⟩ := B1res.all
 have ge1res : w.heap.size ≤ w.heap.size + 1 := by (first | omega | (have := kp0.size; simp only [World.size_alloc, size_setCell', size_drew'] at this; omega))
 replace hq := hq.soft sq0
 replace hn := hn.soft sq0
 go_wp2_with fail
 have kp1 : Kp w _ := (Kp.alloc' kq0 (.cells #[.bool b5, .slice ao5 n5 c5] 56))
 have sf1 : Sf 2 w1 _ := (Sf.alloc (Sf.refl 2 w1) (.cells #[.bool b5, .slice ao5 n5 c5] 56))
 have hS := sign_any q _ _ (hq.soft sf1)
 rw [HQ.out] at hS
 refine hS.mono ?_
 rintro e w2 ⟨rfl, hk2⟩
 clear hS
 have kq1 := kp1.trans' hk2
 have sq1 := sf1.trans (Sf.keep hk2)
 have B2px := Blk.keep hk2 (Blk.alloc B1px _)
 have B2res := Blk.keep hk2 (Blk.alloc B1res _)
 have B2above : Blk w2 (w1.heap.size) #[.bool b5, .slice ao5 n5 c5] 56 := Blk.keep hk2 (Blk.at (Blk.new _ _ _) (by simp))
 obtain ⟨B2pxc, B2pxf, B2pxl⟩ := B2px.all
 have ge2px : w.heap.size ≤ w.heap.size := by (first | omega | (have := kp1.size; simp only [World.size_alloc, size_setCell', size_drew'] at this; omega))
 obtain ⟨B2resc, B2resf, B2resl⟩ := B2res.all
 have ge2res : w.heap.size ≤ w.heap.size + 1 := by (first | omega | (have := kp1.size; simp only [World.size_alloc, size_setCell', size_drew'] at this; omega))
 obtain ⟨B2abovec, B2abovef, B2abovel⟩ := B2above.all
 have ge2above : w.heap.size ≤ w1.heap.size := by (first | omega | (have := kp1.size; simp only [World.size_alloc, size_setCell', size_drew'] at this; omega))
 replace hq := hq.soft sq1
 replace hn := hn.soft sq1
 replace hab := hab.soft sq1
 clear B1px B1pxc B1pxf B1res B1resc B1resf
 go_wp2_with fail
 have kp2 : Kp w _ := kq1
 have sf2 : Sf 2 w2 _ := (Sf.refl 2 w2)
 have hS := sign_any n _ _ (hn.soft sf2)
 rw [HK.out] at hS
 refine hS.mono ?_
 rintro e w3 ⟨rfl, hk3⟩
 clear hS
 have kq2 := kp2.trans' hk3
 have sq2 := sf2.trans (Sf.keep hk3)
 have B3px := Blk.keep hk3 B2px
 have B3res := Blk.keep hk3 B2res
 have B3above := Blk.keep hk3 B2above
 obtain ⟨B3pxc, B3pxf, B3pxl⟩ := B3px.all
 have ge3px : w.heap.size ≤ w.heap.size := by (first | omega | (have := kp2.size; simp only [World.size_alloc, size_setCell', size_drew'] at this; omega))
 obtain ⟨B3resc, B3resf, B3resl⟩ := B3res.all
 have ge3res : w.heap.size ≤ w.heap.size + 1 := by (first | omega | (have := kp2.size; simp only [World.size_alloc, size_setCell', size_drew'] at this; omega))
 obtain ⟨B3abovec, B3abovef, B3abovel⟩ := B3above.all
 have ge3above : w.heap.size ≤ w1.heap.size := by (first | omega | (have := kp2.size; simp only [World.size_alloc, size_setCell', size_drew'] at this; omega))
 replace hq := hq.soft sq2
 replace hab := hab.soft sq2
 clear B2px B2pxc B2pxf B2res B2resc B2resf B2above B2abovec B2abovef
 go_wp2_with fail
 have kp3 : Kp w _ := kq2
 have sf3 : Sf 2 w3 _ := (Sf.refl 2 w3)
 refine (floor_any (p + rt) q (m + 1) _ _ _ (hab.soft sf3) (hq.soft sf3) (by omega) (Ft.add fp fr) (fq.mono (by omega)) hq0).mono ?_
 rintro e w4 ⟨v6, rfl, hfl, hk4⟩
 obtain ⟨b8, ao8, n8, c8, rfl⟩ := hfl.shape'
 have kq3 := kp3.trans' hk4
 have sq3 := sf3.trans (Sf.keep hk4)
 have B4res := Blk.keep hk4 B3res
 obtain ⟨B4resc, B4resf, B4resl⟩ := B4res.all
 have ge4res : w.heap.size ≤ w.heap.size + 1 := by (first | omega | (have := kp3.size; simp only [World.size_alloc, size_setCell', size_drew'] at this; omega))
 clear B3px B3pxc B3pxf B3res B3resc B3resf B3above B3abovec B3abovef
 go_wp2_with fail
 refine bodyPost_ret (v := .agg #[.bool b8, .slice ao8 n8 c8]) (by simp [results, Tryd.results53, go_sem, B4resc]) rfl ?_
 have kpE : Kp w _ := (stK2 (A := w.heap.size + 1) (.bool b8) (.slice ao8 n8 c8) kq3 (by have := ge4res; omega))
 have sfE : Sf 2 w4 _ := (stS2 (E := 2) (.bool b8) (.slice ao8 n8 c8) B4res (by decide))
 exact retW_mk hfl sfE kpE

set_option maxHeartbeats 1600000 in
set_option maxRecDepth 100000 in
theorem term_min (p q n : Int) (m : Nat) (v : Value) (w : World) (hv : RR w v p q n) (hm : m ≤ 100000000) (fp : Ft m p) (fq : Ft m q) (fr : Ft m ((isq n.toNat : Nat) : Int)) (h : q < 0) (k : 0 < n) :
  Calls Tryd.prog 53 #[v] w (RetW w (fl (p + (isq n.toNat : Nat) + 1) q)) := by
 obtain ⟨b1, ao1, n1, c1, b2, ao2, n2, c2, b3, ao3, n3, c3, b4, ao4, n4, c4, rfl, hp, hq, hn, hr⟩ := hv
 have HQ : Hid (q.sign = -1) := Hid.mk (Int.sign_eq_neg_one_of_neg h)
 have HK : Hid (n.sign = 1) := Hid.mk (Int.sign_eq_one_of_pos k)
 have hq0 : q ≠ 0 := by omega
 have f1 : Ft m (1 : Int) := fq.le (by omega)
 generalize ((isq n.toNat : Nat) : Int) = rt at *
 clear h k
 go_enter Tryd.func53, Tryd.ntmps53
 go_wp2_with fail
 have kp0 : Kp w _ := (Kp.alloc' (Kp.alloc' (Below.refl w.heap.size w) (.cells #[.bool b1, .slice ao1 n1 c1, .bool b2, .slice ao2 n2 c2, .bool b3, .slice ao3 n3 c3, .bool b4, .slice ao4 n4 c4] 72)) (.cells #[.bool false, .slice none 0 0] 56))
 have sf0 : Sf 2 w _ := (Sf.alloc (Sf.alloc (Sf.refl 2 w) (.cells #[.bool b1, .slice ao1 n1 c1, .bool b2, .slice ao2 n2 c2, .bool b3, .slice ao3 n3 c3, .bool b4, .slice ao4 n4 c4] 72)) (.cells #[.bool false, .slice none 0 0] 56))
 refine (add_any p rt _ _ _ (hp.soft sf0) (hr.soft sf0) (fp.fit (by omega)) (fr.fit (by omega))).mono ?_
 rintro e w1 ⟨v1, rfl, hab, hk1⟩
 obtain ⟨b5, ao5, n5, c5, rfl⟩ := hab.shape'
 have kq0 := kp0.trans' hk1
 have sq0 := sf0.trans (Sf.keep hk1)
 have B1px : Blk w1 (w.heap.size) #[.bool b1, .slice ao1 n1 c1, .bool b2, .slice ao2 n2 c2, .bool b3, .slice ao3 n3 c3, .bool b4, .slice ao4 n4 c4] 72 := Blk.keep hk1 (Blk.at (Blk.alloc (Blk.new _ _ _) _) (by simp))
 have B1res : Blk w1 (w.heap.size + 1) #[.bool false, .slice none 0 0] 56 := Blk.keep hk1 (Blk.at (Blk.new _ _ _) (by simp))
 obtain ⟨B1pxc, B1pxf, B1pxl⟩ := B1px.all
 obtain ⟨B1resc, B1resf, B1resl⟩ := B1res.all
 replace hq := hq.soft sq0
 replace hn := hn.soft sq0
 go_wp2_with fail
 have kp1 : Kp w _ := (Kp.alloc' kq0 (.cells #[.bool b5, .slice ao5 n5 c5] 56))
 have sf1 : Sf 2 w1 _ := (Sf.alloc (Sf.refl 2 w1) (.cells #[.bool b5, .slice ao5 n5 c5] 56))
 have hS := sign_any q _ _ (hq.soft sf1)
 rw [HQ.out] at hS
 refine hS.mono ?_
 rintro e w2 ⟨rfl, hk2⟩
 clear hS
 have kq1 := kp1.trans' hk2
 have sq1 := sf1.trans (Sf.keep hk2)
 have B2px := Blk.keep hk2 (Blk.alloc B1px _)
 have B2res := Blk.keep hk2 (Blk.alloc B1res _)
 have B2above : Blk w2 (w1.heap.size) #[.bool b5, .slice ao5 n5 c5] 56 := Blk.keep hk2 (Blk.at (Blk.new _ _ _) (by simp))
 obtain ⟨B2pxc, B2pxf, B2pxl⟩ := B2px.all
 obtain ⟨B2resc, B2resf, B2resl⟩ := B2res.all
 obtain ⟨B2abovec, B2abovef, B2abovel⟩ := B2above.all
 replace hq := hq.soft sq1
 replace hn := hn.soft sq1
 replace hab := hab.soft sq1
 clear B1px B1pxc B1pxf B1res B1resc B1resf
 go_wp2_with fail
 have kp2 : Kp w _ := kq1
 have sf2 : Sf 2 w2 _ := (Sf.refl 2 w2)
 have hS := sign_any n _ _ (hn.soft sf2)
 rw [HK.out] at hS
 refine hS.mono ?_
 rintro e w3 ⟨rfl, hk3⟩
 clear hS
 have kq2 := kp2.trans' hk3
 have sq2 := sf2.trans (Sf.keep hk3)
 have B3px := Blk.keep hk3 B2px
 have B3res := Blk.keep hk3 B2res
 have B3above := Blk.keep hk3 B2above
 obtain ⟨B3pxc, B3pxf, B3pxl⟩ := B3px.all
 obtain ⟨B3resc, B3resf, B3resl⟩ := B3res.all
 obtain ⟨B3abovec, B3abovef, B3abovel⟩ := B3above.all
 replace hq := hq.soft sq2
 replace hab := hab.soft sq2
 clear B2px B2pxc B2pxf B2res B2resc B2resf B2above B2abovec B2abovef
 go_wp2_with fail
 have kp3 : Kp w _ := kq2
 have sf3 : Sf 2 w3 _ := (Sf.refl 2 w3)
 refine (fromInt_any 1 _ (by decide) (by decide)).mono ?_
 rintro e w4 ⟨v4, rfl, hone, hk4⟩
 obtain ⟨b6, ao6, n6, c6, rfl⟩ := hone.shape'
 have kq3 := kp3.trans' hk4
 have sq3 := sf3.trans (Sf.keep hk4)
 have B4px := Blk.keep hk4 B3px
 have B4res := Blk.keep hk4 B3res
 have B4above := Blk.keep hk4 B3above
 obtain ⟨B4pxc, B4pxf, B4pxl⟩ := B4px.all
 obtain ⟨B4resc, B4resf, B4resl⟩ := B4res.all
 obtain ⟨B4abovec, B4abovef, B4abovel⟩ := B4above.all
 replace hq := hq.soft sq3
 replace hab := hab.soft sq3
 clear B3px B3pxc B3pxf B3res B3resc B3resf B3above B3abovec B3abovef
 go_wp2_with fail
 have kp4 : Kp w _ := (Kp.alloc' kq3 (.cells #[.bool b6, .slice ao6 n6 c6] 56))
 have sf4 : Sf 2 w4 _ := (Sf.alloc (Sf.refl 2 w4) (.cells #[.bool b6, .slice ao6 n6 c6] 56))
 refine (add_any (p + rt) 1 _ _ _ (hab.soft sf4) (hone.soft sf4) ((Ft.add fp fr).fit (by omega)) (f1.fit (by omega))).mono ?_
 rintro e w5 ⟨v5, rfl, hab2, hk5⟩
 obtain ⟨b7, ao7, n7, c7, rfl⟩ := hab2.shape'
 have kq4 := kp4.trans' hk5
 have sq4 := sf4.trans (Sf.keep hk5)
 have B5px := Blk.keep hk5 (Blk.alloc B4px _)
 have B5res := Blk.keep hk5 (Blk.alloc B4res _)
 have B5above := Blk.keep hk5 (Blk.alloc B4above _)
 obtain ⟨B5pxc, B5pxf, B5pxl⟩ := B5px.all
 obtain ⟨B5resc, B5resf, B5resl⟩ := B5res.all
 obtain ⟨B5abovec, B5abovef, B5abovel⟩ := B5above.all
 have ge5above : w.heap.size ≤ w1.heap.size := by (first | omega | (have := kp4.size; simp only [World.size_alloc, size_setCell', size_drew'] at this; omega))
 replace hq := hq.soft sq4
 clear B4px B4pxc B4pxf B4res B4resc B4resf B4above B4abovec B4abovef
 go_wp2_with fail
 have kp5 : Kp w _ := (stK2 (A := w1.heap.size) (.bool b7) (.slice ao7 n7 c7) kq4 (by have := ge5above; omega))
 have sf5 : Sf 2 w5 _ := (stS2 (E := 2) (.bool b7) (.slice ao7 n7 c7) B5above (by decide))
 refine (floor_any (p + rt + 1) q (m + 1 + 1) _ _ _ (hab2.soft sf5) (hq.soft sf5) (by omega) (Ft.add (Ft.add fp fr) (f1.mono (by omega))) (fq.mono (by omega)) hq0).mono ?_
 rintro e w6 ⟨v6, rfl, hfl, hk6⟩
 obtain ⟨b8, ao8, n8, c8, rfl⟩ := hfl.shape'
 have kq5 := kp5.trans' hk6
 have sq5 := sf5.trans (Sf.keep hk6)
 have B6res := Blk.keep hk6 (Blk.other (Blk.other B5res (by omega)) (by omega))
 obtain ⟨B6resc, B6resf, B6resl⟩ := B6res.all
 have ge6res : w.heap.size ≤ w.heap.size + 1 := by (first | omega | (have := kp5.size; simp only [World.size_alloc, size_setCell', size_drew'] at this; omega))
 clear B5px B5pxc B5pxf B5res B5resc B5resf B5above B5abovec B5abovef
 go_wp2_with fail
 refine bodyPost_ret (v := .agg #[.bool b8, .slice ao8 n8 c8]) (by simp [results, Tryd.results53, go_sem, B6resc]) rfl ?_
 have kpE : Kp w _ := (stK2 (A := w.heap.size + 1) (.bool b8) (.slice ao8 n8 c8) kq5 (by have := ge6res; omega))
 have sfE : Sf 2 w6 _ := (stS2 (E := 2) (.bool b8) (.slice ao8 n8 c8) B6res (by decide))
 exact retW_mk hfl sfE kpE

theorem term_any (p q n : Int) (m : Nat) (v : Value) (w : World) (hv : RR w v p q n) (hm : m ≤ 100000000) (fp : Ft m p) (fq : Ft m q) (fr : Ft m ((isq n.toNat : Nat) : Int)) (hq : q ≠ 0) (hn : 0 ≤ n) :
  Calls Tryd.prog 53 #[v] w (RetW w (trm p q n)) := by
 unfold trm
 by_cases h : 0 < q
 ·rw [if_neg (by omega), Int.add_zero]
  exact term_pos p q n m v w hv hm fp fq fr h
 ·by_cases k : n = 0
  ·rw [if_neg (by omega), Int.add_zero]
   exact term_nil p q n m v w hv hm fp fq fr (by omega) k
  ·rw [if_pos (by omega)]
   exact term_min p q n m v w hv hm fp fq fr (by omega) (by omega)

end Go.Proofs.YtjahbjjekednfaaDoor

namespace Go.Proofs.YtjahbjjekednfaaDoor
open Go.RowKit

def nxp (p q n : Int) : Int := trm p q n * q - p
def nxq (p q n : Int) : Int := (n - nxp p q n * nxp p q n).tdiv q
/-- A call that returns a term and the rest behind it. -/
def RetNx (w : World) (t p q n : Int) (e : Ending) (w' : World) : Prop := ∃ u v, e = .returned (.tuple #[u, v]) ∧ WN w' u t ∧ RR w' v p q n ∧ Kp w w'
theorem trm_ft {p q n : Int} {m : Nat} (fp : Ft m p) (fq : Ft m q) (fr : Ft m ((isq n.toNat : Nat) : Int)) (hq : q ≠ 0) : Ft (m + 1 + 1) (trm p q n) := by
 have f1 : Ft m (1 : Int) := fq.le (by omega)
 have f0 : Ft m (0 : Int) := fq.le (by omega)
 have f : Ft (m + 1 + 1) (p + (isq n.toNat : Nat) + (if q < 0 ∧ 0 < n then 1 else 0)) := by
  refine Ft.add (Ft.add fp fr) ?_
  split
  ·exact f1.mono (by omega)
  ·exact f0.mono (by omega)
 exact f.le (fl_abs _ _)

set_option maxHeartbeats 3200000 in
set_option maxRecDepth 100000 in
theorem next_any (p q n : Int) (m : Nat) (v : Value) (w : World) (hv : RR w v p q n) (hm : m ≤ 40000000) (fp : Ft m p) (fq : Ft m q) (fn : Ft m n) (fr : Ft m ((isq n.toNat : Nat) : Int)) (hq0 : q ≠ 0) (hn0 : 0 ≤ n) :
  Calls Tryd.prog 35 #[v] w (RetNx w (trm p q n) (nxp p q n) (nxq p q n) n) := by
 have ft := trm_ft fp fq fr hq0
 have HT := fun (W : World) (hW : RR W v p q n) => term_any p q n m v W hW (by omega) fp fq fr hq0 hn0
 obtain ⟨b1, ao1, n1, c1, b2, ao2, n2, c2, b3, ao3, n3, c3, b4, ao4, n4, c4, rfl, hp, hq, hn, hr⟩ := id hv
 have HP : Hid (trm p q n * q - p = nxp p q n) := Hid.mk rfl
 have HQ : Hid ((n - nxp p q n * nxp p q n).tdiv q = nxq p q n) := Hid.mk rfl
 generalize trm p q n = t at *
 have fx : Ft (m + 1 + 1 + m + 1) (nxp p q n) := by
  rw [← HP.out]
  have := Ft.add (ft.mul fq) (fp.neg.mono (show m ≤ m + 1 + 1 + m by omega))
  rwa [← Int.sub_eq_add_neg] at this
 generalize nxp p q n = x at *
 generalize nxq p q n = y at *
 go_enter Tryd.func35, Tryd.ntmps35
 go_wp2_with fail
 have kp0 : Kp w _ := (Kp.alloc' (Kp.alloc' (Kp.alloc' (Below.refl w.heap.size w) (.cells #[.bool b1, .slice ao1 n1 c1, .bool b2, .slice ao2 n2 c2, .bool b3, .slice ao3 n3 c3, .bool b4, .slice ao4 n4 c4] 72)) (.cells #[.bool false, .slice none 0 0] 56)) (.cells #[.bool false, .slice none 0 0, .bool false, .slice none 0 0, .bool false, .slice none 0 0, .bool false, .slice none 0 0] 72))
 have sf0 : Sf 2 w _ := (Sf.alloc (Sf.alloc (Sf.alloc (Sf.refl 2 w) (.cells #[.bool b1, .slice ao1 n1 c1, .bool b2, .slice ao2 n2 c2, .bool b3, .slice ao3 n3 c3, .bool b4, .slice ao4 n4 c4] 72)) (.cells #[.bool false, .slice none 0 0] 56)) (.cells #[.bool false, .slice none 0 0, .bool false, .slice none 0 0, .bool false, .slice none 0 0, .bool false, .slice none 0 0] 72))
 refine (HT _ (hv.soft sf0)).mono ?_
 rintro e w1 ⟨v1, rfl, ht, hk1⟩
 obtain ⟨b5, ao5, n5, c5, rfl⟩ := ht.shape'
 clear HT
 have kq0 := kp0.trans' hk1
 have sq0 := sf0.trans (Sf.keep hk1)
 have B1px : Blk w1 (w.heap.size) #[.bool b1, .slice ao1 n1 c1, .bool b2, .slice ao2 n2 c2, .bool b3, .slice ao3 n3 c3, .bool b4, .slice ao4 n4 c4] 72 := Blk.keep hk1 (Blk.at (Blk.alloc (Blk.alloc (Blk.new _ _ _) _) _) (by simp))
 have B1res : Blk w1 (w.heap.size + 1) #[.bool false, .slice none 0 0] 56 := Blk.keep hk1 (Blk.at (Blk.alloc (Blk.new _ _ _) _) (by simp))
 have B1res2 : Blk w1 (w.heap.size + 1 + 1) #[.bool false, .slice none 0 0, .bool false, .slice none 0 0, .bool false, .slice none 0 0, .bool false, .slice none 0 0] 72 := Blk.keep hk1 (Blk.at (Blk.new _ _ _) (by simp))
 obtain ⟨B1pxc, B1pxf, B1pxl⟩ := B1px.all
 obtain ⟨B1resc, B1resf, B1resl⟩ := B1res.all
 obtain ⟨B1res2c, B1res2f, B1res2l⟩ := B1res2.all
 replace hp := hp.soft sq0
 replace hq := hq.soft sq0
 replace hn := hn.soft sq0
 replace hr := hr.soft sq0
 go_wp2_with fail
 have kp1 : Kp w _ := (Kp.alloc' kq0 (.cells #[.bool b5, .slice ao5 n5 c5] 56))
 have sf1 : Sf 2 w1 _ := (Sf.alloc (Sf.refl 2 w1) (.cells #[.bool b5, .slice ao5 n5 c5] 56))
 refine (multiply_any t q _ _ _ (ht.soft sf1) (hq.soft sf1) (ft.fit (by omega)) (fq.fit (by omega))).mono ?_
 rintro e w2 ⟨v2, rfl, htk, hk2⟩
 obtain ⟨b6, ao6, n6, c6, rfl⟩ := htk.shape'
 have kq1 := kp1.trans' hk2
 have sq1 := sf1.trans (Sf.keep hk2)
 have B2px := Blk.keep hk2 (Blk.alloc B1px _)
 have B2res := Blk.keep hk2 (Blk.alloc B1res _)
 have B2res2 := Blk.keep hk2 (Blk.alloc B1res2 _)
 have B2term : Blk w2 (w1.heap.size) #[.bool b5, .slice ao5 n5 c5] 56 := Blk.keep hk2 (Blk.at (Blk.new _ _ _) (by simp))
 obtain ⟨B2pxc, B2pxf, B2pxl⟩ := B2px.all
 obtain ⟨B2resc, B2resf, B2resl⟩ := B2res.all
 obtain ⟨B2res2c, B2res2f, B2res2l⟩ := B2res2.all
 obtain ⟨B2termc, B2termf, B2terml⟩ := B2term.all
 replace hp := hp.soft sq1
 replace hq := hq.soft sq1
 replace hn := hn.soft sq1
 replace hr := hr.soft sq1
 replace ht := ht.soft sq1
 clear B1px B1pxc B1pxf B1res B1resc B1resf B1res2 B1res2c B1res2f
 go_wp2_with fail
 have kp2 : Kp w _ := (Kp.alloc' kq1 (.cells #[.bool b6, .slice ao6 n6 c6] 56))
 have sf2 : Sf 2 w2 _ := (Sf.alloc (Sf.refl 2 w2) (.cells #[.bool b6, .slice ao6 n6 c6] 56))
 refine (wsub_any (t * q) p _ _ _ (htk.soft sf2) (hp.soft sf2) ((ft.mul fq).fit (by omega)) (fp.fit (by omega))).mono ?_
 rintro e w3 ⟨v3, rfl, hx, hk3⟩
 obtain ⟨b7, ao7, n7, c7, rfl⟩ := hx.shape'
 rw [HP.out] at hx
 have kq2 := kp2.trans' hk3
 have sq2 := sf2.trans (Sf.keep hk3)
 have B3px := Blk.keep hk3 (Blk.alloc B2px _)
 have B3res := Blk.keep hk3 (Blk.alloc B2res _)
 have B3res2 := Blk.keep hk3 (Blk.alloc B2res2 _)
 have B3term := Blk.keep hk3 (Blk.alloc B2term _)
 obtain ⟨B3pxc, B3pxf, B3pxl⟩ := B3px.all
 obtain ⟨B3resc, B3resf, B3resl⟩ := B3res.all
 obtain ⟨B3res2c, B3res2f, B3res2l⟩ := B3res2.all
 obtain ⟨B3termc, B3termf, B3terml⟩ := B3term.all
 replace hq := hq.soft sq2
 replace hn := hn.soft sq2
 replace hr := hr.soft sq2
 replace ht := ht.soft sq2
 clear B2px B2pxc B2pxf B2res B2resc B2resf B2res2 B2res2c B2res2f B2term B2termc B2termf
 go_wp2_with fail
 have kp3 : Kp w _ := (Kp.alloc' kq2 (.cells #[.bool b7, .slice ao7 n7 c7] 56))
 have sf3 : Sf 2 w3 _ := (Sf.alloc (Sf.refl 2 w3) (.cells #[.bool b7, .slice ao7 n7 c7] 56))
 refine (multiply_any x x _ _ _ (hx.soft sf3) (hx.soft sf3) (fx.fit (by omega)) (fx.fit (by omega))).mono ?_
 rintro e w4 ⟨v4, rfl, hs, hk4⟩
 obtain ⟨b8, ao8, n8, c8, rfl⟩ := hs.shape'
 have kq3 := kp3.trans' hk4
 have sq3 := sf3.trans (Sf.keep hk4)
 have B4px := Blk.keep hk4 (Blk.alloc B3px _)
 have B4res := Blk.keep hk4 (Blk.alloc B3res _)
 have B4res2 := Blk.keep hk4 (Blk.alloc B3res2 _)
 have B4term := Blk.keep hk4 (Blk.alloc B3term _)
 have B4p : Blk w4 (w3.heap.size) #[.bool b7, .slice ao7 n7 c7] 56 := Blk.keep hk4 (Blk.at (Blk.new _ _ _) (by simp))
 obtain ⟨B4pxc, B4pxf, B4pxl⟩ := B4px.all
 obtain ⟨B4resc, B4resf, B4resl⟩ := B4res.all
 obtain ⟨B4res2c, B4res2f, B4res2l⟩ := B4res2.all
 obtain ⟨B4termc, B4termf, B4terml⟩ := B4term.all
 obtain ⟨B4pc, B4pf, B4pl⟩ := B4p.all
 replace hq := hq.soft sq3
 replace hn := hn.soft sq3
 replace hr := hr.soft sq3
 replace ht := ht.soft sq3
 replace hx := hx.soft sq3
 clear B3px B3pxc B3pxf B3res B3resc B3resf B3res2 B3res2c B3res2f B3term B3termc B3termf
 go_wp2_with fail
 have kp4 : Kp w _ := (Kp.alloc' kq3 (.cells #[.bool b8, .slice ao8 n8 c8] 56))
 have sf4 : Sf 2 w4 _ := (Sf.alloc (Sf.refl 2 w4) (.cells #[.bool b8, .slice ao8 n8 c8] 56))
 have fs := fx.mul fx
 refine (wsub_any n (x * x) _ _ _ (hn.soft sf4) (hs.soft sf4) (fn.fit (by omega)) (fs.fit (by omega))).mono ?_
 rintro e w5 ⟨v5, rfl, hno, hk5⟩
 obtain ⟨b9, ao9, n9, c9, rfl⟩ := hno.shape'
 have kq4 := kp4.trans' hk5
 have sq4 := sf4.trans (Sf.keep hk5)
 have B5px := Blk.keep hk5 (Blk.alloc B4px _)
 have B5res := Blk.keep hk5 (Blk.alloc B4res _)
 have B5res2 := Blk.keep hk5 (Blk.alloc B4res2 _)
 have B5term := Blk.keep hk5 (Blk.alloc B4term _)
 have B5p := Blk.keep hk5 (Blk.alloc B4p _)
 obtain ⟨B5pxc, B5pxf, B5pxl⟩ := B5px.all
 obtain ⟨B5resc, B5resf, B5resl⟩ := B5res.all
 obtain ⟨B5res2c, B5res2f, B5res2l⟩ := B5res2.all
 obtain ⟨B5termc, B5termf, B5terml⟩ := B5term.all
 obtain ⟨B5pc, B5pf, B5pl⟩ := B5p.all
 replace hq := hq.soft sq4
 replace hn := hn.soft sq4
 replace hr := hr.soft sq4
 replace ht := ht.soft sq4
 replace hx := hx.soft sq4
 clear B4px B4pxc B4pxf B4res B4resc B4resf B4res2 B4res2c B4res2f B4term B4termc B4termf B4p B4pc B4pf
 go_wp2_with fail
 have kp5 : Kp w _ := (Kp.alloc' kq4 (.cells #[.bool b9, .slice ao9 n9 c9] 56))
 have sf5 : Sf 2 w5 _ := (Sf.alloc (Sf.refl 2 w5) (.cells #[.bool b9, .slice ao9 n9 c9] 56))
 have fno : Ft (m + 1 + 1 + m + 1 + (m + 1 + 1 + m + 1) + 1) (n - x * x) := by
  have := Ft.add (fn.mono (show m ≤ m + 1 + 1 + m + 1 + (m + 1 + 1 + m + 1) by omega)) fs.neg
  rwa [← Int.sub_eq_add_neg] at this
 refine (divide_any (n - x * x) q _ _ _ _ (hno.soft sf5) (hq.soft sf5) (by omega) fno (fq.mono (by omega))).mono ?_
 rintro e w6 ⟨v6, v7, rfl, hy, hrm, hk6⟩
 obtain ⟨b10, ao10, n10, c10, rfl⟩ := hy.shape'
 obtain ⟨b11, ao11, n11, c11, rfl⟩ := hrm.shape'
 rw [HQ.out] at hy
 clear hrm
 have kq5 := kp5.trans' hk6
 have sq5 := sf5.trans (Sf.keep hk6)
 have B6px := Blk.keep hk6 (Blk.alloc B5px _)
 have B6res := Blk.keep hk6 (Blk.alloc B5res _)
 have B6res2 := Blk.keep hk6 (Blk.alloc B5res2 _)
 have B6term := Blk.keep hk6 (Blk.alloc B5term _)
 have B6p := Blk.keep hk6 (Blk.alloc B5p _)
 obtain ⟨B6pxc, B6pxf, B6pxl⟩ := B6px.all
 obtain ⟨B6resc, B6resf, B6resl⟩ := B6res.all
 have ge6res : w.heap.size ≤ w.heap.size + 1 := by (first | omega | (have := kp5.size; simp only [World.size_alloc, size_setCell', size_drew'] at this; omega))
 obtain ⟨B6res2c, B6res2f, B6res2l⟩ := B6res2.all
 have ge6res2 : w.heap.size ≤ w.heap.size + 1 + 1 := by (first | omega | (have := kp5.size; simp only [World.size_alloc, size_setCell', size_drew'] at this; omega))
 obtain ⟨B6termc, B6termf, B6terml⟩ := B6term.all
 obtain ⟨B6pc, B6pf, B6pl⟩ := B6p.all
 replace hn := hn.soft sq5
 replace hr := hr.soft sq5
 replace ht := ht.soft sq5
 replace hx := hx.soft sq5
 clear B5px B5pxc B5pxf B5res B5resc B5resf B5res2 B5res2c B5res2f B5term B5termc B5termf B5p B5pc B5pf
 have Tpx : Blk ((w6.alloc (.cells #[.bool b10, .slice ao10 n10 c10] 56)).alloc (.cells #[.bool b11, .slice ao11 n11 c11] 56)) (w.heap.size) #[.bool b1, .slice ao1 n1 c1, .bool b2, .slice ao2 n2 c2, .bool b3, .slice ao3 n3 c3, .bool b4, .slice ao4 n4 c4] 72 := Blk.alloc (Blk.alloc B6px _) _
 obtain ⟨Tpxc, Tpxf, Tpxl⟩ := Tpx.all
 have Tres : Blk ((w6.alloc (.cells #[.bool b10, .slice ao10 n10 c10] 56)).alloc (.cells #[.bool b11, .slice ao11 n11 c11] 56)) (w.heap.size + 1) #[.bool false, .slice none 0 0] 56 := Blk.alloc (Blk.alloc B6res _) _
 obtain ⟨Tresc, Tresf, Tresl⟩ := Tres.all
 have Tres2 : Blk ((w6.alloc (.cells #[.bool b10, .slice ao10 n10 c10] 56)).alloc (.cells #[.bool b11, .slice ao11 n11 c11] 56)) (w.heap.size + 1 + 1) #[.bool false, .slice none 0 0, .bool false, .slice none 0 0, .bool false, .slice none 0 0, .bool false, .slice none 0 0] 72 := Blk.alloc (Blk.alloc B6res2 _) _
 obtain ⟨Tres2c, Tres2f, Tres2l⟩ := Tres2.all
 have Tterm : Blk ((w6.alloc (.cells #[.bool b10, .slice ao10 n10 c10] 56)).alloc (.cells #[.bool b11, .slice ao11 n11 c11] 56)) (w1.heap.size) #[.bool b5, .slice ao5 n5 c5] 56 := Blk.alloc (Blk.alloc B6term _) _
 obtain ⟨Ttermc, Ttermf, Tterml⟩ := Tterm.all
 have Tp : Blk ((w6.alloc (.cells #[.bool b10, .slice ao10 n10 c10] 56)).alloc (.cells #[.bool b11, .slice ao11 n11 c11] 56)) (w3.heap.size) #[.bool b7, .slice ao7 n7 c7] 56 := Blk.alloc (Blk.alloc B6p _) _
 obtain ⟨Tpc, Tpf, Tpl⟩ := Tp.all
 have Tq : Blk ((w6.alloc (.cells #[.bool b10, .slice ao10 n10 c10] 56)).alloc (.cells #[.bool b11, .slice ao11 n11 c11] 56)) (w6.heap.size) #[.bool b10, .slice ao10 n10 c10] 56 := Blk.alloc (Blk.new w6 _ _) _
 have Tqc := Tq.cell
 go_wp2_with fail
 go_region
 all_goals
  go_wp2_with fail
  have E1 := Blk.drew (Blk.alloc (Blk.alloc (Blk.other (c := w.heap.size + 1 + 1) (o := 7) (y := .slice ao4 n4 c4) (Blk.other (c := w.heap.size + 1 + 1) (o := 6) (y := .bool b4) (Blk.other (c := w.heap.size + 1 + 1) (o := 5) (y := .slice ao3 n3 c3) (Blk.other (c := w.heap.size + 1 + 1) (o := 4) (y := .bool b3) (Blk.other (c := w.heap.size + 1 + 1) (o := 3) (y := .slice ao10 n10 c10) (Blk.other (c := w.heap.size + 1 + 1) (o := 2) (y := .bool b10) (Blk.other (c := w.heap.size + 1 + 1) (o := 1) (y := .slice ao7 n7 c7) (Blk.other (c := w.heap.size + 1 + 1) (o := 0) (y := .bool b7) (Blk.set (o := 1) (y := .slice ao5 n5 c5) (Blk.set (o := 0) (y := .bool b5) B6res)) (by omega)) (by omega)) (by omega)) (by omega)) (by omega)) (by omega)) (by omega)) (by omega)) (.cells #[.bool b10, .slice ao10 n10 c10] 56)) (.cells #[.bool b11, .slice ao11 n11 c11] 56))
  have E2 := Blk.drew (Blk.alloc (Blk.alloc (Blk.set (o := 7) (y := .slice ao4 n4 c4) (Blk.set (o := 6) (y := .bool b4) (Blk.set (o := 5) (y := .slice ao3 n3 c3) (Blk.set (o := 4) (y := .bool b3) (Blk.set (o := 3) (y := .slice ao10 n10 c10) (Blk.set (o := 2) (y := .bool b10) (Blk.set (o := 1) (y := .slice ao7 n7 c7) (Blk.set (o := 0) (y := .bool b7) (Blk.other (c := w.heap.size + 1) (o := 1) (y := .slice ao5 n5 c5) (Blk.other (c := w.heap.size + 1) (o := 0) (y := .bool b5) B6res2 (by omega)) (by omega)))))))))) (.cells #[.bool b10, .slice ao10 n10 c10] 56)) (.cells #[.bool b11, .slice ao11 n11 c11] 56))
  simp only [List.setIfInBounds_toArray, List.set_cons_zero, List.set_cons_succ] at E1 E2
  have kpE : Kp w _ := (Kp.drew' (Kp.alloc' (Kp.alloc' (Below.setCell (stK7 (A := w.heap.size + 1 + 1) (.bool b7) (.slice ao7 n7 c7) (.bool b10) (.slice ao10 n10 c10) (.bool b3) (.slice ao3 n3 c3) (.bool b4) (stK2 (A := w.heap.size + 1) (.bool b5) (.slice ao5 n5 c5) kq5 (by have := ge6res; omega)) (by have := ge6res2; omega)) (p := ⟨w.heap.size + 1 + 1, 7, none⟩) (by have := ge6res2; omega) (.slice ao4 n4 c4)) (.cells #[.bool b10, .slice ao10 n10 c10] 56)) (.cells #[.bool b11, .slice ao11 n11 c11] 56)))
  have sfE : Sf 2 w6 _ := (Sf.drew (Sf.alloc (Sf.alloc (Sf.set (t := 72) (c := w.heap.size + 1 + 1) (o := 7) (y := .slice ao4 n4 c4) (Sf.set (t := 72) (c := w.heap.size + 1 + 1) (o := 6) (y := .bool b4) (Sf.set (t := 72) (c := w.heap.size + 1 + 1) (o := 5) (y := .slice ao3 n3 c3) (Sf.set (t := 72) (c := w.heap.size + 1 + 1) (o := 4) (y := .bool b3) (Sf.set (t := 72) (c := w.heap.size + 1 + 1) (o := 3) (y := .slice ao10 n10 c10) (Sf.set (t := 72) (c := w.heap.size + 1 + 1) (o := 2) (y := .bool b10) (Sf.set (t := 72) (c := w.heap.size + 1 + 1) (o := 1) (y := .slice ao7 n7 c7) (Sf.set (t := 72) (c := w.heap.size + 1 + 1) (o := 0) (y := .bool b7) (stS2 (E := 2) (.bool b5) (.slice ao5 n5 c5) B6res (by decide)) (by first | (simp only [elemOf_setCell]; exact B6res2.elem) | exact B6res2.elem) (by decide)) (by first | (simp only [elemOf_setCell]; exact B6res2.elem) | exact B6res2.elem) (by decide)) (by first | (simp only [elemOf_setCell]; exact B6res2.elem) | exact B6res2.elem) (by decide)) (by first | (simp only [elemOf_setCell]; exact B6res2.elem) | exact B6res2.elem) (by decide)) (by first | (simp only [elemOf_setCell]; exact B6res2.elem) | exact B6res2.elem) (by decide)) (by first | (simp only [elemOf_setCell]; exact B6res2.elem) | exact B6res2.elem) (by decide)) (by first | (simp only [elemOf_setCell]; exact B6res2.elem) | exact B6res2.elem) (by decide)) (by first | (simp only [elemOf_setCell]; exact B6res2.elem) | exact B6res2.elem) (by decide)) (.cells #[.bool b10, .slice ao10 n10 c10] 56)) (.cells #[.bool b11, .slice ao11 n11 c11] 56)))
  refine bodyPost_ret (v := .tuple #[.agg #[.bool b5, .slice ao5 n5 c5], .agg #[.bool b7, .slice ao7 n7 c7, .bool b10, .slice ao10 n10 c10, .bool b3, .slice ao3 n3 c3, .bool b4, .slice ao4 n4 c4]]) (by simp [results, Tryd.results35, go_sem, E1.cell, E2.cell]) rfl ?_
  exact ⟨_, _, rfl, ht.soft sfE, ⟨b7, ao7, n7, c7, b10, ao10, n10, c10, b3, ao3, n3, c3, b4, ao4, n4, c4, rfl, hx.soft sfE, hy.soft sfE, hn.soft sfE, hr.soft sfE⟩, kpE⟩

end Go.Proofs.YtjahbjjekednfaaDoor

namespace Go.Proofs.YtjahbjjekednfaaDoor

theorem fl_pos {x y : Int} (h : 0 < y) : fl x y * y ≤ x ∧ x < fl x y * y + y := by
 unfold fl
 rw [if_pos h]
 have h1 := Int.emod_add_mul_ediv x y
 have h2 := Int.emod_nonneg x (show y ≠ 0 by omega)
 have h3 := Int.emod_lt_of_pos x h
 rw [Int.mul_comm] at h1
 omega
theorem fl_neg {x y : Int} (h : y < 0) : x ≤ fl x y * y ∧ fl x y * y + y < x := by
 unfold fl
 rw [if_neg (by omega)]
 have h1 := Int.emod_add_mul_ediv (-x) (-y)
 have h2 := Int.emod_nonneg (-x) (show -y ≠ 0 by omega)
 have h3 := Int.emod_lt_of_pos (-x) (show 0 < -y by omega)
 have e : -y * (-x / -y) = -(-x / -y * y) := by rw [Int.neg_mul, Int.mul_comm]
 rw [e] at h1
 omega
theorem isq_int {n : Int} (h : 0 ≤ n) : ((isq n.toNat : Nat) : Int) * (isq n.toNat : Nat) ≤ n ∧ n < ((isq n.toNat : Nat) + 1) * ((isq n.toNat : Nat) + 1) := by
 obtain ⟨h1, h2⟩ := isq_ok n.toNat
 have e : (n.toNat : Int) = n := Int.toNat_of_nonneg h
 constructor
 ·rw [← e]; exact_mod_cast h1
 ·rw [← e]; exact_mod_cast h2

/-- Where the next rest's p lies. -/
theorem nxp_at {p q n : Int} : (0 < q → (isq n.toNat : Nat) - q < nxp p q n ∧ nxp p q n ≤ (isq n.toNat : Nat)) ∧
  (q < 0 → 0 < n → (isq n.toNat : Nat) + 1 ≤ nxp p q n ∧ nxp p q n < (isq n.toNat : Nat) + 1 - q) ∧ (q < 0 → ¬ 0 < n → (isq n.toNat : Nat) ≤ nxp p q n ∧ nxp p q n < (isq n.toNat : Nat) - q) := by
 unfold nxp trm
 refine ⟨fun h => ?_, fun h k => ?_, fun h k => ?_⟩
 ·rw [if_neg (by omega)]
  have := fl_pos (x := p + (isq n.toNat : Nat) + 0) h
  omega
 ·rw [if_pos ⟨h, k⟩]
  have := fl_neg (x := p + (isq n.toNat : Nat) + 1) h
  omega
 ·rw [if_neg (by omega)]
  have := fl_neg (x := p + (isq n.toNat : Nat) + 0) h
  omega
theorem nxp_bd {p q n : Int} (hq : q ≠ 0) : (nxp p q n).natAbs ≤ isq n.toNat + 1 + q.natAbs := by
 obtain ⟨h1, h2, h3⟩ := nxp_at (p := p) (q := q) (n := n)
 by_cases h : 0 < q
 ·have := h1 h
  omega
 ·by_cases k : 0 < n
  ·have := h2 (by omega) k
   omega
  ·have := h3 (by omega) k
   omega
theorem tdiv_bd {a b k : Int} (hk : 0 ≤ k) (h : (a.natAbs : Int) ≤ b.natAbs * k) : (a.tdiv b).natAbs ≤ k.natAbs := by
 rw [Int.natAbs_tdiv]
 refine Nat.div_le_of_le_mul ?_
 have : ((a.natAbs : Nat) : Int) ≤ ((b.natAbs * k.natAbs : Nat) : Int) := by
  rw [Int.natCast_mul, show ((k.natAbs : Nat) : Int) = k by omega]
  exact h
 exact_mod_cast this
theorem nxq_bd {p q n : Int} (hq : q ≠ 0) (hn : 0 ≤ n) : (nxq p q n).natAbs ≤ 4 * isq n.toNat + 4 + q.natAbs := by
 obtain ⟨h1, h2, h3⟩ := nxp_at (p := p) (q := q) (n := n)
 obtain ⟨g1, g2⟩ := isq_int hn
 unfold nxq
 have hS : 0 ≤ ((isq n.toNat : Nat) : Int) := by omega
 generalize hx : nxp p q n = x at *
 suffices hh : ∃ k : Int, 0 ≤ k ∧ (((n - x * x).natAbs : Nat) : Int) ≤ q.natAbs * k ∧ k ≤ 4 * (isq n.toNat : Nat) + 4 + q.natAbs by
  obtain ⟨k, k0, k1, k2⟩ := hh
  have := tdiv_bd k0 k1
  omega
 generalize ((isq n.toNat : Nat) : Int) = S at *
 by_cases h : 0 < q
 ·obtain ⟨a, b⟩ := h1 h
  refine ⟨3 * S + x.natAbs, by omega, ?_, by omega⟩
  have e : n - x * x = (n - S * S) + (S - x) * (S + x) := by grind
  have e2 : (q.natAbs : Int) = q := by omega
  have b1 : 0 ≤ (S - x) := by omega
  have b2 : (S - x) * (S + x) ≤ q * (S + x.natAbs) := by
   refine Int.le_trans (Int.mul_le_mul_of_nonneg_left (show S + x ≤ S + x.natAbs by omega) b1) ?_
   exact Int.mul_le_mul_of_nonneg_right (by omega) (by omega)
  have b3 : -(q * (S + x.natAbs)) ≤ (S - x) * (S + x) := by
   have := Int.mul_le_mul_of_nonneg_left (show -(S + x) ≤ S + x.natAbs by omega) b1
   have c := Int.mul_le_mul_of_nonneg_right (show S - x ≤ q by omega) (show 0 ≤ S + (x.natAbs : Int) by omega)
   rw [Int.mul_neg] at this
   omega
  have b4 : 2 * S ≤ q * (2 * S) := by
   have := Int.mul_le_mul_of_nonneg_right (show 1 ≤ q by omega) (show 0 ≤ 2 * S by omega)
   omega
  have b5 : n - S * S ≤ 2 * S := by
   have : (S + 1) * (S + 1) = S * S + 2 * S + 1 := by grind
   omega
  have b6 : q * (3 * S + x.natAbs) = q * (S + x.natAbs) + q * (2 * S) := by grind
  rw [e2, b6]
  omega
 ·have e2 : (q.natAbs : Int) = -q := by omega
  by_cases k : 0 < n
  ·obtain ⟨a, b⟩ := h2 (by omega) k
   refine ⟨3 * S + 2 + x.natAbs, by omega, ?_, by omega⟩
   have e : n - x * x = (n - (S + 1) * (S + 1)) - (x - (S + 1)) * (x + (S + 1)) := by grind
   have b2 : (x - (S + 1)) * (x + (S + 1)) ≤ -q * (x + (S + 1)) := Int.mul_le_mul_of_nonneg_right (by omega) (by omega)
   have b3 : 0 ≤ (x - (S + 1)) * (x + (S + 1)) := Int.mul_nonneg (by omega) (by omega)
   have b4 : 2 * S + 1 ≤ -q * (2 * S + 1) := by
    have := Int.mul_le_mul_of_nonneg_right (show 1 ≤ -q by omega) (show 0 ≤ 2 * S + 1 by omega)
    omega
   have b5 : (S + 1) * (S + 1) = S * S + 2 * S + 1 := by grind
   have b6 : -q * (3 * S + 2 + x.natAbs) = -q * (x + (S + 1)) + -q * (2 * S + 1) := by rw [show (x.natAbs : Int) = x by omega]; grind
   rw [e2, b6]
   omega
  ·obtain ⟨a, b⟩ := h3 (by omega) k
   have hn0 : n = 0 := by omega
   subst hn0
   have hS0 : S = 0 := by
    have : S * S ≤ 0 := g1
    rcases Int.lt_or_eq_of_le hS with h | h
    ·have := Int.mul_pos h h
     omega
    ·omega
   refine ⟨x, by omega, ?_, by omega⟩
   have b2 : x * x ≤ -q * x := Int.mul_le_mul_of_nonneg_right (by omega) (by omega)
   have b3 : 0 ≤ x * x := sq_nonneg' x
   rw [e2]
   omega

/-- The rests one behind the other (as long as there is one). -/
def rst (p q n : Int) : Nat → Int × Int
 | 0 => (p, q)
 | i + 1 => (nxp (rst p q n i).1 (rst p q n i).2 n, nxq (rst p q n i).1 (rst p q n i).2 n)
theorem rst_bd {p q n : Int} (hn : 0 ≤ n) : ∀ i, (∀ j, j < i → (rst p q n j).2 ≠ 0) → (rst p q n i).2.natAbs ≤ q.natAbs + (4 * isq n.toNat + 4) * i ∧ (rst p q n i).1.natAbs ≤ p.natAbs + q.natAbs + (4 * isq n.toNat + 4) * i
 | 0, _ => ⟨by simp [rst], by simp [rst]⟩
 | i + 1, h => by
  obtain ⟨h1, h2⟩ := rst_bd hn i (fun j hj => h j (by omega))
  have hi := h i (by omega)
  have g1 := nxq_bd (p := (rst p q n i).1) hi hn
  have g2 := nxp_bd (p := (rst p q n i).1) (n := n) hi
  have e : (4 * isq n.toNat + 4) * (i + 1) = (4 * isq n.toNat + 4) * i + (4 * isq n.toNat + 4) := by rw [Nat.mul_add, Nat.mul_one]
  simp only [rst]
  rw [e]
  omega

end Go.Proofs.YtjahbjjekednfaaDoor
