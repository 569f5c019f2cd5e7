import Derived.Test.YtjahbjjekednfabDoorL5
namespace Go.Proofs.YtjahbjjekednfabDoor
open Go.RowKit

theorem fl_emod {x y : Int} (h : 0 < y) : x - fl x y * y = x % y := by
 unfold fl
 rw [if_pos h]
 have := Int.emod_add_mul_ediv x y
 rw [Int.mul_comm] at this
 omega

set_option maxHeartbeats 1600000 in
set_option maxRecDepth 100000 in
theorem least_neg (x y : Int) (m : Nat) (u v : Value) (w : World) (hx : WN w u x) (hy : WN w v y) (hm : m ≤ 1000000) (fx : Ft m x) (fy : Ft m y) (h : y < 0) :
  Calls Tryd.prog 82 #[u, v] w (RetW w (x % (-y))) := by
 obtain ⟨b1, ao1, n1, c1, rfl⟩ := hx.shape'
 obtain ⟨b2, ao2, n2, c2, rfl⟩ := hy.shape'
 have HE := Hid.mk (fl_emod (x := x) (y := -y) (by omega))
 have hsg : y.sign < 0 := by
  rw [Int.sign_eq_neg_one_of_neg h]; decide
 have fF : Ft m (fl x (-y)) := fx.le (fl_abs _ _)
 go_enter Tryd.func82, Tryd.ntmps82
 go_wp2_with fail
 have kp0 : Kp w _ := (Kp.alloc' (Kp.alloc' (Kp.alloc' (Below.refl w.heap.size w) (.cells #[.bool b1, .slice ao1 n1 c1] 60)) (.cells #[.bool b2, .slice ao2 n2 c2] 60)) (.cells #[.bool false, .slice none 0 0] 60))
 have sf0 : Sf 2 w _ := (Sf.alloc (Sf.alloc (Sf.alloc (Sf.refl 2 w) (.cells #[.bool b1, .slice ao1 n1 c1] 60)) (.cells #[.bool b2, .slice ao2 n2 c2] 60)) (.cells #[.bool false, .slice none 0 0] 60))
 refine (sign_any y _ _ (hy.soft sf0)).mono ?_
 rintro e w1 ⟨rfl, hk1⟩
 have kq0 := kp0.trans' hk1
 have sq0 := sf0.trans (Sf.keep hk1)
 have B1p1 : Blk w1 (w.heap.size) #[.bool b1, .slice ao1 n1 c1] 60 := Blk.keep hk1 (Blk.at (Blk.alloc (Blk.alloc (Blk.new _ _ _) _) _) (by simp))
 have B1p2 : Blk w1 (w.heap.size + 1) #[.bool b2, .slice ao2 n2 c2] 60 := Blk.keep hk1 (Blk.at (Blk.alloc (Blk.new _ _ _) _) (by simp))
 have B1res : Blk w1 (w.heap.size + 1 + 1) #[.bool false, .slice none 0 0] 60 := Blk.keep hk1 (Blk.at (Blk.new _ _ _) (by simp))
 have B1p1c := B1p1.cell
 have B1p1f := B1p1.frozen
 have B1p1l := B1p1.lt
 have ge1p1 : w.heap.size ≤ w.heap.size := by (first | omega | (have := kp0.size; simp only [World.size_alloc, size_setCell', size_drew'] at this; omega))
 have B1p2c := B1p2.cell
 have B1p2f := B1p2.frozen
 have B1p2l := B1p2.lt
 have ge1p2 : w.heap.size ≤ w.heap.size + 1 := by (first | omega | (have := kp0.size; simp only [World.size_alloc, size_setCell', size_drew'] at this; omega))
 have B1resc := B1res.cell
 have B1resf := B1res.frozen
 have B1resl := B1res.lt
 have ge1res : w.heap.size ≤ w.heap.size + 1 + 1 := by (first | omega | (have := kp0.size; simp only [World.size_alloc, size_setCell', size_drew'] at this; omega))
 replace hx := hx.soft sq0
 replace hy := hy.soft sq0
 generalize y.sign = sg at *
 go_wp2_with fail
 have kp1 : Kp w _ := kq0
 have sf1 : Sf 2 w1 _ := (Sf.refl 2 w1)
 refine (negate_any y _ _ (hy.soft sf1) (fy.fit (by omega))).mono ?_
 rintro e w2 ⟨v3, rfl, hn, hk2⟩
 obtain ⟨b3, ao3, n3, c3, rfl⟩ := hn.shape'
 have kq1 := kp1.trans' hk2
 have sq1 := sf1.trans (Sf.keep hk2)
 have B2p1 : Blk w2 (w.heap.size) #[.bool b1, .slice ao1 n1 c1] 60 := Blk.keep hk2 B1p1
 have B2p2 : Blk w2 (w.heap.size + 1) #[.bool b2, .slice ao2 n2 c2] 60 := Blk.keep hk2 B1p2
 have B2res : Blk w2 (w.heap.size + 1 + 1) #[.bool false, .slice none 0 0] 60 := Blk.keep hk2 B1res
 have B2p1c := B2p1.cell
 have B2p1f := B2p1.frozen
 have B2p1l := B2p1.lt
 have ge2p1 : w.heap.size ≤ w.heap.size := by (first | omega | (have := kp1.size; simp only [World.size_alloc, size_setCell', size_drew'] at this; omega))
 have B2p2c := B2p2.cell
 have B2p2f := B2p2.frozen
 have B2p2l := B2p2.lt
 have ge2p2 : w.heap.size ≤ w.heap.size + 1 := by (first | omega | (have := kp1.size; simp only [World.size_alloc, size_setCell', size_drew'] at this; omega))
 have B2resc := B2res.cell
 have B2resf := B2res.frozen
 have B2resl := B2res.lt
 have ge2res : w.heap.size ≤ w.heap.size + 1 + 1 := by (first | omega | (have := kp1.size; simp only [World.size_alloc, size_setCell', size_drew'] at this; omega))
 replace hx := hx.soft sq1
 clear B1p1 B1p1c B1p1f B1p2 B1p2c B1p2f B1res B1resc B1resf
 go_wp2_with fail
 have kp2 : Kp w _ := (stK2 (A := w.heap.size + 1) (.bool b3) (.slice ao3 n3 c3) kq1 (by have := ge2p2; omega))
 have sf2 : Sf 2 w2 _ := (stS2 (E := 2) (.bool b3) (.slice ao3 n3 c3) B2p2 (by decide))
 refine (floor_any x (-y) m _ _ _ (hx.soft sf2) (hn.soft sf2) (by omega) fx fy.neg (by omega)).mono ?_
 rintro e w3 ⟨v4, rfl, hf, hk3⟩
 obtain ⟨b4, ao4, n4, c4, rfl⟩ := hf.shape'
 have kq2 := kp2.trans' hk3
 have sq2 := sf2.trans (Sf.keep hk3)
 have B3p1 : Blk w3 (w.heap.size) #[.bool b1, .slice ao1 n1 c1] 60 := Blk.keep hk3 (Blk.other (Blk.other B2p1 (by omega)) (by omega))
 have B3p2 : Blk w3 (w.heap.size + 1) #[.bool b3, .slice ao3 n3 c3] 60 := Blk.keep hk3 (Blk.set (Blk.set B2p2))
 have B3res : Blk w3 (w.heap.size + 1 + 1) #[.bool false, .slice none 0 0] 60 := Blk.keep hk3 (Blk.other (Blk.other B2res (by omega)) (by omega))
 have B3p1c := B3p1.cell
 have B3p1f := B3p1.frozen
 have B3p1l := B3p1.lt
 have ge3p1 : w.heap.size ≤ w.heap.size := by (first | omega | (have := kp2.size; simp only [World.size_alloc, size_setCell', size_drew'] at this; omega))
 have B3p2c := B3p2.cell
 have B3p2f := B3p2.frozen
 have B3p2l := B3p2.lt
 have B3resc := B3res.cell
 have B3resf := B3res.frozen
 have B3resl := B3res.lt
 have ge3res : w.heap.size ≤ w.heap.size + 1 + 1 := by (first | omega | (have := kp2.size; simp only [World.size_alloc, size_setCell', size_drew'] at this; omega))
 replace hx := hx.soft sq2
 replace hn := hn.soft sq2
 clear B2p1 B2p1c B2p1f B2p2 B2p2c B2p2f B2res B2resc B2resf
 go_wp2_with fail
 have kp3 : Kp w _ := (Kp.alloc' kq2 (.cells #[.bool b4, .slice ao4 n4 c4] 60))
 have sf3 : Sf 2 w3 _ := (Sf.alloc (Sf.refl 2 w3) (.cells #[.bool b4, .slice ao4 n4 c4] 60))
 refine (multiply_any (fl x (-y)) (-y) _ _ _ (hf.soft sf3) (hn.soft sf3) (fF.fit (by omega)) (fy.neg.fit (by omega))).mono ?_
 rintro e w4 ⟨v5, rfl, ht, hk4⟩
 obtain ⟨b5, ao5, n5, c5, rfl⟩ := ht.shape'
 have kq3 := kp3.trans' hk4
 have sq3 := sf3.trans (Sf.keep hk4)
 have B4p1 : Blk w4 (w.heap.size) #[.bool b1, .slice ao1 n1 c1] 60 := Blk.keep hk4 (Blk.alloc B3p1 _)
 have B4res : Blk w4 (w.heap.size + 1 + 1) #[.bool false, .slice none 0 0] 60 := Blk.keep hk4 (Blk.alloc B3res _)
 have B4p1c := B4p1.cell
 have B4p1f := B4p1.frozen
 have B4p1l := B4p1.lt
 have B4resc := B4res.cell
 have B4resf := B4res.frozen
 have B4resl := B4res.lt
 have ge4res : w.heap.size ≤ w.heap.size + 1 + 1 := by (first | omega | (have := kp3.size; simp only [World.size_alloc, size_setCell', size_drew'] at this; omega))
 replace hx := hx.soft sq3
 clear B3p1 B3p1c B3p1f B3p2 B3p2c B3p2f B3res B3resc B3resf
 go_wp2_with fail
 have kp4 : Kp w _ := (Kp.alloc' kq3 (.cells #[.bool b5, .slice ao5 n5 c5] 60))
 have sf4 : Sf 2 w4 _ := (Sf.alloc (Sf.refl 2 w4) (.cells #[.bool b5, .slice ao5 n5 c5] 60))
 refine (wsub_any x (fl x (-y) * (-y)) _ _ _ (hx.soft sf4) (ht.soft sf4) (fx.fit (by omega)) ((fF.mul fy.neg).fit (by omega))).mono ?_
 rintro e w5 ⟨v6, rfl, hr, hk5⟩
 obtain ⟨b6, ao6, n6, c6, rfl⟩ := hr.shape'
 rw [HE.out] at hr
 have kq4 := kp4.trans' hk5
 have sq4 := sf4.trans (Sf.keep hk5)
 have B5res : Blk w5 (w.heap.size + 1 + 1) #[.bool false, .slice none 0 0] 60 := Blk.keep hk5 (Blk.alloc B4res _)
 have B5resc := B5res.cell
 have B5resf := B5res.frozen
 have B5resl := B5res.lt
 have ge5res : w.heap.size ≤ w.heap.size + 1 + 1 := by (first | omega | (have := kp4.size; simp only [World.size_alloc, size_setCell', size_drew'] at this; omega))
 clear B4p1 B4p1c B4p1f B4res B4resc B4resf
 go_wp2_with fail
 refine bodyPost_ret (v := .agg #[.bool b6, .slice ao6 n6 c6]) (by simp [results, Tryd.results82, go_sem, B5resc]) rfl ?_
 have kpE : Kp w _ := (stK2 (A := w.heap.size + 1 + 1) (.bool b6) (.slice ao6 n6 c6) kq4 (by have := ge5res; omega))
 have sfE : Sf 2 w5 _ := (stS2 (E := 2) (.bool b6) (.slice ao6 n6 c6) B5res (by decide))
 exact retW_mk hr sfE kpE

set_option maxHeartbeats 1600000 in
set_option maxRecDepth 100000 in
theorem least_pos (x y : Int) (m : Nat) (u v : Value) (w : World) (hx : WN w u x) (hy : WN w v y) (hm : m ≤ 1000000) (fx : Ft m x) (fy : Ft m y) (h : 0 < y) :
  Calls Tryd.prog 82 #[u, v] w (RetW w (x % y)) := by
 obtain ⟨b1, ao1, n1, c1, rfl⟩ := hx.shape'
 obtain ⟨b2, ao2, n2, c2, rfl⟩ := hy.shape'
 have HE := Hid.mk (fl_emod (x := x) (y := y) (by omega))
 have hsg : ¬ y.sign < 0 := by
  rw [Int.sign_eq_one_of_pos h]; decide
 have fF : Ft m (fl x y) := fx.le (fl_abs _ _)
 go_enter Tryd.func82, Tryd.ntmps82
 go_wp2_with fail
 have kp0 : Kp w _ := (Kp.alloc' (Kp.alloc' (Kp.alloc' (Below.refl w.heap.size w) (.cells #[.bool b1, .slice ao1 n1 c1] 60)) (.cells #[.bool b2, .slice ao2 n2 c2] 60)) (.cells #[.bool false, .slice none 0 0] 60))
 have sf0 : Sf 2 w _ := (Sf.alloc (Sf.alloc (Sf.alloc (Sf.refl 2 w) (.cells #[.bool b1, .slice ao1 n1 c1] 60)) (.cells #[.bool b2, .slice ao2 n2 c2] 60)) (.cells #[.bool false, .slice none 0 0] 60))
 refine (sign_any y _ _ (hy.soft sf0)).mono ?_
 rintro e w1 ⟨rfl, hk1⟩
 have kq0 := kp0.trans' hk1
 have sq0 := sf0.trans (Sf.keep hk1)
 have B1p1 : Blk w1 (w.heap.size) #[.bool b1, .slice ao1 n1 c1] 60 := Blk.keep hk1 (Blk.at (Blk.alloc (Blk.alloc (Blk.new _ _ _) _) _) (by simp))
 have B1p2 : Blk w1 (w.heap.size + 1) #[.bool b2, .slice ao2 n2 c2] 60 := Blk.keep hk1 (Blk.at (Blk.alloc (Blk.new _ _ _) _) (by simp))
 have B1res : Blk w1 (w.heap.size + 1 + 1) #[.bool false, .slice none 0 0] 60 := Blk.keep hk1 (Blk.at (Blk.new _ _ _) (by simp))
 have B1p1c := B1p1.cell
 have B1p1f := B1p1.frozen
 have B1p1l := B1p1.lt
 have B1p2c := B1p2.cell
 have B1p2f := B1p2.frozen
 have B1p2l := B1p2.lt
 have B1resc := B1res.cell
 have B1resf := B1res.frozen
 have B1resl := B1res.lt
 replace hx := hx.soft sq0
 replace hy := hy.soft sq0
 generalize y.sign = sg at *
 go_wp2_with fail
 have kp1 : Kp w _ := kq0
 have sf1 : Sf 2 w1 _ := (Sf.refl 2 w1)
 refine (floor_any x y m _ _ _ (hx.soft sf1) (hy.soft sf1) (by omega) fx fy (by omega)).mono ?_
 rintro e w2 ⟨v4, rfl, hf, hk2⟩
 obtain ⟨b4, ao4, n4, c4, rfl⟩ := hf.shape'
 have kq1 := kp1.trans' hk2
 have sq1 := sf1.trans (Sf.keep hk2)
 have B2p1 : Blk w2 (w.heap.size) #[.bool b1, .slice ao1 n1 c1] 60 := Blk.keep hk2 B1p1
 have B2p2 : Blk w2 (w.heap.size + 1) #[.bool b2, .slice ao2 n2 c2] 60 := Blk.keep hk2 B1p2
 have B2res : Blk w2 (w.heap.size + 1 + 1) #[.bool false, .slice none 0 0] 60 := Blk.keep hk2 B1res
 have B2p1c := B2p1.cell
 have B2p1f := B2p1.frozen
 have B2p1l := B2p1.lt
 have B2p2c := B2p2.cell
 have B2p2f := B2p2.frozen
 have B2p2l := B2p2.lt
 have B2resc := B2res.cell
 have B2resf := B2res.frozen
 have B2resl := B2res.lt
 replace hx := hx.soft sq1
 replace hy := hy.soft sq1
 clear B1p1 B1p1c B1p1f B1p2 B1p2c B1p2f B1res B1resc B1resf
 go_wp2_with fail
 have kp2 : Kp w _ := (Kp.alloc' kq1 (.cells #[.bool b4, .slice ao4 n4 c4] 60))
 have sf2 : Sf 2 w2 _ := (Sf.alloc (Sf.refl 2 w2) (.cells #[.bool b4, .slice ao4 n4 c4] 60))
 refine (multiply_any (fl x y) y _ _ _ (hf.soft sf2) (hy.soft sf2) (fF.fit (by omega)) (fy.fit (by omega))).mono ?_
 rintro e w3 ⟨v5, rfl, ht, hk3⟩
 obtain ⟨b5, ao5, n5, c5, rfl⟩ := ht.shape'
 have kq2 := kp2.trans' hk3
 have sq2 := sf2.trans (Sf.keep hk3)
 have B3p1 : Blk w3 (w.heap.size) #[.bool b1, .slice ao1 n1 c1] 60 := Blk.keep hk3 (Blk.alloc B2p1 _)
 have B3res : Blk w3 (w.heap.size + 1 + 1) #[.bool false, .slice none 0 0] 60 := Blk.keep hk3 (Blk.alloc B2res _)
 have B3p1c := B3p1.cell
 have B3p1f := B3p1.frozen
 have B3p1l := B3p1.lt
 have B3resc := B3res.cell
 have B3resf := B3res.frozen
 have B3resl := B3res.lt
 replace hx := hx.soft sq2
 clear B2p1 B2p1c B2p1f B2p2 B2p2c B2p2f B2res B2resc B2resf
 go_wp2_with fail
 have kp3 : Kp w _ := (Kp.alloc' kq2 (.cells #[.bool b5, .slice ao5 n5 c5] 60))
 have sf3 : Sf 2 w3 _ := (Sf.alloc (Sf.refl 2 w3) (.cells #[.bool b5, .slice ao5 n5 c5] 60))
 refine (wsub_any x (fl x y * y) _ _ _ (hx.soft sf3) (ht.soft sf3) (fx.fit (by omega)) ((fF.mul fy).fit (by omega))).mono ?_
 rintro e w4 ⟨v6, rfl, hr, hk4⟩
 obtain ⟨b6, ao6, n6, c6, rfl⟩ := hr.shape'
 rw [HE.out] at hr
 have kq3 := kp3.trans' hk4
 have sq3 := sf3.trans (Sf.keep hk4)
 have B4res : Blk w4 (w.heap.size + 1 + 1) #[.bool false, .slice none 0 0] 60 := Blk.keep hk4 (Blk.alloc B3res _)
 have B4resc := B4res.cell
 have B4resf := B4res.frozen
 have B4resl := B4res.lt
 have ge4res : w.heap.size ≤ w.heap.size + 1 + 1 := by (first | omega | (have := kp3.size; simp only [World.size_alloc, size_setCell', size_drew'] at this; omega))
 clear B3p1 B3p1c B3p1f B3res B3resc B3resf
 go_wp2_with fail
 refine bodyPost_ret (v := .agg #[.bool b6, .slice ao6 n6 c6]) (by simp [results, Tryd.results82, go_sem, B4resc]) rfl ?_
 have kpE : Kp w _ := (stK2 (A := w.heap.size + 1 + 1) (.bool b6) (.slice ao6 n6 c6) kq3 (by have := ge4res; omega))
 have sfE : Sf 2 w4 _ := (stS2 (E := 2) (.bool b6) (.slice ao6 n6 c6) B4res (by decide))
 exact retW_mk hr sfE kpE

theorem least_any (x y : Int) (m : Nat) (u v : Value) (w : World) (hx : WN w u x) (hy : WN w v y) (hm : m ≤ 1000000) (fx : Ft m x) (fy : Ft m y) (h : y ≠ 0) : Calls Tryd.prog 82 #[u, v] w (RetW w (x % (y.natAbs : Int))) := by
 by_cases h0 : y < 0
 ·rw [show (y.natAbs : Int) = -y by omega]
  exact least_neg x y m u v w hx hy hm fx fy h0
 ·rw [show (y.natAbs : Int) = y by omega]
  exact least_pos x y m u v w hx hy hm fx fy (by omega)

end Go.Proofs.YtjahbjjekednfabDoor
