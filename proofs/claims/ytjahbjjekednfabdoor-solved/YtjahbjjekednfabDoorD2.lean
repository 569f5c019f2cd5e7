import Derived.Test.YtjahbjjekednfabDoorF10
import Derived.Test.YtjahbjjekednfabDoorC3a
namespace Go.Proofs.YtjahbjjekednfabDoor
open Go.RowKit

theorem sgn_eq0 (N : Int) : ((N - 1).sign == 0) = decide (N = 1) := by
 by_cases h : N = 1
 ·rw [h]; rfl
 ·rw [decide_eq_false h, beq_eq_false_iff_ne]
  intro e
  exact h (by have := Int.sign_eq_zero_iff_zero.1 e; omega)

set_option maxHeartbeats 3200000 in
set_option maxRecDepth 100000 in
theorem solves_any (x y d : Int) (m : Nat) (u v : Value) (w : World) (hu : FR w u x y) (hd : WN w v d) (hm : m ≤ 1000000) (fx : Ft m x) (fy : Ft m y) (fd : Ft m d) :
 Calls Tryd.prog 75 #[u, v] w (RetV w (.bool (decide (x * x - y * y * d = 1)))) := by
 obtain ⟨b1, ao1, n1, c1, b2, ao2, n2, c2, rfl, hx, hy⟩ := hu
 obtain ⟨b3, ao3, n3, c3, rfl⟩ := hd.shape'
 go_enter Tryd.func75, Tryd.ntmps75
 go_wp2_with fail
 have kp0 : Kp w _ := (Kp.alloc' (Kp.alloc' (Below.refl w.heap.size w) (.cells #[.bool b1, .slice ao1 n1 c1, .bool b2, .slice ao2 n2 c2] 76)) (.cells #[.bool b3, .slice ao3 n3 c3] 60))
 have sf0 : Sf 2 w _ := (Sf.alloc (Sf.alloc (Sf.refl 2 w) (.cells #[.bool b1, .slice ao1 n1 c1, .bool b2, .slice ao2 n2 c2] 76)) (.cells #[.bool b3, .slice ao3 n3 c3] 60))
 refine (multiply_any x x _ _ _ (hx.soft sf0) (hx.soft sf0) (fx.fit (by omega)) (fx.fit (by omega))).mono ?_
 rintro e w1 ⟨vha, rfl, ha, hk1⟩
 obtain ⟨b4, ao4, n4, c4, rfl⟩ := ha.shape'
 have kq0 := kp0.trans' hk1
 have sq0 := sf0.trans (Sf.keep hk1)
 have B1px : Blk w1 (w.heap.size) #[.bool b1, .slice ao1 n1 c1, .bool b2, .slice ao2 n2 c2] 76 := Blk.keep hk1 (Blk.at (Blk.alloc (Blk.new _ _ _) _) (by simp))
 have B1pd : Blk w1 (w.heap.size + 1) #[.bool b3, .slice ao3 n3 c3] 60 := Blk.keep hk1 (Blk.at (Blk.new _ _ _) (by simp))
 have B1pxc := B1px.cell
 have B1pxf := B1px.frozen
 have B1pxl := B1px.lt
 have ge1px : w.heap.size ≤ w.heap.size := by (first | omega | (have := kp0.size; simp only [World.size_alloc, size_setCell', size_drew'] at this; omega))
 have B1pdc := B1pd.cell
 have B1pdf := B1pd.frozen
 have B1pdl := B1pd.lt
 have ge1pd : w.heap.size ≤ w.heap.size + 1 := by (first | omega | (have := kp0.size; simp only [World.size_alloc, size_setCell', size_drew'] at this; omega))
 replace hy := hy.soft sq0
 replace hd := hd.soft sq0
 go_wp2_with fail
 have kp1 : Kp w _ := (Kp.alloc' kq0 (.cells #[.bool b4, .slice ao4 n4 c4] 60))
 have sf1 : Sf 2 w1 _ := (Sf.alloc (Sf.refl 2 w1) (.cells #[.bool b4, .slice ao4 n4 c4] 60))
 refine (multiply_any y y _ _ _ (hy.soft sf1) (hy.soft sf1) (fy.fit (by omega)) (fy.fit (by omega))).mono ?_
 rintro e w2 ⟨vhb, rfl, hb, hk2⟩
 obtain ⟨b5, ao5, n5, c5, rfl⟩ := hb.shape'
 have kq1 := kp1.trans' hk2
 have sq1 := sf1.trans (Sf.keep hk2)
 have B2pd : Blk w2 (w.heap.size + 1) #[.bool b3, .slice ao3 n3 c3] 60 := Blk.keep hk2 (Blk.alloc B1pd _)
 have B2fi : Blk w2 (w1.heap.size) #[.bool b4, .slice ao4 n4 c4] 60 := Blk.keep hk2 (Blk.at (Blk.new _ _ _) (by simp))
 have B2pdc := B2pd.cell
 have B2pdf := B2pd.frozen
 have B2pdl := B2pd.lt
 have ge2pd : w.heap.size ≤ w.heap.size + 1 := by (first | omega | (have := kp1.size; simp only [World.size_alloc, size_setCell', size_drew'] at this; omega))
 have B2fic := B2fi.cell
 have B2fif := B2fi.frozen
 have B2fil := B2fi.lt
 have ge2fi : w.heap.size ≤ w1.heap.size := by (first | omega | (have := kp1.size; simp only [World.size_alloc, size_setCell', size_drew'] at this; omega))
 replace hd := hd.soft sq1
 replace ha := ha.soft sq1
 clear B1px B1pxc B1pxf B1pd B1pdc B1pdf
 go_wp2_with fail
 have kp2 : Kp w _ := (Kp.alloc' kq1 (.cells #[.bool b5, .slice ao5 n5 c5] 60))
 have sf2 : Sf 2 w2 _ := (Sf.alloc (Sf.refl 2 w2) (.cells #[.bool b5, .slice ao5 n5 c5] 60))
 refine (multiply_any (y * y) d _ _ _ (hb.soft sf2) (hd.soft sf2) ((fy.mul fy).fit (by omega)) (fd.fit (by omega))).mono ?_
 rintro e w3 ⟨vhc, rfl, hc, hk3⟩
 obtain ⟨b6, ao6, n6, c6, rfl⟩ := hc.shape'
 have kq2 := kp2.trans' hk3
 have sq2 := sf2.trans (Sf.keep hk3)
 have B3fi : Blk w3 (w1.heap.size) #[.bool b4, .slice ao4 n4 c4] 60 := Blk.keep hk3 (Blk.alloc B2fi _)
 have B3se : Blk w3 (w2.heap.size) #[.bool b5, .slice ao5 n5 c5] 60 := Blk.keep hk3 (Blk.at (Blk.new _ _ _) (by simp))
 have B3fic := B3fi.cell
 have B3fif := B3fi.frozen
 have B3fil := B3fi.lt
 have ge3fi : w.heap.size ≤ w1.heap.size := by (first | omega | (have := kp2.size; simp only [World.size_alloc, size_setCell', size_drew'] at this; omega))
 have B3sec := B3se.cell
 have B3sef := B3se.frozen
 have B3sel := B3se.lt
 have ge3se : w.heap.size ≤ w2.heap.size := by (first | omega | (have := kp2.size; simp only [World.size_alloc, size_setCell', size_drew'] at this; omega))
 replace ha := ha.soft sq2
 clear B2pd B2pdc B2pdf B2fi B2fic B2fif
 go_wp2_with fail
 have kp3 : Kp w _ := (Below.setCell (Below.setCell kq2 (p := ⟨w2.heap.size, 0, none⟩) (by have := ge3se; omega) (.bool b6)) (p := ⟨w2.heap.size, 1, none⟩) (by have := ge3se; omega) (.slice ao6 n6 c6))
 have sf3 : Sf 2 w3 _ := (Sf.set (t := 60) (c := w2.heap.size) (o := 1) (y := .slice ao6 n6 c6) (Sf.set (t := 60) (c := w2.heap.size) (o := 0) (y := .bool b6) (Sf.refl 2 w3) (by first | (simp only [elemOf_setCell]; exact B3se.elem) | exact B3se.elem) (by decide)) (by first | (simp only [elemOf_setCell]; exact B3se.elem) | exact B3se.elem) (by decide))
 refine (wsub_any (x * x) (y * y * d) _ _ _ (ha.soft sf3) (hc.soft sf3) ((fx.mul fx).fit (by omega)) (((fy.mul fy).mul fd).fit (by omega))).mono ?_
 rintro e w4 ⟨vhn, rfl, hn, hk4⟩
 obtain ⟨b7, ao7, n7, c7, rfl⟩ := hn.shape'
 have kq3 := kp3.trans' hk4
 have sq3 := sf3.trans (Sf.keep hk4)
 clear B3fi B3fic B3fif B3se B3sec B3sef
 go_wp2_with fail
 have hsz4 := kq3.size
 have kp4 : Kp w _ := (Kp.alloc' kq3 (.cells #[.bool b7, .slice ao7 n7 c7] 60))
 have sf4 : Sf 2 w4 _ := (Sf.alloc (Sf.refl 2 w4) (.cells #[.bool b7, .slice ao7 n7 c7] 60))
 refine (fromInt_any 1 _ (by decide) (by decide)).mono ?_
 rintro e w5 ⟨vho, rfl, ho, hk5⟩
 obtain ⟨b8, ao8, n8, c8, rfl⟩ := ho.shape'
 have kq4 := kp4.trans' hk5
 have sq4 := sf4.trans (Sf.keep hk5)
 have B5no : Blk w5 (w4.heap.size) #[.bool b7, .slice ao7 n7 c7] 60 := Blk.keep hk5 (Blk.at (Blk.new _ _ _) (by simp))
 have B5noc := B5no.cell
 have B5nof := B5no.frozen
 have B5nol := B5no.lt
 have ge5no : w.heap.size ≤ w4.heap.size := by (first | omega | (have := kp4.size; simp only [World.size_alloc, size_setCell', size_drew'] at this; omega))
 replace hn := hn.soft sq4
 go_wp2_with fail
 have kp5 : Kp w _ := (Kp.alloc' kq4 (.cells #[.bool b8, .slice ao8 n8 c8] 60))
 have sf5 : Sf 2 w5 _ := (Sf.alloc (Sf.refl 2 w5) (.cells #[.bool b8, .slice ao8 n8 c8] 60))
 refine (wcompare_any (x * x - y * y * d) 1 _ _ _ (hn.soft sf5) (ho.soft sf5)).mono ?_
 rintro e w6 ⟨rfl, hk6⟩
 have hs := sgn_eq0 (x * x - y * y * d)
 generalize (x * x - y * y * d - 1).sign = z at *
 generalize decide (x * x - y * y * d = 1) = b at *
 have kpE := kp5.trans' hk6
 go_wp2_with fail
 refine bodyPost_ret (v := .bool b) (by simp [results, Tryd.results75, go_sem]) rfl ?_
 exact ⟨rfl, kpE⟩

end Go.Proofs.YtjahbjjekednfabDoor
