import Derived.Test.YtjahbjjekednfaaC3
import Derived.Test.YtjahbjjekednfaaQ2
namespace Go.Proofs.Ytjahbjjekednfaa
open Go.RowKit

set_option maxHeartbeats 6400000 in
theorem signOfThree_any (x y m z n : Int) (M : Nat) (u1 u2 u3 u4 u5 : Value) (w : World) (hx : WN w u1 x) (hy : WN w u2 y) (hm : WN w u3 m) (hz : WN w u4 z) (hn : WN w u5 n) (hM : M ≤ 24000000) (fx : Ft M x) (fy : Ft M y) (fm : Ft M m) (fz : Ft M z) (fn : Ft M n) :
  Calls Try.prog 29 #[u1, u2, u3, u4, u5] w (RetV w (.int .i64 (s3 x y m z n))) := by
 have HS : Hid (s3 x y m z n = sos x.sign (s2 (y * m) z (m * n)) (s2 (x * x - ((y * m) * y + (z * n) * z)) (-(y * z + y * z)) (m * n))) := rfl
 have gx : Ft (2 * M) x := fx.mono (by omega)
 have gy : Ft (2 * M) y := fy.mono (by omega)
 have gz : Ft (2 * M) z := fz.mono (by omega)
 have gmn : Ft (2 * M) (m * n) := (fm.mul fn).mono (by omega)
 have gym : Ft (2 * M) (y * m) := (fy.mul fm).mono (by omega)
 have gzn : Ft (2 * M) (z * n) := (fz.mul fn).mono (by omega)
 have gss : Ft (4 * M + 1) ((y * m) * y + (z * n) * z) := (Ft.sop gym gy gzn gz).mono (by omega)
 have gxx : Ft (4 * M + 1) (x * x) := (fx.mul fx).mono (by omega)
 have grest : Ft (4 * M + 2) (x * x - ((y * m) * y + (z * n) * z)) := by rw [Int.sub_eq_add_neg]; exact Ft.add gxx gss.neg
 have gyz : Ft (2 * M) (y * z) := (fy.mul fz).mono (by omega)
 have gtw : Ft (4 * M + 2) (y * z + y * z) := (Ft.add gyz gyz).mono (by omega)
 obtain ⟨b1, ao1, n1, c1, rfl⟩ := hx.shape'
 obtain ⟨b2, ao2, n2, c2, rfl⟩ := hy.shape'
 obtain ⟨b3, ao3, n3, c3, rfl⟩ := hm.shape'
 obtain ⟨b4, ao4, n4, c4, rfl⟩ := hz.shape'
 obtain ⟨b5, ao5, n5, c5, rfl⟩ := hn.shape'
 go_enter Try.func29, Try.ntmps29
 go_wp2_with fail
 have kp0 : Kp w _ := (Kp.alloc' (Kp.alloc' (Kp.alloc' (Kp.alloc' (Kp.alloc' (Below.refl w.heap.size w) (.cells #[.bool b1, .slice ao1 n1 c1] 39)) (.cells #[.bool b2, .slice ao2 n2 c2] 39)) (.cells #[.bool b3, .slice ao3 n3 c3] 39)) (.cells #[.bool b4, .slice ao4 n4 c4] 39)) (.cells #[.bool b5, .slice ao5 n5 c5] 39))
 have sf0 : Sf 2 w _ := (Sf.alloc (Sf.alloc (Sf.alloc (Sf.alloc (Sf.alloc (Sf.refl 2 w) (.cells #[.bool b1, .slice ao1 n1 c1] 39)) (.cells #[.bool b2, .slice ao2 n2 c2] 39)) (.cells #[.bool b3, .slice ao3 n3 c3] 39)) (.cells #[.bool b4, .slice ao4 n4 c4] 39)) (.cells #[.bool b5, .slice ao5 n5 c5] 39))
 refine (multiply_any m n _ _ _ (hm.soft sf0) (hn.soft sf0) (fm.fit (by omega)) (fn.fit (by omega))).mono ?_
 rintro e w1 ⟨v1, rfl, hv1, hk1⟩
 obtain ⟨b11, ao11, n11, c11, rfl⟩ := hv1.shape'
 have kq0 := kp0.trans' hk1
 have sq0 := sf0.trans (Sf.keep hk1)
 have B1x : Blk w1 (w.heap.size) #[.bool b1, .slice ao1 n1 c1] 39 := Blk.keep hk1 (Blk.at (Blk.alloc (Blk.alloc (Blk.alloc (Blk.alloc (Blk.new _ _ _) _) _) _) _) (by simp))
 have B1y : Blk w1 (w.heap.size + 1) #[.bool b2, .slice ao2 n2 c2] 39 := Blk.keep hk1 (Blk.at (Blk.alloc (Blk.alloc (Blk.alloc (Blk.new _ _ _) _) _) _) (by simp))
 have B1m : Blk w1 (w.heap.size + 1 + 1) #[.bool b3, .slice ao3 n3 c3] 39 := Blk.keep hk1 (Blk.at (Blk.alloc (Blk.alloc (Blk.new _ _ _) _) _) (by simp))
 have B1z : Blk w1 (w.heap.size + 1 + 1 + 1) #[.bool b4, .slice ao4 n4 c4] 39 := Blk.keep hk1 (Blk.at (Blk.alloc (Blk.new _ _ _) _) (by simp))
 have B1n : Blk w1 (w.heap.size + 1 + 1 + 1 + 1) #[.bool b5, .slice ao5 n5 c5] 39 := Blk.keep hk1 (Blk.at (Blk.new _ _ _) (by simp))
 obtain ⟨B1xc, B1xf, B1xl⟩ := B1x.all
 obtain ⟨B1yc, B1yf, B1yl⟩ := B1y.all
 obtain ⟨B1mc, B1mf, B1ml⟩ := B1m.all
 obtain ⟨B1zc, B1zf, B1zl⟩ := B1z.all
 obtain ⟨B1nc, B1nf, B1nl⟩ := B1n.all
 replace hx := hx.soft sq0
 replace hy := hy.soft sq0
 replace hm := hm.soft sq0
 replace hz := hz.soft sq0
 replace hn := hn.soft sq0
 go_wp2_with fail
 have kp1 : Kp w _ := (Kp.alloc' kq0 (.cells #[.bool b11, .slice ao11 n11 c11] 39))
 have sf1 : Sf 2 w1 _ := (Sf.alloc (Sf.refl 2 w1) (.cells #[.bool b11, .slice ao11 n11 c11] 39))
 refine (multiply_any y m _ _ _ (hy.soft sf1) (hm.soft sf1) (fy.fit (by omega)) (fm.fit (by omega))).mono ?_
 rintro e w2 ⟨v2, rfl, hv2, hk2⟩
 obtain ⟨b12, ao12, n12, c12, rfl⟩ := hv2.shape'
 have kq1 := kp1.trans' hk2
 have sq1 := sf1.trans (Sf.keep hk2)
 have B2x := Blk.keep hk2 (Blk.alloc B1x _)
 have B2y := Blk.keep hk2 (Blk.alloc B1y _)
 have B2z := Blk.keep hk2 (Blk.alloc B1z _)
 have B2n := Blk.keep hk2 (Blk.alloc B1n _)
 have B2mn : Blk w2 (w1.heap.size) #[.bool b11, .slice ao11 n11 c11] 39 := Blk.keep hk2 (Blk.at (Blk.new _ _ _) (by simp))
 obtain ⟨B2xc, B2xf, B2xl⟩ := B2x.all
 obtain ⟨B2yc, B2yf, B2yl⟩ := B2y.all
 obtain ⟨B2zc, B2zf, B2zl⟩ := B2z.all
 obtain ⟨B2nc, B2nf, B2nl⟩ := B2n.all
 obtain ⟨B2mnc, B2mnf, B2mnl⟩ := B2mn.all
 replace hx := hx.soft sq1
 replace hy := hy.soft sq1
 replace hz := hz.soft sq1
 replace hn := hn.soft sq1
 replace hv1 := hv1.soft sq1
 clear B1x B1xc B1xf B1y B1yc B1yf B1m B1mc B1mf B1z B1zc B1zf B1n B1nc B1nf
 go_wp2_with fail
 have kp2 : Kp w _ := (Kp.alloc' kq1 (.cells #[.bool b12, .slice ao12 n12 c12] 39))
 have sf2 : Sf 2 w2 _ := (Sf.alloc (Sf.refl 2 w2) (.cells #[.bool b12, .slice ao12 n12 c12] 39))
 refine (signOfTwo_any (y * m) z (m * n) (2 * M) _ _ _ _ (hv2.soft sf2) (hz.soft sf2) (hv1.soft sf2) (by omega) gym gz gmn).mono ?_
 rintro e w3 ⟨rfl, hk3⟩
 have kq2 := kp2.trans' hk3
 have sq2 := sf2.trans (Sf.keep hk3)
 have B3x := Blk.keep hk3 (Blk.alloc B2x _)
 have B3y := Blk.keep hk3 (Blk.alloc B2y _)
 have B3z := Blk.keep hk3 (Blk.alloc B2z _)
 have B3n := Blk.keep hk3 (Blk.alloc B2n _)
 have B3mn := Blk.keep hk3 (Blk.alloc B2mn _)
 have B3ym : Blk w3 (w2.heap.size) #[.bool b12, .slice ao12 n12 c12] 39 := Blk.keep hk3 (Blk.at (Blk.new _ _ _) (by simp))
 obtain ⟨B3xc, B3xf, B3xl⟩ := B3x.all
 have ge3x : w.heap.size ≤ w.heap.size := by (first | omega | (have := kp2.size; simp only [World.size_alloc, size_setCell', size_drew'] at this; omega))
 obtain ⟨B3yc, B3yf, B3yl⟩ := B3y.all
 obtain ⟨B3zc, B3zf, B3zl⟩ := B3z.all
 obtain ⟨B3nc, B3nf, B3nl⟩ := B3n.all
 obtain ⟨B3mnc, B3mnf, B3mnl⟩ := B3mn.all
 obtain ⟨B3ymc, B3ymf, B3yml⟩ := B3ym.all
 replace hx := hx.soft sq2
 replace hy := hy.soft sq2
 replace hz := hz.soft sq2
 replace hn := hn.soft sq2
 replace hv1 := hv1.soft sq2
 replace hv2 := hv2.soft sq2
 clear B2x B2xc B2xf B2y B2yc B2yf B2z B2zc B2zf B2n B2nc B2nf B2mn B2mnc B2mnf
 generalize hroots : s2 (y * m) z (m * n) = roots at *
 go_wp2_with fail
 have kp3 : Kp w _ := kq2
 have sf3 : Sf 2 w3 _ := (Sf.refl 2 w3)
 refine (multiply_any z n _ _ _ (hz.soft sf3) (hn.soft sf3) (fz.fit (by omega)) (fn.fit (by omega))).mono ?_
 rintro e w4 ⟨v4, rfl, hv4, hk4⟩
 obtain ⟨b14, ao14, n14, c14, rfl⟩ := hv4.shape'
 have kq3 := kp3.trans' hk4
 have sq3 := sf3.trans (Sf.keep hk4)
 have B4x := Blk.keep hk4 B3x
 have B4y := Blk.keep hk4 B3y
 have B4z := Blk.keep hk4 B3z
 have B4mn := Blk.keep hk4 B3mn
 have B4ym := Blk.keep hk4 B3ym
 obtain ⟨B4xc, B4xf, B4xl⟩ := B4x.all
 have ge4x : w.heap.size ≤ w.heap.size := by (first | omega | (have := kp3.size; simp only [World.size_alloc, size_setCell', size_drew'] at this; omega))
 obtain ⟨B4yc, B4yf, B4yl⟩ := B4y.all
 have ge4y : w.heap.size ≤ w.heap.size + 1 := by (first | omega | (have := kp3.size; simp only [World.size_alloc, size_setCell', size_drew'] at this; omega))
 obtain ⟨B4zc, B4zf, B4zl⟩ := B4z.all
 obtain ⟨B4mnc, B4mnf, B4mnl⟩ := B4mn.all
 obtain ⟨B4ymc, B4ymf, B4yml⟩ := B4ym.all
 replace hx := hx.soft sq3
 replace hy := hy.soft sq3
 replace hz := hz.soft sq3
 replace hv1 := hv1.soft sq3
 replace hv2 := hv2.soft sq3
 clear B3x B3xc B3xf B3y B3yc B3yf B3z B3zc B3zf B3n B3nc B3nf B3mn B3mnc B3mnf B3ym B3ymc B3ymf
 go_wp2_with fail
 have kp4 : Kp w _ := (Kp.alloc' kq3 (.cells #[.bool b14, .slice ao14 n14 c14] 39))
 have sf4 : Sf 2 w4 _ := (Sf.alloc (Sf.refl 2 w4) (.cells #[.bool b14, .slice ao14 n14 c14] 39))
 refine (sumOfProducts_any (y * m) y (z * n) z (2 * M) _ _ _ _ _ (hv2.soft sf4) (hy.soft sf4) (hv4.soft sf4) (hz.soft sf4) (by omega) gym gy gzn gz).mono ?_
 rintro e w5 ⟨v5, rfl, hv5, hk5⟩
 obtain ⟨b15, ao15, n15, c15, rfl⟩ := hv5.shape'
 have kq4 := kp4.trans' hk5
 have sq4 := sf4.trans (Sf.keep hk5)
 have B5x := Blk.keep hk5 (Blk.alloc B4x _)
 have B5y := Blk.keep hk5 (Blk.alloc B4y _)
 have B5z := Blk.keep hk5 (Blk.alloc B4z _)
 have B5mn := Blk.keep hk5 (Blk.alloc B4mn _)
 obtain ⟨B5xc, B5xf, B5xl⟩ := B5x.all
 have ge5x : w.heap.size ≤ w.heap.size := by (first | omega | (have := kp4.size; simp only [World.size_alloc, size_setCell', size_drew'] at this; omega))
 obtain ⟨B5yc, B5yf, B5yl⟩ := B5y.all
 have ge5y : w.heap.size ≤ w.heap.size + 1 := by (first | omega | (have := kp4.size; simp only [World.size_alloc, size_setCell', size_drew'] at this; omega))
 obtain ⟨B5zc, B5zf, B5zl⟩ := B5z.all
 have ge5z : w.heap.size ≤ w.heap.size + 1 + 1 + 1 := by (first | omega | (have := kp4.size; simp only [World.size_alloc, size_setCell', size_drew'] at this; omega))
 obtain ⟨B5mnc, B5mnf, B5mnl⟩ := B5mn.all
 replace hx := hx.soft sq4
 replace hy := hy.soft sq4
 replace hz := hz.soft sq4
 replace hv1 := hv1.soft sq4
 clear B4x B4xc B4xf B4y B4yc B4yf B4z B4zc B4zf B4mn B4mnc B4mnf B4ym B4ymc B4ymf
 go_wp2_with fail
 have kp5 : Kp w _ := (Kp.alloc' kq4 (.cells #[.bool b15, .slice ao15 n15 c15] 39))
 have sf5 : Sf 2 w5 _ := (Sf.alloc (Sf.refl 2 w5) (.cells #[.bool b15, .slice ao15 n15 c15] 39))
 refine (multiply_any x x _ _ _ (hx.soft sf5) (hx.soft sf5) (fx.fit (by omega)) (fx.fit (by omega))).mono ?_
 rintro e w6 ⟨v6, rfl, hv6, hk6⟩
 obtain ⟨b16, ao16, n16, c16, rfl⟩ := hv6.shape'
 have kq5 := kp5.trans' hk6
 have sq5 := sf5.trans (Sf.keep hk6)
 have B6x := Blk.keep hk6 (Blk.alloc B5x _)
 have B6y := Blk.keep hk6 (Blk.alloc B5y _)
 have B6z := Blk.keep hk6 (Blk.alloc B5z _)
 have B6mn := Blk.keep hk6 (Blk.alloc B5mn _)
 have B6ss : Blk w6 (w5.heap.size) #[.bool b15, .slice ao15 n15 c15] 39 := Blk.keep hk6 (Blk.at (Blk.new _ _ _) (by simp))
 obtain ⟨B6xc, B6xf, B6xl⟩ := B6x.all
 have ge6x : w.heap.size ≤ w.heap.size := by (first | omega | (have := kp5.size; simp only [World.size_alloc, size_setCell', size_drew'] at this; omega))
 obtain ⟨B6yc, B6yf, B6yl⟩ := B6y.all
 have ge6y : w.heap.size ≤ w.heap.size + 1 := by (first | omega | (have := kp5.size; simp only [World.size_alloc, size_setCell', size_drew'] at this; omega))
 obtain ⟨B6zc, B6zf, B6zl⟩ := B6z.all
 have ge6z : w.heap.size ≤ w.heap.size + 1 + 1 + 1 := by (first | omega | (have := kp5.size; simp only [World.size_alloc, size_setCell', size_drew'] at this; omega))
 obtain ⟨B6mnc, B6mnf, B6mnl⟩ := B6mn.all
 obtain ⟨B6ssc, B6ssf, B6ssl⟩ := B6ss.all
 replace hx := hx.soft sq5
 replace hy := hy.soft sq5
 replace hz := hz.soft sq5
 replace hv1 := hv1.soft sq5
 replace hv5 := hv5.soft sq5
 clear B5x B5xc B5xf B5y B5yc B5yf B5z B5zc B5zf B5mn B5mnc B5mnf
 go_wp2_with fail
 have kp6 : Kp w _ := (Kp.alloc' kq5 (.cells #[.bool b16, .slice ao16 n16 c16] 39))
 have sf6 : Sf 2 w6 _ := (Sf.alloc (Sf.refl 2 w6) (.cells #[.bool b16, .slice ao16 n16 c16] 39))
 refine (subtract_any (x * x) ((y * m) * y + (z * n) * z) _ _ _ (hv6.soft sf6) (hv5.soft sf6) (gxx.fit (by omega)) (gss.fit (by omega))).mono ?_
 rintro e w7 ⟨v7, rfl, hv7, hk7⟩
 obtain ⟨b17, ao17, n17, c17, rfl⟩ := hv7.shape'
 have kq6 := kp6.trans' hk7
 have sq6 := sf6.trans (Sf.keep hk7)
 have B7x := Blk.keep hk7 (Blk.alloc B6x _)
 have B7y := Blk.keep hk7 (Blk.alloc B6y _)
 have B7z := Blk.keep hk7 (Blk.alloc B6z _)
 have B7mn := Blk.keep hk7 (Blk.alloc B6mn _)
 obtain ⟨B7xc, B7xf, B7xl⟩ := B7x.all
 obtain ⟨B7yc, B7yf, B7yl⟩ := B7y.all
 obtain ⟨B7zc, B7zf, B7zl⟩ := B7z.all
 obtain ⟨B7mnc, B7mnf, B7mnl⟩ := B7mn.all
 replace hx := hx.soft sq6
 replace hy := hy.soft sq6
 replace hz := hz.soft sq6
 replace hv1 := hv1.soft sq6
 clear B6x B6xc B6xf B6y B6yc B6yf B6z B6zc B6zf B6mn B6mnc B6mnf B6ss B6ssc B6ssf
 go_wp2_with fail
 have kp7 : Kp w _ := (Kp.alloc' kq6 (.cells #[.bool b17, .slice ao17 n17 c17] 39))
 have sf7 : Sf 2 w7 _ := (Sf.alloc (Sf.refl 2 w7) (.cells #[.bool b17, .slice ao17 n17 c17] 39))
 refine (multiply_any y z _ _ _ (hy.soft sf7) (hz.soft sf7) (fy.fit (by omega)) (fz.fit (by omega))).mono ?_
 rintro e w8 ⟨v8, rfl, hv8, hk8⟩
 obtain ⟨b18, ao18, n18, c18, rfl⟩ := hv8.shape'
 have kq7 := kp7.trans' hk8
 have sq7 := sf7.trans (Sf.keep hk8)
 have B8x := Blk.keep hk8 (Blk.alloc B7x _)
 have B8mn := Blk.keep hk8 (Blk.alloc B7mn _)
 have B8rest : Blk w8 (w7.heap.size) #[.bool b17, .slice ao17 n17 c17] 39 := Blk.keep hk8 (Blk.at (Blk.new _ _ _) (by simp))
 obtain ⟨B8xc, B8xf, B8xl⟩ := B8x.all
 obtain ⟨B8mnc, B8mnf, B8mnl⟩ := B8mn.all
 obtain ⟨B8restc, B8restf, B8restl⟩ := B8rest.all
 replace hx := hx.soft sq7
 replace hv1 := hv1.soft sq7
 replace hv7 := hv7.soft sq7
 clear B7x B7xc B7xf B7y B7yc B7yf B7z B7zc B7zf B7mn B7mnc B7mnf
 go_wp2_with fail
 have kp8 : Kp w _ := (Kp.alloc' kq7 (.cells #[.bool b18, .slice ao18 n18 c18] 39))
 have sf8 : Sf 2 w8 _ := (Sf.alloc (Sf.refl 2 w8) (.cells #[.bool b18, .slice ao18 n18 c18] 39))
 refine (add_any (y * z) (y * z) _ _ _ (hv8.soft sf8) (hv8.soft sf8) (gyz.fit (by omega)) (gyz.fit (by omega))).mono ?_
 rintro e w9 ⟨v9, rfl, hv9, hk9⟩
 obtain ⟨b19, ao19, n19, c19, rfl⟩ := hv9.shape'
 have kq8 := kp8.trans' hk9
 have sq8 := sf8.trans (Sf.keep hk9)
 have B9x := Blk.keep hk9 (Blk.alloc B8x _)
 have B9mn := Blk.keep hk9 (Blk.alloc B8mn _)
 have B9rest := Blk.keep hk9 (Blk.alloc B8rest _)
 obtain ⟨B9xc, B9xf, B9xl⟩ := B9x.all
 obtain ⟨B9mnc, B9mnf, B9mnl⟩ := B9mn.all
 obtain ⟨B9restc, B9restf, B9restl⟩ := B9rest.all
 replace hx := hx.soft sq8
 replace hv1 := hv1.soft sq8
 replace hv7 := hv7.soft sq8
 clear B8x B8xc B8xf B8mn B8mnc B8mnf B8rest B8restc B8restf
 go_wp2_with fail
 have kp9 : Kp w _ := (Kp.alloc' kq8 (.cells #[.bool b19, .slice ao19 n19 c19] 39))
 have sf9 : Sf 2 w9 _ := (Sf.alloc (Sf.refl 2 w9) (.cells #[.bool b19, .slice ao19 n19 c19] 39))
 refine (negate_any (y * z + y * z) _ _ (hv9.soft sf9) (gtw.fit (by omega))).mono ?_
 rintro e w10 ⟨v10, rfl, hv10, hk10⟩
 obtain ⟨b20, ao20, n20, c20, rfl⟩ := hv10.shape'
 have kq9 := kp9.trans' hk10
 have sq9 := sf9.trans (Sf.keep hk10)
 have B10x := Blk.keep hk10 (Blk.alloc B9x _)
 have B10mn := Blk.keep hk10 (Blk.alloc B9mn _)
 have B10rest := Blk.keep hk10 (Blk.alloc B9rest _)
 obtain ⟨B10xc, B10xf, B10xl⟩ := B10x.all
 obtain ⟨B10mnc, B10mnf, B10mnl⟩ := B10mn.all
 obtain ⟨B10restc, B10restf, B10restl⟩ := B10rest.all
 replace hx := hx.soft sq9
 replace hv1 := hv1.soft sq9
 replace hv7 := hv7.soft sq9
 clear B9x B9xc B9xf B9mn B9mnc B9mnf B9rest B9restc B9restf
 go_wp2_with fail
 have kp10 : Kp w _ := (Kp.alloc' kq9 (.cells #[.bool b20, .slice ao20 n20 c20] 39))
 have sf10 : Sf 2 w10 _ := (Sf.alloc (Sf.refl 2 w10) (.cells #[.bool b20, .slice ao20 n20 c20] 39))
 refine (signOfTwo_any (x * x - ((y * m) * y + (z * n) * z)) (-(y * z + y * z)) (m * n) (4 * M + 2) _ _ _ _ (hv7.soft sf10) (hv10.soft sf10) (hv1.soft sf10) (by omega) grest gtw.neg (gmn.mono (by omega))).mono ?_
 rintro e w11 ⟨rfl, hk11⟩
 have kq10 := kp10.trans' hk11
 have sq10 := sf10.trans (Sf.keep hk11)
 have B11x := Blk.keep hk11 (Blk.alloc B10x _)
 obtain ⟨B11xc, B11xf, B11xl⟩ := B11x.all
 replace hx := hx.soft sq10
 clear B10x B10xc B10xf B10mn B10mnc B10mnf B10rest B10restc B10restf
 generalize hord : s2 (x * x - ((y * m) * y + (z * n) * z)) (-(y * z + y * z)) (m * n) = ord at *
 go_wp2_with fail
 have kp11 : Kp w _ := kq10
 have sf11 : Sf 2 w11 _ := (Sf.refl 2 w11)
 refine (sign_any x _ _ (hx.soft sf11)).mono ?_
 rintro e w12 ⟨rfl, hk12⟩
 have kq11 := kp11.trans' hk12
 have sq11 := sf11.trans (Sf.keep hk12)
 clear B11x B11xc B11xf
 generalize x.sign = sx at *
 go_wp2_with fail
 have kp12 : Kp w _ := kq11
 have sf12 : Sf 2 w12 _ := (Sf.refl 2 w12)
 refine (signOfSum_any sx roots ord _).mono ?_
 rintro e w13 ⟨rfl, hk13⟩
 have kq12 := kp12.trans' hk13
 have sq12 := sf12.trans (Sf.keep hk13)
 rw [← HS.out]
 generalize s3 x y m z n = q at *
 go_wp2_with fail
 go_ret
 exact ⟨rfl, kq12⟩

set_option maxHeartbeats 6400000 in
theorem xcompare_any (a b : Qn) (m : Nat) (u v : Value) (w : World) (ha : XN w u a) (hb : XN w v b) (hm : m ≤ 9000000) (fa : QF m a) (fb : QF m b) (da : QD a) (db : QD b) :
  Calls Try.prog 15 #[u, v] w (RetV w (.int .i64 (qcmp a b))) := by
 have HS : Hid (qcmp a b = s3 (a.p * b.r + b.p * -a.r) (a.q * b.r) a.d (b.q * -a.r) b.d) := rfl
 obtain ⟨fp, fq, fr⟩ := fa
 obtain ⟨gp, gq, gr⟩ := fb
 have d1 := da.1
 have d2 := da.2
 have e1 := db.1
 have e2 := db.2
 have fX : Ft (2 * m + 10) (a.p * b.r + b.p * -a.r) := (Ft.sop fp gr gp fr.neg).mono (by omega)
 have fY : Ft (2 * m + 10) (a.q * b.r) := (fq.mul gr).mono (by omega)
 have fZ : Ft (2 * m + 10) (b.q * -a.r) := (gq.mul fr.neg).mono (by omega)
 have fD : Ft (2 * m + 10) a.d := (show Ft 7 a.d by unfold Ft; omega).mono (by omega)
 have fE : Ft (2 * m + 10) b.d := (show Ft 7 b.d by unfold Ft; omega).mono (by omega)
 clear da db
 obtain ⟨b1, ao1, n1, c1, b2, ao2, n2, c2, b3, ao3, n3, c3, rfl, hp, hq, hr⟩ := ha
 obtain ⟨b4, ao4, n4, c4, b5, ao5, n5, c5, b6, ao6, n6, c6, rfl, jp, jq, jr⟩ := hb
 go_enter Try.func15, Try.ntmps15
 go_wp2_with fail
 have kp0 : Kp w _ := (Kp.alloc' (Kp.alloc' (Below.refl w.heap.size w) (.cells #[.bool b1, .slice ao1 n1 c1, .bool b2, .slice ao2 n2 c2, .bool b3, .slice ao3 n3 c3, .int .i64 a.d] 41)) (.cells #[.bool b4, .slice ao4 n4 c4, .bool b5, .slice ao5 n5 c5, .bool b6, .slice ao6 n6 c6, .int .i64 b.d] 41))
 have sf0 : Sf 2 w _ := (Sf.alloc (Sf.alloc (Sf.refl 2 w) (.cells #[.bool b1, .slice ao1 n1 c1, .bool b2, .slice ao2 n2 c2, .bool b3, .slice ao3 n3 c3, .int .i64 a.d] 41)) (.cells #[.bool b4, .slice ao4 n4 c4, .bool b5, .slice ao5 n5 c5, .bool b6, .slice ao6 n6 c6, .int .i64 b.d] 41))
 refine (negate_any a.r _ _ (hr.soft sf0) (fr.fit (by omega))).mono ?_
 rintro e w1 ⟨v1, rfl, hv1, hk1⟩
 obtain ⟨b11, ao11, n11, c11, rfl⟩ := hv1.shape'
 have kq0 := kp0.trans' hk1
 have sq0 := sf0.trans (Sf.keep hk1)
 have B1a : Blk w1 (w.heap.size) #[.bool b1, .slice ao1 n1 c1, .bool b2, .slice ao2 n2 c2, .bool b3, .slice ao3 n3 c3, .int .i64 a.d] 41 := Blk.keep hk1 (Blk.at (Blk.alloc (Blk.new _ _ _) _) (by simp))
 have B1b : Blk w1 (w.heap.size + 1) #[.bool b4, .slice ao4 n4 c4, .bool b5, .slice ao5 n5 c5, .bool b6, .slice ao6 n6 c6, .int .i64 b.d] 41 := Blk.keep hk1 (Blk.at (Blk.new _ _ _) (by simp))
 obtain ⟨B1ac, B1af, B1al⟩ := B1a.all
 obtain ⟨B1bc, B1bf, B1bl⟩ := B1b.all
 replace hp := hp.soft sq0
 replace hq := hq.soft sq0
 replace jp := jp.soft sq0
 replace jq := jq.soft sq0
 replace jr := jr.soft sq0
 go_wp2_with fail
 have kp1 : Kp w _ := (Kp.alloc' kq0 (.cells #[.bool b11, .slice ao11 n11 c11] 39))
 have sf1 : Sf 2 w1 _ := (Sf.alloc (Sf.refl 2 w1) (.cells #[.bool b11, .slice ao11 n11 c11] 39))
 refine (sumOfProducts_any a.p b.r b.p (-a.r) m _ _ _ _ _ (hp.soft sf1) (jr.soft sf1) (jp.soft sf1) (hv1.soft sf1) (by omega) fp gr gp fr.neg).mono ?_
 rintro e w2 ⟨v2, rfl, hv2, hk2⟩
 obtain ⟨b12, ao12, n12, c12, rfl⟩ := hv2.shape'
 have kq1 := kp1.trans' hk2
 have sq1 := sf1.trans (Sf.keep hk2)
 have B2a := Blk.keep hk2 (Blk.alloc B1a _)
 have B2b := Blk.keep hk2 (Blk.alloc B1b _)
 have B2o : Blk w2 (w1.heap.size) #[.bool b11, .slice ao11 n11 c11] 39 := Blk.keep hk2 (Blk.at (Blk.new _ _ _) (by simp))
 obtain ⟨B2ac, B2af, B2al⟩ := B2a.all
 obtain ⟨B2bc, B2bf, B2bl⟩ := B2b.all
 obtain ⟨B2oc, B2of, B2ol⟩ := B2o.all
 replace hq := hq.soft sq1
 replace jq := jq.soft sq1
 replace jr := jr.soft sq1
 replace hv1 := hv1.soft sq1
 clear B1a B1ac B1af B1b B1bc B1bf
 go_wp2_with fail
 have kp2 : Kp w _ := (Kp.alloc' kq1 (.cells #[.bool b12, .slice ao12 n12 c12] 39))
 have sf2 : Sf 2 w2 _ := (Sf.alloc (Sf.refl 2 w2) (.cells #[.bool b12, .slice ao12 n12 c12] 39))
 refine (multiply_any a.q b.r _ _ _ (hq.soft sf2) (jr.soft sf2) (fq.fit (by omega)) (gr.fit (by omega))).mono ?_
 rintro e w3 ⟨v3, rfl, hv3, hk3⟩
 obtain ⟨b13, ao13, n13, c13, rfl⟩ := hv3.shape'
 have kq2 := kp2.trans' hk3
 have sq2 := sf2.trans (Sf.keep hk3)
 have B3a := Blk.keep hk3 (Blk.alloc B2a _)
 have B3b := Blk.keep hk3 (Blk.alloc B2b _)
 have B3o := Blk.keep hk3 (Blk.alloc B2o _)
 have B3x : Blk w3 (w2.heap.size) #[.bool b12, .slice ao12 n12 c12] 39 := Blk.keep hk3 (Blk.at (Blk.new _ _ _) (by simp))
 obtain ⟨B3ac, B3af, B3al⟩ := B3a.all
 obtain ⟨B3bc, B3bf, B3bl⟩ := B3b.all
 obtain ⟨B3oc, B3of, B3ol⟩ := B3o.all
 obtain ⟨B3xc, B3xf, B3xl⟩ := B3x.all
 replace jq := jq.soft sq2
 replace hv1 := hv1.soft sq2
 replace hv2 := hv2.soft sq2
 clear B2a B2ac B2af B2b B2bc B2bf B2o B2oc B2of
 go_wp2_with fail
 have kp3 : Kp w _ := (Kp.alloc' kq2 (.cells #[.bool b13, .slice ao13 n13 c13] 39))
 have sf3 : Sf 2 w3 _ := (Sf.alloc (Sf.refl 2 w3) (.cells #[.bool b13, .slice ao13 n13 c13] 39))
 refine (multiply_any b.q (-a.r) _ _ _ (jq.soft sf3) (hv1.soft sf3) (gq.fit (by omega)) (fr.neg.fit (by omega))).mono ?_
 rintro e w4 ⟨v4, rfl, hv4, hk4⟩
 obtain ⟨b14, ao14, n14, c14, rfl⟩ := hv4.shape'
 have kq3 := kp3.trans' hk4
 have sq3 := sf3.trans (Sf.keep hk4)
 have B4a := Blk.keep hk4 (Blk.alloc B3a _)
 have B4b := Blk.keep hk4 (Blk.alloc B3b _)
 have B4x := Blk.keep hk4 (Blk.alloc B3x _)
 have B4y : Blk w4 (w3.heap.size) #[.bool b13, .slice ao13 n13 c13] 39 := Blk.keep hk4 (Blk.at (Blk.new _ _ _) (by simp))
 obtain ⟨B4ac, B4af, B4al⟩ := B4a.all
 obtain ⟨B4bc, B4bf, B4bl⟩ := B4b.all
 obtain ⟨B4xc, B4xf, B4xl⟩ := B4x.all
 obtain ⟨B4yc, B4yf, B4yl⟩ := B4y.all
 replace hv2 := hv2.soft sq3
 replace hv3 := hv3.soft sq3
 clear B3a B3ac B3af B3b B3bc B3bf B3o B3oc B3of B3x B3xc B3xf
 go_wp2_with fail
 have kp4 : Kp w _ := (Kp.alloc' kq3 (.cells #[.bool b14, .slice ao14 n14 c14] 39))
 have sf4 : Sf 2 w4 _ := (Sf.alloc (Sf.refl 2 w4) (.cells #[.bool b14, .slice ao14 n14 c14] 39))
 refine (fromInt_any a.d _ d1 (by omega)).mono ?_
 rintro e w5 ⟨v5, rfl, hv5, hk5⟩
 obtain ⟨b15, ao15, n15, c15, rfl⟩ := hv5.shape'
 have kq4 := kp4.trans' hk5
 have sq4 := sf4.trans (Sf.keep hk5)
 have B5b := Blk.keep hk5 (Blk.alloc B4b _)
 have B5x := Blk.keep hk5 (Blk.alloc B4x _)
 have B5y := Blk.keep hk5 (Blk.alloc B4y _)
 have B5z : Blk w5 (w4.heap.size) #[.bool b14, .slice ao14 n14 c14] 39 := Blk.keep hk5 (Blk.at (Blk.new _ _ _) (by simp))
 obtain ⟨B5bc, B5bf, B5bl⟩ := B5b.all
 obtain ⟨B5xc, B5xf, B5xl⟩ := B5x.all
 obtain ⟨B5yc, B5yf, B5yl⟩ := B5y.all
 obtain ⟨B5zc, B5zf, B5zl⟩ := B5z.all
 replace hv2 := hv2.soft sq4
 replace hv3 := hv3.soft sq4
 replace hv4 := hv4.soft sq4
 clear B4a B4ac B4af B4b B4bc B4bf B4x B4xc B4xf B4y B4yc B4yf
 go_wp2_with fail
 have kp5 : Kp w _ := (Kp.alloc' kq4 (.cells #[.bool b15, .slice ao15 n15 c15] 39))
 have sf5 : Sf 2 w5 _ := (Sf.alloc (Sf.refl 2 w5) (.cells #[.bool b15, .slice ao15 n15 c15] 39))
 refine (fromInt_any b.d _ e1 (by omega)).mono ?_
 rintro e w6 ⟨v6, rfl, hv6, hk6⟩
 obtain ⟨b16, ao16, n16, c16, rfl⟩ := hv6.shape'
 have kq5 := kp5.trans' hk6
 have sq5 := sf5.trans (Sf.keep hk6)
 have B6x := Blk.keep hk6 (Blk.alloc B5x _)
 have B6y := Blk.keep hk6 (Blk.alloc B5y _)
 have B6z := Blk.keep hk6 (Blk.alloc B5z _)
 have B6m : Blk w6 (w5.heap.size) #[.bool b15, .slice ao15 n15 c15] 39 := Blk.keep hk6 (Blk.at (Blk.new _ _ _) (by simp))
 obtain ⟨B6xc, B6xf, B6xl⟩ := B6x.all
 obtain ⟨B6yc, B6yf, B6yl⟩ := B6y.all
 obtain ⟨B6zc, B6zf, B6zl⟩ := B6z.all
 obtain ⟨B6mc, B6mf, B6ml⟩ := B6m.all
 replace hv2 := hv2.soft sq5
 replace hv3 := hv3.soft sq5
 replace hv4 := hv4.soft sq5
 replace hv5 := hv5.soft sq5
 clear B5b B5bc B5bf B5x B5xc B5xf B5y B5yc B5yf B5z B5zc B5zf
 go_wp2_with fail
 have kp6 : Kp w _ := (Kp.alloc' kq5 (.cells #[.bool b16, .slice ao16 n16 c16] 39))
 have sf6 : Sf 2 w6 _ := (Sf.alloc (Sf.refl 2 w6) (.cells #[.bool b16, .slice ao16 n16 c16] 39))
 refine (signOfThree_any (a.p * b.r + b.p * -a.r) (a.q * b.r) a.d (b.q * -a.r) b.d (2 * m + 10) _ _ _ _ _ _ (hv2.soft sf6) (hv3.soft sf6) (hv5.soft sf6) (hv4.soft sf6) (hv6.soft sf6) (by omega) fX fY fD fZ fE).mono ?_
 rintro e w7 ⟨rfl, hk7⟩
 have kq6 := kp6.trans' hk7
 have sq6 := sf6.trans (Sf.keep hk7)
 clear B6x B6xc B6xf B6y B6yc B6yf B6z B6zc B6zf B6m B6mc B6mf
 rw [← HS.out]
 generalize qcmp a b = q at *
 go_wp2_with fail
 go_ret
 exact ⟨rfl, kq6⟩

end Go.Proofs.Ytjahbjjekednfaa
