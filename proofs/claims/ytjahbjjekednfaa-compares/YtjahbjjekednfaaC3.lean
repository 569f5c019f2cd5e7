import Derived.Test.YtjahbjjekednfaaC3a
namespace Go.Proofs.Ytjahbjjekednfaa
open Go.RowKit

set_option maxHeartbeats 800000 in
theorem signOfSum_any (a b o : Int) (w : World) : Calls Try.prog 57 #[.int .i64 a, .int .i64 b, .int .i64 o] w (RetV w (.int .i64 (sos a b o))) := by
 by_cases h1 : 0 < o
 ·have E : sos a b o = a := by unfold sos; rw [if_pos h1]
  rw [E]
  go_enter Try.func57, Try.ntmps57
  go_wp2_with fail
  go_ret
  exact ⟨rfl, Below.refl _ _⟩
 ·by_cases h2 : o < 0
  ·have E : sos a b o = b := by unfold sos; rw [if_neg h1, if_pos (Or.inl h2)]
   rw [E]
   go_enter Try.func57, Try.ntmps57
   go_wp2_with fail
   go_ret
   exact ⟨rfl, Below.refl _ _⟩
  ·by_cases h3 : a = b
   ·have E : sos a b o = b := by unfold sos; rw [if_neg h1, if_pos (Or.inr h3)]
    rw [E]
    have y : (a == b) = true := by simp [h3]
    clear h3 E
    go_enter Try.func57, Try.ntmps57
    go_wp2_with fail
    go_ret
    exact ⟨rfl, Below.refl _ _⟩
   ·have E : sos a b o = 0 := by unfold sos; rw [if_neg h1, if_neg (fun h => h.elim h2 h3)]
    rw [E]
    have y : (a == b) = false := by simp [h3]
    clear h3 E
    go_enter Try.func57, Try.ntmps57
    go_wp2_with fail
    go_ret
    exact ⟨rfl, Below.refl _ _⟩

set_option maxHeartbeats 3200000 in
theorem signOfTwo_any (x y k : Int) (m : Nat) (u v t : Value) (w : World) (hx : WN w u x) (hy : WN w v y) (hz : WN w t k) (hm : m ≤ 100000000) (fx : Ft m x) (fy : Ft m y) (fk : Ft m k) : Calls Try.prog 54 #[u, v, t] w (RetV w (.int .i64 (s2 x y k))) := by
 have HS : Hid (s2 x y k = sos x.sign y.sign (x * x - y * y * k).sign) := rfl
 obtain ⟨b1, ao1, n1, c1, rfl⟩ := hx.shape'
 obtain ⟨b2, ao2, n2, c2, rfl⟩ := hy.shape'
 obtain ⟨b3, ao3, n3, c3, rfl⟩ := hz.shape'
 go_enter Try.func54, Try.ntmps54
 go_wp2_with fail
 have kp0 : Kp w _ := (Kp.alloc' (Kp.alloc' (Kp.alloc' (Below.refl w.heap.size w) (.cells #[.bool b1, .slice ao1 n1 c1] 39)) (.cells #[.bool b2, .slice ao2 n2 c2] 39)) (.cells #[.bool b3, .slice ao3 n3 c3] 39))
 have sf0 : Sf 2 w _ := (Sf.alloc (Sf.alloc (Sf.alloc (Sf.refl 2 w) (.cells #[.bool b1, .slice ao1 n1 c1] 39)) (.cells #[.bool b2, .slice ao2 n2 c2] 39)) (.cells #[.bool b3, .slice ao3 n3 c3] 39))
 refine (multiply_any x x _ _ _ (hx.soft sf0) (hx.soft sf0) (fx.fit (by omega)) (fx.fit (by omega))).mono ?_
 rintro e w1 ⟨v1, rfl, hv1, hk1⟩
 obtain ⟨b4, ao4, n4, c4, rfl⟩ := hv1.shape'
 have kq0 := kp0.trans' hk1
 have sq0 := sf0.trans (Sf.keep hk1)
 have B1x : Blk w1 (w.heap.size) #[.bool b1, .slice ao1 n1 c1] 39 := Blk.keep hk1 (Blk.at (Blk.alloc (Blk.alloc (Blk.new _ _ _) _) _) (by simp))
 have B1y : Blk w1 (w.heap.size + 1) #[.bool b2, .slice ao2 n2 c2] 39 := Blk.keep hk1 (Blk.at (Blk.alloc (Blk.new _ _ _) _) (by simp))
 have B1k : Blk w1 (w.heap.size + 1 + 1) #[.bool b3, .slice ao3 n3 c3] 39 := Blk.keep hk1 (Blk.at (Blk.new _ _ _) (by simp))
 obtain ⟨B1xc, B1xf, B1xl⟩ := B1x.all
 obtain ⟨B1yc, B1yf, B1yl⟩ := B1y.all
 obtain ⟨B1kc, B1kf, B1kl⟩ := B1k.all
 replace hx := hx.soft sq0
 replace hy := hy.soft sq0
 replace hz := hz.soft sq0
 go_wp2_with fail
 have kp1 : Kp w _ := (Kp.alloc' kq0 (.cells #[.bool b4, .slice ao4 n4 c4] 39))
 have sf1 : Sf 2 w1 _ := (Sf.alloc (Sf.refl 2 w1) (.cells #[.bool b4, .slice ao4 n4 c4] 39))
 refine (multiply_any y y _ _ _ (hy.soft sf1) (hy.soft sf1) (fy.fit (by omega)) (fy.fit (by omega))).mono ?_
 rintro e w2 ⟨v2, rfl, hv2, hk2⟩
 obtain ⟨b5, ao5, n5, c5, rfl⟩ := hv2.shape'
 have kq1 := kp1.trans' hk2
 have sq1 := sf1.trans (Sf.keep hk2)
 have B2x := Blk.keep hk2 (Blk.alloc B1x _)
 have B2y := Blk.keep hk2 (Blk.alloc B1y _)
 have B2k := Blk.keep hk2 (Blk.alloc B1k _)
 have B2sq : Blk w2 (w1.heap.size) #[.bool b4, .slice ao4 n4 c4] 39 := Blk.keep hk2 (Blk.at (Blk.new _ _ _) (by simp))
 obtain ⟨B2xc, B2xf, B2xl⟩ := B2x.all
 obtain ⟨B2yc, B2yf, B2yl⟩ := B2y.all
 obtain ⟨B2kc, B2kf, B2kl⟩ := B2k.all
 obtain ⟨B2sqc, B2sqf, B2sql⟩ := B2sq.all
 replace hx := hx.soft sq1
 replace hy := hy.soft sq1
 replace hz := hz.soft sq1
 replace hv1 := hv1.soft sq1
 clear B1x B1xc B1xf B1y B1yc B1yf B1k B1kc B1kf
 go_wp2_with fail
 have kp2 : Kp w _ := (Kp.alloc' kq1 (.cells #[.bool b5, .slice ao5 n5 c5] 39))
 have sf2 : Sf 2 w2 _ := (Sf.alloc (Sf.refl 2 w2) (.cells #[.bool b5, .slice ao5 n5 c5] 39))
 refine (multiply_any (y * y) k _ _ _ (hv2.soft sf2) (hz.soft sf2) ((fy.mul fy).fit (by omega)) (fk.fit (by omega))).mono ?_
 rintro e w3 ⟨v3, rfl, hv3, hk3⟩
 obtain ⟨b6, ao6, n6, c6, rfl⟩ := hv3.shape'
 have kq2 := kp2.trans' hk3
 have sq2 := sf2.trans (Sf.keep hk3)
 have B3x := Blk.keep hk3 (Blk.alloc B2x _)
 have B3y := Blk.keep hk3 (Blk.alloc B2y _)
 have B3sq := Blk.keep hk3 (Blk.alloc B2sq _)
 have B3ot : Blk w3 (w2.heap.size) #[.bool b5, .slice ao5 n5 c5] 39 := Blk.keep hk3 (Blk.at (Blk.new _ _ _) (by simp))
 obtain ⟨B3xc, B3xf, B3xl⟩ := B3x.all
 obtain ⟨B3yc, B3yf, B3yl⟩ := B3y.all
 obtain ⟨B3sqc, B3sqf, B3sql⟩ := B3sq.all
 obtain ⟨B3otc, B3otf, B3otl⟩ := B3ot.all
 have ge3ot : w.heap.size ≤ w2.heap.size := by (first | omega | (have := kp2.size; simp only [World.size_alloc, size_setCell', size_drew'] at this; omega))
 replace hx := hx.soft sq2
 replace hy := hy.soft sq2
 replace hv1 := hv1.soft sq2
 clear B2x B2xc B2xf B2y B2yc B2yf B2k B2kc B2kf B2sq B2sqc B2sqf
 go_wp2_with fail
 have kp3 : Kp w _ := (stK2 (A := w2.heap.size) (.bool b6) (.slice ao6 n6 c6) kq2 (by have := ge3ot; omega))
 have sf3 : Sf 2 w3 _ := (stS2 (E := 2) (.bool b6) (.slice ao6 n6 c6) B3ot (by decide))
 refine (wcompare_any (x * x) (y * y * k) _ _ _ (hv1.soft sf3) (hv3.soft sf3)).mono ?_
 rintro e w4 ⟨rfl, hk4⟩
 have kq3 := kp3.trans' hk4
 have sq3 := sf3.trans (Sf.keep hk4)
 have B4x := Blk.keep hk4 (Blk.other (Blk.other B3x (by omega)) (by omega))
 have B4y := Blk.keep hk4 (Blk.other (Blk.other B3y (by omega)) (by omega))
 obtain ⟨B4xc, B4xf, B4xl⟩ := B4x.all
 obtain ⟨B4yc, B4yf, B4yl⟩ := B4y.all
 replace hx := hx.soft sq3
 replace hy := hy.soft sq3
 clear B3x B3xc B3xf B3y B3yc B3yf B3sq B3sqc B3sqf B3ot B3otc B3otf
 generalize (x * x - y * y * k).sign = so at *
 go_wp2_with fail
 have kp4 : Kp w _ := kq3
 have sf4 : Sf 2 w4 _ := (Sf.refl 2 w4)
 refine (sign_any x _ _ (hx.soft sf4)).mono ?_
 rintro e w5 ⟨rfl, hk5⟩
 have kq4 := kp4.trans' hk5
 have sq4 := sf4.trans (Sf.keep hk5)
 have B5x := Blk.keep hk5 B4x
 have B5y := Blk.keep hk5 B4y
 obtain ⟨B5xc, B5xf, B5xl⟩ := B5x.all
 obtain ⟨B5yc, B5yf, B5yl⟩ := B5y.all
 replace hy := hy.soft sq4
 clear B4x B4xc B4xf B4y B4yc B4yf
 generalize x.sign = sx at *
 go_wp2_with fail
 have kp5 : Kp w _ := kq4
 have sf5 : Sf 2 w5 _ := (Sf.refl 2 w5)
 refine (sign_any y _ _ (hy.soft sf5)).mono ?_
 rintro e w6 ⟨rfl, hk6⟩
 have kq5 := kp5.trans' hk6
 have sq5 := sf5.trans (Sf.keep hk6)
 clear B5x B5xc B5xf B5y B5yc B5yf
 generalize y.sign = sy at *
 go_wp2_with fail
 have kp6 : Kp w _ := kq5
 have sf6 : Sf 2 w6 _ := (Sf.refl 2 w6)
 refine (signOfSum_any sx sy so _).mono ?_
 rintro e w7 ⟨rfl, hk7⟩
 have kq6 := kp6.trans' hk7
 have sq6 := sf6.trans (Sf.keep hk7)
 rw [← HS.out]
 generalize s2 x y k = q at *
 go_wp2_with fail
 go_ret
 exact ⟨rfl, kq6⟩

end Go.Proofs.Ytjahbjjekednfaa
