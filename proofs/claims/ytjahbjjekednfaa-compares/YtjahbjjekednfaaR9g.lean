import Derived.Test.YtjahbjjekednfaaR8
import Derived.Test.YtjahbjjekednfaaE1
namespace Go.Proofs.Ytjahbjjekednfaa
open Go.RowKit

theorem IN.len {w : World} {b : Bool} {ao : Option Addr} {n c : Nat} {z : Int} (h : IN w (.agg #[.bool b, .slice ao n c]) z) : (n = 0 ↔ z = 0) ∧ n ≤ 9223372036854775807 := by
 have h1 := h.rb.zero_len
 exact ⟨by rw [h1.1]; omega, h1.2⟩
theorem IN.neg {w : World} {b : Bool} {ao : Option Addr} {n c : Nat} {z : Int} (h : IN w (.agg #[.bool b, .slice ao n c]) z) : b = decide (z < 0) := by
 obtain ⟨ao', n', c', e, _⟩ := h
 simp only [Value.agg.injEq, Array.mk.injEq, List.cons.injEq, Value.bool.injEq] at e
 exact e.1
theorem gcd_turn (x y : Int) : Int.gcd x y = Int.gcd (y.natAbs : Int) ((x.natAbs : Int) % (y.natAbs : Int)) := by
 have e : (x.natAbs : Int) % (y.natAbs : Int) = ((x.natAbs % y.natAbs : Nat) : Int) := by omega
 rw [e]
 unfold Int.gcd
 rw [Int.natAbs_natCast, Int.natAbs_natCast, Nat.gcd_comm, Nat.gcd_rec, Nat.gcd_comm]

set_option maxHeartbeats 1600000 in
theorem gcd_z (x y : Int) (m : Nat) (u v : Value) (w : World) (hx : IN w u x) (hy : IN w v y) (_hm : m ≤ 100000000) (_fx : Ft m x) (_fy : Ft m y) (hz : y = 0) : Calls Try.prog 85 #[u, v] w (RetI w (Int.gcd x y : Int)) := by
 obtain ⟨b1, ao1, n1, c1, rfl⟩ := hx.shape'
 obtain ⟨b2, ao2, n2, c2, rfl⟩ := hy.shape'
 go_enter Try.func85, Try.ntmps85
 go_wp2_with fail
 have kp0 : Kp w _ := (Kp.alloc' (Kp.alloc' (Kp.alloc' (Below.refl w.heap.size w) (.cells #[.bool b1, .slice ao1 n1 c1] 46)) (.cells #[.bool b2, .slice ao2 n2 c2] 46)) (.cells #[.bool false, .slice none 0 0] 46))
 have sf0 : Sf 3 w _ := (Sf.alloc (Sf.alloc (Sf.alloc (Sf.refl 3 w) (.cells #[.bool b1, .slice ao1 n1 c1] 46)) (.cells #[.bool b2, .slice ao2 n2 c2] 46)) (.cells #[.bool false, .slice none 0 0] 46))
 refine (size_any x _ _ (hx.soft sf0)).mono ?_
 rintro e w1 ⟨v1, rfl, hv1, hk1⟩
 obtain ⟨b3, ao3, n3, c3, rfl⟩ := hv1.shape'
 have kq0 := kp0.trans' hk1
 have sq0 := sf0.trans (Sf.keep hk1)
 have B1x : Blk w1 (w.heap.size) #[.bool b1, .slice ao1 n1 c1] 46 := Blk.keep hk1 (Blk.at (Blk.alloc (Blk.alloc (Blk.new _ _ _) _) _) (by simp))
 have B1y : Blk w1 (w.heap.size + 1) #[.bool b2, .slice ao2 n2 c2] 46 := Blk.keep hk1 (Blk.at (Blk.alloc (Blk.new _ _ _) _) (by simp))
 have B1res : Blk w1 (w.heap.size + 1 + 1) #[.bool false, .slice none 0 0] 46 := Blk.keep hk1 (Blk.at (Blk.new _ _ _) (by simp))
 obtain ⟨B1xc, B1xf, B1xl⟩ := B1x.all
 have ge1x : w.heap.size ≤ w.heap.size := by (first | omega | (have := kp0.size; simp only [World.size_alloc, size_setCell', size_drew'] at this; omega))
 obtain ⟨B1yc, B1yf, B1yl⟩ := B1y.all
 have ge1y : w.heap.size ≤ w.heap.size + 1 := by (first | omega | (have := kp0.size; simp only [World.size_alloc, size_setCell', size_drew'] at this; omega))
 obtain ⟨B1resc, B1resf, B1resl⟩ := B1res.all
 have ge1res : w.heap.size ≤ w.heap.size + 1 + 1 := by (first | omega | (have := kp0.size; simp only [World.size_alloc, size_setCell', size_drew'] at this; omega))
 replace hy := hy.soft sq0
 go_wp2_with fail
 have kp1 : Kp w _ := (stK2 (A := w.heap.size) (.bool b3) (.slice ao3 n3 c3) kq0 (by have := ge1x; omega))
 have sf1 : Sf 3 w1 _ := (stS2 (E := 3) (.bool b3) (.slice ao3 n3 c3) B1x (by decide))
 refine (size_any y _ _ (hy.soft sf1)).mono ?_
 rintro e w2 ⟨v2, rfl, hv2, hk2⟩
 obtain ⟨b4, ao4, n4, c4, rfl⟩ := hv2.shape'
 have kq1 := kp1.trans' hk2
 have sq1 := sf1.trans (Sf.keep hk2)
 have B2x : Blk w2 (w.heap.size) #[.bool b3, .slice ao3 n3 c3] 46 := Blk.keep hk2 (Blk.set (Blk.set B1x))
 have B2y := Blk.keep hk2 (Blk.other (Blk.other B1y (by omega)) (by omega))
 have B2res := Blk.keep hk2 (Blk.other (Blk.other B1res (by omega)) (by omega))
 obtain ⟨B2xc, B2xf, B2xl⟩ := B2x.all
 have ge2x : w.heap.size ≤ w.heap.size := by (first | omega | (have := kp1.size; simp only [World.size_alloc, size_setCell', size_drew'] at this; omega))
 obtain ⟨B2yc, B2yf, B2yl⟩ := B2y.all
 have ge2y : w.heap.size ≤ w.heap.size + 1 := by (first | omega | (have := kp1.size; simp only [World.size_alloc, size_setCell', size_drew'] at this; omega))
 obtain ⟨B2resc, B2resf, B2resl⟩ := B2res.all
 have ge2res : w.heap.size ≤ w.heap.size + 1 + 1 := by (first | omega | (have := kp1.size; simp only [World.size_alloc, size_setCell', size_drew'] at this; omega))
 replace hv1 := hv1.soft sq1
 clear B1x B1xc B1xf B1y B1yc B1yf B1res B1resc B1resf
 have hn0 : n4 = 0 := hv2.len.1.mpr (by omega)
 subst hn0
 go_wp2_with fail
 refine bodyPost_ret (v := .agg #[.bool b3, .slice ao3 n3 c3]) (by simp [results, Try.results85, go_sem, B2resc]) rfl ?_
 have kpE : Kp w _ := (stK2 (A := w.heap.size + 1 + 1) (.bool b3) (.slice ao3 n3 c3) (stK2 (A := w.heap.size + 1) (.bool b4) (.slice ao4 0 c4) kq1 (by have := ge2y; omega)) (by have := ge2res; omega))
 have sfE : Sf 3 w2 _ := (Sf.set (t := 46) (c := w.heap.size + 1 + 1) (o := 1) (y := .slice ao3 n3 c3) (Sf.set (t := 46) (c := w.heap.size + 1 + 1) (o := 0) (y := .bool b3) (stS2 (E := 3) (.bool b4) (.slice ao4 0 c4) B2y (by decide)) (by first | (simp only [elemOf_setCell]; exact B2res.elem) | exact B2res.elem) (by decide)) (by first | (simp only [elemOf_setCell]; exact B2res.elem) | exact B2res.elem) (by decide))
 have e : (Int.gcd x y : Int) = (x.natAbs : Int) := by rw [hz, Int.gcd_zero_right]
 rw [e]
 exact retI_mk hv1 sfE kpE

set_option maxHeartbeats 1600000 in
theorem gcd_s (x y : Int) (m : Nat) (u v : Value) (w : World) (hx : IN w u x) (hy : IN w v y) (_hm : m ≤ 100000000) (_fx : Ft m x) (_fy : Ft m y) (hz : y ≠ 0) (IH : ∀ (u v : Value) (w : World), IN w u (y.natAbs : Int) → IN w v ((x.natAbs : Int) % (y.natAbs : Int)) → Calls Try.prog 85 #[u, v] w (RetI w (Int.gcd (y.natAbs : Int) ((x.natAbs : Int) % (y.natAbs : Int)) : Int))) : Calls Try.prog 85 #[u, v] w (RetI w (Int.gcd x y : Int)) := by
 obtain ⟨b1, ao1, n1, c1, rfl⟩ := hx.shape'
 obtain ⟨b2, ao2, n2, c2, rfl⟩ := hy.shape'
 go_enter Try.func85, Try.ntmps85
 go_wp2_with fail
 have kp0 : Kp w _ := (Kp.alloc' (Kp.alloc' (Kp.alloc' (Below.refl w.heap.size w) (.cells #[.bool b1, .slice ao1 n1 c1] 46)) (.cells #[.bool b2, .slice ao2 n2 c2] 46)) (.cells #[.bool false, .slice none 0 0] 46))
 have sf0 : Sf 3 w _ := (Sf.alloc (Sf.alloc (Sf.alloc (Sf.refl 3 w) (.cells #[.bool b1, .slice ao1 n1 c1] 46)) (.cells #[.bool b2, .slice ao2 n2 c2] 46)) (.cells #[.bool false, .slice none 0 0] 46))
 refine (size_any x _ _ (hx.soft sf0)).mono ?_
 rintro e w1 ⟨v1, rfl, hv1, hk1⟩
 obtain ⟨b3, ao3, n3, c3, rfl⟩ := hv1.shape'
 have kq0 := kp0.trans' hk1
 have sq0 := sf0.trans (Sf.keep hk1)
 have B1x : Blk w1 (w.heap.size) #[.bool b1, .slice ao1 n1 c1] 46 := Blk.keep hk1 (Blk.at (Blk.alloc (Blk.alloc (Blk.new _ _ _) _) _) (by simp))
 have B1y : Blk w1 (w.heap.size + 1) #[.bool b2, .slice ao2 n2 c2] 46 := Blk.keep hk1 (Blk.at (Blk.alloc (Blk.new _ _ _) _) (by simp))
 have B1res : Blk w1 (w.heap.size + 1 + 1) #[.bool false, .slice none 0 0] 46 := Blk.keep hk1 (Blk.at (Blk.new _ _ _) (by simp))
 obtain ⟨B1xc, B1xf, B1xl⟩ := B1x.all
 have ge1x : w.heap.size ≤ w.heap.size := by (first | omega | (have := kp0.size; simp only [World.size_alloc, size_setCell', size_drew'] at this; omega))
 obtain ⟨B1yc, B1yf, B1yl⟩ := B1y.all
 obtain ⟨B1resc, B1resf, B1resl⟩ := B1res.all
 replace hy := hy.soft sq0
 go_wp2_with fail
 have kp1 : Kp w _ := (stK2 (A := w.heap.size) (.bool b3) (.slice ao3 n3 c3) kq0 (by have := ge1x; omega))
 have sf1 : Sf 3 w1 _ := (stS2 (E := 3) (.bool b3) (.slice ao3 n3 c3) B1x (by decide))
 refine (size_any y _ _ (hy.soft sf1)).mono ?_
 rintro e w2 ⟨v2, rfl, hv2, hk2⟩
 obtain ⟨b4, ao4, n4, c4, rfl⟩ := hv2.shape'
 have kq1 := kp1.trans' hk2
 have sq1 := sf1.trans (Sf.keep hk2)
 have B2x : Blk w2 (w.heap.size) #[.bool b3, .slice ao3 n3 c3] 46 := Blk.keep hk2 (Blk.set (Blk.set B1x))
 have B2y := Blk.keep hk2 (Blk.other (Blk.other B1y (by omega)) (by omega))
 have B2res := Blk.keep hk2 (Blk.other (Blk.other B1res (by omega)) (by omega))
 obtain ⟨B2xc, B2xf, B2xl⟩ := B2x.all
 obtain ⟨B2yc, B2yf, B2yl⟩ := B2y.all
 have ge2y : w.heap.size ≤ w.heap.size + 1 := by (first | omega | (have := kp1.size; simp only [World.size_alloc, size_setCell', size_drew'] at this; omega))
 obtain ⟨B2resc, B2resf, B2resl⟩ := B2res.all
 replace hv1 := hv1.soft sq1
 clear B1x B1xc B1xf B1y B1yc B1yf B1res B1resc B1resf
 have hnl := hv2.len
 have hn0 : n4 ≠ 0 := fun h => by have := hnl.1.mp h; omega
 have hn1 : ((n4 : Int) == 0) = false := by simp; omega
 have hn2 := hnl.2
 clear hnl
 go_wp2_with fail
 have kp2 : Kp w _ := (stK2 (A := w.heap.size + 1) (.bool b4) (.slice ao4 n4 c4) kq1 (by have := ge2y; omega))
 have sf2 : Sf 3 w2 _ := (stS2 (E := 3) (.bool b4) (.slice ao4 n4 c4) B2y (by decide))
 refine (rdiv_any (x.natAbs : Int) (y.natAbs : Int) m _ _ _ (hv1.soft sf2) (hv2.soft sf2) (by omega) (by omega) _hm _fx.abs _fy.abs).mono ?_
 rintro e w3 ⟨v3, v5, rfl, hv3, hv5, hk3⟩
 obtain ⟨b5, ao5, n5, c5, rfl⟩ := hv3.shape'
 obtain ⟨b6, ao6, n6, c6, rfl⟩ := hv5.shape'
 have kq2 := kp2.trans' hk3
 have sq2 := sf2.trans (Sf.keep hk3)
 have B3x := Blk.keep hk3 (Blk.other (Blk.other B2x (by omega)) (by omega))
 have B3y : Blk w3 (w.heap.size + 1) #[.bool b4, .slice ao4 n4 c4] 46 := Blk.keep hk3 (Blk.set (Blk.set B2y))
 have B3res := Blk.keep hk3 (Blk.other (Blk.other B2res (by omega)) (by omega))
 obtain ⟨B3xc, B3xf, B3xl⟩ := B3x.all
 obtain ⟨B3yc, B3yf, B3yl⟩ := B3y.all
 obtain ⟨B3resc, B3resf, B3resl⟩ := B3res.all
 replace hv2 := hv2.soft sq2
 clear B2x B2xc B2xf B2y B2yc B2yf B2res B2resc B2resf
 go_wp2_with fail
 have kp3 : Kp w _ := (Kp.alloc' (Kp.alloc' kq2 (.cells #[.bool b5, .slice ao5 n5 c5] 46)) (.cells #[.bool b6, .slice ao6 n6 c6] 46))
 have sf3 : Sf 3 w3 _ := (Sf.alloc (Sf.alloc (Sf.refl 3 w3) (.cells #[.bool b5, .slice ao5 n5 c5] 46)) (.cells #[.bool b6, .slice ao6 n6 c6] 46))
 refine (IH _ _ _ (hv2.soft sf3) (hv5.soft sf3)).mono ?_
 rintro e w4 ⟨v7, rfl, hv7, hk4⟩
 obtain ⟨b7, ao7, n7, c7, rfl⟩ := hv7.shape'
 have kq3 := kp3.trans' hk4
 have sq3 := sf3.trans (Sf.keep hk4)
 have B4res := Blk.keep hk4 (Blk.alloc (Blk.alloc B3res _) _)
 obtain ⟨B4resc, B4resf, B4resl⟩ := B4res.all
 have ge4res : w.heap.size ≤ w.heap.size + 1 + 1 := by (first | omega | (have := kp3.size; simp only [World.size_alloc, size_setCell', size_drew'] at this; omega))
 clear B3x B3xc B3xf B3y B3yc B3yf B3res B3resc B3resf
 rw [← gcd_turn] at hv7
 go_wp2_with fail
 refine bodyPost_ret (v := .agg #[.bool b7, .slice ao7 n7 c7]) (by simp [results, Try.results85, go_sem, B4resc]) rfl ?_
 have kpE : Kp w _ := (stK2 (A := w.heap.size + 1 + 1) (.bool b7) (.slice ao7 n7 c7) kq3 (by have := ge4res; omega))
 have sfE : Sf 3 w4 _ := (stS2 (E := 3) (.bool b7) (.slice ao7 n7 c7) B4res (by decide))
 exact retI_mk hv7 sfE kpE

theorem rgcd_any : ∀ (k : Nat) (x y : Int) (m : Nat) (u v : Value) (w : World), y.natAbs ≤ k → IN w u x → IN w v y → m ≤ 100000000 → Ft m x → Ft m y → Calls Try.prog 85 #[u, v] w (RetI w (Int.gcd x y : Int))
 | 0, x, y, m, u, v, w, hk, hx, hy, hm, fx, fy => gcd_z x y m u v w hx hy hm fx fy (by omega)
 | k + 1, x, y, m, u, v, w, hk, hx, hy, hm, fx, fy => by
  by_cases hz : y = 0
  ·exact gcd_z x y m u v w hx hy hm fx fy hz
  ·have h1 : 0 ≤ (x.natAbs : Int) % (y.natAbs : Int) := Int.emod_nonneg _ (by omega)
   have h2 : (x.natAbs : Int) % (y.natAbs : Int) < (y.natAbs : Int) := Int.emod_lt_of_pos _ (by omega)
   refine gcd_s x y m u v w hx hy hm fx fy hz (fun u' v' w' hu' hv' => rgcd_any k _ _ m u' v' w' (by omega) hu' hv' hm fy.abs (fy.le (by omega)))

end Go.Proofs.Ytjahbjjekednfaa
