import Derived.Test.YtjahbjjekednfaaDoorX1
namespace Go.Proofs.YtjahbjjekednfaaDoor
open Go.RowKit

/-- (p + q√d)/r. -/
structure Qn where
  p : Int
  q : Int
  r : Int
  d : Int

/-- v is the program's number a. -/
def XN (w : World) (v : Value) (a : Qn) : Prop := ∃ b1 ao1 n1 c1 b2 ao2 n2 c2 b3 ao3 n3 c3, v = .agg #[.bool b1, .slice ao1 n1 c1, .bool b2, .slice ao2 n2 c2, .bool b3, .slice ao3 n3 c3, .int .i64 a.d] ∧
  WN w (.agg #[.bool b1, .slice ao1 n1 c1]) a.p ∧ WN w (.agg #[.bool b2, .slice ao2 n2 c2]) a.q ∧ WN w (.agg #[.bool b3, .slice ao3 n3 c3]) a.r
def RetX (w : World) (a : Qn) (e : Ending) (w' : World) : Prop := ∃ v, e = .returned v ∧ XN w' v a ∧ Kp w w'
def RetXE (w : World) (a : Qn) (n : Int) (e : Ending) (w' : World) : Prop := ∃ v, e = .returned (.tuple #[v, .int .i64 n]) ∧ XN w' v a ∧ Kp w w'
theorem XN.soft {w W : World} {v : Value} {a : Qn} (hs : Sf 2 w W) (h : XN w v a) : XN W v a := by
  obtain ⟨b1, ao1, n1, c1, b2, ao2, n2, c2, b3, ao3, n3, c3, h1, h2, h3, h4⟩ := h
  exact ⟨b1, ao1, n1, c1, b2, ao2, n2, c2, b3, ao3, n3, c3, h1, h2.soft hs, h3.soft hs, h4.soft hs⟩
theorem XN.keep {w W : World} {v : Value} {a : Qn} (hk : Kp w W) (h : XN w v a) : XN W v a := h.soft (Sf.keep hk)
theorem XN.mk3 {w : World} {a : Qn} {b1 b2 b3 : Bool} {ao1 ao2 ao3 : Option Addr} {n1 c1 n2 c2 n3 c3 : Nat} {d : Int} (h1 : WN w (.agg #[.bool b1, .slice ao1 n1 c1]) a.p) (h2 : WN w (.agg #[.bool b2, .slice ao2 n2 c2]) a.q) (h3 : WN w (.agg #[.bool b3, .slice ao3 n3 c3]) a.r) (hd : d = a.d) :
    XN w (.agg #[.bool b1, .slice ao1 n1 c1, .bool b2, .slice ao2 n2 c2, .bool b3, .slice ao3 n3 c3, .int .i64 d]) a :=
  ⟨b1, ao1, n1, c1, b2, ao2, n2, c2, b3, ao3, n3, c3, by rw [hd], h1, h2, h3⟩
theorem wn_zero (w : World) : WN w (.agg #[.bool false, .slice none 0 0]) 0 := ⟨none, 0, 0, rfl, rp_none _ _⟩

theorem sign_nn {x : Int} (h : 0 ≤ x) : x.sign ≥ 0 := by
  rcases Int.lt_or_eq_of_le h with h1 | h1
  · rw [Int.sign_eq_one_of_pos h1]; decide
  · rw [← h1]; decide

/-- The signed common divisor. -/
def qcom (p q r : Int) : Int := if r < 0 then -(Int.gcd (Int.gcd r p) q : Int) else (Int.gcd (Int.gcd r p) q : Int)
def qreduce (p q r d : Int) : Qn := ⟨p.tdiv (qcom p q r), q.tdiv (qcom p q r), r.tdiv (qcom p q r), if q.tdiv (qcom p q r) = 0 then 1 else d⟩

theorem Ft.gcd {m : Nat} {x y : Int} (hx : Ft m x) (hy : Ft m y) : Ft m (Int.gcd x y : Int) := by
  by_cases h : x = 0
  · subst h
    unfold Ft at *
    simpa using hy
  · refine hx.le ?_
    have := Nat.gcd_le_left (m := x.natAbs) y.natAbs (by omega)
    simpa [Int.gcd] using this
theorem Ft.com {m : Nat} {p q r : Int} (hp : Ft m p) (hq : Ft m q) (hr : Ft m r) : Ft m (qcom p q r) := by
  unfold qcom
  split
  · exact ((hr.gcd hp).gcd hq).neg
  · exact (hr.gcd hp).gcd hq

set_option maxHeartbeats 3200000 in
theorem reduce_nz (p q r d : Int) (m : Nat) (u v t : Value) (w : World) (hp : WN w u p) (hq : WN w v q) (hr : WN w t r) (hm : m ≤ 150000000) (fp : Ft m p) (fq : Ft m q) (fr : Ft m r) (h1 : r < 0) (h2 : q.tdiv (qcom p q r) = 0) :
    Calls Tryd.prog 108 #[u, v, t, .int .i64 d] w (RetX w (qreduce p q r d)) := by
  obtain ⟨b1, ao1, n1, c1, rfl⟩ := hp.shape'
  obtain ⟨b2, ao2, n2, c2, rfl⟩ := hq.shape'
  obtain ⟨b3, ao3, n3, c3, rfl⟩ := hr.shape'
  have HC := Hid.mk (fp.com fq fr)
  have HG : Hid (qcom p q r = -(Int.gcd (Int.gcd r p) q : Int)) := by unfold Hid qcom; rw [if_pos h1]
  have HS : Hid (r.sign = -1) := by unfold Hid; rw [Int.sign_eq_neg_one_of_neg h1]
  have HQ := Hid.mk h2
  clear h1 h2
  go_enter Tryd.func108, Tryd.ntmps108
  go_wp2_with fail
  have kp0 : Kp w _ := (Kp.alloc' (Kp.alloc' (Kp.alloc' (Kp.alloc' (Below.refl w.heap.size w) (.cells #[.bool b1, .slice ao1 n1 c1] 56)) (.cells #[.bool b2, .slice ao2 n2 c2] 56)) (.cells #[.bool b3, .slice ao3 n3 c3] 56)) (.cells #[.bool false, .slice none 0 0, .bool false, .slice none 0 0, .bool false, .slice none 0 0, .int .i64 0] 58))
  have sf0 : Sf 2 w _ := (Sf.alloc (Sf.alloc (Sf.alloc (Sf.alloc (Sf.refl 2 w) (.cells #[.bool b1, .slice ao1 n1 c1] 56)) (.cells #[.bool b2, .slice ao2 n2 c2] 56)) (.cells #[.bool b3, .slice ao3 n3 c3] 56)) (.cells #[.bool false, .slice none 0 0, .bool false, .slice none 0 0, .bool false, .slice none 0 0, .int .i64 0] 58))
  refine (divisor_any r p m _ _ _ (hr.soft sf0) (hp.soft sf0) (by omega) fr fp).mono ?_
  rintro e w1 ⟨v1, rfl, hg, hk1⟩
  obtain ⟨b4, ao4, n4, c4, rfl⟩ := hg.shape'
  have kq0 := kp0.trans' hk1
  have sq0 := sf0.trans (Sf.keep hk1)
  have B1p1 : Blk w1 (w.heap.size) #[.bool b1, .slice ao1 n1 c1] 56 := Blk.keep hk1 (Blk.at (Blk.alloc (Blk.alloc (Blk.alloc (Blk.new _ _ _) _) _) _) (by simp))
  have B1p2 : Blk w1 (w.heap.size + 1) #[.bool b2, .slice ao2 n2 c2] 56 := Blk.keep hk1 (Blk.at (Blk.alloc (Blk.alloc (Blk.new _ _ _) _) _) (by simp))
  have B1p3 : Blk w1 (w.heap.size + 1 + 1) #[.bool b3, .slice ao3 n3 c3] 56 := Blk.keep hk1 (Blk.at (Blk.alloc (Blk.new _ _ _) _) (by simp))
  have B1res : Blk w1 (w.heap.size + 1 + 1 + 1) #[.bool false, .slice none 0 0, .bool false, .slice none 0 0, .bool false, .slice none 0 0, .int .i64 0] 58 := Blk.keep hk1 (Blk.at (Blk.new _ _ _) (by simp))
  have B1p1c := B1p1.cell
  have B1p1f := B1p1.frozen
  have B1p1l := B1p1.lt
  have ge1p1 : w.heap.size ≤ w.heap.size := by (first | omega | (have := kp0.size; simp only [World.size_alloc, size_setCell', size_drew'] at this; omega))
  have B1p2c := B1p2.cell
  have B1p2f := B1p2.frozen
  have B1p2l := B1p2.lt
  have ge1p2 : w.heap.size ≤ w.heap.size + 1 := by (first | omega | (have := kp0.size; simp only [World.size_alloc, size_setCell', size_drew'] at this; omega))
  have B1p3c := B1p3.cell
  have B1p3f := B1p3.frozen
  have B1p3l := B1p3.lt
  have ge1p3 : w.heap.size ≤ w.heap.size + 1 + 1 := by (first | omega | (have := kp0.size; simp only [World.size_alloc, size_setCell', size_drew'] at this; omega))
  have B1resc := B1res.cell
  have B1resf := B1res.frozen
  have B1resl := B1res.lt
  have ge1res : w.heap.size ≤ w.heap.size + 1 + 1 + 1 := by (first | omega | (have := kp0.size; simp only [World.size_alloc, size_setCell', size_drew'] at this; omega))
  replace hp := hp.soft sq0
  replace hq := hq.soft sq0
  replace hr := hr.soft sq0
  go_wp2_with fail
  have kp1 : Kp w _ := (Kp.alloc' kq0 (.cells #[.bool b4, .slice ao4 n4 c4] 56))
  have sf1 : Sf 2 w1 _ := (Sf.alloc (Sf.refl 2 w1) (.cells #[.bool b4, .slice ao4 n4 c4] 56))
  refine (divisor_any (Int.gcd r p) q m _ _ _ (hg.soft sf1) (hq.soft sf1) (by omega) (fr.gcd fp) fq).mono ?_
  rintro e w2 ⟨v2, rfl, hc, hk2⟩
  obtain ⟨b5, ao5, n5, c5, rfl⟩ := hc.shape'
  have kq1 := kp1.trans' hk2
  have sq1 := sf1.trans (Sf.keep hk2)
  have B2p1 : Blk w2 (w.heap.size) #[.bool b1, .slice ao1 n1 c1] 56 := Blk.keep hk2 (Blk.alloc B1p1 _)
  have B2p2 : Blk w2 (w.heap.size + 1) #[.bool b2, .slice ao2 n2 c2] 56 := Blk.keep hk2 (Blk.alloc B1p2 _)
  have B2p3 : Blk w2 (w.heap.size + 1 + 1) #[.bool b3, .slice ao3 n3 c3] 56 := Blk.keep hk2 (Blk.alloc B1p3 _)
  have B2res : Blk w2 (w.heap.size + 1 + 1 + 1) #[.bool false, .slice none 0 0, .bool false, .slice none 0 0, .bool false, .slice none 0 0, .int .i64 0] 58 := Blk.keep hk2 (Blk.alloc B1res _)
  have B2com : Blk w2 (w1.heap.size) #[.bool b4, .slice ao4 n4 c4] 56 := Blk.keep hk2 (Blk.at (Blk.new _ _ _) (by simp))
  have B2p1c := B2p1.cell
  have B2p1f := B2p1.frozen
  have B2p1l := B2p1.lt
  have ge2p1 : w.heap.size ≤ w.heap.size := by (first | omega | (have := kp1.size; simp only [World.size_alloc, size_setCell', size_drew'] at this; omega))
  have B2p2c := B2p2.cell
  have B2p2f := B2p2.frozen
  have B2p2l := B2p2.lt
  have ge2p2 : w.heap.size ≤ w.heap.size + 1 := by (first | omega | (have := kp1.size; simp only [World.size_alloc, size_setCell', size_drew'] at this; omega))
  have B2p3c := B2p3.cell
  have B2p3f := B2p3.frozen
  have B2p3l := B2p3.lt
  have ge2p3 : w.heap.size ≤ w.heap.size + 1 + 1 := by (first | omega | (have := kp1.size; simp only [World.size_alloc, size_setCell', size_drew'] at this; omega))
  have B2resc := B2res.cell
  have B2resf := B2res.frozen
  have B2resl := B2res.lt
  have ge2res : w.heap.size ≤ w.heap.size + 1 + 1 + 1 := by (first | omega | (have := kp1.size; simp only [World.size_alloc, size_setCell', size_drew'] at this; omega))
  have B2comc := B2com.cell
  have B2comf := B2com.frozen
  have B2coml := B2com.lt
  have ge2com : w.heap.size ≤ w1.heap.size := by (first | omega | (have := kp1.size; simp only [World.size_alloc, size_setCell', size_drew'] at this; omega))
  replace hp := hp.soft sq1
  replace hq := hq.soft sq1
  replace hr := hr.soft sq1
  clear B1p1 B1p1c B1p1f B1p2 B1p2c B1p2f B1p3 B1p3c B1p3f B1res B1resc B1resf
  go_wp2_with fail
  have kp2 : Kp w _ := (Below.setCell (Below.setCell kq1 (p := ⟨w1.heap.size, 0, none⟩) (by have := ge2com; omega) (.bool b5)) (p := ⟨w1.heap.size, 1, none⟩) (by have := ge2com; omega) (.slice ao5 n5 c5))
  have sf2 : Sf 2 w2 _ := (Sf.set (t := 56) (c := w1.heap.size) (o := 1) (y := .slice ao5 n5 c5) (Sf.set (t := 56) (c := w1.heap.size) (o := 0) (y := .bool b5) (Sf.refl 2 w2) (by first | (simp only [elemOf_setCell]; exact B2com.elem) | exact B2com.elem) (by decide)) (by first | (simp only [elemOf_setCell]; exact B2com.elem) | exact B2com.elem) (by decide))
  refine (sign_any r _ _ (hr.soft sf2)).mono ?_
  rintro e w3 ⟨rfl, hk3⟩
  rw [HS.out]
  have kq2 := kp2.trans' hk3
  have sq2 := sf2.trans (Sf.keep hk3)
  have B3p1 : Blk w3 (w.heap.size) #[.bool b1, .slice ao1 n1 c1] 56 := Blk.keep hk3 (Blk.other (Blk.other B2p1 (by omega)) (by omega))
  have B3p2 : Blk w3 (w.heap.size + 1) #[.bool b2, .slice ao2 n2 c2] 56 := Blk.keep hk3 (Blk.other (Blk.other B2p2 (by omega)) (by omega))
  have B3p3 : Blk w3 (w.heap.size + 1 + 1) #[.bool b3, .slice ao3 n3 c3] 56 := Blk.keep hk3 (Blk.other (Blk.other B2p3 (by omega)) (by omega))
  have B3res : Blk w3 (w.heap.size + 1 + 1 + 1) #[.bool false, .slice none 0 0, .bool false, .slice none 0 0, .bool false, .slice none 0 0, .int .i64 0] 58 := Blk.keep hk3 (Blk.other (Blk.other B2res (by omega)) (by omega))
  have B3com : Blk w3 (w1.heap.size) #[.bool b5, .slice ao5 n5 c5] 56 := Blk.keep hk3 (Blk.set (Blk.set B2com))
  have B3p1c := B3p1.cell
  have B3p1f := B3p1.frozen
  have B3p1l := B3p1.lt
  have ge3p1 : w.heap.size ≤ w.heap.size := by (first | omega | (have := kp2.size; simp only [World.size_alloc, size_setCell', size_drew'] at this; omega))
  have B3p2c := B3p2.cell
  have B3p2f := B3p2.frozen
  have B3p2l := B3p2.lt
  have ge3p2 : w.heap.size ≤ w.heap.size + 1 := by (first | omega | (have := kp2.size; simp only [World.size_alloc, size_setCell', size_drew'] at this; omega))
  have B3p3c := B3p3.cell
  have B3p3f := B3p3.frozen
  have B3p3l := B3p3.lt
  have ge3p3 : w.heap.size ≤ w.heap.size + 1 + 1 := by (first | omega | (have := kp2.size; simp only [World.size_alloc, size_setCell', size_drew'] at this; omega))
  have B3resc := B3res.cell
  have B3resf := B3res.frozen
  have B3resl := B3res.lt
  have ge3res : w.heap.size ≤ w.heap.size + 1 + 1 + 1 := by (first | omega | (have := kp2.size; simp only [World.size_alloc, size_setCell', size_drew'] at this; omega))
  have B3comc := B3com.cell
  have B3comf := B3com.frozen
  have B3coml := B3com.lt
  have ge3com : w.heap.size ≤ w1.heap.size := by (first | omega | (have := kp2.size; simp only [World.size_alloc, size_setCell', size_drew'] at this; omega))
  replace hp := hp.soft sq2
  replace hq := hq.soft sq2
  replace hr := hr.soft sq2
  replace hc := hc.soft sq2
  clear B2p1 B2p1c B2p1f B2p2 B2p2c B2p2f B2p3 B2p3c B2p3f B2res B2resc B2resf B2com B2comc B2comf
  go_wp2_with fail
  have kp3 : Kp w _ := kq2
  have sf3 : Sf 2 w3 _ := (Sf.refl 2 w3)
  refine (negate_any _ _ _ (hc.soft sf3) (((fr.gcd fp).gcd fq).fit (by omega))).mono ?_
  rintro e w4 ⟨v4, rfl, hc', hk4⟩
  obtain ⟨b6, ao6, n6, c6, rfl⟩ := hc'.shape'
  rw [← HG.out] at hc'
  have kq3 := kp3.trans' hk4
  have sq3 := sf3.trans (Sf.keep hk4)
  have B4p1 : Blk w4 (w.heap.size) #[.bool b1, .slice ao1 n1 c1] 56 := Blk.keep hk4 B3p1
  have B4p2 : Blk w4 (w.heap.size + 1) #[.bool b2, .slice ao2 n2 c2] 56 := Blk.keep hk4 B3p2
  have B4p3 : Blk w4 (w.heap.size + 1 + 1) #[.bool b3, .slice ao3 n3 c3] 56 := Blk.keep hk4 B3p3
  have B4res : Blk w4 (w.heap.size + 1 + 1 + 1) #[.bool false, .slice none 0 0, .bool false, .slice none 0 0, .bool false, .slice none 0 0, .int .i64 0] 58 := Blk.keep hk4 B3res
  have B4com : Blk w4 (w1.heap.size) #[.bool b5, .slice ao5 n5 c5] 56 := Blk.keep hk4 B3com
  have B4p1c := B4p1.cell
  have B4p1f := B4p1.frozen
  have B4p1l := B4p1.lt
  have ge4p1 : w.heap.size ≤ w.heap.size := by (first | omega | (have := kp3.size; simp only [World.size_alloc, size_setCell', size_drew'] at this; omega))
  have B4p2c := B4p2.cell
  have B4p2f := B4p2.frozen
  have B4p2l := B4p2.lt
  have ge4p2 : w.heap.size ≤ w.heap.size + 1 := by (first | omega | (have := kp3.size; simp only [World.size_alloc, size_setCell', size_drew'] at this; omega))
  have B4p3c := B4p3.cell
  have B4p3f := B4p3.frozen
  have B4p3l := B4p3.lt
  have ge4p3 : w.heap.size ≤ w.heap.size + 1 + 1 := by (first | omega | (have := kp3.size; simp only [World.size_alloc, size_setCell', size_drew'] at this; omega))
  have B4resc := B4res.cell
  have B4resf := B4res.frozen
  have B4resl := B4res.lt
  have ge4res : w.heap.size ≤ w.heap.size + 1 + 1 + 1 := by (first | omega | (have := kp3.size; simp only [World.size_alloc, size_setCell', size_drew'] at this; omega))
  have B4comc := B4com.cell
  have B4comf := B4com.frozen
  have B4coml := B4com.lt
  have ge4com : w.heap.size ≤ w1.heap.size := by (first | omega | (have := kp3.size; simp only [World.size_alloc, size_setCell', size_drew'] at this; omega))
  replace hp := hp.soft sq3
  replace hq := hq.soft sq3
  replace hr := hr.soft sq3
  clear B3p1 B3p1c B3p1f B3p2 B3p2c B3p2f B3p3 B3p3c B3p3f B3res B3resc B3resf B3com B3comc B3comf
  go_wp2_with fail
  have kp4 : Kp w _ := (Below.setCell (Below.setCell kq3 (p := ⟨w1.heap.size, 0, none⟩) (by have := ge4com; omega) (.bool b6)) (p := ⟨w1.heap.size, 1, none⟩) (by have := ge4com; omega) (.slice ao6 n6 c6))
  have sf4 : Sf 2 w4 _ := (Sf.set (t := 56) (c := w1.heap.size) (o := 1) (y := .slice ao6 n6 c6) (Sf.set (t := 56) (c := w1.heap.size) (o := 0) (y := .bool b6) (Sf.refl 2 w4) (by first | (simp only [elemOf_setCell]; exact B4com.elem) | exact B4com.elem) (by decide)) (by first | (simp only [elemOf_setCell]; exact B4com.elem) | exact B4com.elem) (by decide))
  refine (divide_any p (qcom p q r) m _ _ _ (hp.soft sf4) (hc'.soft sf4) (by omega) fp HC.out).mono ?_
  rintro e w5 ⟨u5, v5, rfl, hp', hx5, hk5⟩
  obtain ⟨b7, ao7, n7, c7, rfl⟩ := hp'.shape'
  obtain ⟨b20, ao20, n20, c20, rfl⟩ := hx5.shape'
  clear hx5
  have kq4 := kp4.trans' hk5
  have sq4 := sf4.trans (Sf.keep hk5)
  have B5p1 : Blk w5 (w.heap.size) #[.bool b1, .slice ao1 n1 c1] 56 := Blk.keep hk5 (Blk.other (Blk.other B4p1 (by omega)) (by omega))
  have B5p2 : Blk w5 (w.heap.size + 1) #[.bool b2, .slice ao2 n2 c2] 56 := Blk.keep hk5 (Blk.other (Blk.other B4p2 (by omega)) (by omega))
  have B5p3 : Blk w5 (w.heap.size + 1 + 1) #[.bool b3, .slice ao3 n3 c3] 56 := Blk.keep hk5 (Blk.other (Blk.other B4p3 (by omega)) (by omega))
  have B5res : Blk w5 (w.heap.size + 1 + 1 + 1) #[.bool false, .slice none 0 0, .bool false, .slice none 0 0, .bool false, .slice none 0 0, .int .i64 0] 58 := Blk.keep hk5 (Blk.other (Blk.other B4res (by omega)) (by omega))
  have B5com : Blk w5 (w1.heap.size) #[.bool b6, .slice ao6 n6 c6] 56 := Blk.keep hk5 (Blk.set (Blk.set B4com))
  have B5p1c := B5p1.cell
  have B5p1f := B5p1.frozen
  have B5p1l := B5p1.lt
  have ge5p1 : w.heap.size ≤ w.heap.size := by (first | omega | (have := kp4.size; simp only [World.size_alloc, size_setCell', size_drew'] at this; omega))
  have B5p2c := B5p2.cell
  have B5p2f := B5p2.frozen
  have B5p2l := B5p2.lt
  have ge5p2 : w.heap.size ≤ w.heap.size + 1 := by (first | omega | (have := kp4.size; simp only [World.size_alloc, size_setCell', size_drew'] at this; omega))
  have B5p3c := B5p3.cell
  have B5p3f := B5p3.frozen
  have B5p3l := B5p3.lt
  have ge5p3 : w.heap.size ≤ w.heap.size + 1 + 1 := by (first | omega | (have := kp4.size; simp only [World.size_alloc, size_setCell', size_drew'] at this; omega))
  have B5resc := B5res.cell
  have B5resf := B5res.frozen
  have B5resl := B5res.lt
  have ge5res : w.heap.size ≤ w.heap.size + 1 + 1 + 1 := by (first | omega | (have := kp4.size; simp only [World.size_alloc, size_setCell', size_drew'] at this; omega))
  have B5comc := B5com.cell
  have B5comf := B5com.frozen
  have B5coml := B5com.lt
  have ge5com : w.heap.size ≤ w1.heap.size := by (first | omega | (have := kp4.size; simp only [World.size_alloc, size_setCell', size_drew'] at this; omega))
  replace hq := hq.soft sq4
  replace hr := hr.soft sq4
  replace hc' := hc'.soft sq4
  clear B4p1 B4p1c B4p1f B4p2 B4p2c B4p2f B4p3 B4p3c B4p3f B4res B4resc B4resf B4com B4comc B4comf
  go_wp2_with fail
  have kp5 : Kp w _ := (Below.setCell (Below.setCell kq4 (p := ⟨w.heap.size, 0, none⟩) (by have := ge5p1; omega) (.bool b7)) (p := ⟨w.heap.size, 1, none⟩) (by have := ge5p1; omega) (.slice ao7 n7 c7))
  have sf5 : Sf 2 w5 _ := (Sf.set (t := 56) (c := w.heap.size) (o := 1) (y := .slice ao7 n7 c7) (Sf.set (t := 56) (c := w.heap.size) (o := 0) (y := .bool b7) (Sf.refl 2 w5) (by first | (simp only [elemOf_setCell]; exact B5p1.elem) | exact B5p1.elem) (by decide)) (by first | (simp only [elemOf_setCell]; exact B5p1.elem) | exact B5p1.elem) (by decide))
  refine (divide_any q (qcom p q r) m _ _ _ (hq.soft sf5) (hc'.soft sf5) (by omega) fq HC.out).mono ?_
  rintro e w6 ⟨u6, v6, rfl, hq', hx6, hk6⟩
  obtain ⟨b8, ao8, n8, c8, rfl⟩ := hq'.shape'
  obtain ⟨b21, ao21, n21, c21, rfl⟩ := hx6.shape'
  clear hx6
  have kq5 := kp5.trans' hk6
  have sq5 := sf5.trans (Sf.keep hk6)
  have B6p1 : Blk w6 (w.heap.size) #[.bool b7, .slice ao7 n7 c7] 56 := Blk.keep hk6 (Blk.set (Blk.set B5p1))
  have B6p2 : Blk w6 (w.heap.size + 1) #[.bool b2, .slice ao2 n2 c2] 56 := Blk.keep hk6 (Blk.other (Blk.other B5p2 (by omega)) (by omega))
  have B6p3 : Blk w6 (w.heap.size + 1 + 1) #[.bool b3, .slice ao3 n3 c3] 56 := Blk.keep hk6 (Blk.other (Blk.other B5p3 (by omega)) (by omega))
  have B6res : Blk w6 (w.heap.size + 1 + 1 + 1) #[.bool false, .slice none 0 0, .bool false, .slice none 0 0, .bool false, .slice none 0 0, .int .i64 0] 58 := Blk.keep hk6 (Blk.other (Blk.other B5res (by omega)) (by omega))
  have B6com : Blk w6 (w1.heap.size) #[.bool b6, .slice ao6 n6 c6] 56 := Blk.keep hk6 (Blk.other (Blk.other B5com (by omega)) (by omega))
  have B6p1c := B6p1.cell
  have B6p1f := B6p1.frozen
  have B6p1l := B6p1.lt
  have ge6p1 : w.heap.size ≤ w.heap.size := by (first | omega | (have := kp5.size; simp only [World.size_alloc, size_setCell', size_drew'] at this; omega))
  have B6p2c := B6p2.cell
  have B6p2f := B6p2.frozen
  have B6p2l := B6p2.lt
  have ge6p2 : w.heap.size ≤ w.heap.size + 1 := by (first | omega | (have := kp5.size; simp only [World.size_alloc, size_setCell', size_drew'] at this; omega))
  have B6p3c := B6p3.cell
  have B6p3f := B6p3.frozen
  have B6p3l := B6p3.lt
  have ge6p3 : w.heap.size ≤ w.heap.size + 1 + 1 := by (first | omega | (have := kp5.size; simp only [World.size_alloc, size_setCell', size_drew'] at this; omega))
  have B6resc := B6res.cell
  have B6resf := B6res.frozen
  have B6resl := B6res.lt
  have ge6res : w.heap.size ≤ w.heap.size + 1 + 1 + 1 := by (first | omega | (have := kp5.size; simp only [World.size_alloc, size_setCell', size_drew'] at this; omega))
  have B6comc := B6com.cell
  have B6comf := B6com.frozen
  have B6coml := B6com.lt
  have ge6com : w.heap.size ≤ w1.heap.size := by (first | omega | (have := kp5.size; simp only [World.size_alloc, size_setCell', size_drew'] at this; omega))
  replace hr := hr.soft sq5
  replace hc' := hc'.soft sq5
  replace hp' := hp'.soft sq5
  clear B5p1 B5p1c B5p1f B5p2 B5p2c B5p2f B5p3 B5p3c B5p3f B5res B5resc B5resf B5com B5comc B5comf
  go_wp2_with fail
  have kp6 : Kp w _ := (Below.setCell (Below.setCell kq5 (p := ⟨w.heap.size + 1, 0, none⟩) (by have := ge6p2; omega) (.bool b8)) (p := ⟨w.heap.size + 1, 1, none⟩) (by have := ge6p2; omega) (.slice ao8 n8 c8))
  have sf6 : Sf 2 w6 _ := (Sf.set (t := 56) (c := w.heap.size + 1) (o := 1) (y := .slice ao8 n8 c8) (Sf.set (t := 56) (c := w.heap.size + 1) (o := 0) (y := .bool b8) (Sf.refl 2 w6) (by first | (simp only [elemOf_setCell]; exact B6p2.elem) | exact B6p2.elem) (by decide)) (by first | (simp only [elemOf_setCell]; exact B6p2.elem) | exact B6p2.elem) (by decide))
  refine (divide_any r (qcom p q r) m _ _ _ (hr.soft sf6) (hc'.soft sf6) (by omega) fr HC.out).mono ?_
  rintro e w7 ⟨u7, v7, rfl, hr', hx7, hk7⟩
  obtain ⟨b9, ao9, n9, c9, rfl⟩ := hr'.shape'
  obtain ⟨b22, ao22, n22, c22, rfl⟩ := hx7.shape'
  clear hx7
  have kq6 := kp6.trans' hk7
  have sq6 := sf6.trans (Sf.keep hk7)
  have B7p1 : Blk w7 (w.heap.size) #[.bool b7, .slice ao7 n7 c7] 56 := Blk.keep hk7 (Blk.other (Blk.other B6p1 (by omega)) (by omega))
  have B7p2 : Blk w7 (w.heap.size + 1) #[.bool b8, .slice ao8 n8 c8] 56 := Blk.keep hk7 (Blk.set (Blk.set B6p2))
  have B7p3 : Blk w7 (w.heap.size + 1 + 1) #[.bool b3, .slice ao3 n3 c3] 56 := Blk.keep hk7 (Blk.other (Blk.other B6p3 (by omega)) (by omega))
  have B7res : Blk w7 (w.heap.size + 1 + 1 + 1) #[.bool false, .slice none 0 0, .bool false, .slice none 0 0, .bool false, .slice none 0 0, .int .i64 0] 58 := Blk.keep hk7 (Blk.other (Blk.other B6res (by omega)) (by omega))
  have B7p1c := B7p1.cell
  have B7p1f := B7p1.frozen
  have B7p1l := B7p1.lt
  have ge7p1 : w.heap.size ≤ w.heap.size := by (first | omega | (have := kp6.size; simp only [World.size_alloc, size_setCell', size_drew'] at this; omega))
  have B7p2c := B7p2.cell
  have B7p2f := B7p2.frozen
  have B7p2l := B7p2.lt
  have ge7p2 : w.heap.size ≤ w.heap.size + 1 := by (first | omega | (have := kp6.size; simp only [World.size_alloc, size_setCell', size_drew'] at this; omega))
  have B7p3c := B7p3.cell
  have B7p3f := B7p3.frozen
  have B7p3l := B7p3.lt
  have ge7p3 : w.heap.size ≤ w.heap.size + 1 + 1 := by (first | omega | (have := kp6.size; simp only [World.size_alloc, size_setCell', size_drew'] at this; omega))
  have B7resc := B7res.cell
  have B7resf := B7res.frozen
  have B7resl := B7res.lt
  have ge7res : w.heap.size ≤ w.heap.size + 1 + 1 + 1 := by (first | omega | (have := kp6.size; simp only [World.size_alloc, size_setCell', size_drew'] at this; omega))
  replace hp' := hp'.soft sq6
  replace hq' := hq'.soft sq6
  clear B6p1 B6p1c B6p1f B6p2 B6p2c B6p2f B6p3 B6p3c B6p3f B6res B6resc B6resf B6com B6comc B6comf
  go_wp2_with fail
  have kp7 : Kp w _ := (Below.setCell (Below.setCell kq6 (p := ⟨w.heap.size + 1 + 1, 0, none⟩) (by have := ge7p3; omega) (.bool b9)) (p := ⟨w.heap.size + 1 + 1, 1, none⟩) (by have := ge7p3; omega) (.slice ao9 n9 c9))
  have sf7 : Sf 2 w7 _ := (Sf.set (t := 56) (c := w.heap.size + 1 + 1) (o := 1) (y := .slice ao9 n9 c9) (Sf.set (t := 56) (c := w.heap.size + 1 + 1) (o := 0) (y := .bool b9) (Sf.refl 2 w7) (by first | (simp only [elemOf_setCell]; exact B7p3.elem) | exact B7p3.elem) (by decide)) (by first | (simp only [elemOf_setCell]; exact B7p3.elem) | exact B7p3.elem) (by decide))
  refine (sign_any (q.tdiv (qcom p q r)) _ _ (hq'.soft sf7)).mono ?_
  rintro e w8 ⟨rfl, hk8⟩
  rw [HQ.out, Int.sign_zero]
  have kq7 := kp7.trans' hk8
  have sq7 := sf7.trans (Sf.keep hk8)
  have B8p1 : Blk w8 (w.heap.size) #[.bool b7, .slice ao7 n7 c7] 56 := Blk.keep hk8 (Blk.other (Blk.other B7p1 (by omega)) (by omega))
  have B8p2 : Blk w8 (w.heap.size + 1) #[.bool b8, .slice ao8 n8 c8] 56 := Blk.keep hk8 (Blk.other (Blk.other B7p2 (by omega)) (by omega))
  have B8p3 : Blk w8 (w.heap.size + 1 + 1) #[.bool b9, .slice ao9 n9 c9] 56 := Blk.keep hk8 (Blk.set (Blk.set B7p3))
  have B8res : Blk w8 (w.heap.size + 1 + 1 + 1) #[.bool false, .slice none 0 0, .bool false, .slice none 0 0, .bool false, .slice none 0 0, .int .i64 0] 58 := Blk.keep hk8 (Blk.other (Blk.other B7res (by omega)) (by omega))
  have B8p1c := B8p1.cell
  have B8p1f := B8p1.frozen
  have B8p1l := B8p1.lt
  have ge8p1 : w.heap.size ≤ w.heap.size := by (first | omega | (have := kp7.size; simp only [World.size_alloc, size_setCell', size_drew'] at this; omega))
  have B8p2c := B8p2.cell
  have B8p2f := B8p2.frozen
  have B8p2l := B8p2.lt
  have ge8p2 : w.heap.size ≤ w.heap.size + 1 := by (first | omega | (have := kp7.size; simp only [World.size_alloc, size_setCell', size_drew'] at this; omega))
  have B8p3c := B8p3.cell
  have B8p3f := B8p3.frozen
  have B8p3l := B8p3.lt
  have ge8p3 : w.heap.size ≤ w.heap.size + 1 + 1 := by (first | omega | (have := kp7.size; simp only [World.size_alloc, size_setCell', size_drew'] at this; omega))
  have B8resc := B8res.cell
  have B8resf := B8res.frozen
  have B8resl := B8res.lt
  have ge8res : w.heap.size ≤ w.heap.size + 1 + 1 + 1 := by (first | omega | (have := kp7.size; simp only [World.size_alloc, size_setCell', size_drew'] at this; omega))
  replace hp' := hp'.soft sq7
  replace hq' := hq'.soft sq7
  replace hr' := hr'.soft sq7
  clear B7p1 B7p1c B7p1f B7p2 B7p2c B7p2f B7p3 B7p3c B7p3f B7res B7resc B7resf
  go_wp2_with fail
  refine bodyPost_ret (v := .agg #[.bool b7, .slice ao7 n7 c7, .bool b8, .slice ao8 n8 c8, .bool b9, .slice ao9 n9 c9, .int .i64 1]) (by simp [results, Tryd.results108, go_sem, B8resc]) rfl ?_
  have kpE : Kp w _ := (Below.setCell (Below.setCell (Below.setCell (Below.setCell (Below.setCell (Below.setCell (Below.setCell kq7 (p := ⟨w.heap.size + 1 + 1 + 1, 0, none⟩) (by have := ge8res; omega) (.bool b7)) (p := ⟨w.heap.size + 1 + 1 + 1, 1, none⟩) (by have := ge8res; omega) (.slice ao7 n7 c7)) (p := ⟨w.heap.size + 1 + 1 + 1, 2, none⟩) (by have := ge8res; omega) (.bool b8)) (p := ⟨w.heap.size + 1 + 1 + 1, 3, none⟩) (by have := ge8res; omega) (.slice ao8 n8 c8)) (p := ⟨w.heap.size + 1 + 1 + 1, 4, none⟩) (by have := ge8res; omega) (.bool b9)) (p := ⟨w.heap.size + 1 + 1 + 1, 5, none⟩) (by have := ge8res; omega) (.slice ao9 n9 c9)) (p := ⟨w.heap.size + 1 + 1 + 1, 6, none⟩) (by have := ge8res; omega) (.int .i64 1))
  have sfE : Sf 2 w8 _ := (Sf.set (t := 58) (c := w.heap.size + 1 + 1 + 1) (o := 6) (y := .int .i64 1) (Sf.set (t := 58) (c := w.heap.size + 1 + 1 + 1) (o := 5) (y := .slice ao9 n9 c9) (Sf.set (t := 58) (c := w.heap.size + 1 + 1 + 1) (o := 4) (y := .bool b9) (Sf.set (t := 58) (c := w.heap.size + 1 + 1 + 1) (o := 3) (y := .slice ao8 n8 c8) (Sf.set (t := 58) (c := w.heap.size + 1 + 1 + 1) (o := 2) (y := .bool b8) (Sf.set (t := 58) (c := w.heap.size + 1 + 1 + 1) (o := 1) (y := .slice ao7 n7 c7) (Sf.set (t := 58) (c := w.heap.size + 1 + 1 + 1) (o := 0) (y := .bool b7) (Sf.refl 2 w8) (by first | (simp only [elemOf_setCell]; exact B8res.elem) | exact B8res.elem) (by decide)) (by first | (simp only [elemOf_setCell]; exact B8res.elem) | exact B8res.elem) (by decide)) (by first | (simp only [elemOf_setCell]; exact B8res.elem) | exact B8res.elem) (by decide)) (by first | (simp only [elemOf_setCell]; exact B8res.elem) | exact B8res.elem) (by decide)) (by first | (simp only [elemOf_setCell]; exact B8res.elem) | exact B8res.elem) (by decide)) (by first | (simp only [elemOf_setCell]; exact B8res.elem) | exact B8res.elem) (by decide)) (by first | (simp only [elemOf_setCell]; exact B8res.elem) | exact B8res.elem) (by decide))
  exact ⟨_, rfl, (XN.mk3 (a := qreduce p q r d) hp' hq' hr' (by unfold qreduce; simp [HQ.out])).soft sfE, kpE⟩

set_option maxHeartbeats 3200000 in
theorem reduce_ns (p q r d : Int) (m : Nat) (u v t : Value) (w : World) (hp : WN w u p) (hq : WN w v q) (hr : WN w t r) (hm : m ≤ 150000000) (fp : Ft m p) (fq : Ft m q) (fr : Ft m r) (h1 : r < 0) (h2 : q.tdiv (qcom p q r) ≠ 0) :
    Calls Tryd.prog 108 #[u, v, t, .int .i64 d] w (RetX w (qreduce p q r d)) := by
  obtain ⟨b1, ao1, n1, c1, rfl⟩ := hp.shape'
  obtain ⟨b2, ao2, n2, c2, rfl⟩ := hq.shape'
  obtain ⟨b3, ao3, n3, c3, rfl⟩ := hr.shape'
  have HC := Hid.mk (fp.com fq fr)
  have HG : Hid (qcom p q r = -(Int.gcd (Int.gcd r p) q : Int)) := by unfold Hid qcom; rw [if_pos h1]
  have HS : Hid (r.sign = -1) := by unfold Hid; rw [Int.sign_eq_neg_one_of_neg h1]
  have HQ := Hid.mk h2
  clear h1 h2
  go_enter Tryd.func108, Tryd.ntmps108
  go_wp2_with fail
  have kp0 : Kp w _ := (Kp.alloc' (Kp.alloc' (Kp.alloc' (Kp.alloc' (Below.refl w.heap.size w) (.cells #[.bool b1, .slice ao1 n1 c1] 56)) (.cells #[.bool b2, .slice ao2 n2 c2] 56)) (.cells #[.bool b3, .slice ao3 n3 c3] 56)) (.cells #[.bool false, .slice none 0 0, .bool false, .slice none 0 0, .bool false, .slice none 0 0, .int .i64 0] 58))
  have sf0 : Sf 2 w _ := (Sf.alloc (Sf.alloc (Sf.alloc (Sf.alloc (Sf.refl 2 w) (.cells #[.bool b1, .slice ao1 n1 c1] 56)) (.cells #[.bool b2, .slice ao2 n2 c2] 56)) (.cells #[.bool b3, .slice ao3 n3 c3] 56)) (.cells #[.bool false, .slice none 0 0, .bool false, .slice none 0 0, .bool false, .slice none 0 0, .int .i64 0] 58))
  refine (divisor_any r p m _ _ _ (hr.soft sf0) (hp.soft sf0) (by omega) fr fp).mono ?_
  rintro e w1 ⟨v1, rfl, hg, hk1⟩
  obtain ⟨b4, ao4, n4, c4, rfl⟩ := hg.shape'
  have kq0 := kp0.trans' hk1
  have sq0 := sf0.trans (Sf.keep hk1)
  have B1p1 : Blk w1 (w.heap.size) #[.bool b1, .slice ao1 n1 c1] 56 := Blk.keep hk1 (Blk.at (Blk.alloc (Blk.alloc (Blk.alloc (Blk.new _ _ _) _) _) _) (by simp))
  have B1p2 : Blk w1 (w.heap.size + 1) #[.bool b2, .slice ao2 n2 c2] 56 := Blk.keep hk1 (Blk.at (Blk.alloc (Blk.alloc (Blk.new _ _ _) _) _) (by simp))
  have B1p3 : Blk w1 (w.heap.size + 1 + 1) #[.bool b3, .slice ao3 n3 c3] 56 := Blk.keep hk1 (Blk.at (Blk.alloc (Blk.new _ _ _) _) (by simp))
  have B1res : Blk w1 (w.heap.size + 1 + 1 + 1) #[.bool false, .slice none 0 0, .bool false, .slice none 0 0, .bool false, .slice none 0 0, .int .i64 0] 58 := Blk.keep hk1 (Blk.at (Blk.new _ _ _) (by simp))
  have B1p1c := B1p1.cell
  have B1p1f := B1p1.frozen
  have B1p1l := B1p1.lt
  have ge1p1 : w.heap.size ≤ w.heap.size := by (first | omega | (have := kp0.size; simp only [World.size_alloc, size_setCell', size_drew'] at this; omega))
  have B1p2c := B1p2.cell
  have B1p2f := B1p2.frozen
  have B1p2l := B1p2.lt
  have ge1p2 : w.heap.size ≤ w.heap.size + 1 := by (first | omega | (have := kp0.size; simp only [World.size_alloc, size_setCell', size_drew'] at this; omega))
  have B1p3c := B1p3.cell
  have B1p3f := B1p3.frozen
  have B1p3l := B1p3.lt
  have ge1p3 : w.heap.size ≤ w.heap.size + 1 + 1 := by (first | omega | (have := kp0.size; simp only [World.size_alloc, size_setCell', size_drew'] at this; omega))
  have B1resc := B1res.cell
  have B1resf := B1res.frozen
  have B1resl := B1res.lt
  have ge1res : w.heap.size ≤ w.heap.size + 1 + 1 + 1 := by (first | omega | (have := kp0.size; simp only [World.size_alloc, size_setCell', size_drew'] at this; omega))
  replace hp := hp.soft sq0
  replace hq := hq.soft sq0
  replace hr := hr.soft sq0
  go_wp2_with fail
  have kp1 : Kp w _ := (Kp.alloc' kq0 (.cells #[.bool b4, .slice ao4 n4 c4] 56))
  have sf1 : Sf 2 w1 _ := (Sf.alloc (Sf.refl 2 w1) (.cells #[.bool b4, .slice ao4 n4 c4] 56))
  refine (divisor_any (Int.gcd r p) q m _ _ _ (hg.soft sf1) (hq.soft sf1) (by omega) (fr.gcd fp) fq).mono ?_
  rintro e w2 ⟨v2, rfl, hc, hk2⟩
  obtain ⟨b5, ao5, n5, c5, rfl⟩ := hc.shape'
  have kq1 := kp1.trans' hk2
  have sq1 := sf1.trans (Sf.keep hk2)
  have B2p1 : Blk w2 (w.heap.size) #[.bool b1, .slice ao1 n1 c1] 56 := Blk.keep hk2 (Blk.alloc B1p1 _)
  have B2p2 : Blk w2 (w.heap.size + 1) #[.bool b2, .slice ao2 n2 c2] 56 := Blk.keep hk2 (Blk.alloc B1p2 _)
  have B2p3 : Blk w2 (w.heap.size + 1 + 1) #[.bool b3, .slice ao3 n3 c3] 56 := Blk.keep hk2 (Blk.alloc B1p3 _)
  have B2res : Blk w2 (w.heap.size + 1 + 1 + 1) #[.bool false, .slice none 0 0, .bool false, .slice none 0 0, .bool false, .slice none 0 0, .int .i64 0] 58 := Blk.keep hk2 (Blk.alloc B1res _)
  have B2com : Blk w2 (w1.heap.size) #[.bool b4, .slice ao4 n4 c4] 56 := Blk.keep hk2 (Blk.at (Blk.new _ _ _) (by simp))
  have B2p1c := B2p1.cell
  have B2p1f := B2p1.frozen
  have B2p1l := B2p1.lt
  have ge2p1 : w.heap.size ≤ w.heap.size := by (first | omega | (have := kp1.size; simp only [World.size_alloc, size_setCell', size_drew'] at this; omega))
  have B2p2c := B2p2.cell
  have B2p2f := B2p2.frozen
  have B2p2l := B2p2.lt
  have ge2p2 : w.heap.size ≤ w.heap.size + 1 := by (first | omega | (have := kp1.size; simp only [World.size_alloc, size_setCell', size_drew'] at this; omega))
  have B2p3c := B2p3.cell
  have B2p3f := B2p3.frozen
  have B2p3l := B2p3.lt
  have ge2p3 : w.heap.size ≤ w.heap.size + 1 + 1 := by (first | omega | (have := kp1.size; simp only [World.size_alloc, size_setCell', size_drew'] at this; omega))
  have B2resc := B2res.cell
  have B2resf := B2res.frozen
  have B2resl := B2res.lt
  have ge2res : w.heap.size ≤ w.heap.size + 1 + 1 + 1 := by (first | omega | (have := kp1.size; simp only [World.size_alloc, size_setCell', size_drew'] at this; omega))
  have B2comc := B2com.cell
  have B2comf := B2com.frozen
  have B2coml := B2com.lt
  have ge2com : w.heap.size ≤ w1.heap.size := by (first | omega | (have := kp1.size; simp only [World.size_alloc, size_setCell', size_drew'] at this; omega))
  replace hp := hp.soft sq1
  replace hq := hq.soft sq1
  replace hr := hr.soft sq1
  clear B1p1 B1p1c B1p1f B1p2 B1p2c B1p2f B1p3 B1p3c B1p3f B1res B1resc B1resf
  go_wp2_with fail
  have kp2 : Kp w _ := (Below.setCell (Below.setCell kq1 (p := ⟨w1.heap.size, 0, none⟩) (by have := ge2com; omega) (.bool b5)) (p := ⟨w1.heap.size, 1, none⟩) (by have := ge2com; omega) (.slice ao5 n5 c5))
  have sf2 : Sf 2 w2 _ := (Sf.set (t := 56) (c := w1.heap.size) (o := 1) (y := .slice ao5 n5 c5) (Sf.set (t := 56) (c := w1.heap.size) (o := 0) (y := .bool b5) (Sf.refl 2 w2) (by first | (simp only [elemOf_setCell]; exact B2com.elem) | exact B2com.elem) (by decide)) (by first | (simp only [elemOf_setCell]; exact B2com.elem) | exact B2com.elem) (by decide))
  refine (sign_any r _ _ (hr.soft sf2)).mono ?_
  rintro e w3 ⟨rfl, hk3⟩
  rw [HS.out]
  have kq2 := kp2.trans' hk3
  have sq2 := sf2.trans (Sf.keep hk3)
  have B3p1 : Blk w3 (w.heap.size) #[.bool b1, .slice ao1 n1 c1] 56 := Blk.keep hk3 (Blk.other (Blk.other B2p1 (by omega)) (by omega))
  have B3p2 : Blk w3 (w.heap.size + 1) #[.bool b2, .slice ao2 n2 c2] 56 := Blk.keep hk3 (Blk.other (Blk.other B2p2 (by omega)) (by omega))
  have B3p3 : Blk w3 (w.heap.size + 1 + 1) #[.bool b3, .slice ao3 n3 c3] 56 := Blk.keep hk3 (Blk.other (Blk.other B2p3 (by omega)) (by omega))
  have B3res : Blk w3 (w.heap.size + 1 + 1 + 1) #[.bool false, .slice none 0 0, .bool false, .slice none 0 0, .bool false, .slice none 0 0, .int .i64 0] 58 := Blk.keep hk3 (Blk.other (Blk.other B2res (by omega)) (by omega))
  have B3com : Blk w3 (w1.heap.size) #[.bool b5, .slice ao5 n5 c5] 56 := Blk.keep hk3 (Blk.set (Blk.set B2com))
  have B3p1c := B3p1.cell
  have B3p1f := B3p1.frozen
  have B3p1l := B3p1.lt
  have ge3p1 : w.heap.size ≤ w.heap.size := by (first | omega | (have := kp2.size; simp only [World.size_alloc, size_setCell', size_drew'] at this; omega))
  have B3p2c := B3p2.cell
  have B3p2f := B3p2.frozen
  have B3p2l := B3p2.lt
  have ge3p2 : w.heap.size ≤ w.heap.size + 1 := by (first | omega | (have := kp2.size; simp only [World.size_alloc, size_setCell', size_drew'] at this; omega))
  have B3p3c := B3p3.cell
  have B3p3f := B3p3.frozen
  have B3p3l := B3p3.lt
  have ge3p3 : w.heap.size ≤ w.heap.size + 1 + 1 := by (first | omega | (have := kp2.size; simp only [World.size_alloc, size_setCell', size_drew'] at this; omega))
  have B3resc := B3res.cell
  have B3resf := B3res.frozen
  have B3resl := B3res.lt
  have ge3res : w.heap.size ≤ w.heap.size + 1 + 1 + 1 := by (first | omega | (have := kp2.size; simp only [World.size_alloc, size_setCell', size_drew'] at this; omega))
  have B3comc := B3com.cell
  have B3comf := B3com.frozen
  have B3coml := B3com.lt
  have ge3com : w.heap.size ≤ w1.heap.size := by (first | omega | (have := kp2.size; simp only [World.size_alloc, size_setCell', size_drew'] at this; omega))
  replace hp := hp.soft sq2
  replace hq := hq.soft sq2
  replace hr := hr.soft sq2
  replace hc := hc.soft sq2
  clear B2p1 B2p1c B2p1f B2p2 B2p2c B2p2f B2p3 B2p3c B2p3f B2res B2resc B2resf B2com B2comc B2comf
  go_wp2_with fail
  have kp3 : Kp w _ := kq2
  have sf3 : Sf 2 w3 _ := (Sf.refl 2 w3)
  refine (negate_any _ _ _ (hc.soft sf3) (((fr.gcd fp).gcd fq).fit (by omega))).mono ?_
  rintro e w4 ⟨v4, rfl, hc', hk4⟩
  obtain ⟨b6, ao6, n6, c6, rfl⟩ := hc'.shape'
  rw [← HG.out] at hc'
  have kq3 := kp3.trans' hk4
  have sq3 := sf3.trans (Sf.keep hk4)
  have B4p1 : Blk w4 (w.heap.size) #[.bool b1, .slice ao1 n1 c1] 56 := Blk.keep hk4 B3p1
  have B4p2 : Blk w4 (w.heap.size + 1) #[.bool b2, .slice ao2 n2 c2] 56 := Blk.keep hk4 B3p2
  have B4p3 : Blk w4 (w.heap.size + 1 + 1) #[.bool b3, .slice ao3 n3 c3] 56 := Blk.keep hk4 B3p3
  have B4res : Blk w4 (w.heap.size + 1 + 1 + 1) #[.bool false, .slice none 0 0, .bool false, .slice none 0 0, .bool false, .slice none 0 0, .int .i64 0] 58 := Blk.keep hk4 B3res
  have B4com : Blk w4 (w1.heap.size) #[.bool b5, .slice ao5 n5 c5] 56 := Blk.keep hk4 B3com
  have B4p1c := B4p1.cell
  have B4p1f := B4p1.frozen
  have B4p1l := B4p1.lt
  have ge4p1 : w.heap.size ≤ w.heap.size := by (first | omega | (have := kp3.size; simp only [World.size_alloc, size_setCell', size_drew'] at this; omega))
  have B4p2c := B4p2.cell
  have B4p2f := B4p2.frozen
  have B4p2l := B4p2.lt
  have ge4p2 : w.heap.size ≤ w.heap.size + 1 := by (first | omega | (have := kp3.size; simp only [World.size_alloc, size_setCell', size_drew'] at this; omega))
  have B4p3c := B4p3.cell
  have B4p3f := B4p3.frozen
  have B4p3l := B4p3.lt
  have ge4p3 : w.heap.size ≤ w.heap.size + 1 + 1 := by (first | omega | (have := kp3.size; simp only [World.size_alloc, size_setCell', size_drew'] at this; omega))
  have B4resc := B4res.cell
  have B4resf := B4res.frozen
  have B4resl := B4res.lt
  have ge4res : w.heap.size ≤ w.heap.size + 1 + 1 + 1 := by (first | omega | (have := kp3.size; simp only [World.size_alloc, size_setCell', size_drew'] at this; omega))
  have B4comc := B4com.cell
  have B4comf := B4com.frozen
  have B4coml := B4com.lt
  have ge4com : w.heap.size ≤ w1.heap.size := by (first | omega | (have := kp3.size; simp only [World.size_alloc, size_setCell', size_drew'] at this; omega))
  replace hp := hp.soft sq3
  replace hq := hq.soft sq3
  replace hr := hr.soft sq3
  clear B3p1 B3p1c B3p1f B3p2 B3p2c B3p2f B3p3 B3p3c B3p3f B3res B3resc B3resf B3com B3comc B3comf
  go_wp2_with fail
  have kp4 : Kp w _ := (Below.setCell (Below.setCell kq3 (p := ⟨w1.heap.size, 0, none⟩) (by have := ge4com; omega) (.bool b6)) (p := ⟨w1.heap.size, 1, none⟩) (by have := ge4com; omega) (.slice ao6 n6 c6))
  have sf4 : Sf 2 w4 _ := (Sf.set (t := 56) (c := w1.heap.size) (o := 1) (y := .slice ao6 n6 c6) (Sf.set (t := 56) (c := w1.heap.size) (o := 0) (y := .bool b6) (Sf.refl 2 w4) (by first | (simp only [elemOf_setCell]; exact B4com.elem) | exact B4com.elem) (by decide)) (by first | (simp only [elemOf_setCell]; exact B4com.elem) | exact B4com.elem) (by decide))
  refine (divide_any p (qcom p q r) m _ _ _ (hp.soft sf4) (hc'.soft sf4) (by omega) fp HC.out).mono ?_
  rintro e w5 ⟨u5, v5, rfl, hp', hx5, hk5⟩
  obtain ⟨b7, ao7, n7, c7, rfl⟩ := hp'.shape'
  obtain ⟨b20, ao20, n20, c20, rfl⟩ := hx5.shape'
  clear hx5
  have kq4 := kp4.trans' hk5
  have sq4 := sf4.trans (Sf.keep hk5)
  have B5p1 : Blk w5 (w.heap.size) #[.bool b1, .slice ao1 n1 c1] 56 := Blk.keep hk5 (Blk.other (Blk.other B4p1 (by omega)) (by omega))
  have B5p2 : Blk w5 (w.heap.size + 1) #[.bool b2, .slice ao2 n2 c2] 56 := Blk.keep hk5 (Blk.other (Blk.other B4p2 (by omega)) (by omega))
  have B5p3 : Blk w5 (w.heap.size + 1 + 1) #[.bool b3, .slice ao3 n3 c3] 56 := Blk.keep hk5 (Blk.other (Blk.other B4p3 (by omega)) (by omega))
  have B5res : Blk w5 (w.heap.size + 1 + 1 + 1) #[.bool false, .slice none 0 0, .bool false, .slice none 0 0, .bool false, .slice none 0 0, .int .i64 0] 58 := Blk.keep hk5 (Blk.other (Blk.other B4res (by omega)) (by omega))
  have B5com : Blk w5 (w1.heap.size) #[.bool b6, .slice ao6 n6 c6] 56 := Blk.keep hk5 (Blk.set (Blk.set B4com))
  have B5p1c := B5p1.cell
  have B5p1f := B5p1.frozen
  have B5p1l := B5p1.lt
  have ge5p1 : w.heap.size ≤ w.heap.size := by (first | omega | (have := kp4.size; simp only [World.size_alloc, size_setCell', size_drew'] at this; omega))
  have B5p2c := B5p2.cell
  have B5p2f := B5p2.frozen
  have B5p2l := B5p2.lt
  have ge5p2 : w.heap.size ≤ w.heap.size + 1 := by (first | omega | (have := kp4.size; simp only [World.size_alloc, size_setCell', size_drew'] at this; omega))
  have B5p3c := B5p3.cell
  have B5p3f := B5p3.frozen
  have B5p3l := B5p3.lt
  have ge5p3 : w.heap.size ≤ w.heap.size + 1 + 1 := by (first | omega | (have := kp4.size; simp only [World.size_alloc, size_setCell', size_drew'] at this; omega))
  have B5resc := B5res.cell
  have B5resf := B5res.frozen
  have B5resl := B5res.lt
  have ge5res : w.heap.size ≤ w.heap.size + 1 + 1 + 1 := by (first | omega | (have := kp4.size; simp only [World.size_alloc, size_setCell', size_drew'] at this; omega))
  have B5comc := B5com.cell
  have B5comf := B5com.frozen
  have B5coml := B5com.lt
  have ge5com : w.heap.size ≤ w1.heap.size := by (first | omega | (have := kp4.size; simp only [World.size_alloc, size_setCell', size_drew'] at this; omega))
  replace hq := hq.soft sq4
  replace hr := hr.soft sq4
  replace hc' := hc'.soft sq4
  clear B4p1 B4p1c B4p1f B4p2 B4p2c B4p2f B4p3 B4p3c B4p3f B4res B4resc B4resf B4com B4comc B4comf
  go_wp2_with fail
  have kp5 : Kp w _ := (Below.setCell (Below.setCell kq4 (p := ⟨w.heap.size, 0, none⟩) (by have := ge5p1; omega) (.bool b7)) (p := ⟨w.heap.size, 1, none⟩) (by have := ge5p1; omega) (.slice ao7 n7 c7))
  have sf5 : Sf 2 w5 _ := (Sf.set (t := 56) (c := w.heap.size) (o := 1) (y := .slice ao7 n7 c7) (Sf.set (t := 56) (c := w.heap.size) (o := 0) (y := .bool b7) (Sf.refl 2 w5) (by first | (simp only [elemOf_setCell]; exact B5p1.elem) | exact B5p1.elem) (by decide)) (by first | (simp only [elemOf_setCell]; exact B5p1.elem) | exact B5p1.elem) (by decide))
  refine (divide_any q (qcom p q r) m _ _ _ (hq.soft sf5) (hc'.soft sf5) (by omega) fq HC.out).mono ?_
  rintro e w6 ⟨u6, v6, rfl, hq', hx6, hk6⟩
  obtain ⟨b8, ao8, n8, c8, rfl⟩ := hq'.shape'
  obtain ⟨b21, ao21, n21, c21, rfl⟩ := hx6.shape'
  clear hx6
  have kq5 := kp5.trans' hk6
  have sq5 := sf5.trans (Sf.keep hk6)
  have B6p1 : Blk w6 (w.heap.size) #[.bool b7, .slice ao7 n7 c7] 56 := Blk.keep hk6 (Blk.set (Blk.set B5p1))
  have B6p2 : Blk w6 (w.heap.size + 1) #[.bool b2, .slice ao2 n2 c2] 56 := Blk.keep hk6 (Blk.other (Blk.other B5p2 (by omega)) (by omega))
  have B6p3 : Blk w6 (w.heap.size + 1 + 1) #[.bool b3, .slice ao3 n3 c3] 56 := Blk.keep hk6 (Blk.other (Blk.other B5p3 (by omega)) (by omega))
  have B6res : Blk w6 (w.heap.size + 1 + 1 + 1) #[.bool false, .slice none 0 0, .bool false, .slice none 0 0, .bool false, .slice none 0 0, .int .i64 0] 58 := Blk.keep hk6 (Blk.other (Blk.other B5res (by omega)) (by omega))
  have B6com : Blk w6 (w1.heap.size) #[.bool b6, .slice ao6 n6 c6] 56 := Blk.keep hk6 (Blk.other (Blk.other B5com (by omega)) (by omega))
  have B6p1c := B6p1.cell
  have B6p1f := B6p1.frozen
  have B6p1l := B6p1.lt
  have ge6p1 : w.heap.size ≤ w.heap.size := by (first | omega | (have := kp5.size; simp only [World.size_alloc, size_setCell', size_drew'] at this; omega))
  have B6p2c := B6p2.cell
  have B6p2f := B6p2.frozen
  have B6p2l := B6p2.lt
  have ge6p2 : w.heap.size ≤ w.heap.size + 1 := by (first | omega | (have := kp5.size; simp only [World.size_alloc, size_setCell', size_drew'] at this; omega))
  have B6p3c := B6p3.cell
  have B6p3f := B6p3.frozen
  have B6p3l := B6p3.lt
  have ge6p3 : w.heap.size ≤ w.heap.size + 1 + 1 := by (first | omega | (have := kp5.size; simp only [World.size_alloc, size_setCell', size_drew'] at this; omega))
  have B6resc := B6res.cell
  have B6resf := B6res.frozen
  have B6resl := B6res.lt
  have ge6res : w.heap.size ≤ w.heap.size + 1 + 1 + 1 := by (first | omega | (have := kp5.size; simp only [World.size_alloc, size_setCell', size_drew'] at this; omega))
  have B6comc := B6com.cell
  have B6comf := B6com.frozen
  have B6coml := B6com.lt
  have ge6com : w.heap.size ≤ w1.heap.size := by (first | omega | (have := kp5.size; simp only [World.size_alloc, size_setCell', size_drew'] at this; omega))
  replace hr := hr.soft sq5
  replace hc' := hc'.soft sq5
  replace hp' := hp'.soft sq5
  clear B5p1 B5p1c B5p1f B5p2 B5p2c B5p2f B5p3 B5p3c B5p3f B5res B5resc B5resf B5com B5comc B5comf
  go_wp2_with fail
  have kp6 : Kp w _ := (Below.setCell (Below.setCell kq5 (p := ⟨w.heap.size + 1, 0, none⟩) (by have := ge6p2; omega) (.bool b8)) (p := ⟨w.heap.size + 1, 1, none⟩) (by have := ge6p2; omega) (.slice ao8 n8 c8))
  have sf6 : Sf 2 w6 _ := (Sf.set (t := 56) (c := w.heap.size + 1) (o := 1) (y := .slice ao8 n8 c8) (Sf.set (t := 56) (c := w.heap.size + 1) (o := 0) (y := .bool b8) (Sf.refl 2 w6) (by first | (simp only [elemOf_setCell]; exact B6p2.elem) | exact B6p2.elem) (by decide)) (by first | (simp only [elemOf_setCell]; exact B6p2.elem) | exact B6p2.elem) (by decide))
  refine (divide_any r (qcom p q r) m _ _ _ (hr.soft sf6) (hc'.soft sf6) (by omega) fr HC.out).mono ?_
  rintro e w7 ⟨u7, v7, rfl, hr', hx7, hk7⟩
  obtain ⟨b9, ao9, n9, c9, rfl⟩ := hr'.shape'
  obtain ⟨b22, ao22, n22, c22, rfl⟩ := hx7.shape'
  clear hx7
  have kq6 := kp6.trans' hk7
  have sq6 := sf6.trans (Sf.keep hk7)
  have B7p1 : Blk w7 (w.heap.size) #[.bool b7, .slice ao7 n7 c7] 56 := Blk.keep hk7 (Blk.other (Blk.other B6p1 (by omega)) (by omega))
  have B7p2 : Blk w7 (w.heap.size + 1) #[.bool b8, .slice ao8 n8 c8] 56 := Blk.keep hk7 (Blk.set (Blk.set B6p2))
  have B7p3 : Blk w7 (w.heap.size + 1 + 1) #[.bool b3, .slice ao3 n3 c3] 56 := Blk.keep hk7 (Blk.other (Blk.other B6p3 (by omega)) (by omega))
  have B7res : Blk w7 (w.heap.size + 1 + 1 + 1) #[.bool false, .slice none 0 0, .bool false, .slice none 0 0, .bool false, .slice none 0 0, .int .i64 0] 58 := Blk.keep hk7 (Blk.other (Blk.other B6res (by omega)) (by omega))
  have B7p1c := B7p1.cell
  have B7p1f := B7p1.frozen
  have B7p1l := B7p1.lt
  have ge7p1 : w.heap.size ≤ w.heap.size := by (first | omega | (have := kp6.size; simp only [World.size_alloc, size_setCell', size_drew'] at this; omega))
  have B7p2c := B7p2.cell
  have B7p2f := B7p2.frozen
  have B7p2l := B7p2.lt
  have ge7p2 : w.heap.size ≤ w.heap.size + 1 := by (first | omega | (have := kp6.size; simp only [World.size_alloc, size_setCell', size_drew'] at this; omega))
  have B7p3c := B7p3.cell
  have B7p3f := B7p3.frozen
  have B7p3l := B7p3.lt
  have ge7p3 : w.heap.size ≤ w.heap.size + 1 + 1 := by (first | omega | (have := kp6.size; simp only [World.size_alloc, size_setCell', size_drew'] at this; omega))
  have B7resc := B7res.cell
  have B7resf := B7res.frozen
  have B7resl := B7res.lt
  have ge7res : w.heap.size ≤ w.heap.size + 1 + 1 + 1 := by (first | omega | (have := kp6.size; simp only [World.size_alloc, size_setCell', size_drew'] at this; omega))
  replace hp' := hp'.soft sq6
  replace hq' := hq'.soft sq6
  clear B6p1 B6p1c B6p1f B6p2 B6p2c B6p2f B6p3 B6p3c B6p3f B6res B6resc B6resf B6com B6comc B6comf
  go_wp2_with fail
  have kp7 : Kp w _ := (Below.setCell (Below.setCell kq6 (p := ⟨w.heap.size + 1 + 1, 0, none⟩) (by have := ge7p3; omega) (.bool b9)) (p := ⟨w.heap.size + 1 + 1, 1, none⟩) (by have := ge7p3; omega) (.slice ao9 n9 c9))
  have sf7 : Sf 2 w7 _ := (Sf.set (t := 56) (c := w.heap.size + 1 + 1) (o := 1) (y := .slice ao9 n9 c9) (Sf.set (t := 56) (c := w.heap.size + 1 + 1) (o := 0) (y := .bool b9) (Sf.refl 2 w7) (by first | (simp only [elemOf_setCell]; exact B7p3.elem) | exact B7p3.elem) (by decide)) (by first | (simp only [elemOf_setCell]; exact B7p3.elem) | exact B7p3.elem) (by decide))
  refine (sign_any (q.tdiv (qcom p q r)) _ _ (hq'.soft sf7)).mono ?_
  rintro e w8 ⟨rfl, hk8⟩
  have hsn : ((q.tdiv (qcom p q r)).sign == 0) = false := by simp; exact HQ.out
  generalize (q.tdiv (qcom p q r)).sign = sg2 at *
  have kq7 := kp7.trans' hk8
  have sq7 := sf7.trans (Sf.keep hk8)
  have B8p1 : Blk w8 (w.heap.size) #[.bool b7, .slice ao7 n7 c7] 56 := Blk.keep hk8 (Blk.other (Blk.other B7p1 (by omega)) (by omega))
  have B8p2 : Blk w8 (w.heap.size + 1) #[.bool b8, .slice ao8 n8 c8] 56 := Blk.keep hk8 (Blk.other (Blk.other B7p2 (by omega)) (by omega))
  have B8p3 : Blk w8 (w.heap.size + 1 + 1) #[.bool b9, .slice ao9 n9 c9] 56 := Blk.keep hk8 (Blk.set (Blk.set B7p3))
  have B8res : Blk w8 (w.heap.size + 1 + 1 + 1) #[.bool false, .slice none 0 0, .bool false, .slice none 0 0, .bool false, .slice none 0 0, .int .i64 0] 58 := Blk.keep hk8 (Blk.other (Blk.other B7res (by omega)) (by omega))
  have B8p1c := B8p1.cell
  have B8p1f := B8p1.frozen
  have B8p1l := B8p1.lt
  have ge8p1 : w.heap.size ≤ w.heap.size := by (first | omega | (have := kp7.size; simp only [World.size_alloc, size_setCell', size_drew'] at this; omega))
  have B8p2c := B8p2.cell
  have B8p2f := B8p2.frozen
  have B8p2l := B8p2.lt
  have ge8p2 : w.heap.size ≤ w.heap.size + 1 := by (first | omega | (have := kp7.size; simp only [World.size_alloc, size_setCell', size_drew'] at this; omega))
  have B8p3c := B8p3.cell
  have B8p3f := B8p3.frozen
  have B8p3l := B8p3.lt
  have ge8p3 : w.heap.size ≤ w.heap.size + 1 + 1 := by (first | omega | (have := kp7.size; simp only [World.size_alloc, size_setCell', size_drew'] at this; omega))
  have B8resc := B8res.cell
  have B8resf := B8res.frozen
  have B8resl := B8res.lt
  have ge8res : w.heap.size ≤ w.heap.size + 1 + 1 + 1 := by (first | omega | (have := kp7.size; simp only [World.size_alloc, size_setCell', size_drew'] at this; omega))
  replace hp' := hp'.soft sq7
  replace hq' := hq'.soft sq7
  replace hr' := hr'.soft sq7
  clear B7p1 B7p1c B7p1f B7p2 B7p2c B7p2f B7p3 B7p3c B7p3f B7res B7resc B7resf
  go_wp2_with fail
  refine bodyPost_ret (v := .agg #[.bool b7, .slice ao7 n7 c7, .bool b8, .slice ao8 n8 c8, .bool b9, .slice ao9 n9 c9, .int .i64 d]) (by simp [results, Tryd.results108, go_sem, B8resc]) rfl ?_
  have kpE : Kp w _ := (Below.setCell (Below.setCell (Below.setCell (Below.setCell (Below.setCell (Below.setCell (Below.setCell kq7 (p := ⟨w.heap.size + 1 + 1 + 1, 0, none⟩) (by have := ge8res; omega) (.bool b7)) (p := ⟨w.heap.size + 1 + 1 + 1, 1, none⟩) (by have := ge8res; omega) (.slice ao7 n7 c7)) (p := ⟨w.heap.size + 1 + 1 + 1, 2, none⟩) (by have := ge8res; omega) (.bool b8)) (p := ⟨w.heap.size + 1 + 1 + 1, 3, none⟩) (by have := ge8res; omega) (.slice ao8 n8 c8)) (p := ⟨w.heap.size + 1 + 1 + 1, 4, none⟩) (by have := ge8res; omega) (.bool b9)) (p := ⟨w.heap.size + 1 + 1 + 1, 5, none⟩) (by have := ge8res; omega) (.slice ao9 n9 c9)) (p := ⟨w.heap.size + 1 + 1 + 1, 6, none⟩) (by have := ge8res; omega) (.int .i64 d))
  have sfE : Sf 2 w8 _ := (Sf.set (t := 58) (c := w.heap.size + 1 + 1 + 1) (o := 6) (y := .int .i64 d) (Sf.set (t := 58) (c := w.heap.size + 1 + 1 + 1) (o := 5) (y := .slice ao9 n9 c9) (Sf.set (t := 58) (c := w.heap.size + 1 + 1 + 1) (o := 4) (y := .bool b9) (Sf.set (t := 58) (c := w.heap.size + 1 + 1 + 1) (o := 3) (y := .slice ao8 n8 c8) (Sf.set (t := 58) (c := w.heap.size + 1 + 1 + 1) (o := 2) (y := .bool b8) (Sf.set (t := 58) (c := w.heap.size + 1 + 1 + 1) (o := 1) (y := .slice ao7 n7 c7) (Sf.set (t := 58) (c := w.heap.size + 1 + 1 + 1) (o := 0) (y := .bool b7) (Sf.refl 2 w8) (by first | (simp only [elemOf_setCell]; exact B8res.elem) | exact B8res.elem) (by decide)) (by first | (simp only [elemOf_setCell]; exact B8res.elem) | exact B8res.elem) (by decide)) (by first | (simp only [elemOf_setCell]; exact B8res.elem) | exact B8res.elem) (by decide)) (by first | (simp only [elemOf_setCell]; exact B8res.elem) | exact B8res.elem) (by decide)) (by first | (simp only [elemOf_setCell]; exact B8res.elem) | exact B8res.elem) (by decide)) (by first | (simp only [elemOf_setCell]; exact B8res.elem) | exact B8res.elem) (by decide)) (by first | (simp only [elemOf_setCell]; exact B8res.elem) | exact B8res.elem) (by decide))
  exact ⟨_, rfl, (XN.mk3 (a := qreduce p q r d) hp' hq' hr' (by unfold qreduce; simp [HQ.out])).soft sfE, kpE⟩

set_option maxHeartbeats 3200000 in
theorem reduce_pz (p q r d : Int) (m : Nat) (u v t : Value) (w : World) (hp : WN w u p) (hq : WN w v q) (hr : WN w t r) (hm : m ≤ 150000000) (fp : Ft m p) (fq : Ft m q) (fr : Ft m r) (h1 : 0 ≤ r) (h2 : q.tdiv (qcom p q r) = 0) :
    Calls Tryd.prog 108 #[u, v, t, .int .i64 d] w (RetX w (qreduce p q r d)) := by
  obtain ⟨b1, ao1, n1, c1, rfl⟩ := hp.shape'
  obtain ⟨b2, ao2, n2, c2, rfl⟩ := hq.shape'
  obtain ⟨b3, ao3, n3, c3, rfl⟩ := hr.shape'
  have HC := Hid.mk (fp.com fq fr)
  have HG : Hid (qcom p q r = (Int.gcd (Int.gcd r p) q : Int)) := by unfold Hid qcom; rw [if_neg (by omega)]
  have HS : Hid (r.sign ≥ 0) := by unfold Hid; exact sign_nn h1
  have HQ := Hid.mk h2
  clear h1 h2
  go_enter Tryd.func108, Tryd.ntmps108
  go_wp2_with fail
  have kp0 : Kp w _ := (Kp.alloc' (Kp.alloc' (Kp.alloc' (Kp.alloc' (Below.refl w.heap.size w) (.cells #[.bool b1, .slice ao1 n1 c1] 56)) (.cells #[.bool b2, .slice ao2 n2 c2] 56)) (.cells #[.bool b3, .slice ao3 n3 c3] 56)) (.cells #[.bool false, .slice none 0 0, .bool false, .slice none 0 0, .bool false, .slice none 0 0, .int .i64 0] 58))
  have sf0 : Sf 2 w _ := (Sf.alloc (Sf.alloc (Sf.alloc (Sf.alloc (Sf.refl 2 w) (.cells #[.bool b1, .slice ao1 n1 c1] 56)) (.cells #[.bool b2, .slice ao2 n2 c2] 56)) (.cells #[.bool b3, .slice ao3 n3 c3] 56)) (.cells #[.bool false, .slice none 0 0, .bool false, .slice none 0 0, .bool false, .slice none 0 0, .int .i64 0] 58))
  refine (divisor_any r p m _ _ _ (hr.soft sf0) (hp.soft sf0) (by omega) fr fp).mono ?_
  rintro e w1 ⟨v1, rfl, hg, hk1⟩
  obtain ⟨b4, ao4, n4, c4, rfl⟩ := hg.shape'
  have kq0 := kp0.trans' hk1
  have sq0 := sf0.trans (Sf.keep hk1)
  have B1p1 : Blk w1 (w.heap.size) #[.bool b1, .slice ao1 n1 c1] 56 := Blk.keep hk1 (Blk.at (Blk.alloc (Blk.alloc (Blk.alloc (Blk.new _ _ _) _) _) _) (by simp))
  have B1p2 : Blk w1 (w.heap.size + 1) #[.bool b2, .slice ao2 n2 c2] 56 := Blk.keep hk1 (Blk.at (Blk.alloc (Blk.alloc (Blk.new _ _ _) _) _) (by simp))
  have B1p3 : Blk w1 (w.heap.size + 1 + 1) #[.bool b3, .slice ao3 n3 c3] 56 := Blk.keep hk1 (Blk.at (Blk.alloc (Blk.new _ _ _) _) (by simp))
  have B1res : Blk w1 (w.heap.size + 1 + 1 + 1) #[.bool false, .slice none 0 0, .bool false, .slice none 0 0, .bool false, .slice none 0 0, .int .i64 0] 58 := Blk.keep hk1 (Blk.at (Blk.new _ _ _) (by simp))
  have B1p1c := B1p1.cell
  have B1p1f := B1p1.frozen
  have B1p1l := B1p1.lt
  have ge1p1 : w.heap.size ≤ w.heap.size := by (first | omega | (have := kp0.size; simp only [World.size_alloc, size_setCell', size_drew'] at this; omega))
  have B1p2c := B1p2.cell
  have B1p2f := B1p2.frozen
  have B1p2l := B1p2.lt
  have ge1p2 : w.heap.size ≤ w.heap.size + 1 := by (first | omega | (have := kp0.size; simp only [World.size_alloc, size_setCell', size_drew'] at this; omega))
  have B1p3c := B1p3.cell
  have B1p3f := B1p3.frozen
  have B1p3l := B1p3.lt
  have ge1p3 : w.heap.size ≤ w.heap.size + 1 + 1 := by (first | omega | (have := kp0.size; simp only [World.size_alloc, size_setCell', size_drew'] at this; omega))
  have B1resc := B1res.cell
  have B1resf := B1res.frozen
  have B1resl := B1res.lt
  have ge1res : w.heap.size ≤ w.heap.size + 1 + 1 + 1 := by (first | omega | (have := kp0.size; simp only [World.size_alloc, size_setCell', size_drew'] at this; omega))
  replace hp := hp.soft sq0
  replace hq := hq.soft sq0
  replace hr := hr.soft sq0
  go_wp2_with fail
  have kp1 : Kp w _ := (Kp.alloc' kq0 (.cells #[.bool b4, .slice ao4 n4 c4] 56))
  have sf1 : Sf 2 w1 _ := (Sf.alloc (Sf.refl 2 w1) (.cells #[.bool b4, .slice ao4 n4 c4] 56))
  refine (divisor_any (Int.gcd r p) q m _ _ _ (hg.soft sf1) (hq.soft sf1) (by omega) (fr.gcd fp) fq).mono ?_
  rintro e w2 ⟨v2, rfl, hc, hk2⟩
  obtain ⟨b5, ao5, n5, c5, rfl⟩ := hc.shape'
  have kq1 := kp1.trans' hk2
  have sq1 := sf1.trans (Sf.keep hk2)
  have B2p1 : Blk w2 (w.heap.size) #[.bool b1, .slice ao1 n1 c1] 56 := Blk.keep hk2 (Blk.alloc B1p1 _)
  have B2p2 : Blk w2 (w.heap.size + 1) #[.bool b2, .slice ao2 n2 c2] 56 := Blk.keep hk2 (Blk.alloc B1p2 _)
  have B2p3 : Blk w2 (w.heap.size + 1 + 1) #[.bool b3, .slice ao3 n3 c3] 56 := Blk.keep hk2 (Blk.alloc B1p3 _)
  have B2res : Blk w2 (w.heap.size + 1 + 1 + 1) #[.bool false, .slice none 0 0, .bool false, .slice none 0 0, .bool false, .slice none 0 0, .int .i64 0] 58 := Blk.keep hk2 (Blk.alloc B1res _)
  have B2com : Blk w2 (w1.heap.size) #[.bool b4, .slice ao4 n4 c4] 56 := Blk.keep hk2 (Blk.at (Blk.new _ _ _) (by simp))
  have B2p1c := B2p1.cell
  have B2p1f := B2p1.frozen
  have B2p1l := B2p1.lt
  have ge2p1 : w.heap.size ≤ w.heap.size := by (first | omega | (have := kp1.size; simp only [World.size_alloc, size_setCell', size_drew'] at this; omega))
  have B2p2c := B2p2.cell
  have B2p2f := B2p2.frozen
  have B2p2l := B2p2.lt
  have ge2p2 : w.heap.size ≤ w.heap.size + 1 := by (first | omega | (have := kp1.size; simp only [World.size_alloc, size_setCell', size_drew'] at this; omega))
  have B2p3c := B2p3.cell
  have B2p3f := B2p3.frozen
  have B2p3l := B2p3.lt
  have ge2p3 : w.heap.size ≤ w.heap.size + 1 + 1 := by (first | omega | (have := kp1.size; simp only [World.size_alloc, size_setCell', size_drew'] at this; omega))
  have B2resc := B2res.cell
  have B2resf := B2res.frozen
  have B2resl := B2res.lt
  have ge2res : w.heap.size ≤ w.heap.size + 1 + 1 + 1 := by (first | omega | (have := kp1.size; simp only [World.size_alloc, size_setCell', size_drew'] at this; omega))
  have B2comc := B2com.cell
  have B2comf := B2com.frozen
  have B2coml := B2com.lt
  have ge2com : w.heap.size ≤ w1.heap.size := by (first | omega | (have := kp1.size; simp only [World.size_alloc, size_setCell', size_drew'] at this; omega))
  replace hp := hp.soft sq1
  replace hq := hq.soft sq1
  replace hr := hr.soft sq1
  clear B1p1 B1p1c B1p1f B1p2 B1p2c B1p2f B1p3 B1p3c B1p3f B1res B1resc B1resf
  go_wp2_with fail
  have kp2 : Kp w _ := (Below.setCell (Below.setCell kq1 (p := ⟨w1.heap.size, 0, none⟩) (by have := ge2com; omega) (.bool b5)) (p := ⟨w1.heap.size, 1, none⟩) (by have := ge2com; omega) (.slice ao5 n5 c5))
  have sf2 : Sf 2 w2 _ := (Sf.set (t := 56) (c := w1.heap.size) (o := 1) (y := .slice ao5 n5 c5) (Sf.set (t := 56) (c := w1.heap.size) (o := 0) (y := .bool b5) (Sf.refl 2 w2) (by first | (simp only [elemOf_setCell]; exact B2com.elem) | exact B2com.elem) (by decide)) (by first | (simp only [elemOf_setCell]; exact B2com.elem) | exact B2com.elem) (by decide))
  refine (sign_any r _ _ (hr.soft sf2)).mono ?_
  rintro e w3 ⟨rfl, hk3⟩
  have hs0 := HS.out
  generalize r.sign = sg at *
  have kq2 := kp2.trans' hk3
  have sq2 := sf2.trans (Sf.keep hk3)
  have B3p1 : Blk w3 (w.heap.size) #[.bool b1, .slice ao1 n1 c1] 56 := Blk.keep hk3 (Blk.other (Blk.other B2p1 (by omega)) (by omega))
  have B3p2 : Blk w3 (w.heap.size + 1) #[.bool b2, .slice ao2 n2 c2] 56 := Blk.keep hk3 (Blk.other (Blk.other B2p2 (by omega)) (by omega))
  have B3p3 : Blk w3 (w.heap.size + 1 + 1) #[.bool b3, .slice ao3 n3 c3] 56 := Blk.keep hk3 (Blk.other (Blk.other B2p3 (by omega)) (by omega))
  have B3res : Blk w3 (w.heap.size + 1 + 1 + 1) #[.bool false, .slice none 0 0, .bool false, .slice none 0 0, .bool false, .slice none 0 0, .int .i64 0] 58 := Blk.keep hk3 (Blk.other (Blk.other B2res (by omega)) (by omega))
  have B3com : Blk w3 (w1.heap.size) #[.bool b5, .slice ao5 n5 c5] 56 := Blk.keep hk3 (Blk.set (Blk.set B2com))
  have B3p1c := B3p1.cell
  have B3p1f := B3p1.frozen
  have B3p1l := B3p1.lt
  have ge3p1 : w.heap.size ≤ w.heap.size := by (first | omega | (have := kp2.size; simp only [World.size_alloc, size_setCell', size_drew'] at this; omega))
  have B3p2c := B3p2.cell
  have B3p2f := B3p2.frozen
  have B3p2l := B3p2.lt
  have ge3p2 : w.heap.size ≤ w.heap.size + 1 := by (first | omega | (have := kp2.size; simp only [World.size_alloc, size_setCell', size_drew'] at this; omega))
  have B3p3c := B3p3.cell
  have B3p3f := B3p3.frozen
  have B3p3l := B3p3.lt
  have ge3p3 : w.heap.size ≤ w.heap.size + 1 + 1 := by (first | omega | (have := kp2.size; simp only [World.size_alloc, size_setCell', size_drew'] at this; omega))
  have B3resc := B3res.cell
  have B3resf := B3res.frozen
  have B3resl := B3res.lt
  have ge3res : w.heap.size ≤ w.heap.size + 1 + 1 + 1 := by (first | omega | (have := kp2.size; simp only [World.size_alloc, size_setCell', size_drew'] at this; omega))
  have B3comc := B3com.cell
  have B3comf := B3com.frozen
  have B3coml := B3com.lt
  have ge3com : w.heap.size ≤ w1.heap.size := by (first | omega | (have := kp2.size; simp only [World.size_alloc, size_setCell', size_drew'] at this; omega))
  replace hp := hp.soft sq2
  replace hq := hq.soft sq2
  replace hr := hr.soft sq2
  replace hc := hc.soft sq2
  clear B2p1 B2p1c B2p1f B2p2 B2p2c B2p2f B2p3 B2p3c B2p3f B2res B2resc B2resf B2com B2comc B2comf
  go_wp2_with fail
  rw [← HG.out] at hc
  have kp3 : Kp w _ := kq2
  have sf3 : Sf 2 w3 _ := (Sf.refl 2 w3)
  refine (divide_any p (qcom p q r) m _ _ _ (hp.soft sf3) (hc.soft sf3) (by omega) fp HC.out).mono ?_
  rintro e w4 ⟨u4, v4, rfl, hp', hx4, hk4⟩
  obtain ⟨b7, ao7, n7, c7, rfl⟩ := hp'.shape'
  obtain ⟨b20, ao20, n20, c20, rfl⟩ := hx4.shape'
  clear hx4
  have kq3 := kp3.trans' hk4
  have sq3 := sf3.trans (Sf.keep hk4)
  have B4p1 : Blk w4 (w.heap.size) #[.bool b1, .slice ao1 n1 c1] 56 := Blk.keep hk4 B3p1
  have B4p2 : Blk w4 (w.heap.size + 1) #[.bool b2, .slice ao2 n2 c2] 56 := Blk.keep hk4 B3p2
  have B4p3 : Blk w4 (w.heap.size + 1 + 1) #[.bool b3, .slice ao3 n3 c3] 56 := Blk.keep hk4 B3p3
  have B4res : Blk w4 (w.heap.size + 1 + 1 + 1) #[.bool false, .slice none 0 0, .bool false, .slice none 0 0, .bool false, .slice none 0 0, .int .i64 0] 58 := Blk.keep hk4 B3res
  have B4com : Blk w4 (w1.heap.size) #[.bool b5, .slice ao5 n5 c5] 56 := Blk.keep hk4 B3com
  have B4p1c := B4p1.cell
  have B4p1f := B4p1.frozen
  have B4p1l := B4p1.lt
  have ge4p1 : w.heap.size ≤ w.heap.size := by (first | omega | (have := kp3.size; simp only [World.size_alloc, size_setCell', size_drew'] at this; omega))
  have B4p2c := B4p2.cell
  have B4p2f := B4p2.frozen
  have B4p2l := B4p2.lt
  have ge4p2 : w.heap.size ≤ w.heap.size + 1 := by (first | omega | (have := kp3.size; simp only [World.size_alloc, size_setCell', size_drew'] at this; omega))
  have B4p3c := B4p3.cell
  have B4p3f := B4p3.frozen
  have B4p3l := B4p3.lt
  have ge4p3 : w.heap.size ≤ w.heap.size + 1 + 1 := by (first | omega | (have := kp3.size; simp only [World.size_alloc, size_setCell', size_drew'] at this; omega))
  have B4resc := B4res.cell
  have B4resf := B4res.frozen
  have B4resl := B4res.lt
  have ge4res : w.heap.size ≤ w.heap.size + 1 + 1 + 1 := by (first | omega | (have := kp3.size; simp only [World.size_alloc, size_setCell', size_drew'] at this; omega))
  have B4comc := B4com.cell
  have B4comf := B4com.frozen
  have B4coml := B4com.lt
  have ge4com : w.heap.size ≤ w1.heap.size := by (first | omega | (have := kp3.size; simp only [World.size_alloc, size_setCell', size_drew'] at this; omega))
  replace hq := hq.soft sq3
  replace hr := hr.soft sq3
  replace hc := hc.soft sq3
  clear B3p1 B3p1c B3p1f B3p2 B3p2c B3p2f B3p3 B3p3c B3p3f B3res B3resc B3resf B3com B3comc B3comf
  go_wp2_with fail
  have kp4 : Kp w _ := (Below.setCell (Below.setCell kq3 (p := ⟨w.heap.size, 0, none⟩) (by have := ge4p1; omega) (.bool b7)) (p := ⟨w.heap.size, 1, none⟩) (by have := ge4p1; omega) (.slice ao7 n7 c7))
  have sf4 : Sf 2 w4 _ := (Sf.set (t := 56) (c := w.heap.size) (o := 1) (y := .slice ao7 n7 c7) (Sf.set (t := 56) (c := w.heap.size) (o := 0) (y := .bool b7) (Sf.refl 2 w4) (by first | (simp only [elemOf_setCell]; exact B4p1.elem) | exact B4p1.elem) (by decide)) (by first | (simp only [elemOf_setCell]; exact B4p1.elem) | exact B4p1.elem) (by decide))
  refine (divide_any q (qcom p q r) m _ _ _ (hq.soft sf4) (hc.soft sf4) (by omega) fq HC.out).mono ?_
  rintro e w5 ⟨u5, v5, rfl, hq', hx5, hk5⟩
  obtain ⟨b8, ao8, n8, c8, rfl⟩ := hq'.shape'
  obtain ⟨b21, ao21, n21, c21, rfl⟩ := hx5.shape'
  clear hx5
  have kq4 := kp4.trans' hk5
  have sq4 := sf4.trans (Sf.keep hk5)
  have B5p1 : Blk w5 (w.heap.size) #[.bool b7, .slice ao7 n7 c7] 56 := Blk.keep hk5 (Blk.set (Blk.set B4p1))
  have B5p2 : Blk w5 (w.heap.size + 1) #[.bool b2, .slice ao2 n2 c2] 56 := Blk.keep hk5 (Blk.other (Blk.other B4p2 (by omega)) (by omega))
  have B5p3 : Blk w5 (w.heap.size + 1 + 1) #[.bool b3, .slice ao3 n3 c3] 56 := Blk.keep hk5 (Blk.other (Blk.other B4p3 (by omega)) (by omega))
  have B5res : Blk w5 (w.heap.size + 1 + 1 + 1) #[.bool false, .slice none 0 0, .bool false, .slice none 0 0, .bool false, .slice none 0 0, .int .i64 0] 58 := Blk.keep hk5 (Blk.other (Blk.other B4res (by omega)) (by omega))
  have B5com : Blk w5 (w1.heap.size) #[.bool b5, .slice ao5 n5 c5] 56 := Blk.keep hk5 (Blk.other (Blk.other B4com (by omega)) (by omega))
  have B5p1c := B5p1.cell
  have B5p1f := B5p1.frozen
  have B5p1l := B5p1.lt
  have ge5p1 : w.heap.size ≤ w.heap.size := by (first | omega | (have := kp4.size; simp only [World.size_alloc, size_setCell', size_drew'] at this; omega))
  have B5p2c := B5p2.cell
  have B5p2f := B5p2.frozen
  have B5p2l := B5p2.lt
  have ge5p2 : w.heap.size ≤ w.heap.size + 1 := by (first | omega | (have := kp4.size; simp only [World.size_alloc, size_setCell', size_drew'] at this; omega))
  have B5p3c := B5p3.cell
  have B5p3f := B5p3.frozen
  have B5p3l := B5p3.lt
  have ge5p3 : w.heap.size ≤ w.heap.size + 1 + 1 := by (first | omega | (have := kp4.size; simp only [World.size_alloc, size_setCell', size_drew'] at this; omega))
  have B5resc := B5res.cell
  have B5resf := B5res.frozen
  have B5resl := B5res.lt
  have ge5res : w.heap.size ≤ w.heap.size + 1 + 1 + 1 := by (first | omega | (have := kp4.size; simp only [World.size_alloc, size_setCell', size_drew'] at this; omega))
  have B5comc := B5com.cell
  have B5comf := B5com.frozen
  have B5coml := B5com.lt
  have ge5com : w.heap.size ≤ w1.heap.size := by (first | omega | (have := kp4.size; simp only [World.size_alloc, size_setCell', size_drew'] at this; omega))
  replace hr := hr.soft sq4
  replace hc := hc.soft sq4
  replace hp' := hp'.soft sq4
  clear B4p1 B4p1c B4p1f B4p2 B4p2c B4p2f B4p3 B4p3c B4p3f B4res B4resc B4resf B4com B4comc B4comf
  go_wp2_with fail
  have kp5 : Kp w _ := (Below.setCell (Below.setCell kq4 (p := ⟨w.heap.size + 1, 0, none⟩) (by have := ge5p2; omega) (.bool b8)) (p := ⟨w.heap.size + 1, 1, none⟩) (by have := ge5p2; omega) (.slice ao8 n8 c8))
  have sf5 : Sf 2 w5 _ := (Sf.set (t := 56) (c := w.heap.size + 1) (o := 1) (y := .slice ao8 n8 c8) (Sf.set (t := 56) (c := w.heap.size + 1) (o := 0) (y := .bool b8) (Sf.refl 2 w5) (by first | (simp only [elemOf_setCell]; exact B5p2.elem) | exact B5p2.elem) (by decide)) (by first | (simp only [elemOf_setCell]; exact B5p2.elem) | exact B5p2.elem) (by decide))
  refine (divide_any r (qcom p q r) m _ _ _ (hr.soft sf5) (hc.soft sf5) (by omega) fr HC.out).mono ?_
  rintro e w6 ⟨u6, v6, rfl, hr', hx6, hk6⟩
  obtain ⟨b9, ao9, n9, c9, rfl⟩ := hr'.shape'
  obtain ⟨b22, ao22, n22, c22, rfl⟩ := hx6.shape'
  clear hx6
  have kq5 := kp5.trans' hk6
  have sq5 := sf5.trans (Sf.keep hk6)
  have B6p1 : Blk w6 (w.heap.size) #[.bool b7, .slice ao7 n7 c7] 56 := Blk.keep hk6 (Blk.other (Blk.other B5p1 (by omega)) (by omega))
  have B6p2 : Blk w6 (w.heap.size + 1) #[.bool b8, .slice ao8 n8 c8] 56 := Blk.keep hk6 (Blk.set (Blk.set B5p2))
  have B6p3 : Blk w6 (w.heap.size + 1 + 1) #[.bool b3, .slice ao3 n3 c3] 56 := Blk.keep hk6 (Blk.other (Blk.other B5p3 (by omega)) (by omega))
  have B6res : Blk w6 (w.heap.size + 1 + 1 + 1) #[.bool false, .slice none 0 0, .bool false, .slice none 0 0, .bool false, .slice none 0 0, .int .i64 0] 58 := Blk.keep hk6 (Blk.other (Blk.other B5res (by omega)) (by omega))
  have B6p1c := B6p1.cell
  have B6p1f := B6p1.frozen
  have B6p1l := B6p1.lt
  have ge6p1 : w.heap.size ≤ w.heap.size := by (first | omega | (have := kp5.size; simp only [World.size_alloc, size_setCell', size_drew'] at this; omega))
  have B6p2c := B6p2.cell
  have B6p2f := B6p2.frozen
  have B6p2l := B6p2.lt
  have ge6p2 : w.heap.size ≤ w.heap.size + 1 := by (first | omega | (have := kp5.size; simp only [World.size_alloc, size_setCell', size_drew'] at this; omega))
  have B6p3c := B6p3.cell
  have B6p3f := B6p3.frozen
  have B6p3l := B6p3.lt
  have ge6p3 : w.heap.size ≤ w.heap.size + 1 + 1 := by (first | omega | (have := kp5.size; simp only [World.size_alloc, size_setCell', size_drew'] at this; omega))
  have B6resc := B6res.cell
  have B6resf := B6res.frozen
  have B6resl := B6res.lt
  have ge6res : w.heap.size ≤ w.heap.size + 1 + 1 + 1 := by (first | omega | (have := kp5.size; simp only [World.size_alloc, size_setCell', size_drew'] at this; omega))
  replace hp' := hp'.soft sq5
  replace hq' := hq'.soft sq5
  clear B5p1 B5p1c B5p1f B5p2 B5p2c B5p2f B5p3 B5p3c B5p3f B5res B5resc B5resf B5com B5comc B5comf
  go_wp2_with fail
  have kp6 : Kp w _ := (Below.setCell (Below.setCell kq5 (p := ⟨w.heap.size + 1 + 1, 0, none⟩) (by have := ge6p3; omega) (.bool b9)) (p := ⟨w.heap.size + 1 + 1, 1, none⟩) (by have := ge6p3; omega) (.slice ao9 n9 c9))
  have sf6 : Sf 2 w6 _ := (Sf.set (t := 56) (c := w.heap.size + 1 + 1) (o := 1) (y := .slice ao9 n9 c9) (Sf.set (t := 56) (c := w.heap.size + 1 + 1) (o := 0) (y := .bool b9) (Sf.refl 2 w6) (by first | (simp only [elemOf_setCell]; exact B6p3.elem) | exact B6p3.elem) (by decide)) (by first | (simp only [elemOf_setCell]; exact B6p3.elem) | exact B6p3.elem) (by decide))
  refine (sign_any (q.tdiv (qcom p q r)) _ _ (hq'.soft sf6)).mono ?_
  rintro e w7 ⟨rfl, hk7⟩
  rw [HQ.out, Int.sign_zero]
  have kq6 := kp6.trans' hk7
  have sq6 := sf6.trans (Sf.keep hk7)
  have B7p1 : Blk w7 (w.heap.size) #[.bool b7, .slice ao7 n7 c7] 56 := Blk.keep hk7 (Blk.other (Blk.other B6p1 (by omega)) (by omega))
  have B7p2 : Blk w7 (w.heap.size + 1) #[.bool b8, .slice ao8 n8 c8] 56 := Blk.keep hk7 (Blk.other (Blk.other B6p2 (by omega)) (by omega))
  have B7p3 : Blk w7 (w.heap.size + 1 + 1) #[.bool b9, .slice ao9 n9 c9] 56 := Blk.keep hk7 (Blk.set (Blk.set B6p3))
  have B7res : Blk w7 (w.heap.size + 1 + 1 + 1) #[.bool false, .slice none 0 0, .bool false, .slice none 0 0, .bool false, .slice none 0 0, .int .i64 0] 58 := Blk.keep hk7 (Blk.other (Blk.other B6res (by omega)) (by omega))
  have B7p1c := B7p1.cell
  have B7p1f := B7p1.frozen
  have B7p1l := B7p1.lt
  have ge7p1 : w.heap.size ≤ w.heap.size := by (first | omega | (have := kp6.size; simp only [World.size_alloc, size_setCell', size_drew'] at this; omega))
  have B7p2c := B7p2.cell
  have B7p2f := B7p2.frozen
  have B7p2l := B7p2.lt
  have ge7p2 : w.heap.size ≤ w.heap.size + 1 := by (first | omega | (have := kp6.size; simp only [World.size_alloc, size_setCell', size_drew'] at this; omega))
  have B7p3c := B7p3.cell
  have B7p3f := B7p3.frozen
  have B7p3l := B7p3.lt
  have ge7p3 : w.heap.size ≤ w.heap.size + 1 + 1 := by (first | omega | (have := kp6.size; simp only [World.size_alloc, size_setCell', size_drew'] at this; omega))
  have B7resc := B7res.cell
  have B7resf := B7res.frozen
  have B7resl := B7res.lt
  have ge7res : w.heap.size ≤ w.heap.size + 1 + 1 + 1 := by (first | omega | (have := kp6.size; simp only [World.size_alloc, size_setCell', size_drew'] at this; omega))
  replace hp' := hp'.soft sq6
  replace hq' := hq'.soft sq6
  replace hr' := hr'.soft sq6
  clear B6p1 B6p1c B6p1f B6p2 B6p2c B6p2f B6p3 B6p3c B6p3f B6res B6resc B6resf
  go_wp2_with fail
  refine bodyPost_ret (v := .agg #[.bool b7, .slice ao7 n7 c7, .bool b8, .slice ao8 n8 c8, .bool b9, .slice ao9 n9 c9, .int .i64 1]) (by simp [results, Tryd.results108, go_sem, B7resc]) rfl ?_
  have kpE : Kp w _ := (Below.setCell (Below.setCell (Below.setCell (Below.setCell (Below.setCell (Below.setCell (Below.setCell kq6 (p := ⟨w.heap.size + 1 + 1 + 1, 0, none⟩) (by have := ge7res; omega) (.bool b7)) (p := ⟨w.heap.size + 1 + 1 + 1, 1, none⟩) (by have := ge7res; omega) (.slice ao7 n7 c7)) (p := ⟨w.heap.size + 1 + 1 + 1, 2, none⟩) (by have := ge7res; omega) (.bool b8)) (p := ⟨w.heap.size + 1 + 1 + 1, 3, none⟩) (by have := ge7res; omega) (.slice ao8 n8 c8)) (p := ⟨w.heap.size + 1 + 1 + 1, 4, none⟩) (by have := ge7res; omega) (.bool b9)) (p := ⟨w.heap.size + 1 + 1 + 1, 5, none⟩) (by have := ge7res; omega) (.slice ao9 n9 c9)) (p := ⟨w.heap.size + 1 + 1 + 1, 6, none⟩) (by have := ge7res; omega) (.int .i64 1))
  have sfE : Sf 2 w7 _ := (Sf.set (t := 58) (c := w.heap.size + 1 + 1 + 1) (o := 6) (y := .int .i64 1) (Sf.set (t := 58) (c := w.heap.size + 1 + 1 + 1) (o := 5) (y := .slice ao9 n9 c9) (Sf.set (t := 58) (c := w.heap.size + 1 + 1 + 1) (o := 4) (y := .bool b9) (Sf.set (t := 58) (c := w.heap.size + 1 + 1 + 1) (o := 3) (y := .slice ao8 n8 c8) (Sf.set (t := 58) (c := w.heap.size + 1 + 1 + 1) (o := 2) (y := .bool b8) (Sf.set (t := 58) (c := w.heap.size + 1 + 1 + 1) (o := 1) (y := .slice ao7 n7 c7) (Sf.set (t := 58) (c := w.heap.size + 1 + 1 + 1) (o := 0) (y := .bool b7) (Sf.refl 2 w7) (by first | (simp only [elemOf_setCell]; exact B7res.elem) | exact B7res.elem) (by decide)) (by first | (simp only [elemOf_setCell]; exact B7res.elem) | exact B7res.elem) (by decide)) (by first | (simp only [elemOf_setCell]; exact B7res.elem) | exact B7res.elem) (by decide)) (by first | (simp only [elemOf_setCell]; exact B7res.elem) | exact B7res.elem) (by decide)) (by first | (simp only [elemOf_setCell]; exact B7res.elem) | exact B7res.elem) (by decide)) (by first | (simp only [elemOf_setCell]; exact B7res.elem) | exact B7res.elem) (by decide)) (by first | (simp only [elemOf_setCell]; exact B7res.elem) | exact B7res.elem) (by decide))
  exact ⟨_, rfl, (XN.mk3 (a := qreduce p q r d) hp' hq' hr' (by unfold qreduce; simp [HQ.out])).soft sfE, kpE⟩

set_option maxHeartbeats 3200000 in
theorem reduce_ps (p q r d : Int) (m : Nat) (u v t : Value) (w : World) (hp : WN w u p) (hq : WN w v q) (hr : WN w t r) (hm : m ≤ 150000000) (fp : Ft m p) (fq : Ft m q) (fr : Ft m r) (h1 : 0 ≤ r) (h2 : q.tdiv (qcom p q r) ≠ 0) :
    Calls Tryd.prog 108 #[u, v, t, .int .i64 d] w (RetX w (qreduce p q r d)) := by
  obtain ⟨b1, ao1, n1, c1, rfl⟩ := hp.shape'
  obtain ⟨b2, ao2, n2, c2, rfl⟩ := hq.shape'
  obtain ⟨b3, ao3, n3, c3, rfl⟩ := hr.shape'
  have HC := Hid.mk (fp.com fq fr)
  have HG : Hid (qcom p q r = (Int.gcd (Int.gcd r p) q : Int)) := by unfold Hid qcom; rw [if_neg (by omega)]
  have HS : Hid (r.sign ≥ 0) := by unfold Hid; exact sign_nn h1
  have HQ := Hid.mk h2
  clear h1 h2
  go_enter Tryd.func108, Tryd.ntmps108
  go_wp2_with fail
  have kp0 : Kp w _ := (Kp.alloc' (Kp.alloc' (Kp.alloc' (Kp.alloc' (Below.refl w.heap.size w) (.cells #[.bool b1, .slice ao1 n1 c1] 56)) (.cells #[.bool b2, .slice ao2 n2 c2] 56)) (.cells #[.bool b3, .slice ao3 n3 c3] 56)) (.cells #[.bool false, .slice none 0 0, .bool false, .slice none 0 0, .bool false, .slice none 0 0, .int .i64 0] 58))
  have sf0 : Sf 2 w _ := (Sf.alloc (Sf.alloc (Sf.alloc (Sf.alloc (Sf.refl 2 w) (.cells #[.bool b1, .slice ao1 n1 c1] 56)) (.cells #[.bool b2, .slice ao2 n2 c2] 56)) (.cells #[.bool b3, .slice ao3 n3 c3] 56)) (.cells #[.bool false, .slice none 0 0, .bool false, .slice none 0 0, .bool false, .slice none 0 0, .int .i64 0] 58))
  refine (divisor_any r p m _ _ _ (hr.soft sf0) (hp.soft sf0) (by omega) fr fp).mono ?_
  rintro e w1 ⟨v1, rfl, hg, hk1⟩
  obtain ⟨b4, ao4, n4, c4, rfl⟩ := hg.shape'
  have kq0 := kp0.trans' hk1
  have sq0 := sf0.trans (Sf.keep hk1)
  have B1p1 : Blk w1 (w.heap.size) #[.bool b1, .slice ao1 n1 c1] 56 := Blk.keep hk1 (Blk.at (Blk.alloc (Blk.alloc (Blk.alloc (Blk.new _ _ _) _) _) _) (by simp))
  have B1p2 : Blk w1 (w.heap.size + 1) #[.bool b2, .slice ao2 n2 c2] 56 := Blk.keep hk1 (Blk.at (Blk.alloc (Blk.alloc (Blk.new _ _ _) _) _) (by simp))
  have B1p3 : Blk w1 (w.heap.size + 1 + 1) #[.bool b3, .slice ao3 n3 c3] 56 := Blk.keep hk1 (Blk.at (Blk.alloc (Blk.new _ _ _) _) (by simp))
  have B1res : Blk w1 (w.heap.size + 1 + 1 + 1) #[.bool false, .slice none 0 0, .bool false, .slice none 0 0, .bool false, .slice none 0 0, .int .i64 0] 58 := Blk.keep hk1 (Blk.at (Blk.new _ _ _) (by simp))
  have B1p1c := B1p1.cell
  have B1p1f := B1p1.frozen
  have B1p1l := B1p1.lt
  have ge1p1 : w.heap.size ≤ w.heap.size := by (first | omega | (have := kp0.size; simp only [World.size_alloc, size_setCell', size_drew'] at this; omega))
  have B1p2c := B1p2.cell
  have B1p2f := B1p2.frozen
  have B1p2l := B1p2.lt
  have ge1p2 : w.heap.size ≤ w.heap.size + 1 := by (first | omega | (have := kp0.size; simp only [World.size_alloc, size_setCell', size_drew'] at this; omega))
  have B1p3c := B1p3.cell
  have B1p3f := B1p3.frozen
  have B1p3l := B1p3.lt
  have ge1p3 : w.heap.size ≤ w.heap.size + 1 + 1 := by (first | omega | (have := kp0.size; simp only [World.size_alloc, size_setCell', size_drew'] at this; omega))
  have B1resc := B1res.cell
  have B1resf := B1res.frozen
  have B1resl := B1res.lt
  have ge1res : w.heap.size ≤ w.heap.size + 1 + 1 + 1 := by (first | omega | (have := kp0.size; simp only [World.size_alloc, size_setCell', size_drew'] at this; omega))
  replace hp := hp.soft sq0
  replace hq := hq.soft sq0
  replace hr := hr.soft sq0
  go_wp2_with fail
  have kp1 : Kp w _ := (Kp.alloc' kq0 (.cells #[.bool b4, .slice ao4 n4 c4] 56))
  have sf1 : Sf 2 w1 _ := (Sf.alloc (Sf.refl 2 w1) (.cells #[.bool b4, .slice ao4 n4 c4] 56))
  refine (divisor_any (Int.gcd r p) q m _ _ _ (hg.soft sf1) (hq.soft sf1) (by omega) (fr.gcd fp) fq).mono ?_
  rintro e w2 ⟨v2, rfl, hc, hk2⟩
  obtain ⟨b5, ao5, n5, c5, rfl⟩ := hc.shape'
  have kq1 := kp1.trans' hk2
  have sq1 := sf1.trans (Sf.keep hk2)
  have B2p1 : Blk w2 (w.heap.size) #[.bool b1, .slice ao1 n1 c1] 56 := Blk.keep hk2 (Blk.alloc B1p1 _)
  have B2p2 : Blk w2 (w.heap.size + 1) #[.bool b2, .slice ao2 n2 c2] 56 := Blk.keep hk2 (Blk.alloc B1p2 _)
  have B2p3 : Blk w2 (w.heap.size + 1 + 1) #[.bool b3, .slice ao3 n3 c3] 56 := Blk.keep hk2 (Blk.alloc B1p3 _)
  have B2res : Blk w2 (w.heap.size + 1 + 1 + 1) #[.bool false, .slice none 0 0, .bool false, .slice none 0 0, .bool false, .slice none 0 0, .int .i64 0] 58 := Blk.keep hk2 (Blk.alloc B1res _)
  have B2com : Blk w2 (w1.heap.size) #[.bool b4, .slice ao4 n4 c4] 56 := Blk.keep hk2 (Blk.at (Blk.new _ _ _) (by simp))
  have B2p1c := B2p1.cell
  have B2p1f := B2p1.frozen
  have B2p1l := B2p1.lt
  have ge2p1 : w.heap.size ≤ w.heap.size := by (first | omega | (have := kp1.size; simp only [World.size_alloc, size_setCell', size_drew'] at this; omega))
  have B2p2c := B2p2.cell
  have B2p2f := B2p2.frozen
  have B2p2l := B2p2.lt
  have ge2p2 : w.heap.size ≤ w.heap.size + 1 := by (first | omega | (have := kp1.size; simp only [World.size_alloc, size_setCell', size_drew'] at this; omega))
  have B2p3c := B2p3.cell
  have B2p3f := B2p3.frozen
  have B2p3l := B2p3.lt
  have ge2p3 : w.heap.size ≤ w.heap.size + 1 + 1 := by (first | omega | (have := kp1.size; simp only [World.size_alloc, size_setCell', size_drew'] at this; omega))
  have B2resc := B2res.cell
  have B2resf := B2res.frozen
  have B2resl := B2res.lt
  have ge2res : w.heap.size ≤ w.heap.size + 1 + 1 + 1 := by (first | omega | (have := kp1.size; simp only [World.size_alloc, size_setCell', size_drew'] at this; omega))
  have B2comc := B2com.cell
  have B2comf := B2com.frozen
  have B2coml := B2com.lt
  have ge2com : w.heap.size ≤ w1.heap.size := by (first | omega | (have := kp1.size; simp only [World.size_alloc, size_setCell', size_drew'] at this; omega))
  replace hp := hp.soft sq1
  replace hq := hq.soft sq1
  replace hr := hr.soft sq1
  clear B1p1 B1p1c B1p1f B1p2 B1p2c B1p2f B1p3 B1p3c B1p3f B1res B1resc B1resf
  go_wp2_with fail
  have kp2 : Kp w _ := (Below.setCell (Below.setCell kq1 (p := ⟨w1.heap.size, 0, none⟩) (by have := ge2com; omega) (.bool b5)) (p := ⟨w1.heap.size, 1, none⟩) (by have := ge2com; omega) (.slice ao5 n5 c5))
  have sf2 : Sf 2 w2 _ := (Sf.set (t := 56) (c := w1.heap.size) (o := 1) (y := .slice ao5 n5 c5) (Sf.set (t := 56) (c := w1.heap.size) (o := 0) (y := .bool b5) (Sf.refl 2 w2) (by first | (simp only [elemOf_setCell]; exact B2com.elem) | exact B2com.elem) (by decide)) (by first | (simp only [elemOf_setCell]; exact B2com.elem) | exact B2com.elem) (by decide))
  refine (sign_any r _ _ (hr.soft sf2)).mono ?_
  rintro e w3 ⟨rfl, hk3⟩
  have hs0 := HS.out
  generalize r.sign = sg at *
  have kq2 := kp2.trans' hk3
  have sq2 := sf2.trans (Sf.keep hk3)
  have B3p1 : Blk w3 (w.heap.size) #[.bool b1, .slice ao1 n1 c1] 56 := Blk.keep hk3 (Blk.other (Blk.other B2p1 (by omega)) (by omega))
  have B3p2 : Blk w3 (w.heap.size + 1) #[.bool b2, .slice ao2 n2 c2] 56 := Blk.keep hk3 (Blk.other (Blk.other B2p2 (by omega)) (by omega))
  have B3p3 : Blk w3 (w.heap.size + 1 + 1) #[.bool b3, .slice ao3 n3 c3] 56 := Blk.keep hk3 (Blk.other (Blk.other B2p3 (by omega)) (by omega))
  have B3res : Blk w3 (w.heap.size + 1 + 1 + 1) #[.bool false, .slice none 0 0, .bool false, .slice none 0 0, .bool false, .slice none 0 0, .int .i64 0] 58 := Blk.keep hk3 (Blk.other (Blk.other B2res (by omega)) (by omega))
  have B3com : Blk w3 (w1.heap.size) #[.bool b5, .slice ao5 n5 c5] 56 := Blk.keep hk3 (Blk.set (Blk.set B2com))
  have B3p1c := B3p1.cell
  have B3p1f := B3p1.frozen
  have B3p1l := B3p1.lt
  have ge3p1 : w.heap.size ≤ w.heap.size := by (first | omega | (have := kp2.size; simp only [World.size_alloc, size_setCell', size_drew'] at this; omega))
  have B3p2c := B3p2.cell
  have B3p2f := B3p2.frozen
  have B3p2l := B3p2.lt
  have ge3p2 : w.heap.size ≤ w.heap.size + 1 := by (first | omega | (have := kp2.size; simp only [World.size_alloc, size_setCell', size_drew'] at this; omega))
  have B3p3c := B3p3.cell
  have B3p3f := B3p3.frozen
  have B3p3l := B3p3.lt
  have ge3p3 : w.heap.size ≤ w.heap.size + 1 + 1 := by (first | omega | (have := kp2.size; simp only [World.size_alloc, size_setCell', size_drew'] at this; omega))
  have B3resc := B3res.cell
  have B3resf := B3res.frozen
  have B3resl := B3res.lt
  have ge3res : w.heap.size ≤ w.heap.size + 1 + 1 + 1 := by (first | omega | (have := kp2.size; simp only [World.size_alloc, size_setCell', size_drew'] at this; omega))
  have B3comc := B3com.cell
  have B3comf := B3com.frozen
  have B3coml := B3com.lt
  have ge3com : w.heap.size ≤ w1.heap.size := by (first | omega | (have := kp2.size; simp only [World.size_alloc, size_setCell', size_drew'] at this; omega))
  replace hp := hp.soft sq2
  replace hq := hq.soft sq2
  replace hr := hr.soft sq2
  replace hc := hc.soft sq2
  clear B2p1 B2p1c B2p1f B2p2 B2p2c B2p2f B2p3 B2p3c B2p3f B2res B2resc B2resf B2com B2comc B2comf
  go_wp2_with fail
  rw [← HG.out] at hc
  have kp3 : Kp w _ := kq2
  have sf3 : Sf 2 w3 _ := (Sf.refl 2 w3)
  refine (divide_any p (qcom p q r) m _ _ _ (hp.soft sf3) (hc.soft sf3) (by omega) fp HC.out).mono ?_
  rintro e w4 ⟨u4, v4, rfl, hp', hx4, hk4⟩
  obtain ⟨b7, ao7, n7, c7, rfl⟩ := hp'.shape'
  obtain ⟨b20, ao20, n20, c20, rfl⟩ := hx4.shape'
  clear hx4
  have kq3 := kp3.trans' hk4
  have sq3 := sf3.trans (Sf.keep hk4)
  have B4p1 : Blk w4 (w.heap.size) #[.bool b1, .slice ao1 n1 c1] 56 := Blk.keep hk4 B3p1
  have B4p2 : Blk w4 (w.heap.size + 1) #[.bool b2, .slice ao2 n2 c2] 56 := Blk.keep hk4 B3p2
  have B4p3 : Blk w4 (w.heap.size + 1 + 1) #[.bool b3, .slice ao3 n3 c3] 56 := Blk.keep hk4 B3p3
  have B4res : Blk w4 (w.heap.size + 1 + 1 + 1) #[.bool false, .slice none 0 0, .bool false, .slice none 0 0, .bool false, .slice none 0 0, .int .i64 0] 58 := Blk.keep hk4 B3res
  have B4com : Blk w4 (w1.heap.size) #[.bool b5, .slice ao5 n5 c5] 56 := Blk.keep hk4 B3com
  have B4p1c := B4p1.cell
  have B4p1f := B4p1.frozen
  have B4p1l := B4p1.lt
  have ge4p1 : w.heap.size ≤ w.heap.size := by (first | omega | (have := kp3.size; simp only [World.size_alloc, size_setCell', size_drew'] at this; omega))
  have B4p2c := B4p2.cell
  have B4p2f := B4p2.frozen
  have B4p2l := B4p2.lt
  have ge4p2 : w.heap.size ≤ w.heap.size + 1 := by (first | omega | (have := kp3.size; simp only [World.size_alloc, size_setCell', size_drew'] at this; omega))
  have B4p3c := B4p3.cell
  have B4p3f := B4p3.frozen
  have B4p3l := B4p3.lt
  have ge4p3 : w.heap.size ≤ w.heap.size + 1 + 1 := by (first | omega | (have := kp3.size; simp only [World.size_alloc, size_setCell', size_drew'] at this; omega))
  have B4resc := B4res.cell
  have B4resf := B4res.frozen
  have B4resl := B4res.lt
  have ge4res : w.heap.size ≤ w.heap.size + 1 + 1 + 1 := by (first | omega | (have := kp3.size; simp only [World.size_alloc, size_setCell', size_drew'] at this; omega))
  have B4comc := B4com.cell
  have B4comf := B4com.frozen
  have B4coml := B4com.lt
  have ge4com : w.heap.size ≤ w1.heap.size := by (first | omega | (have := kp3.size; simp only [World.size_alloc, size_setCell', size_drew'] at this; omega))
  replace hq := hq.soft sq3
  replace hr := hr.soft sq3
  replace hc := hc.soft sq3
  clear B3p1 B3p1c B3p1f B3p2 B3p2c B3p2f B3p3 B3p3c B3p3f B3res B3resc B3resf B3com B3comc B3comf
  go_wp2_with fail
  have kp4 : Kp w _ := (Below.setCell (Below.setCell kq3 (p := ⟨w.heap.size, 0, none⟩) (by have := ge4p1; omega) (.bool b7)) (p := ⟨w.heap.size, 1, none⟩) (by have := ge4p1; omega) (.slice ao7 n7 c7))
  have sf4 : Sf 2 w4 _ := (Sf.set (t := 56) (c := w.heap.size) (o := 1) (y := .slice ao7 n7 c7) (Sf.set (t := 56) (c := w.heap.size) (o := 0) (y := .bool b7) (Sf.refl 2 w4) (by first | (simp only [elemOf_setCell]; exact B4p1.elem) | exact B4p1.elem) (by decide)) (by first | (simp only [elemOf_setCell]; exact B4p1.elem) | exact B4p1.elem) (by decide))
  refine (divide_any q (qcom p q r) m _ _ _ (hq.soft sf4) (hc.soft sf4) (by omega) fq HC.out).mono ?_
  rintro e w5 ⟨u5, v5, rfl, hq', hx5, hk5⟩
  obtain ⟨b8, ao8, n8, c8, rfl⟩ := hq'.shape'
  obtain ⟨b21, ao21, n21, c21, rfl⟩ := hx5.shape'
  clear hx5
  have kq4 := kp4.trans' hk5
  have sq4 := sf4.trans (Sf.keep hk5)
  have B5p1 : Blk w5 (w.heap.size) #[.bool b7, .slice ao7 n7 c7] 56 := Blk.keep hk5 (Blk.set (Blk.set B4p1))
  have B5p2 : Blk w5 (w.heap.size + 1) #[.bool b2, .slice ao2 n2 c2] 56 := Blk.keep hk5 (Blk.other (Blk.other B4p2 (by omega)) (by omega))
  have B5p3 : Blk w5 (w.heap.size + 1 + 1) #[.bool b3, .slice ao3 n3 c3] 56 := Blk.keep hk5 (Blk.other (Blk.other B4p3 (by omega)) (by omega))
  have B5res : Blk w5 (w.heap.size + 1 + 1 + 1) #[.bool false, .slice none 0 0, .bool false, .slice none 0 0, .bool false, .slice none 0 0, .int .i64 0] 58 := Blk.keep hk5 (Blk.other (Blk.other B4res (by omega)) (by omega))
  have B5com : Blk w5 (w1.heap.size) #[.bool b5, .slice ao5 n5 c5] 56 := Blk.keep hk5 (Blk.other (Blk.other B4com (by omega)) (by omega))
  have B5p1c := B5p1.cell
  have B5p1f := B5p1.frozen
  have B5p1l := B5p1.lt
  have ge5p1 : w.heap.size ≤ w.heap.size := by (first | omega | (have := kp4.size; simp only [World.size_alloc, size_setCell', size_drew'] at this; omega))
  have B5p2c := B5p2.cell
  have B5p2f := B5p2.frozen
  have B5p2l := B5p2.lt
  have ge5p2 : w.heap.size ≤ w.heap.size + 1 := by (first | omega | (have := kp4.size; simp only [World.size_alloc, size_setCell', size_drew'] at this; omega))
  have B5p3c := B5p3.cell
  have B5p3f := B5p3.frozen
  have B5p3l := B5p3.lt
  have ge5p3 : w.heap.size ≤ w.heap.size + 1 + 1 := by (first | omega | (have := kp4.size; simp only [World.size_alloc, size_setCell', size_drew'] at this; omega))
  have B5resc := B5res.cell
  have B5resf := B5res.frozen
  have B5resl := B5res.lt
  have ge5res : w.heap.size ≤ w.heap.size + 1 + 1 + 1 := by (first | omega | (have := kp4.size; simp only [World.size_alloc, size_setCell', size_drew'] at this; omega))
  have B5comc := B5com.cell
  have B5comf := B5com.frozen
  have B5coml := B5com.lt
  have ge5com : w.heap.size ≤ w1.heap.size := by (first | omega | (have := kp4.size; simp only [World.size_alloc, size_setCell', size_drew'] at this; omega))
  replace hr := hr.soft sq4
  replace hc := hc.soft sq4
  replace hp' := hp'.soft sq4
  clear B4p1 B4p1c B4p1f B4p2 B4p2c B4p2f B4p3 B4p3c B4p3f B4res B4resc B4resf B4com B4comc B4comf
  go_wp2_with fail
  have kp5 : Kp w _ := (Below.setCell (Below.setCell kq4 (p := ⟨w.heap.size + 1, 0, none⟩) (by have := ge5p2; omega) (.bool b8)) (p := ⟨w.heap.size + 1, 1, none⟩) (by have := ge5p2; omega) (.slice ao8 n8 c8))
  have sf5 : Sf 2 w5 _ := (Sf.set (t := 56) (c := w.heap.size + 1) (o := 1) (y := .slice ao8 n8 c8) (Sf.set (t := 56) (c := w.heap.size + 1) (o := 0) (y := .bool b8) (Sf.refl 2 w5) (by first | (simp only [elemOf_setCell]; exact B5p2.elem) | exact B5p2.elem) (by decide)) (by first | (simp only [elemOf_setCell]; exact B5p2.elem) | exact B5p2.elem) (by decide))
  refine (divide_any r (qcom p q r) m _ _ _ (hr.soft sf5) (hc.soft sf5) (by omega) fr HC.out).mono ?_
  rintro e w6 ⟨u6, v6, rfl, hr', hx6, hk6⟩
  obtain ⟨b9, ao9, n9, c9, rfl⟩ := hr'.shape'
  obtain ⟨b22, ao22, n22, c22, rfl⟩ := hx6.shape'
  clear hx6
  have kq5 := kp5.trans' hk6
  have sq5 := sf5.trans (Sf.keep hk6)
  have B6p1 : Blk w6 (w.heap.size) #[.bool b7, .slice ao7 n7 c7] 56 := Blk.keep hk6 (Blk.other (Blk.other B5p1 (by omega)) (by omega))
  have B6p2 : Blk w6 (w.heap.size + 1) #[.bool b8, .slice ao8 n8 c8] 56 := Blk.keep hk6 (Blk.set (Blk.set B5p2))
  have B6p3 : Blk w6 (w.heap.size + 1 + 1) #[.bool b3, .slice ao3 n3 c3] 56 := Blk.keep hk6 (Blk.other (Blk.other B5p3 (by omega)) (by omega))
  have B6res : Blk w6 (w.heap.size + 1 + 1 + 1) #[.bool false, .slice none 0 0, .bool false, .slice none 0 0, .bool false, .slice none 0 0, .int .i64 0] 58 := Blk.keep hk6 (Blk.other (Blk.other B5res (by omega)) (by omega))
  have B6p1c := B6p1.cell
  have B6p1f := B6p1.frozen
  have B6p1l := B6p1.lt
  have ge6p1 : w.heap.size ≤ w.heap.size := by (first | omega | (have := kp5.size; simp only [World.size_alloc, size_setCell', size_drew'] at this; omega))
  have B6p2c := B6p2.cell
  have B6p2f := B6p2.frozen
  have B6p2l := B6p2.lt
  have ge6p2 : w.heap.size ≤ w.heap.size + 1 := by (first | omega | (have := kp5.size; simp only [World.size_alloc, size_setCell', size_drew'] at this; omega))
  have B6p3c := B6p3.cell
  have B6p3f := B6p3.frozen
  have B6p3l := B6p3.lt
  have ge6p3 : w.heap.size ≤ w.heap.size + 1 + 1 := by (first | omega | (have := kp5.size; simp only [World.size_alloc, size_setCell', size_drew'] at this; omega))
  have B6resc := B6res.cell
  have B6resf := B6res.frozen
  have B6resl := B6res.lt
  have ge6res : w.heap.size ≤ w.heap.size + 1 + 1 + 1 := by (first | omega | (have := kp5.size; simp only [World.size_alloc, size_setCell', size_drew'] at this; omega))
  replace hp' := hp'.soft sq5
  replace hq' := hq'.soft sq5
  clear B5p1 B5p1c B5p1f B5p2 B5p2c B5p2f B5p3 B5p3c B5p3f B5res B5resc B5resf B5com B5comc B5comf
  go_wp2_with fail
  have kp6 : Kp w _ := (Below.setCell (Below.setCell kq5 (p := ⟨w.heap.size + 1 + 1, 0, none⟩) (by have := ge6p3; omega) (.bool b9)) (p := ⟨w.heap.size + 1 + 1, 1, none⟩) (by have := ge6p3; omega) (.slice ao9 n9 c9))
  have sf6 : Sf 2 w6 _ := (Sf.set (t := 56) (c := w.heap.size + 1 + 1) (o := 1) (y := .slice ao9 n9 c9) (Sf.set (t := 56) (c := w.heap.size + 1 + 1) (o := 0) (y := .bool b9) (Sf.refl 2 w6) (by first | (simp only [elemOf_setCell]; exact B6p3.elem) | exact B6p3.elem) (by decide)) (by first | (simp only [elemOf_setCell]; exact B6p3.elem) | exact B6p3.elem) (by decide))
  refine (sign_any (q.tdiv (qcom p q r)) _ _ (hq'.soft sf6)).mono ?_
  rintro e w7 ⟨rfl, hk7⟩
  have hsn : ((q.tdiv (qcom p q r)).sign == 0) = false := by simp; exact HQ.out
  generalize (q.tdiv (qcom p q r)).sign = sg2 at *
  have kq6 := kp6.trans' hk7
  have sq6 := sf6.trans (Sf.keep hk7)
  have B7p1 : Blk w7 (w.heap.size) #[.bool b7, .slice ao7 n7 c7] 56 := Blk.keep hk7 (Blk.other (Blk.other B6p1 (by omega)) (by omega))
  have B7p2 : Blk w7 (w.heap.size + 1) #[.bool b8, .slice ao8 n8 c8] 56 := Blk.keep hk7 (Blk.other (Blk.other B6p2 (by omega)) (by omega))
  have B7p3 : Blk w7 (w.heap.size + 1 + 1) #[.bool b9, .slice ao9 n9 c9] 56 := Blk.keep hk7 (Blk.set (Blk.set B6p3))
  have B7res : Blk w7 (w.heap.size + 1 + 1 + 1) #[.bool false, .slice none 0 0, .bool false, .slice none 0 0, .bool false, .slice none 0 0, .int .i64 0] 58 := Blk.keep hk7 (Blk.other (Blk.other B6res (by omega)) (by omega))
  have B7p1c := B7p1.cell
  have B7p1f := B7p1.frozen
  have B7p1l := B7p1.lt
  have ge7p1 : w.heap.size ≤ w.heap.size := by (first | omega | (have := kp6.size; simp only [World.size_alloc, size_setCell', size_drew'] at this; omega))
  have B7p2c := B7p2.cell
  have B7p2f := B7p2.frozen
  have B7p2l := B7p2.lt
  have ge7p2 : w.heap.size ≤ w.heap.size + 1 := by (first | omega | (have := kp6.size; simp only [World.size_alloc, size_setCell', size_drew'] at this; omega))
  have B7p3c := B7p3.cell
  have B7p3f := B7p3.frozen
  have B7p3l := B7p3.lt
  have ge7p3 : w.heap.size ≤ w.heap.size + 1 + 1 := by (first | omega | (have := kp6.size; simp only [World.size_alloc, size_setCell', size_drew'] at this; omega))
  have B7resc := B7res.cell
  have B7resf := B7res.frozen
  have B7resl := B7res.lt
  have ge7res : w.heap.size ≤ w.heap.size + 1 + 1 + 1 := by (first | omega | (have := kp6.size; simp only [World.size_alloc, size_setCell', size_drew'] at this; omega))
  replace hp' := hp'.soft sq6
  replace hq' := hq'.soft sq6
  replace hr' := hr'.soft sq6
  clear B6p1 B6p1c B6p1f B6p2 B6p2c B6p2f B6p3 B6p3c B6p3f B6res B6resc B6resf
  go_wp2_with fail
  refine bodyPost_ret (v := .agg #[.bool b7, .slice ao7 n7 c7, .bool b8, .slice ao8 n8 c8, .bool b9, .slice ao9 n9 c9, .int .i64 d]) (by simp [results, Tryd.results108, go_sem, B7resc]) rfl ?_
  have kpE : Kp w _ := (Below.setCell (Below.setCell (Below.setCell (Below.setCell (Below.setCell (Below.setCell (Below.setCell kq6 (p := ⟨w.heap.size + 1 + 1 + 1, 0, none⟩) (by have := ge7res; omega) (.bool b7)) (p := ⟨w.heap.size + 1 + 1 + 1, 1, none⟩) (by have := ge7res; omega) (.slice ao7 n7 c7)) (p := ⟨w.heap.size + 1 + 1 + 1, 2, none⟩) (by have := ge7res; omega) (.bool b8)) (p := ⟨w.heap.size + 1 + 1 + 1, 3, none⟩) (by have := ge7res; omega) (.slice ao8 n8 c8)) (p := ⟨w.heap.size + 1 + 1 + 1, 4, none⟩) (by have := ge7res; omega) (.bool b9)) (p := ⟨w.heap.size + 1 + 1 + 1, 5, none⟩) (by have := ge7res; omega) (.slice ao9 n9 c9)) (p := ⟨w.heap.size + 1 + 1 + 1, 6, none⟩) (by have := ge7res; omega) (.int .i64 d))
  have sfE : Sf 2 w7 _ := (Sf.set (t := 58) (c := w.heap.size + 1 + 1 + 1) (o := 6) (y := .int .i64 d) (Sf.set (t := 58) (c := w.heap.size + 1 + 1 + 1) (o := 5) (y := .slice ao9 n9 c9) (Sf.set (t := 58) (c := w.heap.size + 1 + 1 + 1) (o := 4) (y := .bool b9) (Sf.set (t := 58) (c := w.heap.size + 1 + 1 + 1) (o := 3) (y := .slice ao8 n8 c8) (Sf.set (t := 58) (c := w.heap.size + 1 + 1 + 1) (o := 2) (y := .bool b8) (Sf.set (t := 58) (c := w.heap.size + 1 + 1 + 1) (o := 1) (y := .slice ao7 n7 c7) (Sf.set (t := 58) (c := w.heap.size + 1 + 1 + 1) (o := 0) (y := .bool b7) (Sf.refl 2 w7) (by first | (simp only [elemOf_setCell]; exact B7res.elem) | exact B7res.elem) (by decide)) (by first | (simp only [elemOf_setCell]; exact B7res.elem) | exact B7res.elem) (by decide)) (by first | (simp only [elemOf_setCell]; exact B7res.elem) | exact B7res.elem) (by decide)) (by first | (simp only [elemOf_setCell]; exact B7res.elem) | exact B7res.elem) (by decide)) (by first | (simp only [elemOf_setCell]; exact B7res.elem) | exact B7res.elem) (by decide)) (by first | (simp only [elemOf_setCell]; exact B7res.elem) | exact B7res.elem) (by decide)) (by first | (simp only [elemOf_setCell]; exact B7res.elem) | exact B7res.elem) (by decide))
  exact ⟨_, rfl, (XN.mk3 (a := qreduce p q r d) hp' hq' hr' (by unfold qreduce; simp [HQ.out])).soft sfE, kpE⟩

theorem reduce_any (p q r d : Int) (m : Nat) (u v t : Value) (w : World) (hp : WN w u p) (hq : WN w v q) (hr : WN w t r) (hm : m ≤ 150000000) (fp : Ft m p) (fq : Ft m q) (fr : Ft m r) :
    Calls Tryd.prog 108 #[u, v, t, .int .i64 d] w (RetX w (qreduce p q r d)) := by
  by_cases h1 : r < 0
  · by_cases h2 : q.tdiv (qcom p q r) = 0
    · exact reduce_nz p q r d m u v t w hp hq hr hm fp fq fr h1 h2
    · exact reduce_ns p q r d m u v t w hp hq hr hm fp fq fr h1 h2
  · by_cases h2 : q.tdiv (qcom p q r) = 0
    · exact reduce_pz p q r d m u v t w hp hq hr hm fp fq fr (by omega) h2
    · exact reduce_ps p q r d m u v t w hp hq hr hm fp fq fr (by omega) h2

end Go.Proofs.YtjahbjjekednfaaDoor
