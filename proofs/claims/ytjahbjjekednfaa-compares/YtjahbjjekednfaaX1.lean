import Derived.Test.YtjahbjjekednfaaSt
import Derived.Test.YtjahbjjekednfaaSoft
import Derived.Test.YtjahbjjekednfaaMath
namespace Go.Proofs.Ytjahbjjekednfaa
open Go.RowKit

set_option maxHeartbeats 1600000 in
theorem sumOfProducts_any (x y z t : Int) (m : Nat) (u v u' v' : Value) (w : World) (hx : WN w u x) (hy : WN w v y) (hz : WN w u' z) (ht : WN w v' t) (hm : m ≤ 150000000) (fx : Ft m x) (fy : Ft m y) (fz : Ft m z) (ft : Ft m t) :
  Calls Try.prog 26 #[u, v, u', v'] w (RetW w (x * y + z * t)) := by
 obtain ⟨b1, ao1, n1, c1, rfl⟩ := hx.shape'
 obtain ⟨b2, ao2, n2, c2, rfl⟩ := hy.shape'
 obtain ⟨b3, ao3, n3, c3, rfl⟩ := hz.shape'
 obtain ⟨b4, ao4, n4, c4, rfl⟩ := ht.shape'
 go_enter Try.func26, Try.ntmps26
 go_wp2_with fail
 have kp0 : Kp w _ := (Kp.alloc' (Kp.alloc' (Kp.alloc' (Kp.alloc' (Kp.alloc' (Below.refl w.heap.size w) (.cells #[.bool b1, .slice ao1 n1 c1] 39)) (.cells #[.bool b2, .slice ao2 n2 c2] 39)) (.cells #[.bool b3, .slice ao3 n3 c3] 39)) (.cells #[.bool b4, .slice ao4 n4 c4] 39)) (.cells #[.bool false, .slice none 0 0] 39))
 have sf0 : Sf 2 w _ := (Sf.alloc (Sf.alloc (Sf.alloc (Sf.alloc (Sf.alloc (Sf.refl 2 w) (.cells #[.bool b1, .slice ao1 n1 c1] 39)) (.cells #[.bool b2, .slice ao2 n2 c2] 39)) (.cells #[.bool b3, .slice ao3 n3 c3] 39)) (.cells #[.bool b4, .slice ao4 n4 c4] 39)) (.cells #[.bool false, .slice none 0 0] 39))
 refine (multiply_any x y _ _ _ (hx.soft sf0) (hy.soft sf0) (fx.fit (by omega)) (fy.fit (by omega))).mono ?_
 rintro e w1 ⟨v1, rfl, hv1, hk1⟩
 obtain ⟨b5, ao5, n5, c5, rfl⟩ := hv1.shape'
 have kq0 := kp0.trans' hk1
 have sq0 := sf0.trans (Sf.keep hk1)
 have B1p3 : Blk w1 (w.heap.size + 1 + 1) #[.bool b3, .slice ao3 n3 c3] 39 := Blk.keep hk1 (Blk.at (Blk.alloc (Blk.alloc (Blk.new _ _ _) _) _) (by simp))
 have B1p4 : Blk w1 (w.heap.size + 1 + 1 + 1) #[.bool b4, .slice ao4 n4 c4] 39 := Blk.keep hk1 (Blk.at (Blk.alloc (Blk.new _ _ _) _) (by simp))
 have B1res : Blk w1 (w.heap.size + 1 + 1 + 1 + 1) #[.bool false, .slice none 0 0] 39 := Blk.keep hk1 (Blk.at (Blk.new _ _ _) (by simp))
 obtain ⟨B1p3c, B1p3f, B1p3l⟩ := B1p3.all
 obtain ⟨B1p4c, B1p4f, B1p4l⟩ := B1p4.all
 obtain ⟨B1resc, B1resf, B1resl⟩ := B1res.all
 have ge1res : w.heap.size ≤ w.heap.size + 1 + 1 + 1 + 1 := by (first | omega | (have := kp0.size; simp only [World.size_alloc, size_setCell', size_drew'] at this; omega))
 replace hz := hz.soft sq0
 replace ht := ht.soft sq0
 go_wp2_with fail
 have kp1 : Kp w _ := (Kp.alloc' kq0 (.cells #[.bool b5, .slice ao5 n5 c5] 39))
 have sf1 : Sf 2 w1 _ := (Sf.alloc (Sf.refl 2 w1) (.cells #[.bool b5, .slice ao5 n5 c5] 39))
 refine (multiply_any z t _ _ _ (hz.soft sf1) (ht.soft sf1) (fz.fit (by omega)) (ft.fit (by omega))).mono ?_
 rintro e w2 ⟨v2, rfl, hv2, hk2⟩
 obtain ⟨b6, ao6, n6, c6, rfl⟩ := hv2.shape'
 have kq1 := kp1.trans' hk2
 have sq1 := sf1.trans (Sf.keep hk2)
 have B2res := Blk.keep hk2 (Blk.alloc B1res _)
 have B2first : Blk w2 (w1.heap.size) #[.bool b5, .slice ao5 n5 c5] 39 := Blk.keep hk2 (Blk.at (Blk.new _ _ _) (by simp))
 obtain ⟨B2resc, B2resf, B2resl⟩ := B2res.all
 have ge2res : w.heap.size ≤ w.heap.size + 1 + 1 + 1 + 1 := by (first | omega | (have := kp1.size; simp only [World.size_alloc, size_setCell', size_drew'] at this; omega))
 obtain ⟨B2firstc, B2firstf, B2firstl⟩ := B2first.all
 replace hv1 := hv1.soft sq1
 clear B1p3 B1p3c B1p3f B1p4 B1p4c B1p4f B1res B1resc B1resf
 go_wp2_with fail
 have kp2 : Kp w _ := (Kp.alloc' kq1 (.cells #[.bool b6, .slice ao6 n6 c6] 39))
 have sf2 : Sf 2 w2 _ := (Sf.alloc (Sf.refl 2 w2) (.cells #[.bool b6, .slice ao6 n6 c6] 39))
 refine (add_any (x * y) (z * t) _ _ _ (hv1.soft sf2) (hv2.soft sf2) ((fx.mul fy).fit (by omega)) ((fz.mul ft).fit (by omega))).mono ?_
 rintro e w3 ⟨v3, rfl, hv3, hk3⟩
 obtain ⟨b7, ao7, n7, c7, rfl⟩ := hv3.shape'
 have kq2 := kp2.trans' hk3
 have sq2 := sf2.trans (Sf.keep hk3)
 have B3res := Blk.keep hk3 (Blk.alloc B2res _)
 obtain ⟨B3resc, B3resf, B3resl⟩ := B3res.all
 have ge3res : w.heap.size ≤ w.heap.size + 1 + 1 + 1 + 1 := by (first | omega | (have := kp2.size; simp only [World.size_alloc, size_setCell', size_drew'] at this; omega))
 clear B2res B2resc B2resf B2first B2firstc B2firstf
 go_wp2_with fail
 refine bodyPost_ret (v := .agg #[.bool b7, .slice ao7 n7 c7]) (by simp [results, Try.results26, go_sem, B3resc]) rfl ?_
 have kpE : Kp w _ := (stK2 (A := w.heap.size + 1 + 1 + 1 + 1) (.bool b7) (.slice ao7 n7 c7) kq2 (by have := ge3res; omega))
 have sfE : Sf 2 w3 _ := (stS2 (E := 2) (.bool b7) (.slice ao7 n7 c7) B3res (by decide))
 exact retW_mk hv3 sfE kpE

set_option maxHeartbeats 1600000 in
theorem timesRoot_any (x d : Int) (m : Nat) (u : Value) (w : World) (hx : WN w u x) (hm : m ≤ 150000000) (fx : Ft m x) (h0 : 0 ≤ d) (hd : d ≤ 1000000) :
  Calls Try.prog 104 #[u, .int .i64 d] w (RetW w (x * d)) := by
 obtain ⟨b1, ao1, n1, c1, rfl⟩ := hx.shape'
 go_enter Try.func104, Try.ntmps104
 go_wp2_with fail
 have kp0 : Kp w _ := (Kp.alloc' (Kp.alloc' (Below.refl w.heap.size w) (.cells #[.bool b1, .slice ao1 n1 c1] 39)) (.cells #[.bool false, .slice none 0 0] 39))
 have sf0 : Sf 2 w _ := (Sf.alloc (Sf.alloc (Sf.refl 2 w) (.cells #[.bool b1, .slice ao1 n1 c1] 39)) (.cells #[.bool false, .slice none 0 0] 39))
 refine (fromInt_any d _ h0 (by omega)).mono ?_
 rintro e w1 ⟨v1, rfl, hv1, hk1⟩
 obtain ⟨b2, ao2, n2, c2, rfl⟩ := hv1.shape'
 have kq0 := kp0.trans' hk1
 have sq0 := sf0.trans (Sf.keep hk1)
 have B1p1 : Blk w1 (w.heap.size) #[.bool b1, .slice ao1 n1 c1] 39 := Blk.keep hk1 (Blk.at (Blk.alloc (Blk.new _ _ _) _) (by simp))
 have B1res : Blk w1 (w.heap.size + 1) #[.bool false, .slice none 0 0] 39 := Blk.keep hk1 (Blk.at (Blk.new _ _ _) (by simp))
 obtain ⟨B1p1c, B1p1f, B1p1l⟩ := B1p1.all
 obtain ⟨B1resc, B1resf, B1resl⟩ := B1res.all
 replace hx := hx.soft sq0
 go_wp2_with fail
 have kp1 : Kp w _ := (Kp.alloc' kq0 (.cells #[.bool b2, .slice ao2 n2 c2] 39))
 have sf1 : Sf 2 w1 _ := (Sf.alloc (Sf.refl 2 w1) (.cells #[.bool b2, .slice ao2 n2 c2] 39))
 have fd : Ft 7 d := by unfold Ft; omega
 refine (multiply_any x d _ _ _ (hx.soft sf1) (hv1.soft sf1) (fx.fit (by omega)) (fd.fit (by omega))).mono ?_
 rintro e w2 ⟨v2, rfl, hv2, hk2⟩
 obtain ⟨b3, ao3, n3, c3, rfl⟩ := hv2.shape'
 have kq1 := kp1.trans' hk2
 have sq1 := sf1.trans (Sf.keep hk2)
 have B2res := Blk.keep hk2 (Blk.alloc B1res _)
 obtain ⟨B2resc, B2resf, B2resl⟩ := B2res.all
 have ge2res : w.heap.size ≤ w.heap.size + 1 := by (first | omega | (have := kp1.size; simp only [World.size_alloc, size_setCell', size_drew'] at this; omega))
 clear B1p1 B1p1c B1p1f B1res B1resc B1resf
 go_wp2_with fail
 refine bodyPost_ret (v := .agg #[.bool b3, .slice ao3 n3 c3]) (by simp [results, Try.results104, go_sem, B2resc]) rfl ?_
 have kpE : Kp w _ := (stK2 (A := w.heap.size + 1) (.bool b3) (.slice ao3 n3 c3) kq1 (by have := ge2res; omega))
 have sfE : Sf 2 w2 _ := (stS2 (E := 2) (.bool b3) (.slice ao3 n3 c3) B2res (by decide))
 exact retW_mk hv2 sfE kpE

end Go.Proofs.Ytjahbjjekednfaa

namespace Go.Proofs.Ytjahbjjekednfaa
open Go.RowKit

/-- (p + q√d)/r. -/
structure Qn where
 p : Int
 q : Int
 r : Int
 d : Int

/-- v is the program's number a. -/
def XN (w : World) (v : Value) (a : Qn) : Prop := ∃ b1 ao1 n1 c1 b2 ao2 n2 c2 b3 ao3 n3 c3, v = .agg #[.bool b1, .slice ao1 n1 c1, .bool b2, .slice ao2 n2 c2, .bool b3, .slice ao3 n3 c3, .int .i64 a.d] ∧
 WN w (.agg #[.bool b1, .slice ao1 n1 c1]) a.p ∧ WN w (.agg #[.bool b2, .slice ao2 n2 c2]) a.q ∧ WN w (.agg #[.bool b3, .slice ao3 n3 c3]) a.r
def RetX (w : World) (a : Qn) (e : Ending) (w' : World) : Prop := ∃ v, e = .returned v ∧ XN w' v a ∧ Kp w w'
def RetXE (w : World) (a : Qn) (n : Int) (e : Ending) (w' : World) : Prop := ∃ v, e = .returned (.tuple #[v, .int .i64 n]) ∧ XN w' v a ∧ Kp w w'
theorem XN.soft {w W : World} {v : Value} {a : Qn} (hs : Sf 2 w W) (h : XN w v a) : XN W v a := by
 obtain ⟨b1, ao1, n1, c1, b2, ao2, n2, c2, b3, ao3, n3, c3, h1, h2, h3, h4⟩ := h
 exact ⟨b1, ao1, n1, c1, b2, ao2, n2, c2, b3, ao3, n3, c3, h1, h2.soft hs, h3.soft hs, h4.soft hs⟩
theorem XN.keep {w W : World} {v : Value} {a : Qn} (hk : Kp w W) (h : XN w v a) : XN W v a := h.soft (Sf.keep hk)
theorem XN.mk3 {w : World} {a : Qn} {b1 b2 b3 : Bool} {ao1 ao2 ao3 : Option Addr} {n1 c1 n2 c2 n3 c3 : Nat} {d : Int} (h1 : WN w (.agg #[.bool b1, .slice ao1 n1 c1]) a.p) (h2 : WN w (.agg #[.bool b2, .slice ao2 n2 c2]) a.q) (h3 : WN w (.agg #[.bool b3, .slice ao3 n3 c3]) a.r) (hd : d = a.d) :
  XN w (.agg #[.bool b1, .slice ao1 n1 c1, .bool b2, .slice ao2 n2 c2, .bool b3, .slice ao3 n3 c3, .int .i64 d]) a :=
 ⟨b1, ao1, n1, c1, b2, ao2, n2, c2, b3, ao3, n3, c3, by rw [hd], h1, h2, h3⟩
theorem wn_zero (w : World) : WN w (.agg #[.bool false, .slice none 0 0]) 0 := ⟨none, 0, 0, rfl, rp_none _ _⟩

theorem sign_nn {x : Int} (h : 0 ≤ x) : x.sign ≥ 0 := by
 rcases Int.lt_or_eq_of_le h with h1 | h1
 ·rw [Int.sign_eq_one_of_pos h1]; decide
 ·rw [← h1]; decide

/-- The signed common divisor. -/
def qcom (p q r : Int) : Int := if r < 0 then -(Int.gcd (Int.gcd r p) q : Int) else (Int.gcd (Int.gcd r p) q : Int)
def qreduce (p q r d : Int) : Qn := ⟨p.tdiv (qcom p q r), q.tdiv (qcom p q r), r.tdiv (qcom p q r), if q.tdiv (qcom p q r) = 0 then 1 else d⟩

theorem Ft.gcd {m : Nat} {x y : Int} (hx : Ft m x) (hy : Ft m y) : Ft m (Int.gcd x y : Int) := by
 by_cases h : x = 0
 ·subst h
  unfold Ft at *
  simpa using hy
 ·refine hx.le ?_
  have := Nat.gcd_le_left (m := x.natAbs) y.natAbs (by omega)
  simpa [Int.gcd] using this
theorem Ft.com {m : Nat} {p q r : Int} (hp : Ft m p) (hq : Ft m q) (hr : Ft m r) : Ft m (qcom p q r) := by
 unfold qcom
 split
 ·exact ((hr.gcd hp).gcd hq).neg
 ·exact (hr.gcd hp).gcd hq

set_option maxHeartbeats 3200000 in
theorem reduce_nz (p q r d : Int) (m : Nat) (u v t : Value) (w : World) (hp : WN w u p) (hq : WN w v q) (hr : WN w t r) (hm : m ≤ 150000000) (fp : Ft m p) (fq : Ft m q) (fr : Ft m r) (h1 : r < 0) (h2 : q.tdiv (qcom p q r) = 0) :
  Calls Try.prog 103 #[u, v, t, .int .i64 d] w (RetX w (qreduce p q r d)) := by
 obtain ⟨b1, ao1, n1, c1, rfl⟩ := hp.shape'
 obtain ⟨b2, ao2, n2, c2, rfl⟩ := hq.shape'
 obtain ⟨b3, ao3, n3, c3, rfl⟩ := hr.shape'
 have HC := Hid.mk (fp.com fq fr)
 have HG : Hid (qcom p q r = -(Int.gcd (Int.gcd r p) q : Int)) := by unfold Hid qcom; rw [if_pos h1]
 have HS : Hid (r.sign = -1) := by unfold Hid; rw [Int.sign_eq_neg_one_of_neg h1]
 have HQ := Hid.mk h2
 clear h1 h2
 go_enter Try.func103, Try.ntmps103
 go_wp2_with fail
 have kp0 : Kp w _ := (Kp.alloc' (Kp.alloc' (Kp.alloc' (Kp.alloc' (Below.refl w.heap.size w) (.cells #[.bool b1, .slice ao1 n1 c1] 39)) (.cells #[.bool b2, .slice ao2 n2 c2] 39)) (.cells #[.bool b3, .slice ao3 n3 c3] 39)) (.cells #[.bool false, .slice none 0 0, .bool false, .slice none 0 0, .bool false, .slice none 0 0, .int .i64 0] 41))
 have sf0 : Sf 2 w _ := (Sf.alloc (Sf.alloc (Sf.alloc (Sf.alloc (Sf.refl 2 w) (.cells #[.bool b1, .slice ao1 n1 c1] 39)) (.cells #[.bool b2, .slice ao2 n2 c2] 39)) (.cells #[.bool b3, .slice ao3 n3 c3] 39)) (.cells #[.bool false, .slice none 0 0, .bool false, .slice none 0 0, .bool false, .slice none 0 0, .int .i64 0] 41))
 refine (divisor_any r p m _ _ _ (hr.soft sf0) (hp.soft sf0) (by omega) fr fp).mono ?_
 rintro e w1 ⟨v1, rfl, hg, hk1⟩
 obtain ⟨b4, ao4, n4, c4, rfl⟩ := hg.shape'
 have kq0 := kp0.trans' hk1
 have sq0 := sf0.trans (Sf.keep hk1)
 have B1p1 : Blk w1 (w.heap.size) #[.bool b1, .slice ao1 n1 c1] 39 := Blk.keep hk1 (Blk.at (Blk.alloc (Blk.alloc (Blk.alloc (Blk.new _ _ _) _) _) _) (by simp))
 have B1p2 : Blk w1 (w.heap.size + 1) #[.bool b2, .slice ao2 n2 c2] 39 := Blk.keep hk1 (Blk.at (Blk.alloc (Blk.alloc (Blk.new _ _ _) _) _) (by simp))
 have B1p3 : Blk w1 (w.heap.size + 1 + 1) #[.bool b3, .slice ao3 n3 c3] 39 := Blk.keep hk1 (Blk.at (Blk.alloc (Blk.new _ _ _) _) (by simp))
 have B1res : Blk w1 (w.heap.size + 1 + 1 + 1) #[.bool false, .slice none 0 0, .bool false, .slice none 0 0, .bool false, .slice none 0 0, .int .i64 0] 41 := Blk.keep hk1 (Blk.at (Blk.new _ _ _) (by simp))
 obtain ⟨B1p1c, B1p1f, B1p1l⟩ := B1p1.all
 have ge1p1 : w.heap.size ≤ w.heap.size := by (first | omega | (have := kp0.size; simp only [World.size_alloc, size_setCell', size_drew'] at this; omega))
 obtain ⟨B1p2c, B1p2f, B1p2l⟩ := B1p2.all
 have ge1p2 : w.heap.size ≤ w.heap.size + 1 := by (first | omega | (have := kp0.size; simp only [World.size_alloc, size_setCell', size_drew'] at this; omega))
 obtain ⟨B1p3c, B1p3f, B1p3l⟩ := B1p3.all
 have ge1p3 : w.heap.size ≤ w.heap.size + 1 + 1 := by (first | omega | (have := kp0.size; simp only [World.size_alloc, size_setCell', size_drew'] at this; omega))
 obtain ⟨B1resc, B1resf, B1resl⟩ := B1res.all
 have ge1res : w.heap.size ≤ w.heap.size + 1 + 1 + 1 := by (first | omega | (have := kp0.size; simp only [World.size_alloc, size_setCell', size_drew'] at this; omega))
 replace hp := hp.soft sq0
 replace hq := hq.soft sq0
 replace hr := hr.soft sq0
 go_wp2_with fail
 have kp1 : Kp w _ := (Kp.alloc' kq0 (.cells #[.bool b4, .slice ao4 n4 c4] 39))
 have sf1 : Sf 2 w1 _ := (Sf.alloc (Sf.refl 2 w1) (.cells #[.bool b4, .slice ao4 n4 c4] 39))
 refine (divisor_any (Int.gcd r p) q m _ _ _ (hg.soft sf1) (hq.soft sf1) (by omega) (fr.gcd fp) fq).mono ?_
 rintro e w2 ⟨v2, rfl, hc, hk2⟩
 obtain ⟨b5, ao5, n5, c5, rfl⟩ := hc.shape'
 have kq1 := kp1.trans' hk2
 have sq1 := sf1.trans (Sf.keep hk2)
 have B2p1 := Blk.keep hk2 (Blk.alloc B1p1 _)
 have B2p2 := Blk.keep hk2 (Blk.alloc B1p2 _)
 have B2p3 := Blk.keep hk2 (Blk.alloc B1p3 _)
 have B2res := Blk.keep hk2 (Blk.alloc B1res _)
 have B2com : Blk w2 (w1.heap.size) #[.bool b4, .slice ao4 n4 c4] 39 := Blk.keep hk2 (Blk.at (Blk.new _ _ _) (by simp))
 obtain ⟨B2p1c, B2p1f, B2p1l⟩ := B2p1.all
 have ge2p1 : w.heap.size ≤ w.heap.size := by (first | omega | (have := kp1.size; simp only [World.size_alloc, size_setCell', size_drew'] at this; omega))
 obtain ⟨B2p2c, B2p2f, B2p2l⟩ := B2p2.all
 have ge2p2 : w.heap.size ≤ w.heap.size + 1 := by (first | omega | (have := kp1.size; simp only [World.size_alloc, size_setCell', size_drew'] at this; omega))
 obtain ⟨B2p3c, B2p3f, B2p3l⟩ := B2p3.all
 have ge2p3 : w.heap.size ≤ w.heap.size + 1 + 1 := by (first | omega | (have := kp1.size; simp only [World.size_alloc, size_setCell', size_drew'] at this; omega))
 obtain ⟨B2resc, B2resf, B2resl⟩ := B2res.all
 have ge2res : w.heap.size ≤ w.heap.size + 1 + 1 + 1 := by (first | omega | (have := kp1.size; simp only [World.size_alloc, size_setCell', size_drew'] at this; omega))
 obtain ⟨B2comc, B2comf, B2coml⟩ := B2com.all
 have ge2com : w.heap.size ≤ w1.heap.size := by (first | omega | (have := kp1.size; simp only [World.size_alloc, size_setCell', size_drew'] at this; omega))
 replace hp := hp.soft sq1
 replace hq := hq.soft sq1
 replace hr := hr.soft sq1
 clear B1p1 B1p1c B1p1f B1p2 B1p2c B1p2f B1p3 B1p3c B1p3f B1res B1resc B1resf
 go_wp2_with fail
 have kp2 : Kp w _ := (stK2 (A := w1.heap.size) (.bool b5) (.slice ao5 n5 c5) kq1 (by have := ge2com; omega))
 have sf2 : Sf 2 w2 _ := (stS2 (E := 2) (.bool b5) (.slice ao5 n5 c5) B2com (by decide))
 refine (sign_any r _ _ (hr.soft sf2)).mono ?_
 rintro e w3 ⟨rfl, hk3⟩
 rw [HS.out]
 have kq2 := kp2.trans' hk3
 have sq2 := sf2.trans (Sf.keep hk3)
 have B3p1 := Blk.keep hk3 (Blk.other (Blk.other B2p1 (by omega)) (by omega))
 have B3p2 := Blk.keep hk3 (Blk.other (Blk.other B2p2 (by omega)) (by omega))
 have B3p3 := Blk.keep hk3 (Blk.other (Blk.other B2p3 (by omega)) (by omega))
 have B3res := Blk.keep hk3 (Blk.other (Blk.other B2res (by omega)) (by omega))
 have B3com : Blk w3 (w1.heap.size) #[.bool b5, .slice ao5 n5 c5] 39 := Blk.keep hk3 (Blk.set (Blk.set B2com))
 obtain ⟨B3p1c, B3p1f, B3p1l⟩ := B3p1.all
 have ge3p1 : w.heap.size ≤ w.heap.size := by (first | omega | (have := kp2.size; simp only [World.size_alloc, size_setCell', size_drew'] at this; omega))
 obtain ⟨B3p2c, B3p2f, B3p2l⟩ := B3p2.all
 have ge3p2 : w.heap.size ≤ w.heap.size + 1 := by (first | omega | (have := kp2.size; simp only [World.size_alloc, size_setCell', size_drew'] at this; omega))
 obtain ⟨B3p3c, B3p3f, B3p3l⟩ := B3p3.all
 have ge3p3 : w.heap.size ≤ w.heap.size + 1 + 1 := by (first | omega | (have := kp2.size; simp only [World.size_alloc, size_setCell', size_drew'] at this; omega))
 obtain ⟨B3resc, B3resf, B3resl⟩ := B3res.all
 have ge3res : w.heap.size ≤ w.heap.size + 1 + 1 + 1 := by (first | omega | (have := kp2.size; simp only [World.size_alloc, size_setCell', size_drew'] at this; omega))
 obtain ⟨B3comc, B3comf, B3coml⟩ := B3com.all
 have ge3com : w.heap.size ≤ w1.heap.size := by (first | omega | (have := kp2.size; simp only [World.size_alloc, size_setCell', size_drew'] at this; omega))
 replace hp := hp.soft sq2
 replace hq := hq.soft sq2
 replace hr := hr.soft sq2
 replace hc := hc.soft sq2
 clear B2p1 B2p1c B2p1f B2p2 B2p2c B2p2f B2p3 B2p3c B2p3f B2res B2resc B2resf B2com B2comc B2comf
 go_wp2_with fail
 have kp3 : Kp w _ := kq2
 have sf3 : Sf 2 w3 _ := (Sf.refl 2 w3)
 refine (negate_any _ _ _ (hc.soft sf3) (((fr.gcd fp).gcd fq).fit (by omega))).mono ?_
 rintro e w4 ⟨v4, rfl, hc', hk4⟩
 obtain ⟨b6, ao6, n6, c6, rfl⟩ := hc'.shape'
 rw [← HG.out] at hc'
 have kq3 := kp3.trans' hk4
 have sq3 := sf3.trans (Sf.keep hk4)
 have B4p1 := Blk.keep hk4 B3p1
 have B4p2 := Blk.keep hk4 B3p2
 have B4p3 := Blk.keep hk4 B3p3
 have B4res := Blk.keep hk4 B3res
 have B4com := Blk.keep hk4 B3com
 obtain ⟨B4p1c, B4p1f, B4p1l⟩ := B4p1.all
 have ge4p1 : w.heap.size ≤ w.heap.size := by (first | omega | (have := kp3.size; simp only [World.size_alloc, size_setCell', size_drew'] at this; omega))
 obtain ⟨B4p2c, B4p2f, B4p2l⟩ := B4p2.all
 have ge4p2 : w.heap.size ≤ w.heap.size + 1 := by (first | omega | (have := kp3.size; simp only [World.size_alloc, size_setCell', size_drew'] at this; omega))
 obtain ⟨B4p3c, B4p3f, B4p3l⟩ := B4p3.all
 have ge4p3 : w.heap.size ≤ w.heap.size + 1 + 1 := by (first | omega | (have := kp3.size; simp only [World.size_alloc, size_setCell', size_drew'] at this; omega))
 obtain ⟨B4resc, B4resf, B4resl⟩ := B4res.all
 have ge4res : w.heap.size ≤ w.heap.size + 1 + 1 + 1 := by (first | omega | (have := kp3.size; simp only [World.size_alloc, size_setCell', size_drew'] at this; omega))
 obtain ⟨B4comc, B4comf, B4coml⟩ := B4com.all
 have ge4com : w.heap.size ≤ w1.heap.size := by (first | omega | (have := kp3.size; simp only [World.size_alloc, size_setCell', size_drew'] at this; omega))
 replace hp := hp.soft sq3
 replace hq := hq.soft sq3
 replace hr := hr.soft sq3
 clear B3p1 B3p1c B3p1f B3p2 B3p2c B3p2f B3p3 B3p3c B3p3f B3res B3resc B3resf B3com B3comc B3comf
 go_wp2_with fail
 have kp4 : Kp w _ := (stK2 (A := w1.heap.size) (.bool b6) (.slice ao6 n6 c6) kq3 (by have := ge4com; omega))
 have sf4 : Sf 2 w4 _ := (stS2 (E := 2) (.bool b6) (.slice ao6 n6 c6) B4com (by decide))
 refine (divide_any p (qcom p q r) m _ _ _ (hp.soft sf4) (hc'.soft sf4) (by omega) fp HC.out).mono ?_
 rintro e w5 ⟨u5, v5, rfl, hp', hx5, hk5⟩
 obtain ⟨b7, ao7, n7, c7, rfl⟩ := hp'.shape'
 obtain ⟨b20, ao20, n20, c20, rfl⟩ := hx5.shape'
 clear hx5
 have kq4 := kp4.trans' hk5
 have sq4 := sf4.trans (Sf.keep hk5)
 have B5p1 := Blk.keep hk5 (Blk.other (Blk.other B4p1 (by omega)) (by omega))
 have B5p2 := Blk.keep hk5 (Blk.other (Blk.other B4p2 (by omega)) (by omega))
 have B5p3 := Blk.keep hk5 (Blk.other (Blk.other B4p3 (by omega)) (by omega))
 have B5res := Blk.keep hk5 (Blk.other (Blk.other B4res (by omega)) (by omega))
 have B5com : Blk w5 (w1.heap.size) #[.bool b6, .slice ao6 n6 c6] 39 := Blk.keep hk5 (Blk.set (Blk.set B4com))
 obtain ⟨B5p1c, B5p1f, B5p1l⟩ := B5p1.all
 have ge5p1 : w.heap.size ≤ w.heap.size := by (first | omega | (have := kp4.size; simp only [World.size_alloc, size_setCell', size_drew'] at this; omega))
 obtain ⟨B5p2c, B5p2f, B5p2l⟩ := B5p2.all
 have ge5p2 : w.heap.size ≤ w.heap.size + 1 := by (first | omega | (have := kp4.size; simp only [World.size_alloc, size_setCell', size_drew'] at this; omega))
 obtain ⟨B5p3c, B5p3f, B5p3l⟩ := B5p3.all
 have ge5p3 : w.heap.size ≤ w.heap.size + 1 + 1 := by (first | omega | (have := kp4.size; simp only [World.size_alloc, size_setCell', size_drew'] at this; omega))
 obtain ⟨B5resc, B5resf, B5resl⟩ := B5res.all
 have ge5res : w.heap.size ≤ w.heap.size + 1 + 1 + 1 := by (first | omega | (have := kp4.size; simp only [World.size_alloc, size_setCell', size_drew'] at this; omega))
 obtain ⟨B5comc, B5comf, B5coml⟩ := B5com.all
 have ge5com : w.heap.size ≤ w1.heap.size := by (first | omega | (have := kp4.size; simp only [World.size_alloc, size_setCell', size_drew'] at this; omega))
 replace hq := hq.soft sq4
 replace hr := hr.soft sq4
 replace hc' := hc'.soft sq4
 clear B4p1 B4p1c B4p1f B4p2 B4p2c B4p2f B4p3 B4p3c B4p3f B4res B4resc B4resf B4com B4comc B4comf
 go_wp2_with fail
 have kp5 : Kp w _ := (stK2 (A := w.heap.size) (.bool b7) (.slice ao7 n7 c7) kq4 (by have := ge5p1; omega))
 have sf5 : Sf 2 w5 _ := (stS2 (E := 2) (.bool b7) (.slice ao7 n7 c7) B5p1 (by decide))
 refine (divide_any q (qcom p q r) m _ _ _ (hq.soft sf5) (hc'.soft sf5) (by omega) fq HC.out).mono ?_
 rintro e w6 ⟨u6, v6, rfl, hq', hx6, hk6⟩
 obtain ⟨b8, ao8, n8, c8, rfl⟩ := hq'.shape'
 obtain ⟨b21, ao21, n21, c21, rfl⟩ := hx6.shape'
 clear hx6
 have kq5 := kp5.trans' hk6
 have sq5 := sf5.trans (Sf.keep hk6)
 have B6p1 : Blk w6 (w.heap.size) #[.bool b7, .slice ao7 n7 c7] 39 := Blk.keep hk6 (Blk.set (Blk.set B5p1))
 have B6p2 := Blk.keep hk6 (Blk.other (Blk.other B5p2 (by omega)) (by omega))
 have B6p3 := Blk.keep hk6 (Blk.other (Blk.other B5p3 (by omega)) (by omega))
 have B6res := Blk.keep hk6 (Blk.other (Blk.other B5res (by omega)) (by omega))
 have B6com := Blk.keep hk6 (Blk.other (Blk.other B5com (by omega)) (by omega))
 obtain ⟨B6p1c, B6p1f, B6p1l⟩ := B6p1.all
 have ge6p1 : w.heap.size ≤ w.heap.size := by (first | omega | (have := kp5.size; simp only [World.size_alloc, size_setCell', size_drew'] at this; omega))
 obtain ⟨B6p2c, B6p2f, B6p2l⟩ := B6p2.all
 have ge6p2 : w.heap.size ≤ w.heap.size + 1 := by (first | omega | (have := kp5.size; simp only [World.size_alloc, size_setCell', size_drew'] at this; omega))
 obtain ⟨B6p3c, B6p3f, B6p3l⟩ := B6p3.all
 have ge6p3 : w.heap.size ≤ w.heap.size + 1 + 1 := by (first | omega | (have := kp5.size; simp only [World.size_alloc, size_setCell', size_drew'] at this; omega))
 obtain ⟨B6resc, B6resf, B6resl⟩ := B6res.all
 have ge6res : w.heap.size ≤ w.heap.size + 1 + 1 + 1 := by (first | omega | (have := kp5.size; simp only [World.size_alloc, size_setCell', size_drew'] at this; omega))
 obtain ⟨B6comc, B6comf, B6coml⟩ := B6com.all
 replace hr := hr.soft sq5
 replace hc' := hc'.soft sq5
 replace hp' := hp'.soft sq5
 clear B5p1 B5p1c B5p1f B5p2 B5p2c B5p2f B5p3 B5p3c B5p3f B5res B5resc B5resf B5com B5comc B5comf
 go_wp2_with fail
 have kp6 : Kp w _ := (stK2 (A := w.heap.size + 1) (.bool b8) (.slice ao8 n8 c8) kq5 (by have := ge6p2; omega))
 have sf6 : Sf 2 w6 _ := (stS2 (E := 2) (.bool b8) (.slice ao8 n8 c8) B6p2 (by decide))
 refine (divide_any r (qcom p q r) m _ _ _ (hr.soft sf6) (hc'.soft sf6) (by omega) fr HC.out).mono ?_
 rintro e w7 ⟨u7, v7, rfl, hr', hx7, hk7⟩
 obtain ⟨b9, ao9, n9, c9, rfl⟩ := hr'.shape'
 obtain ⟨b22, ao22, n22, c22, rfl⟩ := hx7.shape'
 clear hx7
 have kq6 := kp6.trans' hk7
 have sq6 := sf6.trans (Sf.keep hk7)
 have B7p1 := Blk.keep hk7 (Blk.other (Blk.other B6p1 (by omega)) (by omega))
 have B7p2 : Blk w7 (w.heap.size + 1) #[.bool b8, .slice ao8 n8 c8] 39 := Blk.keep hk7 (Blk.set (Blk.set B6p2))
 have B7p3 := Blk.keep hk7 (Blk.other (Blk.other B6p3 (by omega)) (by omega))
 have B7res := Blk.keep hk7 (Blk.other (Blk.other B6res (by omega)) (by omega))
 obtain ⟨B7p1c, B7p1f, B7p1l⟩ := B7p1.all
 have ge7p1 : w.heap.size ≤ w.heap.size := by (first | omega | (have := kp6.size; simp only [World.size_alloc, size_setCell', size_drew'] at this; omega))
 obtain ⟨B7p2c, B7p2f, B7p2l⟩ := B7p2.all
 have ge7p2 : w.heap.size ≤ w.heap.size + 1 := by (first | omega | (have := kp6.size; simp only [World.size_alloc, size_setCell', size_drew'] at this; omega))
 obtain ⟨B7p3c, B7p3f, B7p3l⟩ := B7p3.all
 have ge7p3 : w.heap.size ≤ w.heap.size + 1 + 1 := by (first | omega | (have := kp6.size; simp only [World.size_alloc, size_setCell', size_drew'] at this; omega))
 obtain ⟨B7resc, B7resf, B7resl⟩ := B7res.all
 have ge7res : w.heap.size ≤ w.heap.size + 1 + 1 + 1 := by (first | omega | (have := kp6.size; simp only [World.size_alloc, size_setCell', size_drew'] at this; omega))
 replace hp' := hp'.soft sq6
 replace hq' := hq'.soft sq6
 clear B6p1 B6p1c B6p1f B6p2 B6p2c B6p2f B6p3 B6p3c B6p3f B6res B6resc B6resf B6com B6comc B6comf
 go_wp2_with fail
 have kp7 : Kp w _ := (stK2 (A := w.heap.size + 1 + 1) (.bool b9) (.slice ao9 n9 c9) kq6 (by have := ge7p3; omega))
 have sf7 : Sf 2 w7 _ := (stS2 (E := 2) (.bool b9) (.slice ao9 n9 c9) B7p3 (by decide))
 refine (sign_any (q.tdiv (qcom p q r)) _ _ (hq'.soft sf7)).mono ?_
 rintro e w8 ⟨rfl, hk8⟩
 rw [HQ.out, Int.sign_zero]
 have kq7 := kp7.trans' hk8
 have sq7 := sf7.trans (Sf.keep hk8)
 have B8p1 := Blk.keep hk8 (Blk.other (Blk.other B7p1 (by omega)) (by omega))
 have B8p2 := Blk.keep hk8 (Blk.other (Blk.other B7p2 (by omega)) (by omega))
 have B8p3 : Blk w8 (w.heap.size + 1 + 1) #[.bool b9, .slice ao9 n9 c9] 39 := Blk.keep hk8 (Blk.set (Blk.set B7p3))
 have B8res := Blk.keep hk8 (Blk.other (Blk.other B7res (by omega)) (by omega))
 obtain ⟨B8p1c, B8p1f, B8p1l⟩ := B8p1.all
 obtain ⟨B8p2c, B8p2f, B8p2l⟩ := B8p2.all
 obtain ⟨B8p3c, B8p3f, B8p3l⟩ := B8p3.all
 obtain ⟨B8resc, B8resf, B8resl⟩ := B8res.all
 have ge8res : w.heap.size ≤ w.heap.size + 1 + 1 + 1 := by (first | omega | (have := kp7.size; simp only [World.size_alloc, size_setCell', size_drew'] at this; omega))
 replace hp' := hp'.soft sq7
 replace hq' := hq'.soft sq7
 replace hr' := hr'.soft sq7
 clear B7p1 B7p1c B7p1f B7p2 B7p2c B7p2f B7p3 B7p3c B7p3f B7res B7resc B7resf
 go_wp2_with fail
 refine bodyPost_ret (v := .agg #[.bool b7, .slice ao7 n7 c7, .bool b8, .slice ao8 n8 c8, .bool b9, .slice ao9 n9 c9, .int .i64 1]) (by simp [results, Try.results103, go_sem, B8resc]) rfl ?_
 have kpE : Kp w _ := (stK7 (A := w.heap.size + 1 + 1 + 1) (.bool b7) (.slice ao7 n7 c7) (.bool b8) (.slice ao8 n8 c8) (.bool b9) (.slice ao9 n9 c9) (.int .i64 1) kq7 (by have := ge8res; omega))
 have sfE : Sf 2 w8 _ := (stS7 (E := 2) (.bool b7) (.slice ao7 n7 c7) (.bool b8) (.slice ao8 n8 c8) (.bool b9) (.slice ao9 n9 c9) (.int .i64 1) B8res (by decide))
 exact ⟨_, rfl, (XN.mk3 (a := qreduce p q r d) hp' hq' hr' (by unfold qreduce; simp [HQ.out])).soft sfE, kpE⟩

set_option maxHeartbeats 3200000 in
theorem reduce_ns (p q r d : Int) (m : Nat) (u v t : Value) (w : World) (hp : WN w u p) (hq : WN w v q) (hr : WN w t r) (hm : m ≤ 150000000) (fp : Ft m p) (fq : Ft m q) (fr : Ft m r) (h1 : r < 0) (h2 : q.tdiv (qcom p q r) ≠ 0) :
  Calls Try.prog 103 #[u, v, t, .int .i64 d] w (RetX w (qreduce p q r d)) := by
 obtain ⟨b1, ao1, n1, c1, rfl⟩ := hp.shape'
 obtain ⟨b2, ao2, n2, c2, rfl⟩ := hq.shape'
 obtain ⟨b3, ao3, n3, c3, rfl⟩ := hr.shape'
 have HC := Hid.mk (fp.com fq fr)
 have HG : Hid (qcom p q r = -(Int.gcd (Int.gcd r p) q : Int)) := by unfold Hid qcom; rw [if_pos h1]
 have HS : Hid (r.sign = -1) := by unfold Hid; rw [Int.sign_eq_neg_one_of_neg h1]
 have HQ := Hid.mk h2
 clear h1 h2
 go_enter Try.func103, Try.ntmps103
 go_wp2_with fail
 have kp0 : Kp w _ := (Kp.alloc' (Kp.alloc' (Kp.alloc' (Kp.alloc' (Below.refl w.heap.size w) (.cells #[.bool b1, .slice ao1 n1 c1] 39)) (.cells #[.bool b2, .slice ao2 n2 c2] 39)) (.cells #[.bool b3, .slice ao3 n3 c3] 39)) (.cells #[.bool false, .slice none 0 0, .bool false, .slice none 0 0, .bool false, .slice none 0 0, .int .i64 0] 41))
 have sf0 : Sf 2 w _ := (Sf.alloc (Sf.alloc (Sf.alloc (Sf.alloc (Sf.refl 2 w) (.cells #[.bool b1, .slice ao1 n1 c1] 39)) (.cells #[.bool b2, .slice ao2 n2 c2] 39)) (.cells #[.bool b3, .slice ao3 n3 c3] 39)) (.cells #[.bool false, .slice none 0 0, .bool false, .slice none 0 0, .bool false, .slice none 0 0, .int .i64 0] 41))
 refine (divisor_any r p m _ _ _ (hr.soft sf0) (hp.soft sf0) (by omega) fr fp).mono ?_
 rintro e w1 ⟨v1, rfl, hg, hk1⟩
 obtain ⟨b4, ao4, n4, c4, rfl⟩ := hg.shape'
 have kq0 := kp0.trans' hk1
 have sq0 := sf0.trans (Sf.keep hk1)
 have B1p1 : Blk w1 (w.heap.size) #[.bool b1, .slice ao1 n1 c1] 39 := Blk.keep hk1 (Blk.at (Blk.alloc (Blk.alloc (Blk.alloc (Blk.new _ _ _) _) _) _) (by simp))
 have B1p2 : Blk w1 (w.heap.size + 1) #[.bool b2, .slice ao2 n2 c2] 39 := Blk.keep hk1 (Blk.at (Blk.alloc (Blk.alloc (Blk.new _ _ _) _) _) (by simp))
 have B1p3 : Blk w1 (w.heap.size + 1 + 1) #[.bool b3, .slice ao3 n3 c3] 39 := Blk.keep hk1 (Blk.at (Blk.alloc (Blk.new _ _ _) _) (by simp))
 have B1res : Blk w1 (w.heap.size + 1 + 1 + 1) #[.bool false, .slice none 0 0, .bool false, .slice none 0 0, .bool false, .slice none 0 0, .int .i64 0] 41 := Blk.keep hk1 (Blk.at (Blk.new _ _ _) (by simp))
 obtain ⟨B1p1c, B1p1f, B1p1l⟩ := B1p1.all
 have ge1p1 : w.heap.size ≤ w.heap.size := by (first | omega | (have := kp0.size; simp only [World.size_alloc, size_setCell', size_drew'] at this; omega))
 obtain ⟨B1p2c, B1p2f, B1p2l⟩ := B1p2.all
 have ge1p2 : w.heap.size ≤ w.heap.size + 1 := by (first | omega | (have := kp0.size; simp only [World.size_alloc, size_setCell', size_drew'] at this; omega))
 obtain ⟨B1p3c, B1p3f, B1p3l⟩ := B1p3.all
 have ge1p3 : w.heap.size ≤ w.heap.size + 1 + 1 := by (first | omega | (have := kp0.size; simp only [World.size_alloc, size_setCell', size_drew'] at this; omega))
 obtain ⟨B1resc, B1resf, B1resl⟩ := B1res.all
 have ge1res : w.heap.size ≤ w.heap.size + 1 + 1 + 1 := by (first | omega | (have := kp0.size; simp only [World.size_alloc, size_setCell', size_drew'] at this; omega))
 replace hp := hp.soft sq0
 replace hq := hq.soft sq0
 replace hr := hr.soft sq0
 go_wp2_with fail
 have kp1 : Kp w _ := (Kp.alloc' kq0 (.cells #[.bool b4, .slice ao4 n4 c4] 39))
 have sf1 : Sf 2 w1 _ := (Sf.alloc (Sf.refl 2 w1) (.cells #[.bool b4, .slice ao4 n4 c4] 39))
 refine (divisor_any (Int.gcd r p) q m _ _ _ (hg.soft sf1) (hq.soft sf1) (by omega) (fr.gcd fp) fq).mono ?_
 rintro e w2 ⟨v2, rfl, hc, hk2⟩
 obtain ⟨b5, ao5, n5, c5, rfl⟩ := hc.shape'
 have kq1 := kp1.trans' hk2
 have sq1 := sf1.trans (Sf.keep hk2)
 have B2p1 := Blk.keep hk2 (Blk.alloc B1p1 _)
 have B2p2 := Blk.keep hk2 (Blk.alloc B1p2 _)
 have B2p3 := Blk.keep hk2 (Blk.alloc B1p3 _)
 have B2res := Blk.keep hk2 (Blk.alloc B1res _)
 have B2com : Blk w2 (w1.heap.size) #[.bool b4, .slice ao4 n4 c4] 39 := Blk.keep hk2 (Blk.at (Blk.new _ _ _) (by simp))
 obtain ⟨B2p1c, B2p1f, B2p1l⟩ := B2p1.all
 have ge2p1 : w.heap.size ≤ w.heap.size := by (first | omega | (have := kp1.size; simp only [World.size_alloc, size_setCell', size_drew'] at this; omega))
 obtain ⟨B2p2c, B2p2f, B2p2l⟩ := B2p2.all
 have ge2p2 : w.heap.size ≤ w.heap.size + 1 := by (first | omega | (have := kp1.size; simp only [World.size_alloc, size_setCell', size_drew'] at this; omega))
 obtain ⟨B2p3c, B2p3f, B2p3l⟩ := B2p3.all
 have ge2p3 : w.heap.size ≤ w.heap.size + 1 + 1 := by (first | omega | (have := kp1.size; simp only [World.size_alloc, size_setCell', size_drew'] at this; omega))
 obtain ⟨B2resc, B2resf, B2resl⟩ := B2res.all
 have ge2res : w.heap.size ≤ w.heap.size + 1 + 1 + 1 := by (first | omega | (have := kp1.size; simp only [World.size_alloc, size_setCell', size_drew'] at this; omega))
 obtain ⟨B2comc, B2comf, B2coml⟩ := B2com.all
 have ge2com : w.heap.size ≤ w1.heap.size := by (first | omega | (have := kp1.size; simp only [World.size_alloc, size_setCell', size_drew'] at this; omega))
 replace hp := hp.soft sq1
 replace hq := hq.soft sq1
 replace hr := hr.soft sq1
 clear B1p1 B1p1c B1p1f B1p2 B1p2c B1p2f B1p3 B1p3c B1p3f B1res B1resc B1resf
 go_wp2_with fail
 have kp2 : Kp w _ := (stK2 (A := w1.heap.size) (.bool b5) (.slice ao5 n5 c5) kq1 (by have := ge2com; omega))
 have sf2 : Sf 2 w2 _ := (stS2 (E := 2) (.bool b5) (.slice ao5 n5 c5) B2com (by decide))
 refine (sign_any r _ _ (hr.soft sf2)).mono ?_
 rintro e w3 ⟨rfl, hk3⟩
 rw [HS.out]
 have kq2 := kp2.trans' hk3
 have sq2 := sf2.trans (Sf.keep hk3)
 have B3p1 := Blk.keep hk3 (Blk.other (Blk.other B2p1 (by omega)) (by omega))
 have B3p2 := Blk.keep hk3 (Blk.other (Blk.other B2p2 (by omega)) (by omega))
 have B3p3 := Blk.keep hk3 (Blk.other (Blk.other B2p3 (by omega)) (by omega))
 have B3res := Blk.keep hk3 (Blk.other (Blk.other B2res (by omega)) (by omega))
 have B3com : Blk w3 (w1.heap.size) #[.bool b5, .slice ao5 n5 c5] 39 := Blk.keep hk3 (Blk.set (Blk.set B2com))
 obtain ⟨B3p1c, B3p1f, B3p1l⟩ := B3p1.all
 have ge3p1 : w.heap.size ≤ w.heap.size := by (first | omega | (have := kp2.size; simp only [World.size_alloc, size_setCell', size_drew'] at this; omega))
 obtain ⟨B3p2c, B3p2f, B3p2l⟩ := B3p2.all
 have ge3p2 : w.heap.size ≤ w.heap.size + 1 := by (first | omega | (have := kp2.size; simp only [World.size_alloc, size_setCell', size_drew'] at this; omega))
 obtain ⟨B3p3c, B3p3f, B3p3l⟩ := B3p3.all
 have ge3p3 : w.heap.size ≤ w.heap.size + 1 + 1 := by (first | omega | (have := kp2.size; simp only [World.size_alloc, size_setCell', size_drew'] at this; omega))
 obtain ⟨B3resc, B3resf, B3resl⟩ := B3res.all
 have ge3res : w.heap.size ≤ w.heap.size + 1 + 1 + 1 := by (first | omega | (have := kp2.size; simp only [World.size_alloc, size_setCell', size_drew'] at this; omega))
 obtain ⟨B3comc, B3comf, B3coml⟩ := B3com.all
 have ge3com : w.heap.size ≤ w1.heap.size := by (first | omega | (have := kp2.size; simp only [World.size_alloc, size_setCell', size_drew'] at this; omega))
 replace hp := hp.soft sq2
 replace hq := hq.soft sq2
 replace hr := hr.soft sq2
 replace hc := hc.soft sq2
 clear B2p1 B2p1c B2p1f B2p2 B2p2c B2p2f B2p3 B2p3c B2p3f B2res B2resc B2resf B2com B2comc B2comf
 go_wp2_with fail
 have kp3 : Kp w _ := kq2
 have sf3 : Sf 2 w3 _ := (Sf.refl 2 w3)
 refine (negate_any _ _ _ (hc.soft sf3) (((fr.gcd fp).gcd fq).fit (by omega))).mono ?_
 rintro e w4 ⟨v4, rfl, hc', hk4⟩
 obtain ⟨b6, ao6, n6, c6, rfl⟩ := hc'.shape'
 rw [← HG.out] at hc'
 have kq3 := kp3.trans' hk4
 have sq3 := sf3.trans (Sf.keep hk4)
 have B4p1 := Blk.keep hk4 B3p1
 have B4p2 := Blk.keep hk4 B3p2
 have B4p3 := Blk.keep hk4 B3p3
 have B4res := Blk.keep hk4 B3res
 have B4com := Blk.keep hk4 B3com
 obtain ⟨B4p1c, B4p1f, B4p1l⟩ := B4p1.all
 have ge4p1 : w.heap.size ≤ w.heap.size := by (first | omega | (have := kp3.size; simp only [World.size_alloc, size_setCell', size_drew'] at this; omega))
 obtain ⟨B4p2c, B4p2f, B4p2l⟩ := B4p2.all
 have ge4p2 : w.heap.size ≤ w.heap.size + 1 := by (first | omega | (have := kp3.size; simp only [World.size_alloc, size_setCell', size_drew'] at this; omega))
 obtain ⟨B4p3c, B4p3f, B4p3l⟩ := B4p3.all
 have ge4p3 : w.heap.size ≤ w.heap.size + 1 + 1 := by (first | omega | (have := kp3.size; simp only [World.size_alloc, size_setCell', size_drew'] at this; omega))
 obtain ⟨B4resc, B4resf, B4resl⟩ := B4res.all
 have ge4res : w.heap.size ≤ w.heap.size + 1 + 1 + 1 := by (first | omega | (have := kp3.size; simp only [World.size_alloc, size_setCell', size_drew'] at this; omega))
 obtain ⟨B4comc, B4comf, B4coml⟩ := B4com.all
 have ge4com : w.heap.size ≤ w1.heap.size := by (first | omega | (have := kp3.size; simp only [World.size_alloc, size_setCell', size_drew'] at this; omega))
 replace hp := hp.soft sq3
 replace hq := hq.soft sq3
 replace hr := hr.soft sq3
 clear B3p1 B3p1c B3p1f B3p2 B3p2c B3p2f B3p3 B3p3c B3p3f B3res B3resc B3resf B3com B3comc B3comf
 go_wp2_with fail
 have kp4 : Kp w _ := (stK2 (A := w1.heap.size) (.bool b6) (.slice ao6 n6 c6) kq3 (by have := ge4com; omega))
 have sf4 : Sf 2 w4 _ := (stS2 (E := 2) (.bool b6) (.slice ao6 n6 c6) B4com (by decide))
 refine (divide_any p (qcom p q r) m _ _ _ (hp.soft sf4) (hc'.soft sf4) (by omega) fp HC.out).mono ?_
 rintro e w5 ⟨u5, v5, rfl, hp', hx5, hk5⟩
 obtain ⟨b7, ao7, n7, c7, rfl⟩ := hp'.shape'
 obtain ⟨b20, ao20, n20, c20, rfl⟩ := hx5.shape'
 clear hx5
 have kq4 := kp4.trans' hk5
 have sq4 := sf4.trans (Sf.keep hk5)
 have B5p1 := Blk.keep hk5 (Blk.other (Blk.other B4p1 (by omega)) (by omega))
 have B5p2 := Blk.keep hk5 (Blk.other (Blk.other B4p2 (by omega)) (by omega))
 have B5p3 := Blk.keep hk5 (Blk.other (Blk.other B4p3 (by omega)) (by omega))
 have B5res := Blk.keep hk5 (Blk.other (Blk.other B4res (by omega)) (by omega))
 have B5com : Blk w5 (w1.heap.size) #[.bool b6, .slice ao6 n6 c6] 39 := Blk.keep hk5 (Blk.set (Blk.set B4com))
 obtain ⟨B5p1c, B5p1f, B5p1l⟩ := B5p1.all
 have ge5p1 : w.heap.size ≤ w.heap.size := by (first | omega | (have := kp4.size; simp only [World.size_alloc, size_setCell', size_drew'] at this; omega))
 obtain ⟨B5p2c, B5p2f, B5p2l⟩ := B5p2.all
 have ge5p2 : w.heap.size ≤ w.heap.size + 1 := by (first | omega | (have := kp4.size; simp only [World.size_alloc, size_setCell', size_drew'] at this; omega))
 obtain ⟨B5p3c, B5p3f, B5p3l⟩ := B5p3.all
 have ge5p3 : w.heap.size ≤ w.heap.size + 1 + 1 := by (first | omega | (have := kp4.size; simp only [World.size_alloc, size_setCell', size_drew'] at this; omega))
 obtain ⟨B5resc, B5resf, B5resl⟩ := B5res.all
 have ge5res : w.heap.size ≤ w.heap.size + 1 + 1 + 1 := by (first | omega | (have := kp4.size; simp only [World.size_alloc, size_setCell', size_drew'] at this; omega))
 obtain ⟨B5comc, B5comf, B5coml⟩ := B5com.all
 have ge5com : w.heap.size ≤ w1.heap.size := by (first | omega | (have := kp4.size; simp only [World.size_alloc, size_setCell', size_drew'] at this; omega))
 replace hq := hq.soft sq4
 replace hr := hr.soft sq4
 replace hc' := hc'.soft sq4
 clear B4p1 B4p1c B4p1f B4p2 B4p2c B4p2f B4p3 B4p3c B4p3f B4res B4resc B4resf B4com B4comc B4comf
 go_wp2_with fail
 have kp5 : Kp w _ := (stK2 (A := w.heap.size) (.bool b7) (.slice ao7 n7 c7) kq4 (by have := ge5p1; omega))
 have sf5 : Sf 2 w5 _ := (stS2 (E := 2) (.bool b7) (.slice ao7 n7 c7) B5p1 (by decide))
 refine (divide_any q (qcom p q r) m _ _ _ (hq.soft sf5) (hc'.soft sf5) (by omega) fq HC.out).mono ?_
 rintro e w6 ⟨u6, v6, rfl, hq', hx6, hk6⟩
 obtain ⟨b8, ao8, n8, c8, rfl⟩ := hq'.shape'
 obtain ⟨b21, ao21, n21, c21, rfl⟩ := hx6.shape'
 clear hx6
 have kq5 := kp5.trans' hk6
 have sq5 := sf5.trans (Sf.keep hk6)
 have B6p1 : Blk w6 (w.heap.size) #[.bool b7, .slice ao7 n7 c7] 39 := Blk.keep hk6 (Blk.set (Blk.set B5p1))
 have B6p2 := Blk.keep hk6 (Blk.other (Blk.other B5p2 (by omega)) (by omega))
 have B6p3 := Blk.keep hk6 (Blk.other (Blk.other B5p3 (by omega)) (by omega))
 have B6res := Blk.keep hk6 (Blk.other (Blk.other B5res (by omega)) (by omega))
 have B6com := Blk.keep hk6 (Blk.other (Blk.other B5com (by omega)) (by omega))
 obtain ⟨B6p1c, B6p1f, B6p1l⟩ := B6p1.all
 have ge6p1 : w.heap.size ≤ w.heap.size := by (first | omega | (have := kp5.size; simp only [World.size_alloc, size_setCell', size_drew'] at this; omega))
 obtain ⟨B6p2c, B6p2f, B6p2l⟩ := B6p2.all
 have ge6p2 : w.heap.size ≤ w.heap.size + 1 := by (first | omega | (have := kp5.size; simp only [World.size_alloc, size_setCell', size_drew'] at this; omega))
 obtain ⟨B6p3c, B6p3f, B6p3l⟩ := B6p3.all
 have ge6p3 : w.heap.size ≤ w.heap.size + 1 + 1 := by (first | omega | (have := kp5.size; simp only [World.size_alloc, size_setCell', size_drew'] at this; omega))
 obtain ⟨B6resc, B6resf, B6resl⟩ := B6res.all
 have ge6res : w.heap.size ≤ w.heap.size + 1 + 1 + 1 := by (first | omega | (have := kp5.size; simp only [World.size_alloc, size_setCell', size_drew'] at this; omega))
 obtain ⟨B6comc, B6comf, B6coml⟩ := B6com.all
 replace hr := hr.soft sq5
 replace hc' := hc'.soft sq5
 replace hp' := hp'.soft sq5
 clear B5p1 B5p1c B5p1f B5p2 B5p2c B5p2f B5p3 B5p3c B5p3f B5res B5resc B5resf B5com B5comc B5comf
 go_wp2_with fail
 have kp6 : Kp w _ := (stK2 (A := w.heap.size + 1) (.bool b8) (.slice ao8 n8 c8) kq5 (by have := ge6p2; omega))
 have sf6 : Sf 2 w6 _ := (stS2 (E := 2) (.bool b8) (.slice ao8 n8 c8) B6p2 (by decide))
 refine (divide_any r (qcom p q r) m _ _ _ (hr.soft sf6) (hc'.soft sf6) (by omega) fr HC.out).mono ?_
 rintro e w7 ⟨u7, v7, rfl, hr', hx7, hk7⟩
 obtain ⟨b9, ao9, n9, c9, rfl⟩ := hr'.shape'
 obtain ⟨b22, ao22, n22, c22, rfl⟩ := hx7.shape'
 clear hx7
 have kq6 := kp6.trans' hk7
 have sq6 := sf6.trans (Sf.keep hk7)
 have B7p1 := Blk.keep hk7 (Blk.other (Blk.other B6p1 (by omega)) (by omega))
 have B7p2 : Blk w7 (w.heap.size + 1) #[.bool b8, .slice ao8 n8 c8] 39 := Blk.keep hk7 (Blk.set (Blk.set B6p2))
 have B7p3 := Blk.keep hk7 (Blk.other (Blk.other B6p3 (by omega)) (by omega))
 have B7res := Blk.keep hk7 (Blk.other (Blk.other B6res (by omega)) (by omega))
 obtain ⟨B7p1c, B7p1f, B7p1l⟩ := B7p1.all
 have ge7p1 : w.heap.size ≤ w.heap.size := by (first | omega | (have := kp6.size; simp only [World.size_alloc, size_setCell', size_drew'] at this; omega))
 obtain ⟨B7p2c, B7p2f, B7p2l⟩ := B7p2.all
 have ge7p2 : w.heap.size ≤ w.heap.size + 1 := by (first | omega | (have := kp6.size; simp only [World.size_alloc, size_setCell', size_drew'] at this; omega))
 obtain ⟨B7p3c, B7p3f, B7p3l⟩ := B7p3.all
 have ge7p3 : w.heap.size ≤ w.heap.size + 1 + 1 := by (first | omega | (have := kp6.size; simp only [World.size_alloc, size_setCell', size_drew'] at this; omega))
 obtain ⟨B7resc, B7resf, B7resl⟩ := B7res.all
 have ge7res : w.heap.size ≤ w.heap.size + 1 + 1 + 1 := by (first | omega | (have := kp6.size; simp only [World.size_alloc, size_setCell', size_drew'] at this; omega))
 replace hp' := hp'.soft sq6
 replace hq' := hq'.soft sq6
 clear B6p1 B6p1c B6p1f B6p2 B6p2c B6p2f B6p3 B6p3c B6p3f B6res B6resc B6resf B6com B6comc B6comf
 go_wp2_with fail
 have kp7 : Kp w _ := (stK2 (A := w.heap.size + 1 + 1) (.bool b9) (.slice ao9 n9 c9) kq6 (by have := ge7p3; omega))
 have sf7 : Sf 2 w7 _ := (stS2 (E := 2) (.bool b9) (.slice ao9 n9 c9) B7p3 (by decide))
 refine (sign_any (q.tdiv (qcom p q r)) _ _ (hq'.soft sf7)).mono ?_
 rintro e w8 ⟨rfl, hk8⟩
 have hsn : ((q.tdiv (qcom p q r)).sign == 0) = false := by simp; exact HQ.out
 generalize (q.tdiv (qcom p q r)).sign = sg2 at *
 have kq7 := kp7.trans' hk8
 have sq7 := sf7.trans (Sf.keep hk8)
 have B8p1 := Blk.keep hk8 (Blk.other (Blk.other B7p1 (by omega)) (by omega))
 have B8p2 := Blk.keep hk8 (Blk.other (Blk.other B7p2 (by omega)) (by omega))
 have B8p3 : Blk w8 (w.heap.size + 1 + 1) #[.bool b9, .slice ao9 n9 c9] 39 := Blk.keep hk8 (Blk.set (Blk.set B7p3))
 have B8res := Blk.keep hk8 (Blk.other (Blk.other B7res (by omega)) (by omega))
 obtain ⟨B8p1c, B8p1f, B8p1l⟩ := B8p1.all
 obtain ⟨B8p2c, B8p2f, B8p2l⟩ := B8p2.all
 obtain ⟨B8p3c, B8p3f, B8p3l⟩ := B8p3.all
 obtain ⟨B8resc, B8resf, B8resl⟩ := B8res.all
 have ge8res : w.heap.size ≤ w.heap.size + 1 + 1 + 1 := by (first | omega | (have := kp7.size; simp only [World.size_alloc, size_setCell', size_drew'] at this; omega))
 replace hp' := hp'.soft sq7
 replace hq' := hq'.soft sq7
 replace hr' := hr'.soft sq7
 clear B7p1 B7p1c B7p1f B7p2 B7p2c B7p2f B7p3 B7p3c B7p3f B7res B7resc B7resf
 go_wp2_with fail
 refine bodyPost_ret (v := .agg #[.bool b7, .slice ao7 n7 c7, .bool b8, .slice ao8 n8 c8, .bool b9, .slice ao9 n9 c9, .int .i64 d]) (by simp [results, Try.results103, go_sem, B8resc]) rfl ?_
 have kpE : Kp w _ := (stK7 (A := w.heap.size + 1 + 1 + 1) (.bool b7) (.slice ao7 n7 c7) (.bool b8) (.slice ao8 n8 c8) (.bool b9) (.slice ao9 n9 c9) (.int .i64 d) kq7 (by have := ge8res; omega))
 have sfE : Sf 2 w8 _ := (stS7 (E := 2) (.bool b7) (.slice ao7 n7 c7) (.bool b8) (.slice ao8 n8 c8) (.bool b9) (.slice ao9 n9 c9) (.int .i64 d) B8res (by decide))
 exact ⟨_, rfl, (XN.mk3 (a := qreduce p q r d) hp' hq' hr' (by unfold qreduce; simp [HQ.out])).soft sfE, kpE⟩

set_option maxHeartbeats 3200000 in
theorem reduce_pz (p q r d : Int) (m : Nat) (u v t : Value) (w : World) (hp : WN w u p) (hq : WN w v q) (hr : WN w t r) (hm : m ≤ 150000000) (fp : Ft m p) (fq : Ft m q) (fr : Ft m r) (h1 : 0 ≤ r) (h2 : q.tdiv (qcom p q r) = 0) :
  Calls Try.prog 103 #[u, v, t, .int .i64 d] w (RetX w (qreduce p q r d)) := by
 obtain ⟨b1, ao1, n1, c1, rfl⟩ := hp.shape'
 obtain ⟨b2, ao2, n2, c2, rfl⟩ := hq.shape'
 obtain ⟨b3, ao3, n3, c3, rfl⟩ := hr.shape'
 have HC := Hid.mk (fp.com fq fr)
 have HG : Hid (qcom p q r = (Int.gcd (Int.gcd r p) q : Int)) := by unfold Hid qcom; rw [if_neg (by omega)]
 have HS : Hid (r.sign ≥ 0) := by unfold Hid; exact sign_nn h1
 have HQ := Hid.mk h2
 clear h1 h2
 go_enter Try.func103, Try.ntmps103
 go_wp2_with fail
 have kp0 : Kp w _ := (Kp.alloc' (Kp.alloc' (Kp.alloc' (Kp.alloc' (Below.refl w.heap.size w) (.cells #[.bool b1, .slice ao1 n1 c1] 39)) (.cells #[.bool b2, .slice ao2 n2 c2] 39)) (.cells #[.bool b3, .slice ao3 n3 c3] 39)) (.cells #[.bool false, .slice none 0 0, .bool false, .slice none 0 0, .bool false, .slice none 0 0, .int .i64 0] 41))
 have sf0 : Sf 2 w _ := (Sf.alloc (Sf.alloc (Sf.alloc (Sf.alloc (Sf.refl 2 w) (.cells #[.bool b1, .slice ao1 n1 c1] 39)) (.cells #[.bool b2, .slice ao2 n2 c2] 39)) (.cells #[.bool b3, .slice ao3 n3 c3] 39)) (.cells #[.bool false, .slice none 0 0, .bool false, .slice none 0 0, .bool false, .slice none 0 0, .int .i64 0] 41))
 refine (divisor_any r p m _ _ _ (hr.soft sf0) (hp.soft sf0) (by omega) fr fp).mono ?_
 rintro e w1 ⟨v1, rfl, hg, hk1⟩
 obtain ⟨b4, ao4, n4, c4, rfl⟩ := hg.shape'
 have kq0 := kp0.trans' hk1
 have sq0 := sf0.trans (Sf.keep hk1)
 have B1p1 : Blk w1 (w.heap.size) #[.bool b1, .slice ao1 n1 c1] 39 := Blk.keep hk1 (Blk.at (Blk.alloc (Blk.alloc (Blk.alloc (Blk.new _ _ _) _) _) _) (by simp))
 have B1p2 : Blk w1 (w.heap.size + 1) #[.bool b2, .slice ao2 n2 c2] 39 := Blk.keep hk1 (Blk.at (Blk.alloc (Blk.alloc (Blk.new _ _ _) _) _) (by simp))
 have B1p3 : Blk w1 (w.heap.size + 1 + 1) #[.bool b3, .slice ao3 n3 c3] 39 := Blk.keep hk1 (Blk.at (Blk.alloc (Blk.new _ _ _) _) (by simp))
 have B1res : Blk w1 (w.heap.size + 1 + 1 + 1) #[.bool false, .slice none 0 0, .bool false, .slice none 0 0, .bool false, .slice none 0 0, .int .i64 0] 41 := Blk.keep hk1 (Blk.at (Blk.new _ _ _) (by simp))
 obtain ⟨B1p1c, B1p1f, B1p1l⟩ := B1p1.all
 obtain ⟨B1p2c, B1p2f, B1p2l⟩ := B1p2.all
 obtain ⟨B1p3c, B1p3f, B1p3l⟩ := B1p3.all
 obtain ⟨B1resc, B1resf, B1resl⟩ := B1res.all
 replace hp := hp.soft sq0
 replace hq := hq.soft sq0
 replace hr := hr.soft sq0
 go_wp2_with fail
 have kp1 : Kp w _ := (Kp.alloc' kq0 (.cells #[.bool b4, .slice ao4 n4 c4] 39))
 have sf1 : Sf 2 w1 _ := (Sf.alloc (Sf.refl 2 w1) (.cells #[.bool b4, .slice ao4 n4 c4] 39))
 refine (divisor_any (Int.gcd r p) q m _ _ _ (hg.soft sf1) (hq.soft sf1) (by omega) (fr.gcd fp) fq).mono ?_
 rintro e w2 ⟨v2, rfl, hc, hk2⟩
 obtain ⟨b5, ao5, n5, c5, rfl⟩ := hc.shape'
 have kq1 := kp1.trans' hk2
 have sq1 := sf1.trans (Sf.keep hk2)
 have B2p1 := Blk.keep hk2 (Blk.alloc B1p1 _)
 have B2p2 := Blk.keep hk2 (Blk.alloc B1p2 _)
 have B2p3 := Blk.keep hk2 (Blk.alloc B1p3 _)
 have B2res := Blk.keep hk2 (Blk.alloc B1res _)
 have B2com : Blk w2 (w1.heap.size) #[.bool b4, .slice ao4 n4 c4] 39 := Blk.keep hk2 (Blk.at (Blk.new _ _ _) (by simp))
 obtain ⟨B2p1c, B2p1f, B2p1l⟩ := B2p1.all
 obtain ⟨B2p2c, B2p2f, B2p2l⟩ := B2p2.all
 obtain ⟨B2p3c, B2p3f, B2p3l⟩ := B2p3.all
 obtain ⟨B2resc, B2resf, B2resl⟩ := B2res.all
 obtain ⟨B2comc, B2comf, B2coml⟩ := B2com.all
 have ge2com : w.heap.size ≤ w1.heap.size := by (first | omega | (have := kp1.size; simp only [World.size_alloc, size_setCell', size_drew'] at this; omega))
 replace hp := hp.soft sq1
 replace hq := hq.soft sq1
 replace hr := hr.soft sq1
 clear B1p1 B1p1c B1p1f B1p2 B1p2c B1p2f B1p3 B1p3c B1p3f B1res B1resc B1resf
 go_wp2_with fail
 have kp2 : Kp w _ := (stK2 (A := w1.heap.size) (.bool b5) (.slice ao5 n5 c5) kq1 (by have := ge2com; omega))
 have sf2 : Sf 2 w2 _ := (stS2 (E := 2) (.bool b5) (.slice ao5 n5 c5) B2com (by decide))
 refine (sign_any r _ _ (hr.soft sf2)).mono ?_
 rintro e w3 ⟨rfl, hk3⟩
 have hs0 := HS.out
 generalize r.sign = sg at *
 have kq2 := kp2.trans' hk3
 have sq2 := sf2.trans (Sf.keep hk3)
 have B3p1 := Blk.keep hk3 (Blk.other (Blk.other B2p1 (by omega)) (by omega))
 have B3p2 := Blk.keep hk3 (Blk.other (Blk.other B2p2 (by omega)) (by omega))
 have B3p3 := Blk.keep hk3 (Blk.other (Blk.other B2p3 (by omega)) (by omega))
 have B3res := Blk.keep hk3 (Blk.other (Blk.other B2res (by omega)) (by omega))
 have B3com : Blk w3 (w1.heap.size) #[.bool b5, .slice ao5 n5 c5] 39 := Blk.keep hk3 (Blk.set (Blk.set B2com))
 obtain ⟨B3p1c, B3p1f, B3p1l⟩ := B3p1.all
 obtain ⟨B3p2c, B3p2f, B3p2l⟩ := B3p2.all
 obtain ⟨B3p3c, B3p3f, B3p3l⟩ := B3p3.all
 obtain ⟨B3resc, B3resf, B3resl⟩ := B3res.all
 obtain ⟨B3comc, B3comf, B3coml⟩ := B3com.all
 replace hp := hp.soft sq2
 replace hq := hq.soft sq2
 replace hr := hr.soft sq2
 replace hc := hc.soft sq2
 clear B2p1 B2p1c B2p1f B2p2 B2p2c B2p2f B2p3 B2p3c B2p3f B2res B2resc B2resf B2com B2comc B2comf
 go_wp2_with fail
 rw [← HG.out] at hc
 have kp3 : Kp w _ := kq2
 have sf3 : Sf 2 w3 _ := (Sf.refl 2 w3)
 refine (divide_any p (qcom p q r) m _ _ _ (hp.soft sf3) (hc.soft sf3) (by omega) fp HC.out).mono ?_
 rintro e w4 ⟨u4, v4, rfl, hp', hx4, hk4⟩
 obtain ⟨b7, ao7, n7, c7, rfl⟩ := hp'.shape'
 obtain ⟨b20, ao20, n20, c20, rfl⟩ := hx4.shape'
 clear hx4
 have kq3 := kp3.trans' hk4
 have sq3 := sf3.trans (Sf.keep hk4)
 have B4p1 := Blk.keep hk4 B3p1
 have B4p2 := Blk.keep hk4 B3p2
 have B4p3 := Blk.keep hk4 B3p3
 have B4res := Blk.keep hk4 B3res
 have B4com := Blk.keep hk4 B3com
 obtain ⟨B4p1c, B4p1f, B4p1l⟩ := B4p1.all
 have ge4p1 : w.heap.size ≤ w.heap.size := by (first | omega | (have := kp3.size; simp only [World.size_alloc, size_setCell', size_drew'] at this; omega))
 obtain ⟨B4p2c, B4p2f, B4p2l⟩ := B4p2.all
 obtain ⟨B4p3c, B4p3f, B4p3l⟩ := B4p3.all
 obtain ⟨B4resc, B4resf, B4resl⟩ := B4res.all
 obtain ⟨B4comc, B4comf, B4coml⟩ := B4com.all
 replace hq := hq.soft sq3
 replace hr := hr.soft sq3
 replace hc := hc.soft sq3
 clear B3p1 B3p1c B3p1f B3p2 B3p2c B3p2f B3p3 B3p3c B3p3f B3res B3resc B3resf B3com B3comc B3comf
 go_wp2_with fail
 have kp4 : Kp w _ := (stK2 (A := w.heap.size) (.bool b7) (.slice ao7 n7 c7) kq3 (by have := ge4p1; omega))
 have sf4 : Sf 2 w4 _ := (stS2 (E := 2) (.bool b7) (.slice ao7 n7 c7) B4p1 (by decide))
 refine (divide_any q (qcom p q r) m _ _ _ (hq.soft sf4) (hc.soft sf4) (by omega) fq HC.out).mono ?_
 rintro e w5 ⟨u5, v5, rfl, hq', hx5, hk5⟩
 obtain ⟨b8, ao8, n8, c8, rfl⟩ := hq'.shape'
 obtain ⟨b21, ao21, n21, c21, rfl⟩ := hx5.shape'
 clear hx5
 have kq4 := kp4.trans' hk5
 have sq4 := sf4.trans (Sf.keep hk5)
 have B5p1 : Blk w5 (w.heap.size) #[.bool b7, .slice ao7 n7 c7] 39 := Blk.keep hk5 (Blk.set (Blk.set B4p1))
 have B5p2 := Blk.keep hk5 (Blk.other (Blk.other B4p2 (by omega)) (by omega))
 have B5p3 := Blk.keep hk5 (Blk.other (Blk.other B4p3 (by omega)) (by omega))
 have B5res := Blk.keep hk5 (Blk.other (Blk.other B4res (by omega)) (by omega))
 have B5com := Blk.keep hk5 (Blk.other (Blk.other B4com (by omega)) (by omega))
 obtain ⟨B5p1c, B5p1f, B5p1l⟩ := B5p1.all
 obtain ⟨B5p2c, B5p2f, B5p2l⟩ := B5p2.all
 have ge5p2 : w.heap.size ≤ w.heap.size + 1 := by (first | omega | (have := kp4.size; simp only [World.size_alloc, size_setCell', size_drew'] at this; omega))
 obtain ⟨B5p3c, B5p3f, B5p3l⟩ := B5p3.all
 obtain ⟨B5resc, B5resf, B5resl⟩ := B5res.all
 obtain ⟨B5comc, B5comf, B5coml⟩ := B5com.all
 replace hr := hr.soft sq4
 replace hc := hc.soft sq4
 replace hp' := hp'.soft sq4
 clear B4p1 B4p1c B4p1f B4p2 B4p2c B4p2f B4p3 B4p3c B4p3f B4res B4resc B4resf B4com B4comc B4comf
 go_wp2_with fail
 have kp5 : Kp w _ := (stK2 (A := w.heap.size + 1) (.bool b8) (.slice ao8 n8 c8) kq4 (by have := ge5p2; omega))
 have sf5 : Sf 2 w5 _ := (stS2 (E := 2) (.bool b8) (.slice ao8 n8 c8) B5p2 (by decide))
 refine (divide_any r (qcom p q r) m _ _ _ (hr.soft sf5) (hc.soft sf5) (by omega) fr HC.out).mono ?_
 rintro e w6 ⟨u6, v6, rfl, hr', hx6, hk6⟩
 obtain ⟨b9, ao9, n9, c9, rfl⟩ := hr'.shape'
 obtain ⟨b22, ao22, n22, c22, rfl⟩ := hx6.shape'
 clear hx6
 have kq5 := kp5.trans' hk6
 have sq5 := sf5.trans (Sf.keep hk6)
 have B6p1 := Blk.keep hk6 (Blk.other (Blk.other B5p1 (by omega)) (by omega))
 have B6p2 : Blk w6 (w.heap.size + 1) #[.bool b8, .slice ao8 n8 c8] 39 := Blk.keep hk6 (Blk.set (Blk.set B5p2))
 have B6p3 := Blk.keep hk6 (Blk.other (Blk.other B5p3 (by omega)) (by omega))
 have B6res := Blk.keep hk6 (Blk.other (Blk.other B5res (by omega)) (by omega))
 obtain ⟨B6p1c, B6p1f, B6p1l⟩ := B6p1.all
 obtain ⟨B6p2c, B6p2f, B6p2l⟩ := B6p2.all
 obtain ⟨B6p3c, B6p3f, B6p3l⟩ := B6p3.all
 have ge6p3 : w.heap.size ≤ w.heap.size + 1 + 1 := by (first | omega | (have := kp5.size; simp only [World.size_alloc, size_setCell', size_drew'] at this; omega))
 obtain ⟨B6resc, B6resf, B6resl⟩ := B6res.all
 replace hp' := hp'.soft sq5
 replace hq' := hq'.soft sq5
 clear B5p1 B5p1c B5p1f B5p2 B5p2c B5p2f B5p3 B5p3c B5p3f B5res B5resc B5resf B5com B5comc B5comf
 go_wp2_with fail
 have kp6 : Kp w _ := (stK2 (A := w.heap.size + 1 + 1) (.bool b9) (.slice ao9 n9 c9) kq5 (by have := ge6p3; omega))
 have sf6 : Sf 2 w6 _ := (stS2 (E := 2) (.bool b9) (.slice ao9 n9 c9) B6p3 (by decide))
 refine (sign_any (q.tdiv (qcom p q r)) _ _ (hq'.soft sf6)).mono ?_
 rintro e w7 ⟨rfl, hk7⟩
 rw [HQ.out, Int.sign_zero]
 have kq6 := kp6.trans' hk7
 have sq6 := sf6.trans (Sf.keep hk7)
 have B7p1 := Blk.keep hk7 (Blk.other (Blk.other B6p1 (by omega)) (by omega))
 have B7p2 := Blk.keep hk7 (Blk.other (Blk.other B6p2 (by omega)) (by omega))
 have B7p3 : Blk w7 (w.heap.size + 1 + 1) #[.bool b9, .slice ao9 n9 c9] 39 := Blk.keep hk7 (Blk.set (Blk.set B6p3))
 have B7res := Blk.keep hk7 (Blk.other (Blk.other B6res (by omega)) (by omega))
 obtain ⟨B7p1c, B7p1f, B7p1l⟩ := B7p1.all
 obtain ⟨B7p2c, B7p2f, B7p2l⟩ := B7p2.all
 obtain ⟨B7p3c, B7p3f, B7p3l⟩ := B7p3.all
 obtain ⟨B7resc, B7resf, B7resl⟩ := B7res.all
 have ge7res : w.heap.size ≤ w.heap.size + 1 + 1 + 1 := by (first | omega | (have := kp6.size; simp only [World.size_alloc, size_setCell', size_drew'] at this; omega))
 replace hp' := hp'.soft sq6
 replace hq' := hq'.soft sq6
 replace hr' := hr'.soft sq6
 clear B6p1 B6p1c B6p1f B6p2 B6p2c B6p2f B6p3 B6p3c B6p3f B6res B6resc B6resf
 go_wp2_with fail
 refine bodyPost_ret (v := .agg #[.bool b7, .slice ao7 n7 c7, .bool b8, .slice ao8 n8 c8, .bool b9, .slice ao9 n9 c9, .int .i64 1]) (by simp [results, Try.results103, go_sem, B7resc]) rfl ?_
 have kpE : Kp w _ := (stK7 (A := w.heap.size + 1 + 1 + 1) (.bool b7) (.slice ao7 n7 c7) (.bool b8) (.slice ao8 n8 c8) (.bool b9) (.slice ao9 n9 c9) (.int .i64 1) kq6 (by have := ge7res; omega))
 have sfE : Sf 2 w7 _ := (stS7 (E := 2) (.bool b7) (.slice ao7 n7 c7) (.bool b8) (.slice ao8 n8 c8) (.bool b9) (.slice ao9 n9 c9) (.int .i64 1) B7res (by decide))
 exact ⟨_, rfl, (XN.mk3 (a := qreduce p q r d) hp' hq' hr' (by unfold qreduce; simp [HQ.out])).soft sfE, kpE⟩

set_option maxHeartbeats 3200000 in
theorem reduce_ps (p q r d : Int) (m : Nat) (u v t : Value) (w : World) (hp : WN w u p) (hq : WN w v q) (hr : WN w t r) (hm : m ≤ 150000000) (fp : Ft m p) (fq : Ft m q) (fr : Ft m r) (h1 : 0 ≤ r) (h2 : q.tdiv (qcom p q r) ≠ 0) :
  Calls Try.prog 103 #[u, v, t, .int .i64 d] w (RetX w (qreduce p q r d)) := by
 obtain ⟨b1, ao1, n1, c1, rfl⟩ := hp.shape'
 obtain ⟨b2, ao2, n2, c2, rfl⟩ := hq.shape'
 obtain ⟨b3, ao3, n3, c3, rfl⟩ := hr.shape'
 have HC := Hid.mk (fp.com fq fr)
 have HG : Hid (qcom p q r = (Int.gcd (Int.gcd r p) q : Int)) := by unfold Hid qcom; rw [if_neg (by omega)]
 have HS : Hid (r.sign ≥ 0) := by unfold Hid; exact sign_nn h1
 have HQ := Hid.mk h2
 clear h1 h2
 go_enter Try.func103, Try.ntmps103
 go_wp2_with fail
 have kp0 : Kp w _ := (Kp.alloc' (Kp.alloc' (Kp.alloc' (Kp.alloc' (Below.refl w.heap.size w) (.cells #[.bool b1, .slice ao1 n1 c1] 39)) (.cells #[.bool b2, .slice ao2 n2 c2] 39)) (.cells #[.bool b3, .slice ao3 n3 c3] 39)) (.cells #[.bool false, .slice none 0 0, .bool false, .slice none 0 0, .bool false, .slice none 0 0, .int .i64 0] 41))
 have sf0 : Sf 2 w _ := (Sf.alloc (Sf.alloc (Sf.alloc (Sf.alloc (Sf.refl 2 w) (.cells #[.bool b1, .slice ao1 n1 c1] 39)) (.cells #[.bool b2, .slice ao2 n2 c2] 39)) (.cells #[.bool b3, .slice ao3 n3 c3] 39)) (.cells #[.bool false, .slice none 0 0, .bool false, .slice none 0 0, .bool false, .slice none 0 0, .int .i64 0] 41))
 refine (divisor_any r p m _ _ _ (hr.soft sf0) (hp.soft sf0) (by omega) fr fp).mono ?_
 rintro e w1 ⟨v1, rfl, hg, hk1⟩
 obtain ⟨b4, ao4, n4, c4, rfl⟩ := hg.shape'
 have kq0 := kp0.trans' hk1
 have sq0 := sf0.trans (Sf.keep hk1)
 have B1p1 : Blk w1 (w.heap.size) #[.bool b1, .slice ao1 n1 c1] 39 := Blk.keep hk1 (Blk.at (Blk.alloc (Blk.alloc (Blk.alloc (Blk.new _ _ _) _) _) _) (by simp))
 have B1p2 : Blk w1 (w.heap.size + 1) #[.bool b2, .slice ao2 n2 c2] 39 := Blk.keep hk1 (Blk.at (Blk.alloc (Blk.alloc (Blk.new _ _ _) _) _) (by simp))
 have B1p3 : Blk w1 (w.heap.size + 1 + 1) #[.bool b3, .slice ao3 n3 c3] 39 := Blk.keep hk1 (Blk.at (Blk.alloc (Blk.new _ _ _) _) (by simp))
 have B1res : Blk w1 (w.heap.size + 1 + 1 + 1) #[.bool false, .slice none 0 0, .bool false, .slice none 0 0, .bool false, .slice none 0 0, .int .i64 0] 41 := Blk.keep hk1 (Blk.at (Blk.new _ _ _) (by simp))
 obtain ⟨B1p1c, B1p1f, B1p1l⟩ := B1p1.all
 obtain ⟨B1p2c, B1p2f, B1p2l⟩ := B1p2.all
 obtain ⟨B1p3c, B1p3f, B1p3l⟩ := B1p3.all
 obtain ⟨B1resc, B1resf, B1resl⟩ := B1res.all
 replace hp := hp.soft sq0
 replace hq := hq.soft sq0
 replace hr := hr.soft sq0
 go_wp2_with fail
 have kp1 : Kp w _ := (Kp.alloc' kq0 (.cells #[.bool b4, .slice ao4 n4 c4] 39))
 have sf1 : Sf 2 w1 _ := (Sf.alloc (Sf.refl 2 w1) (.cells #[.bool b4, .slice ao4 n4 c4] 39))
 refine (divisor_any (Int.gcd r p) q m _ _ _ (hg.soft sf1) (hq.soft sf1) (by omega) (fr.gcd fp) fq).mono ?_
 rintro e w2 ⟨v2, rfl, hc, hk2⟩
 obtain ⟨b5, ao5, n5, c5, rfl⟩ := hc.shape'
 have kq1 := kp1.trans' hk2
 have sq1 := sf1.trans (Sf.keep hk2)
 have B2p1 := Blk.keep hk2 (Blk.alloc B1p1 _)
 have B2p2 := Blk.keep hk2 (Blk.alloc B1p2 _)
 have B2p3 := Blk.keep hk2 (Blk.alloc B1p3 _)
 have B2res := Blk.keep hk2 (Blk.alloc B1res _)
 have B2com : Blk w2 (w1.heap.size) #[.bool b4, .slice ao4 n4 c4] 39 := Blk.keep hk2 (Blk.at (Blk.new _ _ _) (by simp))
 obtain ⟨B2p1c, B2p1f, B2p1l⟩ := B2p1.all
 obtain ⟨B2p2c, B2p2f, B2p2l⟩ := B2p2.all
 obtain ⟨B2p3c, B2p3f, B2p3l⟩ := B2p3.all
 obtain ⟨B2resc, B2resf, B2resl⟩ := B2res.all
 obtain ⟨B2comc, B2comf, B2coml⟩ := B2com.all
 have ge2com : w.heap.size ≤ w1.heap.size := by (first | omega | (have := kp1.size; simp only [World.size_alloc, size_setCell', size_drew'] at this; omega))
 replace hp := hp.soft sq1
 replace hq := hq.soft sq1
 replace hr := hr.soft sq1
 clear B1p1 B1p1c B1p1f B1p2 B1p2c B1p2f B1p3 B1p3c B1p3f B1res B1resc B1resf
 go_wp2_with fail
 have kp2 : Kp w _ := (stK2 (A := w1.heap.size) (.bool b5) (.slice ao5 n5 c5) kq1 (by have := ge2com; omega))
 have sf2 : Sf 2 w2 _ := (stS2 (E := 2) (.bool b5) (.slice ao5 n5 c5) B2com (by decide))
 refine (sign_any r _ _ (hr.soft sf2)).mono ?_
 rintro e w3 ⟨rfl, hk3⟩
 have hs0 := HS.out
 generalize r.sign = sg at *
 have kq2 := kp2.trans' hk3
 have sq2 := sf2.trans (Sf.keep hk3)
 have B3p1 := Blk.keep hk3 (Blk.other (Blk.other B2p1 (by omega)) (by omega))
 have B3p2 := Blk.keep hk3 (Blk.other (Blk.other B2p2 (by omega)) (by omega))
 have B3p3 := Blk.keep hk3 (Blk.other (Blk.other B2p3 (by omega)) (by omega))
 have B3res := Blk.keep hk3 (Blk.other (Blk.other B2res (by omega)) (by omega))
 have B3com : Blk w3 (w1.heap.size) #[.bool b5, .slice ao5 n5 c5] 39 := Blk.keep hk3 (Blk.set (Blk.set B2com))
 obtain ⟨B3p1c, B3p1f, B3p1l⟩ := B3p1.all
 obtain ⟨B3p2c, B3p2f, B3p2l⟩ := B3p2.all
 obtain ⟨B3p3c, B3p3f, B3p3l⟩ := B3p3.all
 obtain ⟨B3resc, B3resf, B3resl⟩ := B3res.all
 obtain ⟨B3comc, B3comf, B3coml⟩ := B3com.all
 replace hp := hp.soft sq2
 replace hq := hq.soft sq2
 replace hr := hr.soft sq2
 replace hc := hc.soft sq2
 clear B2p1 B2p1c B2p1f B2p2 B2p2c B2p2f B2p3 B2p3c B2p3f B2res B2resc B2resf B2com B2comc B2comf
 go_wp2_with fail
 rw [← HG.out] at hc
 have kp3 : Kp w _ := kq2
 have sf3 : Sf 2 w3 _ := (Sf.refl 2 w3)
 refine (divide_any p (qcom p q r) m _ _ _ (hp.soft sf3) (hc.soft sf3) (by omega) fp HC.out).mono ?_
 rintro e w4 ⟨u4, v4, rfl, hp', hx4, hk4⟩
 obtain ⟨b7, ao7, n7, c7, rfl⟩ := hp'.shape'
 obtain ⟨b20, ao20, n20, c20, rfl⟩ := hx4.shape'
 clear hx4
 have kq3 := kp3.trans' hk4
 have sq3 := sf3.trans (Sf.keep hk4)
 have B4p1 := Blk.keep hk4 B3p1
 have B4p2 := Blk.keep hk4 B3p2
 have B4p3 := Blk.keep hk4 B3p3
 have B4res := Blk.keep hk4 B3res
 have B4com := Blk.keep hk4 B3com
 obtain ⟨B4p1c, B4p1f, B4p1l⟩ := B4p1.all
 have ge4p1 : w.heap.size ≤ w.heap.size := by (first | omega | (have := kp3.size; simp only [World.size_alloc, size_setCell', size_drew'] at this; omega))
 obtain ⟨B4p2c, B4p2f, B4p2l⟩ := B4p2.all
 obtain ⟨B4p3c, B4p3f, B4p3l⟩ := B4p3.all
 obtain ⟨B4resc, B4resf, B4resl⟩ := B4res.all
 obtain ⟨B4comc, B4comf, B4coml⟩ := B4com.all
 replace hq := hq.soft sq3
 replace hr := hr.soft sq3
 replace hc := hc.soft sq3
 clear B3p1 B3p1c B3p1f B3p2 B3p2c B3p2f B3p3 B3p3c B3p3f B3res B3resc B3resf B3com B3comc B3comf
 go_wp2_with fail
 have kp4 : Kp w _ := (stK2 (A := w.heap.size) (.bool b7) (.slice ao7 n7 c7) kq3 (by have := ge4p1; omega))
 have sf4 : Sf 2 w4 _ := (stS2 (E := 2) (.bool b7) (.slice ao7 n7 c7) B4p1 (by decide))
 refine (divide_any q (qcom p q r) m _ _ _ (hq.soft sf4) (hc.soft sf4) (by omega) fq HC.out).mono ?_
 rintro e w5 ⟨u5, v5, rfl, hq', hx5, hk5⟩
 obtain ⟨b8, ao8, n8, c8, rfl⟩ := hq'.shape'
 obtain ⟨b21, ao21, n21, c21, rfl⟩ := hx5.shape'
 clear hx5
 have kq4 := kp4.trans' hk5
 have sq4 := sf4.trans (Sf.keep hk5)
 have B5p1 : Blk w5 (w.heap.size) #[.bool b7, .slice ao7 n7 c7] 39 := Blk.keep hk5 (Blk.set (Blk.set B4p1))
 have B5p2 := Blk.keep hk5 (Blk.other (Blk.other B4p2 (by omega)) (by omega))
 have B5p3 := Blk.keep hk5 (Blk.other (Blk.other B4p3 (by omega)) (by omega))
 have B5res := Blk.keep hk5 (Blk.other (Blk.other B4res (by omega)) (by omega))
 have B5com := Blk.keep hk5 (Blk.other (Blk.other B4com (by omega)) (by omega))
 obtain ⟨B5p1c, B5p1f, B5p1l⟩ := B5p1.all
 obtain ⟨B5p2c, B5p2f, B5p2l⟩ := B5p2.all
 have ge5p2 : w.heap.size ≤ w.heap.size + 1 := by (first | omega | (have := kp4.size; simp only [World.size_alloc, size_setCell', size_drew'] at this; omega))
 obtain ⟨B5p3c, B5p3f, B5p3l⟩ := B5p3.all
 obtain ⟨B5resc, B5resf, B5resl⟩ := B5res.all
 obtain ⟨B5comc, B5comf, B5coml⟩ := B5com.all
 replace hr := hr.soft sq4
 replace hc := hc.soft sq4
 replace hp' := hp'.soft sq4
 clear B4p1 B4p1c B4p1f B4p2 B4p2c B4p2f B4p3 B4p3c B4p3f B4res B4resc B4resf B4com B4comc B4comf
 go_wp2_with fail
 have kp5 : Kp w _ := (stK2 (A := w.heap.size + 1) (.bool b8) (.slice ao8 n8 c8) kq4 (by have := ge5p2; omega))
 have sf5 : Sf 2 w5 _ := (stS2 (E := 2) (.bool b8) (.slice ao8 n8 c8) B5p2 (by decide))
 refine (divide_any r (qcom p q r) m _ _ _ (hr.soft sf5) (hc.soft sf5) (by omega) fr HC.out).mono ?_
 rintro e w6 ⟨u6, v6, rfl, hr', hx6, hk6⟩
 obtain ⟨b9, ao9, n9, c9, rfl⟩ := hr'.shape'
 obtain ⟨b22, ao22, n22, c22, rfl⟩ := hx6.shape'
 clear hx6
 have kq5 := kp5.trans' hk6
 have sq5 := sf5.trans (Sf.keep hk6)
 have B6p1 := Blk.keep hk6 (Blk.other (Blk.other B5p1 (by omega)) (by omega))
 have B6p2 : Blk w6 (w.heap.size + 1) #[.bool b8, .slice ao8 n8 c8] 39 := Blk.keep hk6 (Blk.set (Blk.set B5p2))
 have B6p3 := Blk.keep hk6 (Blk.other (Blk.other B5p3 (by omega)) (by omega))
 have B6res := Blk.keep hk6 (Blk.other (Blk.other B5res (by omega)) (by omega))
 obtain ⟨B6p1c, B6p1f, B6p1l⟩ := B6p1.all
 obtain ⟨B6p2c, B6p2f, B6p2l⟩ := B6p2.all
 obtain ⟨B6p3c, B6p3f, B6p3l⟩ := B6p3.all
 have ge6p3 : w.heap.size ≤ w.heap.size + 1 + 1 := by (first | omega | (have := kp5.size; simp only [World.size_alloc, size_setCell', size_drew'] at this; omega))
 obtain ⟨B6resc, B6resf, B6resl⟩ := B6res.all
 replace hp' := hp'.soft sq5
 replace hq' := hq'.soft sq5
 clear B5p1 B5p1c B5p1f B5p2 B5p2c B5p2f B5p3 B5p3c B5p3f B5res B5resc B5resf B5com B5comc B5comf
 go_wp2_with fail
 have kp6 : Kp w _ := (stK2 (A := w.heap.size + 1 + 1) (.bool b9) (.slice ao9 n9 c9) kq5 (by have := ge6p3; omega))
 have sf6 : Sf 2 w6 _ := (stS2 (E := 2) (.bool b9) (.slice ao9 n9 c9) B6p3 (by decide))
 refine (sign_any (q.tdiv (qcom p q r)) _ _ (hq'.soft sf6)).mono ?_
 rintro e w7 ⟨rfl, hk7⟩
 have hsn : ((q.tdiv (qcom p q r)).sign == 0) = false := by simp; exact HQ.out
 generalize (q.tdiv (qcom p q r)).sign = sg2 at *
 have kq6 := kp6.trans' hk7
 have sq6 := sf6.trans (Sf.keep hk7)
 have B7p1 := Blk.keep hk7 (Blk.other (Blk.other B6p1 (by omega)) (by omega))
 have B7p2 := Blk.keep hk7 (Blk.other (Blk.other B6p2 (by omega)) (by omega))
 have B7p3 : Blk w7 (w.heap.size + 1 + 1) #[.bool b9, .slice ao9 n9 c9] 39 := Blk.keep hk7 (Blk.set (Blk.set B6p3))
 have B7res := Blk.keep hk7 (Blk.other (Blk.other B6res (by omega)) (by omega))
 obtain ⟨B7p1c, B7p1f, B7p1l⟩ := B7p1.all
 obtain ⟨B7p2c, B7p2f, B7p2l⟩ := B7p2.all
 obtain ⟨B7p3c, B7p3f, B7p3l⟩ := B7p3.all
 obtain ⟨B7resc, B7resf, B7resl⟩ := B7res.all
 have ge7res : w.heap.size ≤ w.heap.size + 1 + 1 + 1 := by (first | omega | (have := kp6.size; simp only [World.size_alloc, size_setCell', size_drew'] at this; omega))
 replace hp' := hp'.soft sq6
 replace hq' := hq'.soft sq6
 replace hr' := hr'.soft sq6
 clear B6p1 B6p1c B6p1f B6p2 B6p2c B6p2f B6p3 B6p3c B6p3f B6res B6resc B6resf
 go_wp2_with fail
 refine bodyPost_ret (v := .agg #[.bool b7, .slice ao7 n7 c7, .bool b8, .slice ao8 n8 c8, .bool b9, .slice ao9 n9 c9, .int .i64 d]) (by simp [results, Try.results103, go_sem, B7resc]) rfl ?_
 have kpE : Kp w _ := (stK7 (A := w.heap.size + 1 + 1 + 1) (.bool b7) (.slice ao7 n7 c7) (.bool b8) (.slice ao8 n8 c8) (.bool b9) (.slice ao9 n9 c9) (.int .i64 d) kq6 (by have := ge7res; omega))
 have sfE : Sf 2 w7 _ := (stS7 (E := 2) (.bool b7) (.slice ao7 n7 c7) (.bool b8) (.slice ao8 n8 c8) (.bool b9) (.slice ao9 n9 c9) (.int .i64 d) B7res (by decide))
 exact ⟨_, rfl, (XN.mk3 (a := qreduce p q r d) hp' hq' hr' (by unfold qreduce; simp [HQ.out])).soft sfE, kpE⟩

theorem reduce_any (p q r d : Int) (m : Nat) (u v t : Value) (w : World) (hp : WN w u p) (hq : WN w v q) (hr : WN w t r) (hm : m ≤ 150000000) (fp : Ft m p) (fq : Ft m q) (fr : Ft m r) :
  Calls Try.prog 103 #[u, v, t, .int .i64 d] w (RetX w (qreduce p q r d)) := by
 by_cases h1 : r < 0
 ·by_cases h2 : q.tdiv (qcom p q r) = 0
  ·exact reduce_nz p q r d m u v t w hp hq hr hm fp fq fr h1 h2
  ·exact reduce_ns p q r d m u v t w hp hq hr hm fp fq fr h1 h2
 ·by_cases h2 : q.tdiv (qcom p q r) = 0
  ·exact reduce_pz p q r d m u v t w hp hq hr hm fp fq fr (by omega) h2
  ·exact reduce_ps p q r d m u v t w hp hq hr hm fp fq fr (by omega) h2

end Go.Proofs.Ytjahbjjekednfaa

namespace Go.Proofs.Ytjahbjjekednfaa
open Go.RowKit

def QF (m : Nat) (a : Qn) : Prop := Ft m a.p ∧ Ft m a.q ∧ Ft m a.r
def qzero : Qn := ⟨0, 0, 0, 0⟩
def qroot (a b : Int) : Int := if a = 1 ∨ a = b then b else if b = 1 then a else 0
def qneg (a : Qn) : Qn := ⟨-a.p, -a.q, a.r, a.d⟩
def qaddN (a b : Qn) : Qn := qreduce (a.p * b.r + b.p * a.r) (a.q * b.r + b.q * a.r) (a.r * b.r) (qroot a.d b.d)
def qmulN (a b : Qn) : Qn := qreduce (a.p * b.p + a.q * (b.q * qroot a.d b.d)) (a.p * b.q + a.q * b.p) (a.r * b.r) (qroot a.d b.d)
def qinv (a : Qn) : Qn := qreduce (a.r * a.p) (a.r * -a.q) (a.p * a.p + a.q * (-a.q * a.d)) a.d
theorem xn_zero (w : World) : XN w (.agg #[.bool false, .slice none 0 0, .bool false, .slice none 0 0, .bool false, .slice none 0 0, .int .i64 0]) qzero :=
 XN.mk3 (a := qzero) (wn_zero w) (wn_zero w) (wn_zero w) rfl
theorem Ft.sop {m : Nat} {x y z t : Int} (hx : Ft m x) (hy : Ft m y) (hz : Ft m z) (ht : Ft m t) : Ft (m + m + 1) (x * y + z * t) := (hx.mul hy).add (hz.mul ht)
theorem Ft.tdiv {m : Nat} {x y : Int} (hx : Ft m x) : Ft m (x.tdiv y) := by
 refine hx.le ?_
 rw [Int.natAbs_tdiv]
 exact Nat.div_le_self _ _
theorem QF.reduce {m : Nat} {p q r d : Int} (hp : Ft m p) (hq : Ft m q) (hr : Ft m r) : QF m (qreduce p q r d) := ⟨hp.tdiv, hq.tdiv, hr.tdiv⟩

set_option maxHeartbeats 1600000 in
theorem xfromInt_any (n : Int) (w : World) (h0 : 0 ≤ n) (hn : n ≤ 9223372036854775807) : Calls Try.prog 101 #[.int .i64 n] w (RetX w ⟨n, 0, 1, 1⟩) := by
 go_enter Try.func101, Try.ntmps101
 go_wp2_with fail
 have kp0 : Kp w _ := (Kp.alloc' (Below.refl w.heap.size w) (.cells #[.bool false, .slice none 0 0, .bool false, .slice none 0 0, .bool false, .slice none 0 0, .int .i64 0] 41))
 have sf0 : Sf 2 w _ := (Sf.alloc (Sf.refl 2 w) (.cells #[.bool false, .slice none 0 0, .bool false, .slice none 0 0, .bool false, .slice none 0 0, .int .i64 0] 41))
 refine (fromInt_any n _ h0 hn).mono ?_
 rintro e w1 ⟨v1, rfl, hv1, hk1⟩
 obtain ⟨b1, ao1, n1, c1, rfl⟩ := hv1.shape'
 have kq0 := kp0.trans' hk1
 have sq0 := sf0.trans (Sf.keep hk1)
 have B1res : Blk w1 (w.heap.size) #[.bool false, .slice none 0 0, .bool false, .slice none 0 0, .bool false, .slice none 0 0, .int .i64 0] 41 := Blk.keep hk1 (Blk.at (Blk.new _ _ _) (by simp))
 obtain ⟨B1resc, B1resf, B1resl⟩ := B1res.all
 have ge1res : w.heap.size ≤ w.heap.size := by (first | omega | (have := kp0.size; simp only [World.size_alloc, size_setCell', size_drew'] at this; omega))
 go_wp2_with fail
 have kp1 : Kp w _ := (Kp.alloc' kq0 (.cells #[.bool b1, .slice ao1 n1 c1] 39))
 have sf1 : Sf 2 w1 _ := (Sf.alloc (Sf.refl 2 w1) (.cells #[.bool b1, .slice ao1 n1 c1] 39))
 refine (fromInt_any 1 _ (by decide) (by decide)).mono ?_
 rintro e w2 ⟨v2, rfl, hv2, hk2⟩
 obtain ⟨b2, ao2, n2, c2, rfl⟩ := hv2.shape'
 have kq1 := kp1.trans' hk2
 have sq1 := sf1.trans (Sf.keep hk2)
 have B2res := Blk.keep hk2 (Blk.alloc B1res _)
 have B2p : Blk w2 (w1.heap.size) #[.bool b1, .slice ao1 n1 c1] 39 := Blk.keep hk2 (Blk.at (Blk.new _ _ _) (by simp))
 obtain ⟨B2resc, B2resf, B2resl⟩ := B2res.all
 have ge2res : w.heap.size ≤ w.heap.size := by (first | omega | (have := kp1.size; simp only [World.size_alloc, size_setCell', size_drew'] at this; omega))
 obtain ⟨B2pc, B2pf, B2pl⟩ := B2p.all
 replace hv1 := hv1.soft sq1
 clear B1res B1resc B1resf
 go_wp2_with fail
 refine bodyPost_ret (v := .agg #[.bool b1, .slice ao1 n1 c1, .bool false, .slice none 0 0, .bool b2, .slice ao2 n2 c2, .int .i64 1]) (by simp [results, Try.results101, go_sem, B2resc, B2resl]) rfl ?_
 have kpE : Kp w _ := (Kp.alloc' (stK7 (A := w.heap.size) (.bool b1) (.slice ao1 n1 c1) (.bool false) (.slice none 0 0) (.bool b2) (.slice ao2 n2 c2) (.int .i64 1) kq1 (by have := ge2res; omega)) (.cells #[.bool b2, .slice ao2 n2 c2] 39))
 have sfE : Sf 2 w2 _ := (Sf.alloc (stS7 (E := 2) (.bool b1) (.slice ao1 n1 c1) (.bool false) (.slice none 0 0) (.bool b2) (.slice ao2 n2 c2) (.int .i64 1) B2res (by decide)) (.cells #[.bool b2, .slice ao2 n2 c2] 39))
 exact ⟨_, rfl, (XN.mk3 (a := ⟨n, 0, 1, 1⟩) hv1 (wn_zero _) hv2 rfl).soft sfE, kpE⟩

set_option maxHeartbeats 1600000 in
theorem xnegate_any (a : Qn) (m : Nat) (u : Value) (w : World) (ha : XN w u a) (hm : m ≤ 150000000) (fa : QF m a) : Calls Try.prog 92 #[u] w (RetX w (qneg a)) := by
 obtain ⟨fp, fq, fr⟩ := fa
 obtain ⟨b1, ao1, n1, c1, b2, ao2, n2, c2, b3, ao3, n3, c3, rfl, hp, hq, hr⟩ := ha
 go_enter Try.func92, Try.ntmps92
 go_wp2_with fail
 have kp0 : Kp w _ := (Kp.alloc' (Kp.alloc' (Below.refl w.heap.size w) (.cells #[.bool b1, .slice ao1 n1 c1, .bool b2, .slice ao2 n2 c2, .bool b3, .slice ao3 n3 c3, .int .i64 a.d] 41)) (.cells #[.bool false, .slice none 0 0, .bool false, .slice none 0 0, .bool false, .slice none 0 0, .int .i64 0] 41))
 have sf0 : Sf 2 w _ := (Sf.alloc (Sf.alloc (Sf.refl 2 w) (.cells #[.bool b1, .slice ao1 n1 c1, .bool b2, .slice ao2 n2 c2, .bool b3, .slice ao3 n3 c3, .int .i64 a.d] 41)) (.cells #[.bool false, .slice none 0 0, .bool false, .slice none 0 0, .bool false, .slice none 0 0, .int .i64 0] 41))
 refine (negate_any a.p _ _ (hp.soft sf0) (fp.fit (by omega))).mono ?_
 rintro e w1 ⟨v1, rfl, hv1, hk1⟩
 obtain ⟨b4, ao4, n4, c4, rfl⟩ := hv1.shape'
 have kq0 := kp0.trans' hk1
 have sq0 := sf0.trans (Sf.keep hk1)
 have B1a : Blk w1 (w.heap.size) #[.bool b1, .slice ao1 n1 c1, .bool b2, .slice ao2 n2 c2, .bool b3, .slice ao3 n3 c3, .int .i64 a.d] 41 := Blk.keep hk1 (Blk.at (Blk.alloc (Blk.new _ _ _) _) (by simp))
 have B1res : Blk w1 (w.heap.size + 1) #[.bool false, .slice none 0 0, .bool false, .slice none 0 0, .bool false, .slice none 0 0, .int .i64 0] 41 := Blk.keep hk1 (Blk.at (Blk.new _ _ _) (by simp))
 obtain ⟨B1ac, B1af, B1al⟩ := B1a.all
 have ge1a : w.heap.size ≤ w.heap.size := by (first | omega | (have := kp0.size; simp only [World.size_alloc, size_setCell', size_drew'] at this; omega))
 obtain ⟨B1resc, B1resf, B1resl⟩ := B1res.all
 have ge1res : w.heap.size ≤ w.heap.size + 1 := by (first | omega | (have := kp0.size; simp only [World.size_alloc, size_setCell', size_drew'] at this; omega))
 replace hq := hq.soft sq0
 replace hr := hr.soft sq0
 go_wp2_with fail
 have kp1 : Kp w _ := (Kp.alloc' kq0 (.cells #[.bool b4, .slice ao4 n4 c4] 39))
 have sf1 : Sf 2 w1 _ := (Sf.alloc (Sf.refl 2 w1) (.cells #[.bool b4, .slice ao4 n4 c4] 39))
 refine (negate_any a.q _ _ (hq.soft sf1) (fq.fit (by omega))).mono ?_
 rintro e w2 ⟨v2, rfl, hv2, hk2⟩
 obtain ⟨b5, ao5, n5, c5, rfl⟩ := hv2.shape'
 have kq1 := kp1.trans' hk2
 have sq1 := sf1.trans (Sf.keep hk2)
 have B2a := Blk.keep hk2 (Blk.alloc B1a _)
 have B2res := Blk.keep hk2 (Blk.alloc B1res _)
 have B2p : Blk w2 (w1.heap.size) #[.bool b4, .slice ao4 n4 c4] 39 := Blk.keep hk2 (Blk.at (Blk.new _ _ _) (by simp))
 obtain ⟨B2ac, B2af, B2al⟩ := B2a.all
 have ge2a : w.heap.size ≤ w.heap.size := by (first | omega | (have := kp1.size; simp only [World.size_alloc, size_setCell', size_drew'] at this; omega))
 obtain ⟨B2resc, B2resf, B2resl⟩ := B2res.all
 have ge2res : w.heap.size ≤ w.heap.size + 1 := by (first | omega | (have := kp1.size; simp only [World.size_alloc, size_setCell', size_drew'] at this; omega))
 obtain ⟨B2pc, B2pf, B2pl⟩ := B2p.all
 replace hr := hr.soft sq1
 replace hv1 := hv1.soft sq1
 clear B1a B1ac B1af B1res B1resc B1resf
 go_wp2_with fail
 refine bodyPost_ret (v := .agg #[.bool b4, .slice ao4 n4 c4, .bool b5, .slice ao5 n5 c5, .bool b3, .slice ao3 n3 c3, .int .i64 a.d]) (by simp [results, Try.results92, go_sem, B2resc, B2resl]) rfl ?_
 have kpE : Kp w _ := (Kp.alloc' (stK7 (A := w.heap.size + 1) (.bool b4) (.slice ao4 n4 c4) (.bool b5) (.slice ao5 n5 c5) (.bool b3) (.slice ao3 n3 c3) (.int .i64 a.d) kq1 (by have := ge2res; omega)) (.cells #[.bool b5, .slice ao5 n5 c5] 39))
 have sfE : Sf 2 w2 _ := (Sf.alloc (stS7 (E := 2) (.bool b4) (.slice ao4 n4 c4) (.bool b5) (.slice ao5 n5 c5) (.bool b3) (.slice ao3 n3 c3) (.int .i64 a.d) B2res (by decide)) (.cells #[.bool b5, .slice ao5 n5 c5] 39))
 exact ⟨_, rfl, (XN.mk3 (a := qneg a) hv1 hv2 hr rfl).soft sfE, kpE⟩

theorem sign_beq (x : Int) : (x.sign == 0) = decide (x = 0) := by
 rw [Bool.eq_iff_iff]
 simp [Int.sign_eq_zero_iff_zero]
theorem s2z {p q x : Int} (h : (x == 0) = decide (q = 0)) (hp : p = 0) : (x == 0) = decide (p = 0 ∧ q = 0) := by
 rw [h]; simp [hp]
set_option maxHeartbeats 1600000 in
theorem isZero_any (a : Qn) (u : Value) (w : World) (ha : XN w u a) : Calls Try.prog 105 #[u] w (RetV w (.bool (decide (a.p = 0 ∧ a.q = 0)))) := by
 obtain ⟨b1, ao1, n1, c1, b2, ao2, n2, c2, b3, ao3, n3, c3, rfl, hp, hq, hr⟩ := ha
 go_enter Try.func105, Try.ntmps105
 go_wp2_with fail
 have kp0 : Kp w _ := (Kp.alloc' (Below.refl w.heap.size w) (.cells #[.bool b1, .slice ao1 n1 c1, .bool b2, .slice ao2 n2 c2, .bool b3, .slice ao3 n3 c3, .int .i64 a.d] 41))
 have sf0 : Sf 2 w _ := (Sf.alloc (Sf.refl 2 w) (.cells #[.bool b1, .slice ao1 n1 c1, .bool b2, .slice ao2 n2 c2, .bool b3, .slice ao3 n3 c3, .int .i64 a.d] 41))
 refine (sign_any a.p _ _ (hp.soft sf0)).mono ?_
 rintro e w1 ⟨rfl, hk1⟩
 have kq0 := kp0.trans' hk1
 have sq0 := sf0.trans (Sf.keep hk1)
 have B1a : Blk w1 (w.heap.size) #[.bool b1, .slice ao1 n1 c1, .bool b2, .slice ao2 n2 c2, .bool b3, .slice ao3 n3 c3, .int .i64 a.d] 41 := Blk.keep hk1 (Blk.at (Blk.new _ _ _) (by simp))
 obtain ⟨B1ac, B1af, B1al⟩ := B1a.all
 have ge1a : w.heap.size ≤ w.heap.size := by (first | omega | (have := kp0.size; simp only [World.size_alloc, size_setCell', size_drew'] at this; omega))
 replace hq := hq.soft sq0
 go_wp2_with fail
 have kp1 : Kp w _ := kq0
 have sf1 : Sf 2 w1 _ := (Sf.refl 2 w1)
 refine (sign_any a.q _ _ (hq.soft sf1)).mono ?_
 rintro e w2 ⟨rfl, hk2⟩
 have kq1 := kp1.trans' hk2
 have sq1 := sf1.trans (Sf.keep hk2)
 clear B1a B1ac B1af
 have s1 := sign_beq a.p
 have s2 := sign_beq a.q
 by_cases h1 : a.p = 0
 ·have hb1 : (a.p.sign == 0) = true := by rw [s1]; simp [h1]
  have H1 := Hid.mk h1
  have S2 := Hid.mk s2
  clear s1 s2 h1
  generalize a.p.sign = x1 at *
  go_wp2_with fail
  go_ret
  exact ⟨by rw [← s2z S2.out H1.out]; rfl, kq1⟩
 ·have hb1 : (a.p.sign == 0) = false := by rw [s1]; simp [h1]
  have H1 := Hid.mk h1
  clear s1 s2 h1
  generalize a.p.sign = x1 at *
  go_wp2_with fail
  go_ret
  exact ⟨by rw [decide_eq_false (fun h => H1.out h.1)]; rfl, kq1⟩

set_option maxHeartbeats 1600000 in
theorem commonRoot_any (a b : Qn) (u v : Value) (w : World) (ha : XN w u a) (hb : XN w v b) : Calls Try.prog 102 #[u, v] w (RetV w (.int .i64 (qroot a.d b.d))) := by
 obtain ⟨b1, ao1, n1, c1, b2, ao2, n2, c2, b3, ao3, n3, c3, rfl, hp, hq, hr⟩ := ha
 obtain ⟨b4, ao4, n4, c4, b5, ao5, n5, c5, b6, ao6, n6, c6, rfl, hp', hq', hr'⟩ := hb
 clear hp hq hr hp' hq' hr'
 have kpE : Kp w _ := ((kp_alloc w (.cells #[.bool b1, .slice ao1 n1 c1, .bool b2, .slice ao2 n2 c2, .bool b3, .slice ao3 n3 c3, .int .i64 a.d] 41)).alloc' (.cells #[.bool b4, .slice ao4 n4 c4, .bool b5, .slice ao5 n5 c5, .bool b6, .slice ao6 n6 c6, .int .i64 b.d] 41))
 generalize a.d = x at *
 generalize b.d = y at *
 by_cases h1 : x = 1
 ·have HR : Hid (qroot x y = y) := by unfold Hid qroot; simp [h1]
  have e1 : (x == 1) = true := by simp [h1]
  clear h1
  go_enter Try.func102, Try.ntmps102
  go_wp2
  go_ret
  exact ⟨by rw [HR.out]; rfl, kpE⟩
 ·by_cases h2 : x = y
  ·have HR : Hid (qroot x y = y) := by unfold Hid qroot; simp [h2]
   have e1 : (x == 1) = false := by simp [h1]
   have e2 : (x == y) = true := by simp [h2]
   clear h1 h2
   go_enter Try.func102, Try.ntmps102
   go_wp2
   go_ret
   exact ⟨by rw [HR.out]; rfl, kpE⟩
  ·have e1 : (x == 1) = false := by simp [h1]
   have e2 : (x == y) = false := by simp [h2]
   by_cases h3 : y = 1
   ·have HR : Hid (qroot x y = x) := by unfold Hid qroot; rw [if_neg (by simp [h1, h2]), if_pos h3]
    have e3 : (y == 1) = true := by simp [h3]
    clear h1 h2 h3
    go_enter Try.func102, Try.ntmps102
    go_wp2
    go_ret
    exact ⟨by rw [HR.out]; rfl, kpE⟩
   ·have HR : Hid (qroot x y = 0) := by unfold Hid qroot; rw [if_neg (by simp [h1, h2]), if_neg h3]
    have e3 : (y == 1) = false := by simp [h3]
    clear h1 h2 h3
    go_enter Try.func102, Try.ntmps102
    go_wp2
    go_ret
    exact ⟨by rw [HR.out]; rfl, kpE⟩

set_option maxHeartbeats 3200000 in
theorem xadd_e (a b : Qn) (m : Nat) (u v : Value) (w : World) (ha : XN w u a) (hb : XN w v b) (_hm : m ≤ 40000000) (fa : QF m a) (fb : QF m b) (da : 0 ≤ a.d ∧ a.d ≤ 1000000) (db : 0 ≤ b.d ∧ b.d ≤ 1000000) (hD : qroot a.d b.d = 0) :
  Calls Try.prog 93 #[u, v] w (RetXE w qzero 4) := by
 have hdd : 0 ≤ qroot a.d b.d ∧ qroot a.d b.d ≤ 1000000 := by unfold qroot; split <;> (try split) <;> omega
 obtain ⟨fp, fq, fr⟩ := fa
 obtain ⟨fp', fq', fr'⟩ := fb
 obtain ⟨b1, ao1, n1, c1, b2, ao2, n2, c2, b3, ao3, n3, c3, rfl, hp, hq, hr⟩ := id ha
 obtain ⟨b4, ao4, n4, c4, b5, ao5, n5, c5, b6, ao6, n6, c6, rfl, hp', hq', hr'⟩ := id hb
 go_enter Try.func93, Try.ntmps93
 go_wp2_with fail
 have kp0 : Kp w _ := (Kp.alloc' (Kp.alloc' (Kp.alloc' (Below.refl w.heap.size w) (.cells #[.bool b1, .slice ao1 n1 c1, .bool b2, .slice ao2 n2 c2, .bool b3, .slice ao3 n3 c3, .int .i64 a.d] 41)) (.cells #[.bool b4, .slice ao4 n4 c4, .bool b5, .slice ao5 n5 c5, .bool b6, .slice ao6 n6 c6, .int .i64 b.d] 41)) (.cells #[.bool false, .slice none 0 0, .bool false, .slice none 0 0, .bool false, .slice none 0 0, .int .i64 0] 41))
 have sf0 : Sf 2 w _ := (Sf.alloc (Sf.alloc (Sf.alloc (Sf.refl 2 w) (.cells #[.bool b1, .slice ao1 n1 c1, .bool b2, .slice ao2 n2 c2, .bool b3, .slice ao3 n3 c3, .int .i64 a.d] 41)) (.cells #[.bool b4, .slice ao4 n4 c4, .bool b5, .slice ao5 n5 c5, .bool b6, .slice ao6 n6 c6, .int .i64 b.d] 41)) (.cells #[.bool false, .slice none 0 0, .bool false, .slice none 0 0, .bool false, .slice none 0 0, .int .i64 0] 41))
 refine (commonRoot_any a b _ _ _ (ha.soft sf0) (hb.soft sf0)).mono ?_
 rintro e w1 ⟨rfl, hk1⟩
 have kq0 := kp0.trans' hk1
 have sq0 := sf0.trans (Sf.keep hk1)
 have B1a : Blk w1 (w.heap.size) #[.bool b1, .slice ao1 n1 c1, .bool b2, .slice ao2 n2 c2, .bool b3, .slice ao3 n3 c3, .int .i64 a.d] 41 := Blk.keep hk1 (Blk.at (Blk.alloc (Blk.alloc (Blk.new _ _ _) _) _) (by simp))
 have B1b : Blk w1 (w.heap.size + 1) #[.bool b4, .slice ao4 n4 c4, .bool b5, .slice ao5 n5 c5, .bool b6, .slice ao6 n6 c6, .int .i64 b.d] 41 := Blk.keep hk1 (Blk.at (Blk.alloc (Blk.new _ _ _) _) (by simp))
 have B1res : Blk w1 (w.heap.size + 1 + 1) #[.bool false, .slice none 0 0, .bool false, .slice none 0 0, .bool false, .slice none 0 0, .int .i64 0] 41 := Blk.keep hk1 (Blk.at (Blk.new _ _ _) (by simp))
 obtain ⟨B1ac, B1af, B1al⟩ := B1a.all
 have ge1a : w.heap.size ≤ w.heap.size := by (first | omega | (have := kp0.size; simp only [World.size_alloc, size_setCell', size_drew'] at this; omega))
 obtain ⟨B1bc, B1bf, B1bl⟩ := B1b.all
 have ge1b : w.heap.size ≤ w.heap.size + 1 := by (first | omega | (have := kp0.size; simp only [World.size_alloc, size_setCell', size_drew'] at this; omega))
 obtain ⟨B1resc, B1resf, B1resl⟩ := B1res.all
 have ge1res : w.heap.size ≤ w.heap.size + 1 + 1 := by (first | omega | (have := kp0.size; simp only [World.size_alloc, size_setCell', size_drew'] at this; omega))
 replace hp := hp.soft sq0
 replace hq := hq.soft sq0
 replace hr := hr.soft sq0
 replace hp' := hp'.soft sq0
 replace hq' := hq'.soft sq0
 replace hr' := hr'.soft sq0
 rw [hD]
 clear hD hdd
 go_wp2_with fail
 refine bodyPost_ret (v := .tuple #[.agg #[.bool false, .slice none 0 0, .bool false, .slice none 0 0, .bool false, .slice none 0 0, .int .i64 0], .int .i64 4]) (by simp [results, Try.results93, go_sem, B1resc]) rfl ?_
 have kpE : Kp w _ := (stK7 (A := w.heap.size + 1 + 1) (.bool false) (.slice none 0 0) (.bool false) (.slice none 0 0) (.bool false) (.slice none 0 0) (.int .i64 0) kq0 (by have := ge1res; omega))
 have sfE : Sf 2 w1 _ := (stS7 (E := 2) (.bool false) (.slice none 0 0) (.bool false) (.slice none 0 0) (.bool false) (.slice none 0 0) (.int .i64 0) B1res (by decide))
 exact ⟨_, rfl, xn_zero _, kpE⟩

set_option maxHeartbeats 3200000 in
theorem xadd_n (a b : Qn) (m : Nat) (u v : Value) (w : World) (ha : XN w u a) (hb : XN w v b) (hm : m ≤ 40000000) (fa : QF m a) (fb : QF m b) (da : 0 ≤ a.d ∧ a.d ≤ 1000000) (db : 0 ≤ b.d ∧ b.d ≤ 1000000) (hD : qroot a.d b.d ≠ 0) :
  Calls Try.prog 93 #[u, v] w (RetXE w (qaddN a b) 0) := by
 have hdd : 0 ≤ qroot a.d b.d ∧ qroot a.d b.d ≤ 1000000 := by unfold qroot; split <;> (try split) <;> omega
 obtain ⟨fp, fq, fr⟩ := fa
 obtain ⟨fp', fq', fr'⟩ := fb
 obtain ⟨b1, ao1, n1, c1, b2, ao2, n2, c2, b3, ao3, n3, c3, rfl, hp, hq, hr⟩ := id ha
 obtain ⟨b4, ao4, n4, c4, b5, ao5, n5, c5, b6, ao6, n6, c6, rfl, hp', hq', hr'⟩ := id hb
 go_enter Try.func93, Try.ntmps93
 go_wp2_with fail
 have kp0 : Kp w _ := (Kp.alloc' (Kp.alloc' (Kp.alloc' (Below.refl w.heap.size w) (.cells #[.bool b1, .slice ao1 n1 c1, .bool b2, .slice ao2 n2 c2, .bool b3, .slice ao3 n3 c3, .int .i64 a.d] 41)) (.cells #[.bool b4, .slice ao4 n4 c4, .bool b5, .slice ao5 n5 c5, .bool b6, .slice ao6 n6 c6, .int .i64 b.d] 41)) (.cells #[.bool false, .slice none 0 0, .bool false, .slice none 0 0, .bool false, .slice none 0 0, .int .i64 0] 41))
 have sf0 : Sf 2 w _ := (Sf.alloc (Sf.alloc (Sf.alloc (Sf.refl 2 w) (.cells #[.bool b1, .slice ao1 n1 c1, .bool b2, .slice ao2 n2 c2, .bool b3, .slice ao3 n3 c3, .int .i64 a.d] 41)) (.cells #[.bool b4, .slice ao4 n4 c4, .bool b5, .slice ao5 n5 c5, .bool b6, .slice ao6 n6 c6, .int .i64 b.d] 41)) (.cells #[.bool false, .slice none 0 0, .bool false, .slice none 0 0, .bool false, .slice none 0 0, .int .i64 0] 41))
 refine (commonRoot_any a b _ _ _ (ha.soft sf0) (hb.soft sf0)).mono ?_
 rintro e w1 ⟨rfl, hk1⟩
 have kq0 := kp0.trans' hk1
 have sq0 := sf0.trans (Sf.keep hk1)
 have B1a : Blk w1 (w.heap.size) #[.bool b1, .slice ao1 n1 c1, .bool b2, .slice ao2 n2 c2, .bool b3, .slice ao3 n3 c3, .int .i64 a.d] 41 := Blk.keep hk1 (Blk.at (Blk.alloc (Blk.alloc (Blk.new _ _ _) _) _) (by simp))
 have B1b : Blk w1 (w.heap.size + 1) #[.bool b4, .slice ao4 n4 c4, .bool b5, .slice ao5 n5 c5, .bool b6, .slice ao6 n6 c6, .int .i64 b.d] 41 := Blk.keep hk1 (Blk.at (Blk.alloc (Blk.new _ _ _) _) (by simp))
 have B1res : Blk w1 (w.heap.size + 1 + 1) #[.bool false, .slice none 0 0, .bool false, .slice none 0 0, .bool false, .slice none 0 0, .int .i64 0] 41 := Blk.keep hk1 (Blk.at (Blk.new _ _ _) (by simp))
 obtain ⟨B1ac, B1af, B1al⟩ := B1a.all
 have ge1a : w.heap.size ≤ w.heap.size := by (first | omega | (have := kp0.size; simp only [World.size_alloc, size_setCell', size_drew'] at this; omega))
 obtain ⟨B1bc, B1bf, B1bl⟩ := B1b.all
 have ge1b : w.heap.size ≤ w.heap.size + 1 := by (first | omega | (have := kp0.size; simp only [World.size_alloc, size_setCell', size_drew'] at this; omega))
 obtain ⟨B1resc, B1resf, B1resl⟩ := B1res.all
 have ge1res : w.heap.size ≤ w.heap.size + 1 + 1 := by (first | omega | (have := kp0.size; simp only [World.size_alloc, size_setCell', size_drew'] at this; omega))
 replace hp := hp.soft sq0
 replace hq := hq.soft sq0
 replace hr := hr.soft sq0
 replace hp' := hp'.soft sq0
 replace hq' := hq'.soft sq0
 replace hr' := hr'.soft sq0
 have hDb : (qroot a.d b.d == 0) = false := by simp; exact hD
 have HDN := Hid.mk hD
 clear hD
 generalize hDg : qroot a.d b.d = D at *
 have HDg := Hid.mk hDg
 clear hDg
 go_wp2_with fail
 have kp1 : Kp w _ := kq0
 have sf1 : Sf 2 w1 _ := (Sf.refl 2 w1)
 refine (sumOfProducts_any a.p b.r b.p a.r m _ _ _ _ _ (hp.soft sf1) (hr'.soft sf1) (hp'.soft sf1) (hr.soft sf1) (by omega) fp fr' fp' fr).mono ?_
 rintro e w2 ⟨v2, rfl, hv2, hk2⟩
 obtain ⟨b7, ao7, n7, c7, rfl⟩ := hv2.shape'
 have kq1 := kp1.trans' hk2
 have sq1 := sf1.trans (Sf.keep hk2)
 have B2a := Blk.keep hk2 B1a
 have B2b := Blk.keep hk2 B1b
 have B2res := Blk.keep hk2 B1res
 obtain ⟨B2ac, B2af, B2al⟩ := B2a.all
 obtain ⟨B2bc, B2bf, B2bl⟩ := B2b.all
 obtain ⟨B2resc, B2resf, B2resl⟩ := B2res.all
 replace hq := hq.soft sq1
 replace hr := hr.soft sq1
 replace hq' := hq'.soft sq1
 replace hr' := hr'.soft sq1
 clear B1a B1ac B1af B1b B1bc B1bf B1res B1resc B1resf
 go_wp2_with fail
 have kp2 : Kp w _ := (Kp.alloc' kq1 (.cells #[.bool b7, .slice ao7 n7 c7] 39))
 have sf2 : Sf 2 w2 _ := (Sf.alloc (Sf.refl 2 w2) (.cells #[.bool b7, .slice ao7 n7 c7] 39))
 refine (sumOfProducts_any a.q b.r b.q a.r m _ _ _ _ _ (hq.soft sf2) (hr'.soft sf2) (hq'.soft sf2) (hr.soft sf2) (by omega) fq fr' fq' fr).mono ?_
 rintro e w3 ⟨v3, rfl, hv3, hk3⟩
 obtain ⟨b8, ao8, n8, c8, rfl⟩ := hv3.shape'
 have kq2 := kp2.trans' hk3
 have sq2 := sf2.trans (Sf.keep hk3)
 have B3a := Blk.keep hk3 (Blk.alloc B2a _)
 have B3b := Blk.keep hk3 (Blk.alloc B2b _)
 have B3res := Blk.keep hk3 (Blk.alloc B2res _)
 have B3p : Blk w3 (w2.heap.size) #[.bool b7, .slice ao7 n7 c7] 39 := Blk.keep hk3 (Blk.at (Blk.new _ _ _) (by simp))
 obtain ⟨B3ac, B3af, B3al⟩ := B3a.all
 obtain ⟨B3bc, B3bf, B3bl⟩ := B3b.all
 obtain ⟨B3resc, B3resf, B3resl⟩ := B3res.all
 obtain ⟨B3pc, B3pf, B3pl⟩ := B3p.all
 replace hr := hr.soft sq2
 replace hr' := hr'.soft sq2
 replace hv2 := hv2.soft sq2
 clear B2a B2ac B2af B2b B2bc B2bf B2res B2resc B2resf
 go_wp2_with fail
 have kp3 : Kp w _ := (Kp.alloc' kq2 (.cells #[.bool b8, .slice ao8 n8 c8] 39))
 have sf3 : Sf 2 w3 _ := (Sf.alloc (Sf.refl 2 w3) (.cells #[.bool b8, .slice ao8 n8 c8] 39))
 refine (multiply_any a.r b.r _ _ _ (hr.soft sf3) (hr'.soft sf3) (fr.fit (by omega)) (fr'.fit (by omega))).mono ?_
 rintro e w4 ⟨v4, rfl, hv4, hk4⟩
 obtain ⟨b10, ao10, n10, c10, rfl⟩ := hv4.shape'
 have kq3 := kp3.trans' hk4
 have sq3 := sf3.trans (Sf.keep hk4)
 have B4res := Blk.keep hk4 (Blk.alloc B3res _)
 have B4p := Blk.keep hk4 (Blk.alloc B3p _)
 have B4q : Blk w4 (w3.heap.size) #[.bool b8, .slice ao8 n8 c8] 39 := Blk.keep hk4 (Blk.at (Blk.new _ _ _) (by simp))
 obtain ⟨B4resc, B4resf, B4resl⟩ := B4res.all
 obtain ⟨B4pc, B4pf, B4pl⟩ := B4p.all
 obtain ⟨B4qc, B4qf, B4ql⟩ := B4q.all
 replace hv2 := hv2.soft sq3
 replace hv3 := hv3.soft sq3
 clear B3a B3ac B3af B3b B3bc B3bf B3res B3resc B3resf B3p B3pc B3pf
 go_wp2_with fail
 have kp4 : Kp w _ := (Kp.alloc' kq3 (.cells #[.bool b10, .slice ao10 n10 c10] 39))
 have sf4 : Sf 2 w4 _ := (Sf.alloc (Sf.refl 2 w4) (.cells #[.bool b10, .slice ao10 n10 c10] 39))
 refine (reduce_any (a.p * b.r + b.p * a.r) (a.q * b.r + b.q * a.r) (a.r * b.r) D (m + m + 1) _ _ _ _ (hv2.soft sf4) (hv3.soft sf4) (hv4.soft sf4) (by omega) (fp.sop fr' fp' fr) (fq.sop fr' fq' fr) ((fr.mul fr').mono (by omega))).mono ?_
 rintro e w5 ⟨v5, rfl, hX, hk5⟩
 obtain ⟨b11, ao11, n11, c11, b12, ao12, n12, c12, b13, ao13, n13, c13, rfl, g1, g2, g3⟩ := id hX
 clear g1 g2 g3
 have kq4 := kp4.trans' hk5
 have sq4 := sf4.trans (Sf.keep hk5)
 have B5res := Blk.keep hk5 (Blk.alloc B4res _)
 obtain ⟨B5resc, B5resf, B5resl⟩ := B5res.all
 have ge5res : w.heap.size ≤ w.heap.size + 1 + 1 := by (first | omega | (have := kp4.size; simp only [World.size_alloc, size_setCell', size_drew'] at this; omega))
 clear B4res B4resc B4resf B4p B4pc B4pf B4q B4qc B4qf
 generalize hQ : qreduce (a.p * b.r + b.p * a.r) (a.q * b.r + b.q * a.r) (a.r * b.r) D = Q at *
 go_wp2_with fail
 refine bodyPost_ret (v := .tuple #[.agg #[.bool b11, .slice ao11 n11 c11, .bool b12, .slice ao12 n12 c12, .bool b13, .slice ao13 n13 c13, .int .i64 Q.d], .int .i64 0]) (by simp [results, Try.results93, go_sem, B5resc, B5resl]) rfl ?_
 have kpE : Kp w _ := (Kp.alloc' (stK7 (A := w.heap.size + 1 + 1) (.bool b11) (.slice ao11 n11 c11) (.bool b12) (.slice ao12 n12 c12) (.bool b13) (.slice ao13 n13 c13) (.int .i64 Q.d) kq4 (by have := ge5res; omega)) (.cells #[.bool b11, .slice ao11 n11 c11, .bool b12, .slice ao12 n12 c12, .bool b13, .slice ao13 n13 c13, .int .i64 Q.d] 41))
 have sfE : Sf 2 w5 _ := (Sf.alloc (stS7 (E := 2) (.bool b11) (.slice ao11 n11 c11) (.bool b12) (.slice ao12 n12 c12) (.bool b13) (.slice ao13 n13 c13) (.int .i64 Q.d) B5res (by decide)) (.cells #[.bool b11, .slice ao11 n11 c11, .bool b12, .slice ao12 n12 c12, .bool b13, .slice ao13 n13 c13, .int .i64 Q.d] 41))
 have hQ' : Q = (qaddN a b) := by rw [← hQ, ← HDg.out]; rfl
 rw [← hQ']
 exact ⟨_, rfl, hX.soft sfE, kpE⟩

set_option maxHeartbeats 3200000 in
theorem xmul_e (a b : Qn) (m : Nat) (u v : Value) (w : World) (ha : XN w u a) (hb : XN w v b) (_hm : m ≤ 40000000) (fa : QF m a) (fb : QF m b) (da : 0 ≤ a.d ∧ a.d ≤ 1000000) (db : 0 ≤ b.d ∧ b.d ≤ 1000000) (hD : qroot a.d b.d = 0) :
  Calls Try.prog 95 #[u, v] w (RetXE w qzero 4) := by
 have hdd : 0 ≤ qroot a.d b.d ∧ qroot a.d b.d ≤ 1000000 := by unfold qroot; split <;> (try split) <;> omega
 obtain ⟨fp, fq, fr⟩ := fa
 obtain ⟨fp', fq', fr'⟩ := fb
 obtain ⟨b1, ao1, n1, c1, b2, ao2, n2, c2, b3, ao3, n3, c3, rfl, hp, hq, hr⟩ := id ha
 obtain ⟨b4, ao4, n4, c4, b5, ao5, n5, c5, b6, ao6, n6, c6, rfl, hp', hq', hr'⟩ := id hb
 go_enter Try.func95, Try.ntmps95
 go_wp2_with fail
 have kp0 : Kp w _ := (Kp.alloc' (Kp.alloc' (Kp.alloc' (Below.refl w.heap.size w) (.cells #[.bool b1, .slice ao1 n1 c1, .bool b2, .slice ao2 n2 c2, .bool b3, .slice ao3 n3 c3, .int .i64 a.d] 41)) (.cells #[.bool b4, .slice ao4 n4 c4, .bool b5, .slice ao5 n5 c5, .bool b6, .slice ao6 n6 c6, .int .i64 b.d] 41)) (.cells #[.bool false, .slice none 0 0, .bool false, .slice none 0 0, .bool false, .slice none 0 0, .int .i64 0] 41))
 have sf0 : Sf 2 w _ := (Sf.alloc (Sf.alloc (Sf.alloc (Sf.refl 2 w) (.cells #[.bool b1, .slice ao1 n1 c1, .bool b2, .slice ao2 n2 c2, .bool b3, .slice ao3 n3 c3, .int .i64 a.d] 41)) (.cells #[.bool b4, .slice ao4 n4 c4, .bool b5, .slice ao5 n5 c5, .bool b6, .slice ao6 n6 c6, .int .i64 b.d] 41)) (.cells #[.bool false, .slice none 0 0, .bool false, .slice none 0 0, .bool false, .slice none 0 0, .int .i64 0] 41))
 refine (commonRoot_any a b _ _ _ (ha.soft sf0) (hb.soft sf0)).mono ?_
 rintro e w1 ⟨rfl, hk1⟩
 have kq0 := kp0.trans' hk1
 have sq0 := sf0.trans (Sf.keep hk1)
 have B1a : Blk w1 (w.heap.size) #[.bool b1, .slice ao1 n1 c1, .bool b2, .slice ao2 n2 c2, .bool b3, .slice ao3 n3 c3, .int .i64 a.d] 41 := Blk.keep hk1 (Blk.at (Blk.alloc (Blk.alloc (Blk.new _ _ _) _) _) (by simp))
 have B1b : Blk w1 (w.heap.size + 1) #[.bool b4, .slice ao4 n4 c4, .bool b5, .slice ao5 n5 c5, .bool b6, .slice ao6 n6 c6, .int .i64 b.d] 41 := Blk.keep hk1 (Blk.at (Blk.alloc (Blk.new _ _ _) _) (by simp))
 have B1res : Blk w1 (w.heap.size + 1 + 1) #[.bool false, .slice none 0 0, .bool false, .slice none 0 0, .bool false, .slice none 0 0, .int .i64 0] 41 := Blk.keep hk1 (Blk.at (Blk.new _ _ _) (by simp))
 obtain ⟨B1ac, B1af, B1al⟩ := B1a.all
 obtain ⟨B1bc, B1bf, B1bl⟩ := B1b.all
 obtain ⟨B1resc, B1resf, B1resl⟩ := B1res.all
 have ge1res : w.heap.size ≤ w.heap.size + 1 + 1 := by (first | omega | (have := kp0.size; simp only [World.size_alloc, size_setCell', size_drew'] at this; omega))
 replace hp := hp.soft sq0
 replace hq := hq.soft sq0
 replace hr := hr.soft sq0
 replace hp' := hp'.soft sq0
 replace hq' := hq'.soft sq0
 replace hr' := hr'.soft sq0
 rw [hD]
 clear hD hdd
 go_wp2_with fail
 refine bodyPost_ret (v := .tuple #[.agg #[.bool false, .slice none 0 0, .bool false, .slice none 0 0, .bool false, .slice none 0 0, .int .i64 0], .int .i64 4]) (by simp [results, Try.results95, go_sem, B1resc]) rfl ?_
 have kpE : Kp w _ := (stK7 (A := w.heap.size + 1 + 1) (.bool false) (.slice none 0 0) (.bool false) (.slice none 0 0) (.bool false) (.slice none 0 0) (.int .i64 0) kq0 (by have := ge1res; omega))
 have sfE : Sf 2 w1 _ := (stS7 (E := 2) (.bool false) (.slice none 0 0) (.bool false) (.slice none 0 0) (.bool false) (.slice none 0 0) (.int .i64 0) B1res (by decide))
 exact ⟨_, rfl, xn_zero _, kpE⟩

set_option maxHeartbeats 3200000 in
theorem xmul_n (a b : Qn) (m : Nat) (u v : Value) (w : World) (ha : XN w u a) (hb : XN w v b) (hm : m ≤ 40000000) (fa : QF m a) (fb : QF m b) (da : 0 ≤ a.d ∧ a.d ≤ 1000000) (db : 0 ≤ b.d ∧ b.d ≤ 1000000) (hD : qroot a.d b.d ≠ 0) :
  Calls Try.prog 95 #[u, v] w (RetXE w (qmulN a b) 0) := by
 have hdd : 0 ≤ qroot a.d b.d ∧ qroot a.d b.d ≤ 1000000 := by unfold qroot; split <;> (try split) <;> omega
 obtain ⟨fp, fq, fr⟩ := fa
 obtain ⟨fp', fq', fr'⟩ := fb
 obtain ⟨b1, ao1, n1, c1, b2, ao2, n2, c2, b3, ao3, n3, c3, rfl, hp, hq, hr⟩ := id ha
 obtain ⟨b4, ao4, n4, c4, b5, ao5, n5, c5, b6, ao6, n6, c6, rfl, hp', hq', hr'⟩ := id hb
 go_enter Try.func95, Try.ntmps95
 go_wp2_with fail
 have kp0 : Kp w _ := (Kp.alloc' (Kp.alloc' (Kp.alloc' (Below.refl w.heap.size w) (.cells #[.bool b1, .slice ao1 n1 c1, .bool b2, .slice ao2 n2 c2, .bool b3, .slice ao3 n3 c3, .int .i64 a.d] 41)) (.cells #[.bool b4, .slice ao4 n4 c4, .bool b5, .slice ao5 n5 c5, .bool b6, .slice ao6 n6 c6, .int .i64 b.d] 41)) (.cells #[.bool false, .slice none 0 0, .bool false, .slice none 0 0, .bool false, .slice none 0 0, .int .i64 0] 41))
 have sf0 : Sf 2 w _ := (Sf.alloc (Sf.alloc (Sf.alloc (Sf.refl 2 w) (.cells #[.bool b1, .slice ao1 n1 c1, .bool b2, .slice ao2 n2 c2, .bool b3, .slice ao3 n3 c3, .int .i64 a.d] 41)) (.cells #[.bool b4, .slice ao4 n4 c4, .bool b5, .slice ao5 n5 c5, .bool b6, .slice ao6 n6 c6, .int .i64 b.d] 41)) (.cells #[.bool false, .slice none 0 0, .bool false, .slice none 0 0, .bool false, .slice none 0 0, .int .i64 0] 41))
 refine (commonRoot_any a b _ _ _ (ha.soft sf0) (hb.soft sf0)).mono ?_
 rintro e w1 ⟨rfl, hk1⟩
 have kq0 := kp0.trans' hk1
 have sq0 := sf0.trans (Sf.keep hk1)
 have B1a : Blk w1 (w.heap.size) #[.bool b1, .slice ao1 n1 c1, .bool b2, .slice ao2 n2 c2, .bool b3, .slice ao3 n3 c3, .int .i64 a.d] 41 := Blk.keep hk1 (Blk.at (Blk.alloc (Blk.alloc (Blk.new _ _ _) _) _) (by simp))
 have B1b : Blk w1 (w.heap.size + 1) #[.bool b4, .slice ao4 n4 c4, .bool b5, .slice ao5 n5 c5, .bool b6, .slice ao6 n6 c6, .int .i64 b.d] 41 := Blk.keep hk1 (Blk.at (Blk.alloc (Blk.new _ _ _) _) (by simp))
 have B1res : Blk w1 (w.heap.size + 1 + 1) #[.bool false, .slice none 0 0, .bool false, .slice none 0 0, .bool false, .slice none 0 0, .int .i64 0] 41 := Blk.keep hk1 (Blk.at (Blk.new _ _ _) (by simp))
 obtain ⟨B1ac, B1af, B1al⟩ := B1a.all
 obtain ⟨B1bc, B1bf, B1bl⟩ := B1b.all
 obtain ⟨B1resc, B1resf, B1resl⟩ := B1res.all
 replace hp := hp.soft sq0
 replace hq := hq.soft sq0
 replace hr := hr.soft sq0
 replace hp' := hp'.soft sq0
 replace hq' := hq'.soft sq0
 replace hr' := hr'.soft sq0
 have hDb : (qroot a.d b.d == 0) = false := by simp; exact hD
 have HDN := Hid.mk hD
 clear hD
 generalize hDg : qroot a.d b.d = D at *
 have HDg := Hid.mk hDg
 clear hDg
 go_wp2_with fail
 have kp1 : Kp w _ := kq0
 have sf1 : Sf 2 w1 _ := (Sf.refl 2 w1)
 refine (timesRoot_any b.q D m _ _ (hq'.soft sf1) (by omega) fq' hdd.1 hdd.2).mono ?_
 rintro e w2 ⟨v2, rfl, hs, hk2⟩
 obtain ⟨b7, ao7, n7, c7, rfl⟩ := hs.shape'
 have fs : Ft (m + 7) (b.q * D) := fq'.mul (by unfold Ft; omega)
 have kq1 := kp1.trans' hk2
 have sq1 := sf1.trans (Sf.keep hk2)
 have B2a := Blk.keep hk2 B1a
 have B2b := Blk.keep hk2 B1b
 have B2res := Blk.keep hk2 B1res
 obtain ⟨B2ac, B2af, B2al⟩ := B2a.all
 obtain ⟨B2bc, B2bf, B2bl⟩ := B2b.all
 obtain ⟨B2resc, B2resf, B2resl⟩ := B2res.all
 replace hp := hp.soft sq1
 replace hq := hq.soft sq1
 replace hr := hr.soft sq1
 replace hp' := hp'.soft sq1
 replace hq' := hq'.soft sq1
 replace hr' := hr'.soft sq1
 clear B1a B1ac B1af B1b B1bc B1bf B1res B1resc B1resf
 go_wp2_with fail
 have kp2 : Kp w _ := (Kp.alloc' kq1 (.cells #[.bool b7, .slice ao7 n7 c7] 39))
 have sf2 : Sf 2 w2 _ := (Sf.alloc (Sf.refl 2 w2) (.cells #[.bool b7, .slice ao7 n7 c7] 39))
 refine (sumOfProducts_any a.p b.p a.q (b.q * D) (m + 7) _ _ _ _ _ (hp.soft sf2) (hp'.soft sf2) (hq.soft sf2) (hs.soft sf2) (by omega) (fp.mono (by omega)) (fp'.mono (by omega)) (fq.mono (by omega)) fs).mono ?_
 rintro e w3 ⟨v3, rfl, hv2, hk3⟩
 obtain ⟨b8, ao8, n8, c8, rfl⟩ := hv2.shape'
 have kq2 := kp2.trans' hk3
 have sq2 := sf2.trans (Sf.keep hk3)
 have B3a := Blk.keep hk3 (Blk.alloc B2a _)
 have B3b := Blk.keep hk3 (Blk.alloc B2b _)
 have B3res := Blk.keep hk3 (Blk.alloc B2res _)
 obtain ⟨B3ac, B3af, B3al⟩ := B3a.all
 obtain ⟨B3bc, B3bf, B3bl⟩ := B3b.all
 obtain ⟨B3resc, B3resf, B3resl⟩ := B3res.all
 replace hp := hp.soft sq2
 replace hq := hq.soft sq2
 replace hr := hr.soft sq2
 replace hp' := hp'.soft sq2
 replace hq' := hq'.soft sq2
 replace hr' := hr'.soft sq2
 clear B2a B2ac B2af B2b B2bc B2bf B2res B2resc B2resf
 go_wp2_with fail
 have kp3 : Kp w _ := (Kp.alloc' kq2 (.cells #[.bool b8, .slice ao8 n8 c8] 39))
 have sf3 : Sf 2 w3 _ := (Sf.alloc (Sf.refl 2 w3) (.cells #[.bool b8, .slice ao8 n8 c8] 39))
 refine (sumOfProducts_any a.p b.q a.q b.p m _ _ _ _ _ (hp.soft sf3) (hq'.soft sf3) (hq.soft sf3) (hp'.soft sf3) (by omega) fp fq' fq fp').mono ?_
 rintro e w4 ⟨v4, rfl, hv3, hk4⟩
 obtain ⟨b9, ao9, n9, c9, rfl⟩ := hv3.shape'
 have kq3 := kp3.trans' hk4
 have sq3 := sf3.trans (Sf.keep hk4)
 have B4a := Blk.keep hk4 (Blk.alloc B3a _)
 have B4b := Blk.keep hk4 (Blk.alloc B3b _)
 have B4res := Blk.keep hk4 (Blk.alloc B3res _)
 have B4p : Blk w4 (w3.heap.size) #[.bool b8, .slice ao8 n8 c8] 39 := Blk.keep hk4 (Blk.at (Blk.new _ _ _) (by simp))
 obtain ⟨B4ac, B4af, B4al⟩ := B4a.all
 obtain ⟨B4bc, B4bf, B4bl⟩ := B4b.all
 obtain ⟨B4resc, B4resf, B4resl⟩ := B4res.all
 obtain ⟨B4pc, B4pf, B4pl⟩ := B4p.all
 replace hr := hr.soft sq3
 replace hr' := hr'.soft sq3
 replace hv2 := hv2.soft sq3
 clear B3a B3ac B3af B3b B3bc B3bf B3res B3resc B3resf
 go_wp2_with fail
 have kp4 : Kp w _ := (Kp.alloc' kq3 (.cells #[.bool b9, .slice ao9 n9 c9] 39))
 have sf4 : Sf 2 w4 _ := (Sf.alloc (Sf.refl 2 w4) (.cells #[.bool b9, .slice ao9 n9 c9] 39))
 refine (multiply_any a.r b.r _ _ _ (hr.soft sf4) (hr'.soft sf4) (fr.fit (by omega)) (fr'.fit (by omega))).mono ?_
 rintro e w5 ⟨v5, rfl, hv4, hk5⟩
 obtain ⟨b10, ao10, n10, c10, rfl⟩ := hv4.shape'
 have kq4 := kp4.trans' hk5
 have sq4 := sf4.trans (Sf.keep hk5)
 have B5res := Blk.keep hk5 (Blk.alloc B4res _)
 have B5p := Blk.keep hk5 (Blk.alloc B4p _)
 have B5q : Blk w5 (w4.heap.size) #[.bool b9, .slice ao9 n9 c9] 39 := Blk.keep hk5 (Blk.at (Blk.new _ _ _) (by simp))
 obtain ⟨B5resc, B5resf, B5resl⟩ := B5res.all
 obtain ⟨B5pc, B5pf, B5pl⟩ := B5p.all
 obtain ⟨B5qc, B5qf, B5ql⟩ := B5q.all
 replace hv2 := hv2.soft sq4
 replace hv3 := hv3.soft sq4
 clear B4a B4ac B4af B4b B4bc B4bf B4res B4resc B4resf B4p B4pc B4pf
 go_wp2_with fail
 have kp5 : Kp w _ := (Kp.alloc' kq4 (.cells #[.bool b10, .slice ao10 n10 c10] 39))
 have sf5 : Sf 2 w5 _ := (Sf.alloc (Sf.refl 2 w5) (.cells #[.bool b10, .slice ao10 n10 c10] 39))
 refine (reduce_any (a.p * b.p + a.q * (b.q * D)) (a.p * b.q + a.q * b.p) (a.r * b.r) D (m + 7 + (m + 7) + 1) _ _ _ _ (hv2.soft sf5) (hv3.soft sf5) (hv4.soft sf5) (by omega) ((fp.mono (by omega)).sop (fp'.mono (by omega)) (fq.mono (by omega)) fs) ((fp.sop fq' fq fp').mono (by omega)) ((fr.mul fr').mono (by omega))).mono ?_
 rintro e w6 ⟨v6, rfl, hX, hk6⟩
 obtain ⟨b11, ao11, n11, c11, b12, ao12, n12, c12, b13, ao13, n13, c13, rfl, g1, g2, g3⟩ := id hX
 clear g1 g2 g3
 have kq5 := kp5.trans' hk6
 have sq5 := sf5.trans (Sf.keep hk6)
 have B6res := Blk.keep hk6 (Blk.alloc B5res _)
 obtain ⟨B6resc, B6resf, B6resl⟩ := B6res.all
 have ge6res : w.heap.size ≤ w.heap.size + 1 + 1 := by (first | omega | (have := kp5.size; simp only [World.size_alloc, size_setCell', size_drew'] at this; omega))
 clear B5res B5resc B5resf B5p B5pc B5pf B5q B5qc B5qf
 generalize hQ : qreduce (a.p * b.p + a.q * (b.q * D)) (a.p * b.q + a.q * b.p) (a.r * b.r) D = Q at *
 go_wp2_with fail
 refine bodyPost_ret (v := .tuple #[.agg #[.bool b11, .slice ao11 n11 c11, .bool b12, .slice ao12 n12 c12, .bool b13, .slice ao13 n13 c13, .int .i64 Q.d], .int .i64 0]) (by simp [results, Try.results95, go_sem, B6resc, B6resl]) rfl ?_
 have kpE : Kp w _ := (Kp.alloc' (stK7 (A := w.heap.size + 1 + 1) (.bool b11) (.slice ao11 n11 c11) (.bool b12) (.slice ao12 n12 c12) (.bool b13) (.slice ao13 n13 c13) (.int .i64 Q.d) kq5 (by have := ge6res; omega)) (.cells #[.bool b11, .slice ao11 n11 c11, .bool b12, .slice ao12 n12 c12, .bool b13, .slice ao13 n13 c13, .int .i64 Q.d] 41))
 have sfE : Sf 2 w6 _ := (Sf.alloc (stS7 (E := 2) (.bool b11) (.slice ao11 n11 c11) (.bool b12) (.slice ao12 n12 c12) (.bool b13) (.slice ao13 n13 c13) (.int .i64 Q.d) B6res (by decide)) (.cells #[.bool b11, .slice ao11 n11 c11, .bool b12, .slice ao12 n12 c12, .bool b13, .slice ao13 n13 c13, .int .i64 Q.d] 41))
 have hQ' : Q = (qmulN a b) := by rw [← hQ, ← HDg.out]; rfl
 rw [← hQ']
 exact ⟨_, rfl, hX.soft sfE, kpE⟩


end Go.Proofs.Ytjahbjjekednfaa

namespace Go.Proofs.Ytjahbjjekednfaa
open Go.RowKit

def qadd (a b : Qn) : Qn × Int := if qroot a.d b.d = 0 then (qzero, 4) else (qaddN a b, 0)
def qmul (a b : Qn) : Qn × Int := if qroot a.d b.d = 0 then (qzero, 4) else (qmulN a b, 0)
def qsub (a b : Qn) : Qn × Int := qadd a (qneg b)
def qdiv (a b : Qn) : Qn × Int := if b.p = 0 ∧ b.q = 0 then (qzero, 3) else qmul a (qinv b)
def QD (a : Qn) : Prop := 0 ≤ a.d ∧ a.d ≤ 1000000
theorem QF.neg {m : Nat} {a : Qn} (h : QF m a) : QF m (qneg a) := ⟨h.1.neg, h.2.1.neg, h.2.2⟩
theorem QD.neg {a : Qn} (h : QD a) : QD (qneg a) := h
theorem QF.inv {m : Nat} {a : Qn} (h : QF m a) (hd : QD a) : QF (m + (m + 7) + 1) (qinv a) := by
 have h7 : Ft (m + 7) (-a.q * a.d) := h.2.1.neg.mul (by have := hd.1; have := hd.2; unfold Ft; omega)
 refine QF.reduce ((h.2.2.mul h.1).mono (by omega)) ((h.2.2.mul h.2.1.neg).mono (by omega)) ?_
 exact (Ft.add ((h.1.mul h.1).mono (by omega)) (h.2.1.mul h7))
theorem QD.inv {a : Qn} (h : QD a) : QD (qinv a) := by
 have h1 := h.1
 have h2 := h.2
 unfold QD qinv qreduce
 simp only
 split <;> omega

theorem xadd_any (a b : Qn) (m : Nat) (u v : Value) (w : World) (ha : XN w u a) (hb : XN w v b) (hm : m ≤ 40000000) (fa : QF m a) (fb : QF m b) (da : QD a) (db : QD b) :
  Calls Try.prog 93 #[u, v] w (RetXE w (qadd a b).1 (qadd a b).2) := by
 unfold qadd
 split
 ·exact xadd_e a b m u v w ha hb hm fa fb da db (by assumption)
 ·exact xadd_n a b m u v w ha hb hm fa fb da db (by assumption)
theorem xmul_any (a b : Qn) (m : Nat) (u v : Value) (w : World) (ha : XN w u a) (hb : XN w v b) (hm : m ≤ 40000000) (fa : QF m a) (fb : QF m b) (da : QD a) (db : QD b) :
  Calls Try.prog 95 #[u, v] w (RetXE w (qmul a b).1 (qmul a b).2) := by
 unfold qmul
 split
 ·exact xmul_e a b m u v w ha hb hm fa fb da db (by assumption)
 ·exact xmul_n a b m u v w ha hb hm fa fb da db (by assumption)

set_option maxHeartbeats 1600000 in
theorem xsub_any (a b : Qn) (m : Nat) (u v : Value) (w : World) (ha : XN w u a) (hb : XN w v b) (hm : m ≤ 40000000) (fa : QF m a) (fb : QF m b) (da : QD a) (db : QD b) :
  Calls Try.prog 94 #[u, v] w (RetXE w (qsub a b).1 (qsub a b).2) := by
 obtain ⟨b1, ao1, n1, c1, b2, ao2, n2, c2, b3, ao3, n3, c3, rfl, hp, hq, hr⟩ := id ha
 obtain ⟨b4, ao4, n4, c4, b5, ao5, n5, c5, b6, ao6, n6, c6, rfl, hp', hq', hr'⟩ := id hb
 clear hp hq hr hp' hq' hr'
 go_enter Try.func94, Try.ntmps94
 go_wp2_with fail
 have kp0 : Kp w _ := (Kp.alloc' (Kp.alloc' (Kp.alloc' (Below.refl w.heap.size w) (.cells #[.bool b1, .slice ao1 n1 c1, .bool b2, .slice ao2 n2 c2, .bool b3, .slice ao3 n3 c3, .int .i64 a.d] 41)) (.cells #[.bool b4, .slice ao4 n4 c4, .bool b5, .slice ao5 n5 c5, .bool b6, .slice ao6 n6 c6, .int .i64 b.d] 41)) (.cells #[.bool false, .slice none 0 0, .bool false, .slice none 0 0, .bool false, .slice none 0 0, .int .i64 0] 41))
 have sf0 : Sf 2 w _ := (Sf.alloc (Sf.alloc (Sf.alloc (Sf.refl 2 w) (.cells #[.bool b1, .slice ao1 n1 c1, .bool b2, .slice ao2 n2 c2, .bool b3, .slice ao3 n3 c3, .int .i64 a.d] 41)) (.cells #[.bool b4, .slice ao4 n4 c4, .bool b5, .slice ao5 n5 c5, .bool b6, .slice ao6 n6 c6, .int .i64 b.d] 41)) (.cells #[.bool false, .slice none 0 0, .bool false, .slice none 0 0, .bool false, .slice none 0 0, .int .i64 0] 41))
 refine (xnegate_any b m _ _ (hb.soft sf0) (by omega) fb).mono ?_
 rintro e w1 ⟨v1, rfl, hv1, hk1⟩
 obtain ⟨b7, ao7, n7, c7, b8, ao8, n8, c8, b9, ao9, n9, c9, rfl, g1, g2, g3⟩ := id hv1
 clear g1 g2 g3
 have kq0 := kp0.trans' hk1
 have sq0 := sf0.trans (Sf.keep hk1)
 have B1a : Blk w1 (w.heap.size) #[.bool b1, .slice ao1 n1 c1, .bool b2, .slice ao2 n2 c2, .bool b3, .slice ao3 n3 c3, .int .i64 a.d] 41 := Blk.keep hk1 (Blk.at (Blk.alloc (Blk.alloc (Blk.new _ _ _) _) _) (by simp))
 have B1res : Blk w1 (w.heap.size + 1 + 1) #[.bool false, .slice none 0 0, .bool false, .slice none 0 0, .bool false, .slice none 0 0, .int .i64 0] 41 := Blk.keep hk1 (Blk.at (Blk.new _ _ _) (by simp))
 obtain ⟨B1ac, B1af, B1al⟩ := B1a.all
 have ge1a : w.heap.size ≤ w.heap.size := by (first | omega | (have := kp0.size; simp only [World.size_alloc, size_setCell', size_drew'] at this; omega))
 obtain ⟨B1resc, B1resf, B1resl⟩ := B1res.all
 have ge1res : w.heap.size ≤ w.heap.size + 1 + 1 := by (first | omega | (have := kp0.size; simp only [World.size_alloc, size_setCell', size_drew'] at this; omega))
 replace ha := ha.soft sq0
 go_wp2_with fail
 have kp1 : Kp w _ := (Kp.alloc' kq0 (.cells #[.bool b7, .slice ao7 n7 c7, .bool b8, .slice ao8 n8 c8, .bool b9, .slice ao9 n9 c9, .int .i64 (qneg b).d] 41))
 have sf1 : Sf 2 w1 _ := (Sf.alloc (Sf.refl 2 w1) (.cells #[.bool b7, .slice ao7 n7 c7, .bool b8, .slice ao8 n8 c8, .bool b9, .slice ao9 n9 c9, .int .i64 (qneg b).d] 41))
 refine (xadd_any a (qneg b) m _ _ _ (ha.soft sf1) (hv1.soft sf1) hm fa fb.neg da db.neg).mono ?_
 rintro e w2 ⟨v2, rfl, hv2, hk2⟩
 obtain ⟨b10, ao10, n10, c10, b11, ao11, n11, c11, b12, ao12, n12, c12, rfl, g1, g2, g3⟩ := id hv2
 clear g1 g2 g3
 have kq1 := kp1.trans' hk2
 have sq1 := sf1.trans (Sf.keep hk2)
 have B2res := Blk.keep hk2 (Blk.alloc B1res _)
 obtain ⟨B2resc, B2resf, B2resl⟩ := B2res.all
 have ge2res : w.heap.size ≤ w.heap.size + 1 + 1 := by (first | omega | (have := kp1.size; simp only [World.size_alloc, size_setCell', size_drew'] at this; omega))
 clear B1a B1ac B1af B1res B1resc B1resf
 generalize hQ : qadd a (qneg b) = Q at *
 go_wp2_with fail
 refine bodyPost_ret (v := .tuple #[.agg #[.bool b10, .slice ao10 n10 c10, .bool b11, .slice ao11 n11 c11, .bool b12, .slice ao12 n12 c12, .int .i64 Q.1.d], .int .i64 Q.2]) (by simp [results, Try.results94, go_sem, B2resc]) rfl ?_
 have kpE : Kp w _ := (stK7 (A := w.heap.size + 1 + 1) (.bool b10) (.slice ao10 n10 c10) (.bool b11) (.slice ao11 n11 c11) (.bool b12) (.slice ao12 n12 c12) (.int .i64 Q.1.d) kq1 (by have := ge2res; omega))
 have sfE : Sf 2 w2 _ := (stS7 (E := 2) (.bool b10) (.slice ao10 n10 c10) (.bool b11) (.slice ao11 n11 c11) (.bool b12) (.slice ao12 n12 c12) (.int .i64 Q.1.d) B2res (by decide))
 have hQ' : qsub a b = Q := hQ
 rw [hQ']
 exact ⟨_, rfl, hv2.soft sfE, kpE⟩

set_option maxHeartbeats 3200000 in
theorem invert_any (a : Qn) (m : Nat) (u : Value) (w : World) (ha : XN w u a) (hm : m ≤ 40000000) (fa : QF m a) (da : QD a) :
  Calls Try.prog 106 #[u] w (RetX w (qinv a)) := by
 obtain ⟨fp, fq, fr⟩ := fa
 obtain ⟨b1, ao1, n1, c1, b2, ao2, n2, c2, b3, ao3, n3, c3, rfl, hp, hq, hr⟩ := ha
 go_enter Try.func106, Try.ntmps106
 go_wp2_with fail
 have kp0 : Kp w _ := (Kp.alloc' (Kp.alloc' (Below.refl w.heap.size w) (.cells #[.bool b1, .slice ao1 n1 c1, .bool b2, .slice ao2 n2 c2, .bool b3, .slice ao3 n3 c3, .int .i64 a.d] 41)) (.cells #[.bool false, .slice none 0 0, .bool false, .slice none 0 0, .bool false, .slice none 0 0, .int .i64 0] 41))
 have sf0 : Sf 2 w _ := (Sf.alloc (Sf.alloc (Sf.refl 2 w) (.cells #[.bool b1, .slice ao1 n1 c1, .bool b2, .slice ao2 n2 c2, .bool b3, .slice ao3 n3 c3, .int .i64 a.d] 41)) (.cells #[.bool false, .slice none 0 0, .bool false, .slice none 0 0, .bool false, .slice none 0 0, .int .i64 0] 41))
 refine (negate_any a.q _ _ (hq.soft sf0) (fq.fit (by omega))).mono ?_
 rintro e w1 ⟨v1, rfl, ho, hk1⟩
 obtain ⟨b4, ao4, n4, c4, rfl⟩ := ho.shape'
 have kq0 := kp0.trans' hk1
 have sq0 := sf0.trans (Sf.keep hk1)
 have B1a : Blk w1 (w.heap.size) #[.bool b1, .slice ao1 n1 c1, .bool b2, .slice ao2 n2 c2, .bool b3, .slice ao3 n3 c3, .int .i64 a.d] 41 := Blk.keep hk1 (Blk.at (Blk.alloc (Blk.new _ _ _) _) (by simp))
 have B1res : Blk w1 (w.heap.size + 1) #[.bool false, .slice none 0 0, .bool false, .slice none 0 0, .bool false, .slice none 0 0, .int .i64 0] 41 := Blk.keep hk1 (Blk.at (Blk.new _ _ _) (by simp))
 obtain ⟨B1ac, B1af, B1al⟩ := B1a.all
 have ge1a : w.heap.size ≤ w.heap.size := by (first | omega | (have := kp0.size; simp only [World.size_alloc, size_setCell', size_drew'] at this; omega))
 obtain ⟨B1resc, B1resf, B1resl⟩ := B1res.all
 have ge1res : w.heap.size ≤ w.heap.size + 1 := by (first | omega | (have := kp0.size; simp only [World.size_alloc, size_setCell', size_drew'] at this; omega))
 replace hp := hp.soft sq0
 replace hq := hq.soft sq0
 replace hr := hr.soft sq0
 go_wp2_with fail
 have kp1 : Kp w _ := (Kp.alloc' kq0 (.cells #[.bool b4, .slice ao4 n4 c4] 39))
 have sf1 : Sf 2 w1 _ := (Sf.alloc (Sf.refl 2 w1) (.cells #[.bool b4, .slice ao4 n4 c4] 39))
 refine (timesRoot_any (-a.q) a.d m _ _ (ho.soft sf1) (by omega) fq.neg da.1 da.2).mono ?_
 rintro e w2 ⟨v2, rfl, hs, hk2⟩
 obtain ⟨b5, ao5, n5, c5, rfl⟩ := hs.shape'
 have fs : Ft (m + 7) (-a.q * a.d) := fq.neg.mul (by have := da.1; have := da.2; unfold Ft; omega)
 have kq1 := kp1.trans' hk2
 have sq1 := sf1.trans (Sf.keep hk2)
 have B2a := Blk.keep hk2 (Blk.alloc B1a _)
 have B2res := Blk.keep hk2 (Blk.alloc B1res _)
 have B2opp : Blk w2 (w1.heap.size) #[.bool b4, .slice ao4 n4 c4] 39 := Blk.keep hk2 (Blk.at (Blk.new _ _ _) (by simp))
 obtain ⟨B2ac, B2af, B2al⟩ := B2a.all
 obtain ⟨B2resc, B2resf, B2resl⟩ := B2res.all
 obtain ⟨B2oppc, B2oppf, B2oppl⟩ := B2opp.all
 replace hp := hp.soft sq1
 replace hq := hq.soft sq1
 replace hr := hr.soft sq1
 replace ho := ho.soft sq1
 clear B1a B1ac B1af B1res B1resc B1resf
 go_wp2_with fail
 have kp2 : Kp w _ := (Kp.alloc' kq1 (.cells #[.bool b5, .slice ao5 n5 c5] 39))
 have sf2 : Sf 2 w2 _ := (Sf.alloc (Sf.refl 2 w2) (.cells #[.bool b5, .slice ao5 n5 c5] 39))
 refine (sumOfProducts_any a.p a.p a.q (-a.q * a.d) (m + 7) _ _ _ _ _ (hp.soft sf2) (hp.soft sf2) (hq.soft sf2) (hs.soft sf2) (by omega) (fp.mono (by omega)) (fp.mono (by omega)) (fq.mono (by omega)) fs).mono ?_
 rintro e w3 ⟨v3, rfl, hn, hk3⟩
 obtain ⟨b6, ao6, n6, c6, rfl⟩ := hn.shape'
 have kq2 := kp2.trans' hk3
 have sq2 := sf2.trans (Sf.keep hk3)
 have B3a := Blk.keep hk3 (Blk.alloc B2a _)
 have B3res := Blk.keep hk3 (Blk.alloc B2res _)
 have B3opp := Blk.keep hk3 (Blk.alloc B2opp _)
 obtain ⟨B3ac, B3af, B3al⟩ := B3a.all
 obtain ⟨B3resc, B3resf, B3resl⟩ := B3res.all
 have ge3res : w.heap.size ≤ w.heap.size + 1 := by (first | omega | (have := kp2.size; simp only [World.size_alloc, size_setCell', size_drew'] at this; omega))
 obtain ⟨B3oppc, B3oppf, B3oppl⟩ := B3opp.all
 replace hp := hp.soft sq2
 replace hr := hr.soft sq2
 replace ho := ho.soft sq2
 clear B2a B2ac B2af B2res B2resc B2resf B2opp B2oppc B2oppf
 go_wp2_with fail
 have kp3 : Kp w _ := (Kp.alloc' kq2 (.cells #[.bool b6, .slice ao6 n6 c6] 39))
 have sf3 : Sf 2 w3 _ := (Sf.alloc (Sf.refl 2 w3) (.cells #[.bool b6, .slice ao6 n6 c6] 39))
 refine (multiply_any a.r a.p _ _ _ (hr.soft sf3) (hp.soft sf3) (fr.fit (by omega)) (fp.fit (by omega))).mono ?_
 rintro e w4 ⟨v4, rfl, hp1, hk4⟩
 obtain ⟨b7, ao7, n7, c7, rfl⟩ := hp1.shape'
 have kq3 := kp3.trans' hk4
 have sq3 := sf3.trans (Sf.keep hk4)
 have B4a := Blk.keep hk4 (Blk.alloc B3a _)
 have B4res := Blk.keep hk4 (Blk.alloc B3res _)
 have B4opp := Blk.keep hk4 (Blk.alloc B3opp _)
 have B4norm : Blk w4 (w3.heap.size) #[.bool b6, .slice ao6 n6 c6] 39 := Blk.keep hk4 (Blk.at (Blk.new _ _ _) (by simp))
 obtain ⟨B4ac, B4af, B4al⟩ := B4a.all
 obtain ⟨B4resc, B4resf, B4resl⟩ := B4res.all
 obtain ⟨B4oppc, B4oppf, B4oppl⟩ := B4opp.all
 obtain ⟨B4normc, B4normf, B4norml⟩ := B4norm.all
 replace hr := hr.soft sq3
 replace ho := ho.soft sq3
 replace hn := hn.soft sq3
 clear B3a B3ac B3af B3res B3resc B3resf B3opp B3oppc B3oppf
 go_wp2_with fail
 have kp4 : Kp w _ := (Kp.alloc' kq3 (.cells #[.bool b7, .slice ao7 n7 c7] 39))
 have sf4 : Sf 2 w4 _ := (Sf.alloc (Sf.refl 2 w4) (.cells #[.bool b7, .slice ao7 n7 c7] 39))
 refine (multiply_any a.r (-a.q) _ _ _ (hr.soft sf4) (ho.soft sf4) (fr.fit (by omega)) (fq.neg.fit (by omega))).mono ?_
 rintro e w5 ⟨v5, rfl, hq1, hk5⟩
 obtain ⟨b8, ao8, n8, c8, rfl⟩ := hq1.shape'
 have kq4 := kp4.trans' hk5
 have sq4 := sf4.trans (Sf.keep hk5)
 have B5a := Blk.keep hk5 (Blk.alloc B4a _)
 have B5res := Blk.keep hk5 (Blk.alloc B4res _)
 have B5norm := Blk.keep hk5 (Blk.alloc B4norm _)
 have B5p : Blk w5 (w4.heap.size) #[.bool b7, .slice ao7 n7 c7] 39 := Blk.keep hk5 (Blk.at (Blk.new _ _ _) (by simp))
 obtain ⟨B5ac, B5af, B5al⟩ := B5a.all
 obtain ⟨B5resc, B5resf, B5resl⟩ := B5res.all
 obtain ⟨B5normc, B5normf, B5norml⟩ := B5norm.all
 obtain ⟨B5pc, B5pf, B5pl⟩ := B5p.all
 replace hn := hn.soft sq4
 replace hp1 := hp1.soft sq4
 clear B4a B4ac B4af B4res B4resc B4resf B4opp B4oppc B4oppf B4norm B4normc B4normf
 go_wp2_with fail
 have kp5 : Kp w _ := (Kp.alloc' kq4 (.cells #[.bool b8, .slice ao8 n8 c8] 39))
 have sf5 : Sf 2 w5 _ := (Sf.alloc (Sf.refl 2 w5) (.cells #[.bool b8, .slice ao8 n8 c8] 39))
 refine (reduce_any (a.r * a.p) (a.r * -a.q) (a.p * a.p + a.q * (-a.q * a.d)) a.d (m + 7 + (m + 7) + 1) _ _ _ _ (hp1.soft sf5) (hq1.soft sf5) (hn.soft sf5) (by omega) ((fr.mul fp).mono (by omega)) ((fr.mul fq.neg).mono (by omega)) (Ft.sop (fp.mono (by omega)) (fp.mono (by omega)) (fq.mono (by omega)) fs)).mono ?_
 rintro e w6 ⟨v6, rfl, hX, hk6⟩
 obtain ⟨b11, ao11, n11, c11, b12, ao12, n12, c12, b13, ao13, n13, c13, rfl, g1, g2, g3⟩ := id hX
 clear g1 g2 g3
 have kq5 := kp5.trans' hk6
 have sq5 := sf5.trans (Sf.keep hk6)
 have B6res := Blk.keep hk6 (Blk.alloc B5res _)
 obtain ⟨B6resc, B6resf, B6resl⟩ := B6res.all
 have ge6res : w.heap.size ≤ w.heap.size + 1 := by (first | omega | (have := kp5.size; simp only [World.size_alloc, size_setCell', size_drew'] at this; omega))
 clear B5a B5ac B5af B5res B5resc B5resf B5norm B5normc B5normf B5p B5pc B5pf
 generalize hQ : qreduce (a.r * a.p) (a.r * -a.q) (a.p * a.p + a.q * (-a.q * a.d)) a.d = Q at *
 go_wp2_with fail
 refine bodyPost_ret (v := .agg #[.bool b11, .slice ao11 n11 c11, .bool b12, .slice ao12 n12 c12, .bool b13, .slice ao13 n13 c13, .int .i64 Q.d]) (by simp [results, Try.results106, go_sem, B6resc]) rfl ?_
 have kpE : Kp w _ := (stK7 (A := w.heap.size + 1) (.bool b11) (.slice ao11 n11 c11) (.bool b12) (.slice ao12 n12 c12) (.bool b13) (.slice ao13 n13 c13) (.int .i64 Q.d) kq5 (by have := ge6res; omega))
 have sfE : Sf 2 w6 _ := (stS7 (E := 2) (.bool b11) (.slice ao11 n11 c11) (.bool b12) (.slice ao12 n12 c12) (.bool b13) (.slice ao13 n13 c13) (.int .i64 Q.d) B6res (by decide))
 have hQ' : qinv a = Q := hQ
 rw [hQ']
 exact ⟨_, rfl, hX.soft sfE, kpE⟩

set_option maxHeartbeats 1600000 in
theorem xdiv_e (a b : Qn) (m : Nat) (u v : Value) (w : World) (ha : XN w u a) (hb : XN w v b) (_hm : m ≤ 15000000) (_fa : QF m a) (_fb : QF m b) (_da : QD a) (_db : QD b) (hZ : (b.p = 0 ∧ b.q = 0)) :
  Calls Try.prog 96 #[u, v] w (RetXE w qzero 3) := by
 obtain ⟨b1, ao1, n1, c1, b2, ao2, n2, c2, b3, ao3, n3, c3, rfl, hp, hq, hr⟩ := id ha
 obtain ⟨b4, ao4, n4, c4, b5, ao5, n5, c5, b6, ao6, n6, c6, rfl, hp', hq', hr'⟩ := id hb
 clear hp hq hr hp' hq' hr'
 go_enter Try.func96, Try.ntmps96
 go_wp2_with fail
 have kp0 : Kp w _ := (Kp.alloc' (Kp.alloc' (Kp.alloc' (Below.refl w.heap.size w) (.cells #[.bool b1, .slice ao1 n1 c1, .bool b2, .slice ao2 n2 c2, .bool b3, .slice ao3 n3 c3, .int .i64 a.d] 41)) (.cells #[.bool b4, .slice ao4 n4 c4, .bool b5, .slice ao5 n5 c5, .bool b6, .slice ao6 n6 c6, .int .i64 b.d] 41)) (.cells #[.bool false, .slice none 0 0, .bool false, .slice none 0 0, .bool false, .slice none 0 0, .int .i64 0] 41))
 have sf0 : Sf 2 w _ := (Sf.alloc (Sf.alloc (Sf.alloc (Sf.refl 2 w) (.cells #[.bool b1, .slice ao1 n1 c1, .bool b2, .slice ao2 n2 c2, .bool b3, .slice ao3 n3 c3, .int .i64 a.d] 41)) (.cells #[.bool b4, .slice ao4 n4 c4, .bool b5, .slice ao5 n5 c5, .bool b6, .slice ao6 n6 c6, .int .i64 b.d] 41)) (.cells #[.bool false, .slice none 0 0, .bool false, .slice none 0 0, .bool false, .slice none 0 0, .int .i64 0] 41))
 refine (isZero_any b _ _ (hb.soft sf0)).mono ?_
 rintro e w1 ⟨rfl, hk1⟩
 rw [decide_eq_true hZ]
 have kq0 := kp0.trans' hk1
 have sq0 := sf0.trans (Sf.keep hk1)
 have B1a : Blk w1 (w.heap.size) #[.bool b1, .slice ao1 n1 c1, .bool b2, .slice ao2 n2 c2, .bool b3, .slice ao3 n3 c3, .int .i64 a.d] 41 := Blk.keep hk1 (Blk.at (Blk.alloc (Blk.alloc (Blk.new _ _ _) _) _) (by simp))
 have B1b : Blk w1 (w.heap.size + 1) #[.bool b4, .slice ao4 n4 c4, .bool b5, .slice ao5 n5 c5, .bool b6, .slice ao6 n6 c6, .int .i64 b.d] 41 := Blk.keep hk1 (Blk.at (Blk.alloc (Blk.new _ _ _) _) (by simp))
 have B1res : Blk w1 (w.heap.size + 1 + 1) #[.bool false, .slice none 0 0, .bool false, .slice none 0 0, .bool false, .slice none 0 0, .int .i64 0] 41 := Blk.keep hk1 (Blk.at (Blk.new _ _ _) (by simp))
 obtain ⟨B1ac, B1af, B1al⟩ := B1a.all
 obtain ⟨B1bc, B1bf, B1bl⟩ := B1b.all
 obtain ⟨B1resc, B1resf, B1resl⟩ := B1res.all
 have ge1res : w.heap.size ≤ w.heap.size + 1 + 1 := by (first | omega | (have := kp0.size; simp only [World.size_alloc, size_setCell', size_drew'] at this; omega))
 replace ha := ha.soft sq0
 replace hb := hb.soft sq0
 clear hZ
 go_wp2_with fail
 refine bodyPost_ret (v := .tuple #[.agg #[.bool false, .slice none 0 0, .bool false, .slice none 0 0, .bool false, .slice none 0 0, .int .i64 0], .int .i64 3]) (by simp [results, Try.results96, go_sem, B1resc]) rfl ?_
 have kpE : Kp w _ := (stK7 (A := w.heap.size + 1 + 1) (.bool false) (.slice none 0 0) (.bool false) (.slice none 0 0) (.bool false) (.slice none 0 0) (.int .i64 0) kq0 (by have := ge1res; omega))
 have sfE : Sf 2 w1 _ := (stS7 (E := 2) (.bool false) (.slice none 0 0) (.bool false) (.slice none 0 0) (.bool false) (.slice none 0 0) (.int .i64 0) B1res (by decide))
 exact ⟨_, rfl, xn_zero _, kpE⟩

set_option maxHeartbeats 1600000 in
theorem xdiv_n (a b : Qn) (m : Nat) (u v : Value) (w : World) (ha : XN w u a) (hb : XN w v b) (hm : m ≤ 15000000) (fa : QF m a) (fb : QF m b) (da : QD a) (db : QD b) (hZ : ¬ (b.p = 0 ∧ b.q = 0)) :
  Calls Try.prog 96 #[u, v] w (RetXE w (qmul a (qinv b)).1 (qmul a (qinv b)).2) := by
 obtain ⟨b1, ao1, n1, c1, b2, ao2, n2, c2, b3, ao3, n3, c3, rfl, hp, hq, hr⟩ := id ha
 obtain ⟨b4, ao4, n4, c4, b5, ao5, n5, c5, b6, ao6, n6, c6, rfl, hp', hq', hr'⟩ := id hb
 clear hp hq hr hp' hq' hr'
 go_enter Try.func96, Try.ntmps96
 go_wp2_with fail
 have kp0 : Kp w _ := (Kp.alloc' (Kp.alloc' (Kp.alloc' (Below.refl w.heap.size w) (.cells #[.bool b1, .slice ao1 n1 c1, .bool b2, .slice ao2 n2 c2, .bool b3, .slice ao3 n3 c3, .int .i64 a.d] 41)) (.cells #[.bool b4, .slice ao4 n4 c4, .bool b5, .slice ao5 n5 c5, .bool b6, .slice ao6 n6 c6, .int .i64 b.d] 41)) (.cells #[.bool false, .slice none 0 0, .bool false, .slice none 0 0, .bool false, .slice none 0 0, .int .i64 0] 41))
 have sf0 : Sf 2 w _ := (Sf.alloc (Sf.alloc (Sf.alloc (Sf.refl 2 w) (.cells #[.bool b1, .slice ao1 n1 c1, .bool b2, .slice ao2 n2 c2, .bool b3, .slice ao3 n3 c3, .int .i64 a.d] 41)) (.cells #[.bool b4, .slice ao4 n4 c4, .bool b5, .slice ao5 n5 c5, .bool b6, .slice ao6 n6 c6, .int .i64 b.d] 41)) (.cells #[.bool false, .slice none 0 0, .bool false, .slice none 0 0, .bool false, .slice none 0 0, .int .i64 0] 41))
 refine (isZero_any b _ _ (hb.soft sf0)).mono ?_
 rintro e w1 ⟨rfl, hk1⟩
 rw [decide_eq_false hZ]
 have kq0 := kp0.trans' hk1
 have sq0 := sf0.trans (Sf.keep hk1)
 have B1a : Blk w1 (w.heap.size) #[.bool b1, .slice ao1 n1 c1, .bool b2, .slice ao2 n2 c2, .bool b3, .slice ao3 n3 c3, .int .i64 a.d] 41 := Blk.keep hk1 (Blk.at (Blk.alloc (Blk.alloc (Blk.new _ _ _) _) _) (by simp))
 have B1b : Blk w1 (w.heap.size + 1) #[.bool b4, .slice ao4 n4 c4, .bool b5, .slice ao5 n5 c5, .bool b6, .slice ao6 n6 c6, .int .i64 b.d] 41 := Blk.keep hk1 (Blk.at (Blk.alloc (Blk.new _ _ _) _) (by simp))
 have B1res : Blk w1 (w.heap.size + 1 + 1) #[.bool false, .slice none 0 0, .bool false, .slice none 0 0, .bool false, .slice none 0 0, .int .i64 0] 41 := Blk.keep hk1 (Blk.at (Blk.new _ _ _) (by simp))
 obtain ⟨B1ac, B1af, B1al⟩ := B1a.all
 obtain ⟨B1bc, B1bf, B1bl⟩ := B1b.all
 obtain ⟨B1resc, B1resf, B1resl⟩ := B1res.all
 replace ha := ha.soft sq0
 replace hb := hb.soft sq0
 clear hZ
 go_wp2_with fail
 have kp1 : Kp w _ := kq0
 have sf1 : Sf 2 w1 _ := (Sf.refl 2 w1)
 refine (invert_any b m _ _ (hb.soft sf1) (by omega) fb db).mono ?_
 rintro e w2 ⟨v2, rfl, hv2, hk2⟩
 obtain ⟨b7, ao7, n7, c7, b8, ao8, n8, c8, b9, ao9, n9, c9, rfl, g1, g2, g3⟩ := id hv2
 clear g1 g2 g3
 have kq1 := kp1.trans' hk2
 have sq1 := sf1.trans (Sf.keep hk2)
 have B2a := Blk.keep hk2 B1a
 have B2res := Blk.keep hk2 B1res
 obtain ⟨B2ac, B2af, B2al⟩ := B2a.all
 obtain ⟨B2resc, B2resf, B2resl⟩ := B2res.all
 replace ha := ha.soft sq1
 clear B1a B1ac B1af B1b B1bc B1bf B1res B1resc B1resf
 have fi := fb.inv db
 have di := db.inv
 generalize hI : qinv b = I at *
 go_wp2_with fail
 have kp2 : Kp w _ := (Kp.alloc' kq1 (.cells #[.bool b7, .slice ao7 n7 c7, .bool b8, .slice ao8 n8 c8, .bool b9, .slice ao9 n9 c9, .int .i64 I.d] 41))
 have sf2 : Sf 2 w2 _ := (Sf.alloc (Sf.refl 2 w2) (.cells #[.bool b7, .slice ao7 n7 c7, .bool b8, .slice ao8 n8 c8, .bool b9, .slice ao9 n9 c9, .int .i64 I.d] 41))
 refine (xmul_any a I (m + (m + 7) + 1) _ _ _ (ha.soft sf2) (hv2.soft sf2) (by omega) ⟨fa.1.mono (by omega), fa.2.1.mono (by omega), fa.2.2.mono (by omega)⟩ fi da di).mono ?_
 rintro e w3 ⟨v3, rfl, hv3, hk3⟩
 obtain ⟨b10, ao10, n10, c10, b11, ao11, n11, c11, b12, ao12, n12, c12, rfl, g1, g2, g3⟩ := id hv3
 clear g1 g2 g3
 have kq2 := kp2.trans' hk3
 have sq2 := sf2.trans (Sf.keep hk3)
 have B3res := Blk.keep hk3 (Blk.alloc B2res _)
 obtain ⟨B3resc, B3resf, B3resl⟩ := B3res.all
 have ge3res : w.heap.size ≤ w.heap.size + 1 + 1 := by (first | omega | (have := kp2.size; simp only [World.size_alloc, size_setCell', size_drew'] at this; omega))
 clear B2a B2ac B2af B2res B2resc B2resf
 generalize hQ : qmul a I = Q at *
 go_wp2_with fail
 refine bodyPost_ret (v := .tuple #[.agg #[.bool b10, .slice ao10 n10 c10, .bool b11, .slice ao11 n11 c11, .bool b12, .slice ao12 n12 c12, .int .i64 Q.1.d], .int .i64 Q.2]) (by simp [results, Try.results96, go_sem, B3resc]) rfl ?_
 have kpE : Kp w _ := (stK7 (A := w.heap.size + 1 + 1) (.bool b10) (.slice ao10 n10 c10) (.bool b11) (.slice ao11 n11 c11) (.bool b12) (.slice ao12 n12 c12) (.int .i64 Q.1.d) kq2 (by have := ge3res; omega))
 have sfE : Sf 2 w3 _ := (stS7 (E := 2) (.bool b10) (.slice ao10 n10 c10) (.bool b11) (.slice ao11 n11 c11) (.bool b12) (.slice ao12 n12 c12) (.int .i64 Q.1.d) B3res (by decide))
 exact ⟨_, rfl, hv3.soft sfE, kpE⟩

theorem xdiv_any (a b : Qn) (m : Nat) (u v : Value) (w : World) (ha : XN w u a) (hb : XN w v b) (hm : m ≤ 15000000) (fa : QF m a) (fb : QF m b) (da : QD a) (db : QD b) :
  Calls Try.prog 96 #[u, v] w (RetXE w (qdiv a b).1 (qdiv a b).2) := by
 unfold qdiv
 split
 ·exact xdiv_e a b m u v w ha hb hm fa fb da db (by assumption)
 ·exact xdiv_n a b m u v w ha hb hm fa fb da db (by assumption)

end Go.Proofs.Ytjahbjjekednfaa

namespace Go.Proofs.Ytjahbjjekednfaa
open Go.RowKit

/-- The square root of n, in its form. -/
def qsqrt (n : Nat) : Qn :=
 if n = 0 then ⟨0, 0, 1, 1⟩
 else if n / (sqf n 1000 * sqf n 1000) = 1 then ⟨sqf n 1000, 0, 1, 1⟩
 else ⟨0, sqf n 1000, 1, (n / (sqf n 1000 * sqf n 1000) : Nat)⟩

theorem qsqrt_of {n o s : Nat} (h : IsRoot n o s) (hn : n < 1000000) : qsqrt n = if s = 1 then ⟨o, 0, 1, 1⟩ else ⟨0, o, 1, s⟩ := by
 have h0 : 0 < n := by
  have := Nat.mul_pos (Nat.mul_pos h.op h.op) h.sp
  have := h.eq
  omega
 obtain ⟨e1, e2⟩ := h.unique (sqf_root h0 hn)
 unfold qsqrt
 rw [if_neg (by omega), ← e2, ← e1]

theorem root_step {n o s i : Nat} (he : o * o * s = n) (hd : s % (i * i) = 0) : (o * i) * (o * i) * (s / (i * i)) = n := by
 obtain ⟨t, ht⟩ := Nat.dvd_of_mod_eq_zero hd
 rcases Nat.eq_zero_or_pos (i * i) with h | h
 ·have hi : i = 0 := by
   rcases Nat.eq_zero_or_pos i with e | e
   ·exact e
   ·have := Nat.mul_pos e e; omega
  subst hi
  rw [ht] at he
  simp at he
  rw [← he]; simp
 ·rw [ht, Nat.mul_div_cancel_left _ h]
  rw [ht] at he
  rw [← he]
  grind

theorem le_of_sq {o n : Nat} (h : o * o ≤ n) (hn : n < 1000000) : o < 1000 := by
 rcases Nat.lt_or_ge o 1000 with h1 | h1
 ·exact h1
 ·have := Nat.mul_le_mul h1 h1
  omega

theorem ret_x {w w1 W : World} {a : Qn} {v : Value} (h : XN w1 v a) (hs : Sf 2 w1 W) (hk : Kp w W) : RetX w a (.returned v) W := ⟨v, rfl, h.soft hs, hk⟩

def RI (n o s i : Nat) : Prop := 0 < o ∧ 0 < s ∧ o * o * s = n ∧ ∀ k, 2 ≤ k → k < i → ¬ (k * k ∣ s)

theorem RI.done {n o s i : Nat} (h : RI n o s i) (hi : ¬ i ≤ s / i) (hip : 0 < i) : IsRoot n o s := by
 refine ⟨h.1, h.2.1, h.2.2.1, ?_⟩
 intro k hk hd
 refine h.2.2.2 k hk ?_ hd
 have h1 := Nat.le_of_dvd h.2.1 hd
 rcases Nat.lt_or_ge k i with h2 | h2
 ·exact h2
 ·exfalso
  apply hi
  rw [Nat.le_div_iff_mul_le hip]
  have := Nat.mul_le_mul h2 h2
  omega
theorem RI.down {n o s i : Nat} (h : RI n o s i) (hi : 0 < i) (hd : s % (i * i) = 0) : RI n (o * i) (s / (i * i)) i := by
 have hii : 0 < i * i := Nat.mul_pos hi hi
 have hdv := Nat.dvd_of_mod_eq_zero hd
 refine ⟨Nat.mul_pos h.1 hi, Nat.div_pos (Nat.le_of_dvd h.2.1 hdv) hii, root_step h.2.2.1 hd, ?_⟩
 intro k hk hki hkd
 exact h.2.2.2 k hk hki (Nat.dvd_trans hkd (Nat.div_dvd_of_dvd hdv))
theorem RI.next {n o s i : Nat} (h : RI n o s i) (hd : ¬ s % (i * i) = 0) : RI n o s (i + 1) := by
 refine ⟨h.1, h.2.1, h.2.2.1, ?_⟩
 intro k hk hki hkd
 rcases Nat.lt_or_ge k i with h1 | h1
 ·exact h.2.2.2 k hk h1 hkd
 ·have : k = i := by omega
  subst this
  exact hd (Nat.mod_eq_zero_of_dvd hkd)
theorem RI.bd {n o s i : Nat} (h : RI n o s i) (hn : n < 1000000) : 1 ≤ o ∧ o < 1000 ∧ 1 ≤ s ∧ s < 1000000 := by
 obtain ⟨h1, h2, h3, _⟩ := h
 have h4 : o * o ≤ n := by rw [← h3]; exact Nat.le_mul_of_pos_right _ h2
 have h5 : s ≤ n := by rw [← h3]; exact Nat.le_mul_of_pos_left _ (Nat.mul_pos h1 h1)
 exact ⟨h1, le_of_sq h4 hn, h2, by omega⟩

set_option maxHeartbeats 3200000 in
theorem root_zero (w : World) : Calls Try.prog 100 #[.int .i64 0] w (RetX w (qsqrt 0)) := by
 go_enter Try.func100, Try.ntmps100
 go_wp2_with fail
 have kp0 : Kp w _ := (Kp.alloc' (Below.refl w.heap.size w) (.cells #[.bool false, .slice none 0 0, .bool false, .slice none 0 0, .bool false, .slice none 0 0, .int .i64 0] 41))
 have sf0 : Sf 2 w _ := (Sf.alloc (Sf.refl 2 w) (.cells #[.bool false, .slice none 0 0, .bool false, .slice none 0 0, .bool false, .slice none 0 0, .int .i64 0] 41))
 refine (xfromInt_any 0 _ (by decide) (by decide)).mono ?_
 rintro e w1 ⟨v1, rfl, hv1, hk1⟩
 obtain ⟨b1, ao1, n1, c1, b2, ao2, n2, c2, b3, ao3, n3, c3, rfl, g1, g2, g3⟩ := id hv1
 clear g1 g2 g3
 have kq0 := kp0.trans' hk1
 have sq0 := sf0.trans (Sf.keep hk1)
 have B1res : Blk w1 (w.heap.size) #[.bool false, .slice none 0 0, .bool false, .slice none 0 0, .bool false, .slice none 0 0, .int .i64 0] 41 := Blk.keep hk1 (Blk.at (Blk.new _ _ _) (by simp))
 obtain ⟨B1resc, B1resf, B1resl⟩ := B1res.all
 have ge1res : w.heap.size ≤ w.heap.size := by (first | omega | (have := kp0.size; simp only [World.size_alloc, size_setCell', size_drew'] at this; omega))
 go_wp2_with fail
 refine bodyPost_ret (v := .agg #[.bool b1, .slice ao1 n1 c1, .bool b2, .slice ao2 n2 c2, .bool b3, .slice ao3 n3 c3, .int .i64 1]) (by simp [results, Try.results100, go_sem, B1resc]) rfl ?_
 have kpE : Kp w _ := (stK7 (A := w.heap.size) (.bool b1) (.slice ao1 n1 c1) (.bool b2) (.slice ao2 n2 c2) (.bool b3) (.slice ao3 n3 c3) (.int .i64 1) kq0 (by have := ge1res; omega))
 have sfE : Sf 2 w1 _ := (stS7 (E := 2) (.bool b1) (.slice ao1 n1 c1) (.bool b2) (.slice ao2 n2 c2) (.bool b3) (.slice ao3 n3 c3) (.int .i64 1) B1res (by decide))
 exact ret_x hv1 sfE kpE

set_option maxHeartbeats 3200000 in
theorem root_pos (n : Nat) (w : World) (h0 : 0 < n) (hn : n < 1000000) : Calls Try.prog 100 #[.int .i64 (n : Int)] w (RetX w (qsqrt n)) := by
 have hne : (n = 0) = False := by simp; omega
 go_enter Try.func100, Try.ntmps100
 go_wp2_with fail
 go_loop [3, 4, 5] (fun x y z => ∃ o s i : Nat, x = .int .i64 (o : Int) ∧ y = .int .i64 (s : Int) ∧ z = .int .i64 (i : Int) ∧ Hid (RI n o s i) ∧ 2 ≤ i ∧ i ≤ 1001) (fun _ _ z => 2000 - (intOf z).toNat)
 case atStart => exact ⟨1, n, 2, rfl, rfl, rfl, ⟨by decide, h0, by simp, fun k h1 h2 => by omega⟩, by omega, by omega⟩
 case round =>
  obtain ⟨o, s, i, rfl, rfl, rfl, hri, hi2, hi3⟩ := hrel
  have hbd := hri.out.bd hn
  have hqb : 0 ≤ (s : Int) / (i : Int) ∧ (s : Int) / (i : Int) ≤ 1000000 := by
   have h1 := Nat.div_le_self s i
   have h2 : s / i ≤ 1000000 := by omega
   rw [← Int.natCast_ediv]
   exact ⟨Int.natCast_nonneg _, Int.ofNat_le.2 h2⟩
  by_cases hc : i ≤ s / i
  ·have hc' : (i : Int) ≤ (s : Int) / (i : Int) := by have : ((s / i : Nat) : Int) = (s : Int) / (i : Int) := Int.natCast_ediv _ _; omega
   have hisq : i * i ≤ s := by rw [Nat.le_div_iff_mul_le (by omega)] at hc; exact hc
   have hi4 : i < 1000 := le_of_sq hisq (by omega)
   have HC := Hid.mk hc
   clear hc hisq
   go_wp2_with fail
   go_loop [3, 4] (fun x y => ∃ o s : Nat, x = .int .i64 (o : Int) ∧ y = .int .i64 (s : Int) ∧ Hid (RI n o s i)) (fun _ y => (intOf y).toNat)
   case atStart => exact ⟨o, s, rfl, rfl, hri⟩
   case round =>
    obtain ⟨o, s, rfl, rfl, hri⟩ := hrel
    clear hbd
    have hbd := hri.out.bd hn
    have hii : 4 ≤ i * i ∧ i * i ≤ 1000000 := ⟨Nat.mul_le_mul hi2 hi2, by have := Nat.mul_le_mul (show i ≤ 1000 by omega) (show i ≤ 1000 by omega); omega⟩
    have hii' : (4 : Int) ≤ (i : Int) * (i : Int) ∧ (i : Int) * (i : Int) ≤ 1000000 := by rw [← Int.natCast_mul]; omega
    by_cases hd : s % (i * i) = 0
    ·have hd' : ((s : Int) % ((i : Int) * (i : Int)) == 0) = true := by
      rw [← Int.natCast_mul, ← Int.natCast_emod, hd]; rfl
     have hri' := hri.out.down (by omega) hd
     have hbd' := hri'.bd hn
     have hoi : (o : Int) * (i : Int) ≤ 1000 ∧ 0 ≤ (o : Int) * (i : Int) := by rw [← Int.natCast_mul]; omega
     have hqb2 : 0 ≤ (s : Int) / ((i : Int) * (i : Int)) ∧ (s : Int) / ((i : Int) * (i : Int)) ≤ 1000000 := by
      have h1 := Nat.div_le_self s (i * i)
      have h2 : s / (i * i) ≤ 1000000 := by omega
      rw [← Int.natCast_mul, ← Int.natCast_ediv]
      exact ⟨Int.natCast_nonneg _, Int.ofNat_le.2 h2⟩
     have HRI := Hid.mk hri'
     have HM : Hid (s / (i * i) < s) := Nat.div_lt_self (by omega) (by omega)
     have HE1 : Hid ((s : Int) / ((i : Int) * (i : Int)) = ((s / (i * i) : Nat) : Int)) := by unfold Hid; rw [← Int.natCast_mul, ← Int.natCast_ediv]
     have HE2 : Hid ((o : Int) * (i : Int) = ((o * i : Nat) : Int)) := by unfold Hid; rw [Int.natCast_mul]
     clear hri' hbd' hii hd hri
     go_wp2_with fail
     go_round
     case rel => exact ⟨o * i, s / (i * i), by rw [HE2.out], by rw [HE1.out], HRI⟩
     case measure => simp only [intOf]; rw [HE1.out]; have := HM.out; omega
    ·have hd' : ((s : Int) % ((i : Int) * (i : Int)) == 0) = false := beq_eq_false_iff_ne.2 (fun h => hd (by exact_mod_cast h))
     have HRI := Hid.mk (hri.out.next hd)
     clear hii hd hri
     go_wp2_with fail
     go_round
     case rel => exact ⟨o, s, i + 1, rfl, rfl, by go_num, HRI, by omega, by omega⟩
     case measure => simp [intOf]; omega
  ·have hc' : ¬ (i : Int) ≤ (s : Int) / (i : Int) := by have : ((s / i : Nat) : Int) = (s : Int) / (i : Int) := Int.natCast_ediv _ _; omega
   have HR := hri.out.done hc (by omega)
   have HQ' := qsqrt_of HR hn
   clear hc HR
   by_cases hs : s = 1
   ·have hsb : ((s : Int) == 1) = true := by simp [hs]
    rw [if_pos hs] at HQ'
    have HQ := Hid.mk HQ'
    clear HQ' hs
    go_wp2_with fail
    have kp0 : Kp w _ := (Kp.alloc' (Below.refl w.heap.size w) (.cells #[.bool false, .slice none 0 0, .bool false, .slice none 0 0, .bool false, .slice none 0 0, .int .i64 0] 41))
    have sf0 : Sf 2 w _ := (Sf.alloc (Sf.refl 2 w) (.cells #[.bool false, .slice none 0 0, .bool false, .slice none 0 0, .bool false, .slice none 0 0, .int .i64 0] 41))
    refine (xfromInt_any (o : Int) _ (by omega) (by omega)).mono ?_
    rintro e w1 ⟨v1, rfl, hv1, hk1⟩
    obtain ⟨b1, ao1, n1, c1, b2, ao2, n2, c2, b3, ao3, n3, c3, rfl, g1, g2, g3⟩ := id hv1
    clear g1 g2 g3
    have kq0 := kp0.trans' hk1
    have sq0 := sf0.trans (Sf.keep hk1)
    have B1res : Blk w1 (w.heap.size) #[.bool false, .slice none 0 0, .bool false, .slice none 0 0, .bool false, .slice none 0 0, .int .i64 0] 41 := Blk.keep hk1 (Blk.at (Blk.new _ _ _) (by simp))
    obtain ⟨B1resc, B1resf, B1resl⟩ := B1res.all
    have ge1res : w.heap.size ≤ w.heap.size := by (first | omega | (have := kp0.size; simp only [World.size_alloc, size_setCell', size_drew'] at this; omega))
    go_wp2_with fail
    refine bodyPost_ret (v := .agg #[.bool b1, .slice ao1 n1 c1, .bool b2, .slice ao2 n2 c2, .bool b3, .slice ao3 n3 c3, .int .i64 1]) (by simp [results, Try.results100, go_sem, B1resc]) rfl ?_
    have kpE : Kp w _ := (stK7 (A := w.heap.size) (.bool b1) (.slice ao1 n1 c1) (.bool b2) (.slice ao2 n2 c2) (.bool b3) (.slice ao3 n3 c3) (.int .i64 1) kq0 (by have := ge1res; omega))
    have sfE : Sf 2 w1 _ := (stS7 (E := 2) (.bool b1) (.slice ao1 n1 c1) (.bool b2) (.slice ao2 n2 c2) (.bool b3) (.slice ao3 n3 c3) (.int .i64 1) B1res (by decide))
    rw [HQ.out]
    exact ret_x hv1 sfE kpE
   ·have hsb : ((s : Int) == 1) = false := by simp; omega
    rw [if_neg hs] at HQ'
    have HQ := Hid.mk HQ'
    clear HQ' hs
    go_wp2_with fail
    have kp0 : Kp w _ := (Kp.alloc' (Below.refl w.heap.size w) (.cells #[.bool false, .slice none 0 0, .bool false, .slice none 0 0, .bool false, .slice none 0 0, .int .i64 0] 41))
    have sf0 : Sf 2 w _ := (Sf.alloc (Sf.refl 2 w) (.cells #[.bool false, .slice none 0 0, .bool false, .slice none 0 0, .bool false, .slice none 0 0, .int .i64 0] 41))
    refine (fromInt_any (o : Int) _ (by omega) (by omega)).mono ?_
    rintro e w1 ⟨v1, rfl, hv1, hk1⟩
    obtain ⟨b1, ao1, n1, c1, rfl⟩ := hv1.shape'
    have kq0 := kp0.trans' hk1
    have sq0 := sf0.trans (Sf.keep hk1)
    have B1res : Blk w1 (w.heap.size) #[.bool false, .slice none 0 0, .bool false, .slice none 0 0, .bool false, .slice none 0 0, .int .i64 0] 41 := Blk.keep hk1 (Blk.at (Blk.new _ _ _) (by simp))
    obtain ⟨B1resc, B1resf, B1resl⟩ := B1res.all
    go_wp2_with fail
    have kp1 : Kp w _ := (Kp.alloc' kq0 (.cells #[.bool b1, .slice ao1 n1 c1] 39))
    have sf1 : Sf 2 w1 _ := (Sf.alloc (Sf.refl 2 w1) (.cells #[.bool b1, .slice ao1 n1 c1] 39))
    refine (fromInt_any 1 _ (by decide) (by decide)).mono ?_
    rintro e w2 ⟨v2, rfl, hv2, hk2⟩
    obtain ⟨b2, ao2, n2, c2, rfl⟩ := hv2.shape'
    have kq1 := kp1.trans' hk2
    have sq1 := sf1.trans (Sf.keep hk2)
    have B2res := Blk.keep hk2 (Blk.alloc B1res _)
    have B2q : Blk w2 (w1.heap.size) #[.bool b1, .slice ao1 n1 c1] 39 := Blk.keep hk2 (Blk.at (Blk.new _ _ _) (by simp))
    obtain ⟨B2resc, B2resf, B2resl⟩ := B2res.all
    have ge2res : w.heap.size ≤ w.heap.size := by (first | omega | (have := kp1.size; simp only [World.size_alloc, size_setCell', size_drew'] at this; omega))
    obtain ⟨B2qc, B2qf, B2ql⟩ := B2q.all
    replace hv1 := hv1.soft sq1
    clear B1res B1resc B1resf
    go_wp2_with fail
    refine bodyPost_ret (v := .agg #[.bool false, .slice none 0 0, .bool b1, .slice ao1 n1 c1, .bool b2, .slice ao2 n2 c2, .int .i64 (s : Int)]) (by simp [results, Try.results100, go_sem, B2resc, B2resl]) rfl ?_
    have kpE : Kp w _ := (Kp.alloc' (stK7 (A := w.heap.size) (.bool false) (.slice none 0 0) (.bool b1) (.slice ao1 n1 c1) (.bool b2) (.slice ao2 n2 c2) (.int .i64 (s : Int)) kq1 (by have := ge2res; omega)) (.cells #[.bool b2, .slice ao2 n2 c2] 39))
    have sfE : Sf 2 w2 _ := (Sf.alloc (stS7 (E := 2) (.bool false) (.slice none 0 0) (.bool b1) (.slice ao1 n1 c1) (.bool b2) (.slice ao2 n2 c2) (.int .i64 (s : Int)) B2res (by decide)) (.cells #[.bool b2, .slice ao2 n2 c2] 39))
    rw [HQ.out]
    exact ret_x (XN.mk3 (a := ⟨0, o, 1, s⟩) (wn_zero _) hv1 hv2 rfl) sfE kpE

theorem root_any (n : Nat) (w : World) (hn : n < 1000000) : Calls Try.prog 100 #[.int .i64 (n : Int)] w (RetX w (qsqrt n)) := by
 rcases Nat.eq_zero_or_pos n with h | h
 ·subst h
  exact root_zero w
 ·exact root_pos n w h hn

end Go.Proofs.Ytjahbjjekednfaa
