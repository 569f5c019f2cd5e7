import Derived.Test.YtjahbjjekednfaaDoorX2
namespace Go.Proofs.YtjahbjjekednfaaDoor
open Go.RowKit

def QF (m : Nat) (a : Qn) : Prop := Ft m a.p ∧ Ft m a.q ∧ Ft m a.r
def qzero : Qn := ⟨0, 0, 0, 0⟩
def qroot (a b : Int) : Int := if a = 1 ∨ a = b then b else if b = 1 then a else 0
def qneg (a : Qn) : Qn := ⟨-a.p, -a.q, a.r, a.d⟩
def qaddN (a b : Qn) : Qn := qreduce (a.p * b.r + b.p * a.r) (a.q * b.r + b.q * a.r) (a.r * b.r) (qroot a.d b.d)
def qmulN (a b : Qn) : Qn := qreduce (a.p * b.p + a.q * (b.q * qroot a.d b.d)) (a.p * b.q + a.q * b.p) (a.r * b.r) (qroot a.d b.d)
def qinv (a : Qn) : Qn := qreduce (a.r * a.p) (a.r * -a.q) (a.p * a.p + a.q * (-a.q * a.d)) a.d
theorem xn_zero (w : World) : XN w (.agg #[.bool false, .slice none 0 0, .bool false, .slice none 0 0, .bool false, .slice none 0 0, .int .i64 0]) qzero :=
  XN.mk3 (a := qzero) (wn_zero w) (wn_zero w) (wn_zero w) rfl
theorem Ft.sop {m : Nat} {x y z t : Int} (hx : Ft m x) (hy : Ft m y) (hz : Ft m z) (ht : Ft m t) : Ft (m + m + 1) (x * y + z * t) := (hx.mul hy).add (hz.mul ht)
theorem Ft.tdiv {m : Nat} {x y : Int} (hx : Ft m x) : Ft m (x.tdiv y) := by
  refine hx.le ?_
  rw [Int.natAbs_tdiv]
  exact Nat.div_le_self _ _
theorem QF.reduce {m : Nat} {p q r d : Int} (hp : Ft m p) (hq : Ft m q) (hr : Ft m r) : QF m (qreduce p q r d) := ⟨hp.tdiv, hq.tdiv, hr.tdiv⟩

set_option maxHeartbeats 1600000 in
theorem xfromInt_any (n : Int) (w : World) (h0 : 0 ≤ n) (hn : n ≤ 9223372036854775807) : Calls Tryd.prog 132 #[.int .i64 n] w (RetX w ⟨n, 0, 1, 1⟩) := by
  go_enter Tryd.func132, Tryd.ntmps132
  go_wp2_with fail
  have kp0 : Kp w _ := (Kp.alloc' (Below.refl w.heap.size w) (.cells #[.bool false, .slice none 0 0, .bool false, .slice none 0 0, .bool false, .slice none 0 0, .int .i64 0] 58))
  have sf0 : Sf 2 w _ := (Sf.alloc (Sf.refl 2 w) (.cells #[.bool false, .slice none 0 0, .bool false, .slice none 0 0, .bool false, .slice none 0 0, .int .i64 0] 58))
  refine (fromInt_any n _ h0 hn).mono ?_
  rintro e w1 ⟨v1, rfl, hv1, hk1⟩
  obtain ⟨b1, ao1, n1, c1, rfl⟩ := hv1.shape'
  have kq0 := kp0.trans' hk1
  have sq0 := sf0.trans (Sf.keep hk1)
  have B1res : Blk w1 (w.heap.size) #[.bool false, .slice none 0 0, .bool false, .slice none 0 0, .bool false, .slice none 0 0, .int .i64 0] 58 := Blk.keep hk1 (Blk.at (Blk.new _ _ _) (by simp))
  have B1resc := B1res.cell
  have B1resf := B1res.frozen
  have B1resl := B1res.lt
  have ge1res : w.heap.size ≤ w.heap.size := by (first | omega | (have := kp0.size; simp only [World.size_alloc, size_setCell', size_drew'] at this; omega))
  go_wp2_with fail
  have kp1 : Kp w _ := (Kp.alloc' kq0 (.cells #[.bool b1, .slice ao1 n1 c1] 56))
  have sf1 : Sf 2 w1 _ := (Sf.alloc (Sf.refl 2 w1) (.cells #[.bool b1, .slice ao1 n1 c1] 56))
  refine (fromInt_any 1 _ (by decide) (by decide)).mono ?_
  rintro e w2 ⟨v2, rfl, hv2, hk2⟩
  obtain ⟨b2, ao2, n2, c2, rfl⟩ := hv2.shape'
  have kq1 := kp1.trans' hk2
  have sq1 := sf1.trans (Sf.keep hk2)
  have B2res : Blk w2 (w.heap.size) #[.bool false, .slice none 0 0, .bool false, .slice none 0 0, .bool false, .slice none 0 0, .int .i64 0] 58 := Blk.keep hk2 (Blk.alloc B1res _)
  have B2p : Blk w2 (w1.heap.size) #[.bool b1, .slice ao1 n1 c1] 56 := Blk.keep hk2 (Blk.at (Blk.new _ _ _) (by simp))
  have B2resc := B2res.cell
  have B2resf := B2res.frozen
  have B2resl := B2res.lt
  have ge2res : w.heap.size ≤ w.heap.size := by (first | omega | (have := kp1.size; simp only [World.size_alloc, size_setCell', size_drew'] at this; omega))
  have B2pc := B2p.cell
  have B2pf := B2p.frozen
  have B2pl := B2p.lt
  have ge2p : w.heap.size ≤ w1.heap.size := by (first | omega | (have := kp1.size; simp only [World.size_alloc, size_setCell', size_drew'] at this; omega))
  replace hv1 := hv1.soft sq1
  clear B1res B1resc B1resf
  go_wp2_with fail
  refine bodyPost_ret (v := .agg #[.bool b1, .slice ao1 n1 c1, .bool false, .slice none 0 0, .bool b2, .slice ao2 n2 c2, .int .i64 1]) (by simp [results, Tryd.results132, go_sem, B2resc, B2resl]) rfl ?_
  have kpE : Kp w _ := (Kp.alloc' (Below.setCell (Below.setCell (Below.setCell (Below.setCell (Below.setCell (Below.setCell (Below.setCell kq1 (p := ⟨w.heap.size, 0, none⟩) (by have := ge2res; omega) (.bool b1)) (p := ⟨w.heap.size, 1, none⟩) (by have := ge2res; omega) (.slice ao1 n1 c1)) (p := ⟨w.heap.size, 2, none⟩) (by have := ge2res; omega) (.bool false)) (p := ⟨w.heap.size, 3, none⟩) (by have := ge2res; omega) (.slice none 0 0)) (p := ⟨w.heap.size, 4, none⟩) (by have := ge2res; omega) (.bool b2)) (p := ⟨w.heap.size, 5, none⟩) (by have := ge2res; omega) (.slice ao2 n2 c2)) (p := ⟨w.heap.size, 6, none⟩) (by have := ge2res; omega) (.int .i64 1)) (.cells #[.bool b2, .slice ao2 n2 c2] 56))
  have sfE : Sf 2 w2 _ := (Sf.alloc (Sf.set (t := 58) (c := w.heap.size) (o := 6) (y := .int .i64 1) (Sf.set (t := 58) (c := w.heap.size) (o := 5) (y := .slice ao2 n2 c2) (Sf.set (t := 58) (c := w.heap.size) (o := 4) (y := .bool b2) (Sf.set (t := 58) (c := w.heap.size) (o := 3) (y := .slice none 0 0) (Sf.set (t := 58) (c := w.heap.size) (o := 2) (y := .bool false) (Sf.set (t := 58) (c := w.heap.size) (o := 1) (y := .slice ao1 n1 c1) (Sf.set (t := 58) (c := w.heap.size) (o := 0) (y := .bool b1) (Sf.refl 2 w2) (by first | (simp only [elemOf_setCell]; exact B2res.elem) | exact B2res.elem) (by decide)) (by first | (simp only [elemOf_setCell]; exact B2res.elem) | exact B2res.elem) (by decide)) (by first | (simp only [elemOf_setCell]; exact B2res.elem) | exact B2res.elem) (by decide)) (by first | (simp only [elemOf_setCell]; exact B2res.elem) | exact B2res.elem) (by decide)) (by first | (simp only [elemOf_setCell]; exact B2res.elem) | exact B2res.elem) (by decide)) (by first | (simp only [elemOf_setCell]; exact B2res.elem) | exact B2res.elem) (by decide)) (by first | (simp only [elemOf_setCell]; exact B2res.elem) | exact B2res.elem) (by decide)) (.cells #[.bool b2, .slice ao2 n2 c2] 56))
  exact ⟨_, rfl, (XN.mk3 (a := ⟨n, 0, 1, 1⟩) hv1 (wn_zero _) hv2 rfl).soft sfE, kpE⟩

set_option maxHeartbeats 1600000 in
theorem xnegate_any (a : Qn) (m : Nat) (u : Value) (w : World) (ha : XN w u a) (hm : m ≤ 150000000) (fa : QF m a) : Calls Tryd.prog 115 #[u] w (RetX w (qneg a)) := by
  obtain ⟨fp, fq, fr⟩ := fa
  obtain ⟨b1, ao1, n1, c1, b2, ao2, n2, c2, b3, ao3, n3, c3, rfl, hp, hq, hr⟩ := ha
  go_enter Tryd.func115, Tryd.ntmps115
  go_wp2_with fail
  have kp0 : Kp w _ := (Kp.alloc' (Kp.alloc' (Below.refl w.heap.size w) (.cells #[.bool b1, .slice ao1 n1 c1, .bool b2, .slice ao2 n2 c2, .bool b3, .slice ao3 n3 c3, .int .i64 a.d] 58)) (.cells #[.bool false, .slice none 0 0, .bool false, .slice none 0 0, .bool false, .slice none 0 0, .int .i64 0] 58))
  have sf0 : Sf 2 w _ := (Sf.alloc (Sf.alloc (Sf.refl 2 w) (.cells #[.bool b1, .slice ao1 n1 c1, .bool b2, .slice ao2 n2 c2, .bool b3, .slice ao3 n3 c3, .int .i64 a.d] 58)) (.cells #[.bool false, .slice none 0 0, .bool false, .slice none 0 0, .bool false, .slice none 0 0, .int .i64 0] 58))
  refine (negate_any a.p _ _ (hp.soft sf0) (fp.fit (by omega))).mono ?_
  rintro e w1 ⟨v1, rfl, hv1, hk1⟩
  obtain ⟨b4, ao4, n4, c4, rfl⟩ := hv1.shape'
  have kq0 := kp0.trans' hk1
  have sq0 := sf0.trans (Sf.keep hk1)
  have B1a : Blk w1 (w.heap.size) #[.bool b1, .slice ao1 n1 c1, .bool b2, .slice ao2 n2 c2, .bool b3, .slice ao3 n3 c3, .int .i64 a.d] 58 := Blk.keep hk1 (Blk.at (Blk.alloc (Blk.new _ _ _) _) (by simp))
  have B1res : Blk w1 (w.heap.size + 1) #[.bool false, .slice none 0 0, .bool false, .slice none 0 0, .bool false, .slice none 0 0, .int .i64 0] 58 := Blk.keep hk1 (Blk.at (Blk.new _ _ _) (by simp))
  have B1ac := B1a.cell
  have B1af := B1a.frozen
  have B1al := B1a.lt
  have ge1a : w.heap.size ≤ w.heap.size := by (first | omega | (have := kp0.size; simp only [World.size_alloc, size_setCell', size_drew'] at this; omega))
  have B1resc := B1res.cell
  have B1resf := B1res.frozen
  have B1resl := B1res.lt
  have ge1res : w.heap.size ≤ w.heap.size + 1 := by (first | omega | (have := kp0.size; simp only [World.size_alloc, size_setCell', size_drew'] at this; omega))
  replace hq := hq.soft sq0
  replace hr := hr.soft sq0
  go_wp2_with fail
  have kp1 : Kp w _ := (Kp.alloc' kq0 (.cells #[.bool b4, .slice ao4 n4 c4] 56))
  have sf1 : Sf 2 w1 _ := (Sf.alloc (Sf.refl 2 w1) (.cells #[.bool b4, .slice ao4 n4 c4] 56))
  refine (negate_any a.q _ _ (hq.soft sf1) (fq.fit (by omega))).mono ?_
  rintro e w2 ⟨v2, rfl, hv2, hk2⟩
  obtain ⟨b5, ao5, n5, c5, rfl⟩ := hv2.shape'
  have kq1 := kp1.trans' hk2
  have sq1 := sf1.trans (Sf.keep hk2)
  have B2a : Blk w2 (w.heap.size) #[.bool b1, .slice ao1 n1 c1, .bool b2, .slice ao2 n2 c2, .bool b3, .slice ao3 n3 c3, .int .i64 a.d] 58 := Blk.keep hk2 (Blk.alloc B1a _)
  have B2res : Blk w2 (w.heap.size + 1) #[.bool false, .slice none 0 0, .bool false, .slice none 0 0, .bool false, .slice none 0 0, .int .i64 0] 58 := Blk.keep hk2 (Blk.alloc B1res _)
  have B2p : Blk w2 (w1.heap.size) #[.bool b4, .slice ao4 n4 c4] 56 := Blk.keep hk2 (Blk.at (Blk.new _ _ _) (by simp))
  have B2ac := B2a.cell
  have B2af := B2a.frozen
  have B2al := B2a.lt
  have ge2a : w.heap.size ≤ w.heap.size := by (first | omega | (have := kp1.size; simp only [World.size_alloc, size_setCell', size_drew'] at this; omega))
  have B2resc := B2res.cell
  have B2resf := B2res.frozen
  have B2resl := B2res.lt
  have ge2res : w.heap.size ≤ w.heap.size + 1 := by (first | omega | (have := kp1.size; simp only [World.size_alloc, size_setCell', size_drew'] at this; omega))
  have B2pc := B2p.cell
  have B2pf := B2p.frozen
  have B2pl := B2p.lt
  have ge2p : w.heap.size ≤ w1.heap.size := by (first | omega | (have := kp1.size; simp only [World.size_alloc, size_setCell', size_drew'] at this; omega))
  replace hr := hr.soft sq1
  replace hv1 := hv1.soft sq1
  clear B1a B1ac B1af B1res B1resc B1resf
  go_wp2_with fail
  refine bodyPost_ret (v := .agg #[.bool b4, .slice ao4 n4 c4, .bool b5, .slice ao5 n5 c5, .bool b3, .slice ao3 n3 c3, .int .i64 a.d]) (by simp [results, Tryd.results115, go_sem, B2resc, B2resl]) rfl ?_
  have kpE : Kp w _ := (Kp.alloc' (Below.setCell (Below.setCell (Below.setCell (Below.setCell (Below.setCell (Below.setCell (Below.setCell kq1 (p := ⟨w.heap.size + 1, 0, none⟩) (by have := ge2res; omega) (.bool b4)) (p := ⟨w.heap.size + 1, 1, none⟩) (by have := ge2res; omega) (.slice ao4 n4 c4)) (p := ⟨w.heap.size + 1, 2, none⟩) (by have := ge2res; omega) (.bool b5)) (p := ⟨w.heap.size + 1, 3, none⟩) (by have := ge2res; omega) (.slice ao5 n5 c5)) (p := ⟨w.heap.size + 1, 4, none⟩) (by have := ge2res; omega) (.bool b3)) (p := ⟨w.heap.size + 1, 5, none⟩) (by have := ge2res; omega) (.slice ao3 n3 c3)) (p := ⟨w.heap.size + 1, 6, none⟩) (by have := ge2res; omega) (.int .i64 a.d)) (.cells #[.bool b5, .slice ao5 n5 c5] 56))
  have sfE : Sf 2 w2 _ := (Sf.alloc (Sf.set (t := 58) (c := w.heap.size + 1) (o := 6) (y := .int .i64 a.d) (Sf.set (t := 58) (c := w.heap.size + 1) (o := 5) (y := .slice ao3 n3 c3) (Sf.set (t := 58) (c := w.heap.size + 1) (o := 4) (y := .bool b3) (Sf.set (t := 58) (c := w.heap.size + 1) (o := 3) (y := .slice ao5 n5 c5) (Sf.set (t := 58) (c := w.heap.size + 1) (o := 2) (y := .bool b5) (Sf.set (t := 58) (c := w.heap.size + 1) (o := 1) (y := .slice ao4 n4 c4) (Sf.set (t := 58) (c := w.heap.size + 1) (o := 0) (y := .bool b4) (Sf.refl 2 w2) (by first | (simp only [elemOf_setCell]; exact B2res.elem) | exact B2res.elem) (by decide)) (by first | (simp only [elemOf_setCell]; exact B2res.elem) | exact B2res.elem) (by decide)) (by first | (simp only [elemOf_setCell]; exact B2res.elem) | exact B2res.elem) (by decide)) (by first | (simp only [elemOf_setCell]; exact B2res.elem) | exact B2res.elem) (by decide)) (by first | (simp only [elemOf_setCell]; exact B2res.elem) | exact B2res.elem) (by decide)) (by first | (simp only [elemOf_setCell]; exact B2res.elem) | exact B2res.elem) (by decide)) (by first | (simp only [elemOf_setCell]; exact B2res.elem) | exact B2res.elem) (by decide)) (.cells #[.bool b5, .slice ao5 n5 c5] 56))
  exact ⟨_, rfl, (XN.mk3 (a := qneg a) hv1 hv2 hr rfl).soft sfE, kpE⟩

theorem sign_beq (x : Int) : (x.sign == 0) = decide (x = 0) := by
  rw [Bool.eq_iff_iff]
  simp [Int.sign_eq_zero_iff_zero]
theorem s2z {p q x : Int} (h : (x == 0) = decide (q = 0)) (hp : p = 0) : (x == 0) = decide (p = 0 ∧ q = 0) := by
  rw [h]; simp [hp]
set_option maxHeartbeats 1600000 in
theorem isZero_any (a : Qn) (u : Value) (w : World) (ha : XN w u a) : Calls Tryd.prog 135 #[u] w (RetV w (.bool (decide (a.p = 0 ∧ a.q = 0)))) := by
  obtain ⟨b1, ao1, n1, c1, b2, ao2, n2, c2, b3, ao3, n3, c3, rfl, hp, hq, hr⟩ := ha
  go_enter Tryd.func135, Tryd.ntmps135
  go_wp2_with fail
  have kp0 : Kp w _ := (Kp.alloc' (Below.refl w.heap.size w) (.cells #[.bool b1, .slice ao1 n1 c1, .bool b2, .slice ao2 n2 c2, .bool b3, .slice ao3 n3 c3, .int .i64 a.d] 58))
  have sf0 : Sf 2 w _ := (Sf.alloc (Sf.refl 2 w) (.cells #[.bool b1, .slice ao1 n1 c1, .bool b2, .slice ao2 n2 c2, .bool b3, .slice ao3 n3 c3, .int .i64 a.d] 58))
  refine (sign_any a.p _ _ (hp.soft sf0)).mono ?_
  rintro e w1 ⟨rfl, hk1⟩
  have kq0 := kp0.trans' hk1
  have sq0 := sf0.trans (Sf.keep hk1)
  have B1a : Blk w1 (w.heap.size) #[.bool b1, .slice ao1 n1 c1, .bool b2, .slice ao2 n2 c2, .bool b3, .slice ao3 n3 c3, .int .i64 a.d] 58 := Blk.keep hk1 (Blk.at (Blk.new _ _ _) (by simp))
  have B1ac := B1a.cell
  have B1af := B1a.frozen
  have B1al := B1a.lt
  have ge1a : w.heap.size ≤ w.heap.size := by (first | omega | (have := kp0.size; simp only [World.size_alloc, size_setCell', size_drew'] at this; omega))
  replace hq := hq.soft sq0
  go_wp2_with fail
  have kp1 : Kp w _ := kq0
  have sf1 : Sf 2 w1 _ := (Sf.refl 2 w1)
  refine (sign_any a.q _ _ (hq.soft sf1)).mono ?_
  rintro e w2 ⟨rfl, hk2⟩
  have kq1 := kp1.trans' hk2
  have sq1 := sf1.trans (Sf.keep hk2)
  clear B1a B1ac B1af
  have s1 := sign_beq a.p
  have s2 := sign_beq a.q
  by_cases h1 : a.p = 0
  · have hb1 : (a.p.sign == 0) = true := by rw [s1]; simp [h1]
    have H1 := Hid.mk h1
    have S2 := Hid.mk s2
    clear s1 s2 h1
    generalize a.p.sign = x1 at *
    go_wp2_with fail
    go_ret
    exact ⟨by rw [← s2z S2.out H1.out]; rfl, kq1⟩
  · have hb1 : (a.p.sign == 0) = false := by rw [s1]; simp [h1]
    have H1 := Hid.mk h1
    clear s1 s2 h1
    generalize a.p.sign = x1 at *
    go_wp2_with fail
    go_ret
    exact ⟨by rw [decide_eq_false (fun h => H1.out h.1)]; rfl, kq1⟩

set_option maxHeartbeats 1600000 in
theorem commonRoot_any (a b : Qn) (u v : Value) (w : World) (ha : XN w u a) (hb : XN w v b) : Calls Tryd.prog 133 #[u, v] w (RetV w (.int .i64 (qroot a.d b.d))) := by
  obtain ⟨b1, ao1, n1, c1, b2, ao2, n2, c2, b3, ao3, n3, c3, rfl, hp, hq, hr⟩ := ha
  obtain ⟨b4, ao4, n4, c4, b5, ao5, n5, c5, b6, ao6, n6, c6, rfl, hp', hq', hr'⟩ := hb
  clear hp hq hr hp' hq' hr'
  have kpE : Kp w _ := ((kp_alloc w (.cells #[.bool b1, .slice ao1 n1 c1, .bool b2, .slice ao2 n2 c2, .bool b3, .slice ao3 n3 c3, .int .i64 a.d] 58)).alloc' (.cells #[.bool b4, .slice ao4 n4 c4, .bool b5, .slice ao5 n5 c5, .bool b6, .slice ao6 n6 c6, .int .i64 b.d] 58))
  generalize a.d = x at *
  generalize b.d = y at *
  by_cases h1 : x = 1
  · have HR : Hid (qroot x y = y) := by unfold Hid qroot; simp [h1]
    have e1 : (x == 1) = true := by simp [h1]
    clear h1
    go_enter Tryd.func133, Tryd.ntmps133
    go_wp2
    go_ret
    exact ⟨by rw [HR.out]; rfl, kpE⟩
  · by_cases h2 : x = y
    · have HR : Hid (qroot x y = y) := by unfold Hid qroot; simp [h2]
      have e1 : (x == 1) = false := by simp [h1]
      have e2 : (x == y) = true := by simp [h2]
      clear h1 h2
      go_enter Tryd.func133, Tryd.ntmps133
      go_wp2
      go_ret
      exact ⟨by rw [HR.out]; rfl, kpE⟩
    · have e1 : (x == 1) = false := by simp [h1]
      have e2 : (x == y) = false := by simp [h2]
      by_cases h3 : y = 1
      · have HR : Hid (qroot x y = x) := by unfold Hid qroot; rw [if_neg (by simp [h1, h2]), if_pos h3]
        have e3 : (y == 1) = true := by simp [h3]
        clear h1 h2 h3
        go_enter Tryd.func133, Tryd.ntmps133
        go_wp2
        go_ret
        exact ⟨by rw [HR.out]; rfl, kpE⟩
      · have HR : Hid (qroot x y = 0) := by unfold Hid qroot; rw [if_neg (by simp [h1, h2]), if_neg h3]
        have e3 : (y == 1) = false := by simp [h3]
        clear h1 h2 h3
        go_enter Tryd.func133, Tryd.ntmps133
        go_wp2
        go_ret
        exact ⟨by rw [HR.out]; rfl, kpE⟩

set_option maxHeartbeats 3200000 in
theorem xadd_e (a b : Qn) (m : Nat) (u v : Value) (w : World) (ha : XN w u a) (hb : XN w v b) (_hm : m ≤ 40000000) (fa : QF m a) (fb : QF m b) (da : 0 ≤ a.d ∧ a.d ≤ 1000000) (db : 0 ≤ b.d ∧ b.d ≤ 1000000) (hD : qroot a.d b.d = 0) :
    Calls Tryd.prog 116 #[u, v] w (RetXE w qzero 4) := by
  have hdd : 0 ≤ qroot a.d b.d ∧ qroot a.d b.d ≤ 1000000 := by unfold qroot; split <;> (try split) <;> omega
  obtain ⟨fp, fq, fr⟩ := fa
  obtain ⟨fp', fq', fr'⟩ := fb
  obtain ⟨b1, ao1, n1, c1, b2, ao2, n2, c2, b3, ao3, n3, c3, rfl, hp, hq, hr⟩ := id ha
  obtain ⟨b4, ao4, n4, c4, b5, ao5, n5, c5, b6, ao6, n6, c6, rfl, hp', hq', hr'⟩ := id hb
  go_enter Tryd.func116, Tryd.ntmps116
  go_wp2_with fail
  have kp0 : Kp w _ := (Kp.alloc' (Kp.alloc' (Kp.alloc' (Below.refl w.heap.size w) (.cells #[.bool b1, .slice ao1 n1 c1, .bool b2, .slice ao2 n2 c2, .bool b3, .slice ao3 n3 c3, .int .i64 a.d] 58)) (.cells #[.bool b4, .slice ao4 n4 c4, .bool b5, .slice ao5 n5 c5, .bool b6, .slice ao6 n6 c6, .int .i64 b.d] 58)) (.cells #[.bool false, .slice none 0 0, .bool false, .slice none 0 0, .bool false, .slice none 0 0, .int .i64 0] 58))
  have sf0 : Sf 2 w _ := (Sf.alloc (Sf.alloc (Sf.alloc (Sf.refl 2 w) (.cells #[.bool b1, .slice ao1 n1 c1, .bool b2, .slice ao2 n2 c2, .bool b3, .slice ao3 n3 c3, .int .i64 a.d] 58)) (.cells #[.bool b4, .slice ao4 n4 c4, .bool b5, .slice ao5 n5 c5, .bool b6, .slice ao6 n6 c6, .int .i64 b.d] 58)) (.cells #[.bool false, .slice none 0 0, .bool false, .slice none 0 0, .bool false, .slice none 0 0, .int .i64 0] 58))
  refine (commonRoot_any a b _ _ _ (ha.soft sf0) (hb.soft sf0)).mono ?_
  rintro e w1 ⟨rfl, hk1⟩
  have kq0 := kp0.trans' hk1
  have sq0 := sf0.trans (Sf.keep hk1)
  have B1a : Blk w1 (w.heap.size) #[.bool b1, .slice ao1 n1 c1, .bool b2, .slice ao2 n2 c2, .bool b3, .slice ao3 n3 c3, .int .i64 a.d] 58 := Blk.keep hk1 (Blk.at (Blk.alloc (Blk.alloc (Blk.new _ _ _) _) _) (by simp))
  have B1b : Blk w1 (w.heap.size + 1) #[.bool b4, .slice ao4 n4 c4, .bool b5, .slice ao5 n5 c5, .bool b6, .slice ao6 n6 c6, .int .i64 b.d] 58 := Blk.keep hk1 (Blk.at (Blk.alloc (Blk.new _ _ _) _) (by simp))
  have B1res : Blk w1 (w.heap.size + 1 + 1) #[.bool false, .slice none 0 0, .bool false, .slice none 0 0, .bool false, .slice none 0 0, .int .i64 0] 58 := Blk.keep hk1 (Blk.at (Blk.new _ _ _) (by simp))
  have B1ac := B1a.cell
  have B1af := B1a.frozen
  have B1al := B1a.lt
  have ge1a : w.heap.size ≤ w.heap.size := by (first | omega | (have := kp0.size; simp only [World.size_alloc, size_setCell', size_drew'] at this; omega))
  have B1bc := B1b.cell
  have B1bf := B1b.frozen
  have B1bl := B1b.lt
  have ge1b : w.heap.size ≤ w.heap.size + 1 := by (first | omega | (have := kp0.size; simp only [World.size_alloc, size_setCell', size_drew'] at this; omega))
  have B1resc := B1res.cell
  have B1resf := B1res.frozen
  have B1resl := B1res.lt
  have ge1res : w.heap.size ≤ w.heap.size + 1 + 1 := by (first | omega | (have := kp0.size; simp only [World.size_alloc, size_setCell', size_drew'] at this; omega))
  replace hp := hp.soft sq0
  replace hq := hq.soft sq0
  replace hr := hr.soft sq0
  replace hp' := hp'.soft sq0
  replace hq' := hq'.soft sq0
  replace hr' := hr'.soft sq0
  rw [hD]
  clear hD hdd
  go_wp2_with fail
  refine bodyPost_ret (v := .tuple #[.agg #[.bool false, .slice none 0 0, .bool false, .slice none 0 0, .bool false, .slice none 0 0, .int .i64 0], .int .i64 4]) (by simp [results, Tryd.results116, go_sem, B1resc]) rfl ?_
  have kpE : Kp w _ := (Below.setCell (Below.setCell (Below.setCell (Below.setCell (Below.setCell (Below.setCell (Below.setCell kq0 (p := ⟨w.heap.size + 1 + 1, 0, none⟩) (by have := ge1res; omega) (.bool false)) (p := ⟨w.heap.size + 1 + 1, 1, none⟩) (by have := ge1res; omega) (.slice none 0 0)) (p := ⟨w.heap.size + 1 + 1, 2, none⟩) (by have := ge1res; omega) (.bool false)) (p := ⟨w.heap.size + 1 + 1, 3, none⟩) (by have := ge1res; omega) (.slice none 0 0)) (p := ⟨w.heap.size + 1 + 1, 4, none⟩) (by have := ge1res; omega) (.bool false)) (p := ⟨w.heap.size + 1 + 1, 5, none⟩) (by have := ge1res; omega) (.slice none 0 0)) (p := ⟨w.heap.size + 1 + 1, 6, none⟩) (by have := ge1res; omega) (.int .i64 0))
  have sfE : Sf 2 w1 _ := (Sf.set (t := 58) (c := w.heap.size + 1 + 1) (o := 6) (y := .int .i64 0) (Sf.set (t := 58) (c := w.heap.size + 1 + 1) (o := 5) (y := .slice none 0 0) (Sf.set (t := 58) (c := w.heap.size + 1 + 1) (o := 4) (y := .bool false) (Sf.set (t := 58) (c := w.heap.size + 1 + 1) (o := 3) (y := .slice none 0 0) (Sf.set (t := 58) (c := w.heap.size + 1 + 1) (o := 2) (y := .bool false) (Sf.set (t := 58) (c := w.heap.size + 1 + 1) (o := 1) (y := .slice none 0 0) (Sf.set (t := 58) (c := w.heap.size + 1 + 1) (o := 0) (y := .bool false) (Sf.refl 2 w1) (by first | (simp only [elemOf_setCell]; exact B1res.elem) | exact B1res.elem) (by decide)) (by first | (simp only [elemOf_setCell]; exact B1res.elem) | exact B1res.elem) (by decide)) (by first | (simp only [elemOf_setCell]; exact B1res.elem) | exact B1res.elem) (by decide)) (by first | (simp only [elemOf_setCell]; exact B1res.elem) | exact B1res.elem) (by decide)) (by first | (simp only [elemOf_setCell]; exact B1res.elem) | exact B1res.elem) (by decide)) (by first | (simp only [elemOf_setCell]; exact B1res.elem) | exact B1res.elem) (by decide)) (by first | (simp only [elemOf_setCell]; exact B1res.elem) | exact B1res.elem) (by decide))
  exact ⟨_, rfl, xn_zero _, kpE⟩

set_option maxHeartbeats 3200000 in
theorem xadd_n (a b : Qn) (m : Nat) (u v : Value) (w : World) (ha : XN w u a) (hb : XN w v b) (hm : m ≤ 40000000) (fa : QF m a) (fb : QF m b) (da : 0 ≤ a.d ∧ a.d ≤ 1000000) (db : 0 ≤ b.d ∧ b.d ≤ 1000000) (hD : qroot a.d b.d ≠ 0) :
    Calls Tryd.prog 116 #[u, v] w (RetXE w (qaddN a b) 0) := by
  have hdd : 0 ≤ qroot a.d b.d ∧ qroot a.d b.d ≤ 1000000 := by unfold qroot; split <;> (try split) <;> omega
  obtain ⟨fp, fq, fr⟩ := fa
  obtain ⟨fp', fq', fr'⟩ := fb
  obtain ⟨b1, ao1, n1, c1, b2, ao2, n2, c2, b3, ao3, n3, c3, rfl, hp, hq, hr⟩ := id ha
  obtain ⟨b4, ao4, n4, c4, b5, ao5, n5, c5, b6, ao6, n6, c6, rfl, hp', hq', hr'⟩ := id hb
  go_enter Tryd.func116, Tryd.ntmps116
  go_wp2_with fail
  have kp0 : Kp w _ := (Kp.alloc' (Kp.alloc' (Kp.alloc' (Below.refl w.heap.size w) (.cells #[.bool b1, .slice ao1 n1 c1, .bool b2, .slice ao2 n2 c2, .bool b3, .slice ao3 n3 c3, .int .i64 a.d] 58)) (.cells #[.bool b4, .slice ao4 n4 c4, .bool b5, .slice ao5 n5 c5, .bool b6, .slice ao6 n6 c6, .int .i64 b.d] 58)) (.cells #[.bool false, .slice none 0 0, .bool false, .slice none 0 0, .bool false, .slice none 0 0, .int .i64 0] 58))
  have sf0 : Sf 2 w _ := (Sf.alloc (Sf.alloc (Sf.alloc (Sf.refl 2 w) (.cells #[.bool b1, .slice ao1 n1 c1, .bool b2, .slice ao2 n2 c2, .bool b3, .slice ao3 n3 c3, .int .i64 a.d] 58)) (.cells #[.bool b4, .slice ao4 n4 c4, .bool b5, .slice ao5 n5 c5, .bool b6, .slice ao6 n6 c6, .int .i64 b.d] 58)) (.cells #[.bool false, .slice none 0 0, .bool false, .slice none 0 0, .bool false, .slice none 0 0, .int .i64 0] 58))
  refine (commonRoot_any a b _ _ _ (ha.soft sf0) (hb.soft sf0)).mono ?_
  rintro e w1 ⟨rfl, hk1⟩
  have kq0 := kp0.trans' hk1
  have sq0 := sf0.trans (Sf.keep hk1)
  have B1a : Blk w1 (w.heap.size) #[.bool b1, .slice ao1 n1 c1, .bool b2, .slice ao2 n2 c2, .bool b3, .slice ao3 n3 c3, .int .i64 a.d] 58 := Blk.keep hk1 (Blk.at (Blk.alloc (Blk.alloc (Blk.new _ _ _) _) _) (by simp))
  have B1b : Blk w1 (w.heap.size + 1) #[.bool b4, .slice ao4 n4 c4, .bool b5, .slice ao5 n5 c5, .bool b6, .slice ao6 n6 c6, .int .i64 b.d] 58 := Blk.keep hk1 (Blk.at (Blk.alloc (Blk.new _ _ _) _) (by simp))
  have B1res : Blk w1 (w.heap.size + 1 + 1) #[.bool false, .slice none 0 0, .bool false, .slice none 0 0, .bool false, .slice none 0 0, .int .i64 0] 58 := Blk.keep hk1 (Blk.at (Blk.new _ _ _) (by simp))
  have B1ac := B1a.cell
  have B1af := B1a.frozen
  have B1al := B1a.lt
  have ge1a : w.heap.size ≤ w.heap.size := by (first | omega | (have := kp0.size; simp only [World.size_alloc, size_setCell', size_drew'] at this; omega))
  have B1bc := B1b.cell
  have B1bf := B1b.frozen
  have B1bl := B1b.lt
  have ge1b : w.heap.size ≤ w.heap.size + 1 := by (first | omega | (have := kp0.size; simp only [World.size_alloc, size_setCell', size_drew'] at this; omega))
  have B1resc := B1res.cell
  have B1resf := B1res.frozen
  have B1resl := B1res.lt
  have ge1res : w.heap.size ≤ w.heap.size + 1 + 1 := by (first | omega | (have := kp0.size; simp only [World.size_alloc, size_setCell', size_drew'] at this; omega))
  replace hp := hp.soft sq0
  replace hq := hq.soft sq0
  replace hr := hr.soft sq0
  replace hp' := hp'.soft sq0
  replace hq' := hq'.soft sq0
  replace hr' := hr'.soft sq0
  have hDb : (qroot a.d b.d == 0) = false := by simp; exact hD
  have HDN := Hid.mk hD
  clear hD
  generalize hDg : qroot a.d b.d = D at *
  have HDg := Hid.mk hDg
  clear hDg
  go_wp2_with fail
  have kp1 : Kp w _ := kq0
  have sf1 : Sf 2 w1 _ := (Sf.refl 2 w1)
  refine (sumOfProducts_any a.p b.r b.p a.r m _ _ _ _ _ (hp.soft sf1) (hr'.soft sf1) (hp'.soft sf1) (hr.soft sf1) (by omega) fp fr' fp' fr).mono ?_
  rintro e w2 ⟨v2, rfl, hv2, hk2⟩
  obtain ⟨b7, ao7, n7, c7, rfl⟩ := hv2.shape'
  have kq1 := kp1.trans' hk2
  have sq1 := sf1.trans (Sf.keep hk2)
  have B2a : Blk w2 (w.heap.size) #[.bool b1, .slice ao1 n1 c1, .bool b2, .slice ao2 n2 c2, .bool b3, .slice ao3 n3 c3, .int .i64 a.d] 58 := Blk.keep hk2 B1a
  have B2b : Blk w2 (w.heap.size + 1) #[.bool b4, .slice ao4 n4 c4, .bool b5, .slice ao5 n5 c5, .bool b6, .slice ao6 n6 c6, .int .i64 b.d] 58 := Blk.keep hk2 B1b
  have B2res : Blk w2 (w.heap.size + 1 + 1) #[.bool false, .slice none 0 0, .bool false, .slice none 0 0, .bool false, .slice none 0 0, .int .i64 0] 58 := Blk.keep hk2 B1res
  have B2ac := B2a.cell
  have B2af := B2a.frozen
  have B2al := B2a.lt
  have ge2a : w.heap.size ≤ w.heap.size := by (first | omega | (have := kp1.size; simp only [World.size_alloc, size_setCell', size_drew'] at this; omega))
  have B2bc := B2b.cell
  have B2bf := B2b.frozen
  have B2bl := B2b.lt
  have ge2b : w.heap.size ≤ w.heap.size + 1 := by (first | omega | (have := kp1.size; simp only [World.size_alloc, size_setCell', size_drew'] at this; omega))
  have B2resc := B2res.cell
  have B2resf := B2res.frozen
  have B2resl := B2res.lt
  have ge2res : w.heap.size ≤ w.heap.size + 1 + 1 := by (first | omega | (have := kp1.size; simp only [World.size_alloc, size_setCell', size_drew'] at this; omega))
  replace hq := hq.soft sq1
  replace hr := hr.soft sq1
  replace hq' := hq'.soft sq1
  replace hr' := hr'.soft sq1
  clear B1a B1ac B1af B1b B1bc B1bf B1res B1resc B1resf
  go_wp2_with fail
  have kp2 : Kp w _ := (Kp.alloc' kq1 (.cells #[.bool b7, .slice ao7 n7 c7] 56))
  have sf2 : Sf 2 w2 _ := (Sf.alloc (Sf.refl 2 w2) (.cells #[.bool b7, .slice ao7 n7 c7] 56))
  refine (sumOfProducts_any a.q b.r b.q a.r m _ _ _ _ _ (hq.soft sf2) (hr'.soft sf2) (hq'.soft sf2) (hr.soft sf2) (by omega) fq fr' fq' fr).mono ?_
  rintro e w3 ⟨v3, rfl, hv3, hk3⟩
  obtain ⟨b8, ao8, n8, c8, rfl⟩ := hv3.shape'
  have kq2 := kp2.trans' hk3
  have sq2 := sf2.trans (Sf.keep hk3)
  have B3a : Blk w3 (w.heap.size) #[.bool b1, .slice ao1 n1 c1, .bool b2, .slice ao2 n2 c2, .bool b3, .slice ao3 n3 c3, .int .i64 a.d] 58 := Blk.keep hk3 (Blk.alloc B2a _)
  have B3b : Blk w3 (w.heap.size + 1) #[.bool b4, .slice ao4 n4 c4, .bool b5, .slice ao5 n5 c5, .bool b6, .slice ao6 n6 c6, .int .i64 b.d] 58 := Blk.keep hk3 (Blk.alloc B2b _)
  have B3res : Blk w3 (w.heap.size + 1 + 1) #[.bool false, .slice none 0 0, .bool false, .slice none 0 0, .bool false, .slice none 0 0, .int .i64 0] 58 := Blk.keep hk3 (Blk.alloc B2res _)
  have B3p : Blk w3 (w2.heap.size) #[.bool b7, .slice ao7 n7 c7] 56 := Blk.keep hk3 (Blk.at (Blk.new _ _ _) (by simp))
  have B3ac := B3a.cell
  have B3af := B3a.frozen
  have B3al := B3a.lt
  have ge3a : w.heap.size ≤ w.heap.size := by (first | omega | (have := kp2.size; simp only [World.size_alloc, size_setCell', size_drew'] at this; omega))
  have B3bc := B3b.cell
  have B3bf := B3b.frozen
  have B3bl := B3b.lt
  have ge3b : w.heap.size ≤ w.heap.size + 1 := by (first | omega | (have := kp2.size; simp only [World.size_alloc, size_setCell', size_drew'] at this; omega))
  have B3resc := B3res.cell
  have B3resf := B3res.frozen
  have B3resl := B3res.lt
  have ge3res : w.heap.size ≤ w.heap.size + 1 + 1 := by (first | omega | (have := kp2.size; simp only [World.size_alloc, size_setCell', size_drew'] at this; omega))
  have B3pc := B3p.cell
  have B3pf := B3p.frozen
  have B3pl := B3p.lt
  have ge3p : w.heap.size ≤ w2.heap.size := by (first | omega | (have := kp2.size; simp only [World.size_alloc, size_setCell', size_drew'] at this; omega))
  replace hr := hr.soft sq2
  replace hr' := hr'.soft sq2
  replace hv2 := hv2.soft sq2
  clear B2a B2ac B2af B2b B2bc B2bf B2res B2resc B2resf
  go_wp2_with fail
  have kp3 : Kp w _ := (Kp.alloc' kq2 (.cells #[.bool b8, .slice ao8 n8 c8] 56))
  have sf3 : Sf 2 w3 _ := (Sf.alloc (Sf.refl 2 w3) (.cells #[.bool b8, .slice ao8 n8 c8] 56))
  refine (multiply_any a.r b.r _ _ _ (hr.soft sf3) (hr'.soft sf3) (fr.fit (by omega)) (fr'.fit (by omega))).mono ?_
  rintro e w4 ⟨v4, rfl, hv4, hk4⟩
  obtain ⟨b10, ao10, n10, c10, rfl⟩ := hv4.shape'
  have kq3 := kp3.trans' hk4
  have sq3 := sf3.trans (Sf.keep hk4)
  have B4res : Blk w4 (w.heap.size + 1 + 1) #[.bool false, .slice none 0 0, .bool false, .slice none 0 0, .bool false, .slice none 0 0, .int .i64 0] 58 := Blk.keep hk4 (Blk.alloc B3res _)
  have B4p : Blk w4 (w2.heap.size) #[.bool b7, .slice ao7 n7 c7] 56 := Blk.keep hk4 (Blk.alloc B3p _)
  have B4q : Blk w4 (w3.heap.size) #[.bool b8, .slice ao8 n8 c8] 56 := Blk.keep hk4 (Blk.at (Blk.new _ _ _) (by simp))
  have B4resc := B4res.cell
  have B4resf := B4res.frozen
  have B4resl := B4res.lt
  have ge4res : w.heap.size ≤ w.heap.size + 1 + 1 := by (first | omega | (have := kp3.size; simp only [World.size_alloc, size_setCell', size_drew'] at this; omega))
  have B4pc := B4p.cell
  have B4pf := B4p.frozen
  have B4pl := B4p.lt
  have ge4p : w.heap.size ≤ w2.heap.size := by (first | omega | (have := kp3.size; simp only [World.size_alloc, size_setCell', size_drew'] at this; omega))
  have B4qc := B4q.cell
  have B4qf := B4q.frozen
  have B4ql := B4q.lt
  have ge4q : w.heap.size ≤ w3.heap.size := by (first | omega | (have := kp3.size; simp only [World.size_alloc, size_setCell', size_drew'] at this; omega))
  replace hv2 := hv2.soft sq3
  replace hv3 := hv3.soft sq3
  clear B3a B3ac B3af B3b B3bc B3bf B3res B3resc B3resf B3p B3pc B3pf
  go_wp2_with fail
  have kp4 : Kp w _ := (Kp.alloc' kq3 (.cells #[.bool b10, .slice ao10 n10 c10] 56))
  have sf4 : Sf 2 w4 _ := (Sf.alloc (Sf.refl 2 w4) (.cells #[.bool b10, .slice ao10 n10 c10] 56))
  refine (reduce_any (a.p * b.r + b.p * a.r) (a.q * b.r + b.q * a.r) (a.r * b.r) D (m + m + 1) _ _ _ _ (hv2.soft sf4) (hv3.soft sf4) (hv4.soft sf4) (by omega) (fp.sop fr' fp' fr) (fq.sop fr' fq' fr) ((fr.mul fr').mono (by omega))).mono ?_
  rintro e w5 ⟨v5, rfl, hX, hk5⟩
  obtain ⟨b11, ao11, n11, c11, b12, ao12, n12, c12, b13, ao13, n13, c13, rfl, g1, g2, g3⟩ := id hX
  clear g1 g2 g3
  have kq4 := kp4.trans' hk5
  have sq4 := sf4.trans (Sf.keep hk5)
  have B5res : Blk w5 (w.heap.size + 1 + 1) #[.bool false, .slice none 0 0, .bool false, .slice none 0 0, .bool false, .slice none 0 0, .int .i64 0] 58 := Blk.keep hk5 (Blk.alloc B4res _)
  have B5resc := B5res.cell
  have B5resf := B5res.frozen
  have B5resl := B5res.lt
  have ge5res : w.heap.size ≤ w.heap.size + 1 + 1 := by (first | omega | (have := kp4.size; simp only [World.size_alloc, size_setCell', size_drew'] at this; omega))
  clear B4res B4resc B4resf B4p B4pc B4pf B4q B4qc B4qf
  generalize hQ : qreduce (a.p * b.r + b.p * a.r) (a.q * b.r + b.q * a.r) (a.r * b.r) D = Q at *
  go_wp2_with fail
  refine bodyPost_ret (v := .tuple #[.agg #[.bool b11, .slice ao11 n11 c11, .bool b12, .slice ao12 n12 c12, .bool b13, .slice ao13 n13 c13, .int .i64 Q.d], .int .i64 0]) (by simp [results, Tryd.results116, go_sem, B5resc, B5resl]) rfl ?_
  have kpE : Kp w _ := (Kp.alloc' (Below.setCell (Below.setCell (Below.setCell (Below.setCell (Below.setCell (Below.setCell (Below.setCell kq4 (p := ⟨w.heap.size + 1 + 1, 0, none⟩) (by have := ge5res; omega) (.bool b11)) (p := ⟨w.heap.size + 1 + 1, 1, none⟩) (by have := ge5res; omega) (.slice ao11 n11 c11)) (p := ⟨w.heap.size + 1 + 1, 2, none⟩) (by have := ge5res; omega) (.bool b12)) (p := ⟨w.heap.size + 1 + 1, 3, none⟩) (by have := ge5res; omega) (.slice ao12 n12 c12)) (p := ⟨w.heap.size + 1 + 1, 4, none⟩) (by have := ge5res; omega) (.bool b13)) (p := ⟨w.heap.size + 1 + 1, 5, none⟩) (by have := ge5res; omega) (.slice ao13 n13 c13)) (p := ⟨w.heap.size + 1 + 1, 6, none⟩) (by have := ge5res; omega) (.int .i64 Q.d)) (.cells #[.bool b11, .slice ao11 n11 c11, .bool b12, .slice ao12 n12 c12, .bool b13, .slice ao13 n13 c13, .int .i64 Q.d] 58))
  have sfE : Sf 2 w5 _ := (Sf.alloc (Sf.set (t := 58) (c := w.heap.size + 1 + 1) (o := 6) (y := .int .i64 Q.d) (Sf.set (t := 58) (c := w.heap.size + 1 + 1) (o := 5) (y := .slice ao13 n13 c13) (Sf.set (t := 58) (c := w.heap.size + 1 + 1) (o := 4) (y := .bool b13) (Sf.set (t := 58) (c := w.heap.size + 1 + 1) (o := 3) (y := .slice ao12 n12 c12) (Sf.set (t := 58) (c := w.heap.size + 1 + 1) (o := 2) (y := .bool b12) (Sf.set (t := 58) (c := w.heap.size + 1 + 1) (o := 1) (y := .slice ao11 n11 c11) (Sf.set (t := 58) (c := w.heap.size + 1 + 1) (o := 0) (y := .bool b11) (Sf.refl 2 w5) (by first | (simp only [elemOf_setCell]; exact B5res.elem) | exact B5res.elem) (by decide)) (by first | (simp only [elemOf_setCell]; exact B5res.elem) | exact B5res.elem) (by decide)) (by first | (simp only [elemOf_setCell]; exact B5res.elem) | exact B5res.elem) (by decide)) (by first | (simp only [elemOf_setCell]; exact B5res.elem) | exact B5res.elem) (by decide)) (by first | (simp only [elemOf_setCell]; exact B5res.elem) | exact B5res.elem) (by decide)) (by first | (simp only [elemOf_setCell]; exact B5res.elem) | exact B5res.elem) (by decide)) (by first | (simp only [elemOf_setCell]; exact B5res.elem) | exact B5res.elem) (by decide)) (.cells #[.bool b11, .slice ao11 n11 c11, .bool b12, .slice ao12 n12 c12, .bool b13, .slice ao13 n13 c13, .int .i64 Q.d] 58))
  have hQ' : Q = (qaddN a b) := by rw [← hQ, ← HDg.out]; rfl
  rw [← hQ']
  exact ⟨_, rfl, hX.soft sfE, kpE⟩

set_option maxHeartbeats 3200000 in
theorem xmul_e (a b : Qn) (m : Nat) (u v : Value) (w : World) (ha : XN w u a) (hb : XN w v b) (_hm : m ≤ 40000000) (fa : QF m a) (fb : QF m b) (da : 0 ≤ a.d ∧ a.d ≤ 1000000) (db : 0 ≤ b.d ∧ b.d ≤ 1000000) (hD : qroot a.d b.d = 0) :
    Calls Tryd.prog 118 #[u, v] w (RetXE w qzero 4) := by
  have hdd : 0 ≤ qroot a.d b.d ∧ qroot a.d b.d ≤ 1000000 := by unfold qroot; split <;> (try split) <;> omega
  obtain ⟨fp, fq, fr⟩ := fa
  obtain ⟨fp', fq', fr'⟩ := fb
  obtain ⟨b1, ao1, n1, c1, b2, ao2, n2, c2, b3, ao3, n3, c3, rfl, hp, hq, hr⟩ := id ha
  obtain ⟨b4, ao4, n4, c4, b5, ao5, n5, c5, b6, ao6, n6, c6, rfl, hp', hq', hr'⟩ := id hb
  go_enter Tryd.func118, Tryd.ntmps118
  go_wp2_with fail
  have kp0 : Kp w _ := (Kp.alloc' (Kp.alloc' (Kp.alloc' (Below.refl w.heap.size w) (.cells #[.bool b1, .slice ao1 n1 c1, .bool b2, .slice ao2 n2 c2, .bool b3, .slice ao3 n3 c3, .int .i64 a.d] 58)) (.cells #[.bool b4, .slice ao4 n4 c4, .bool b5, .slice ao5 n5 c5, .bool b6, .slice ao6 n6 c6, .int .i64 b.d] 58)) (.cells #[.bool false, .slice none 0 0, .bool false, .slice none 0 0, .bool false, .slice none 0 0, .int .i64 0] 58))
  have sf0 : Sf 2 w _ := (Sf.alloc (Sf.alloc (Sf.alloc (Sf.refl 2 w) (.cells #[.bool b1, .slice ao1 n1 c1, .bool b2, .slice ao2 n2 c2, .bool b3, .slice ao3 n3 c3, .int .i64 a.d] 58)) (.cells #[.bool b4, .slice ao4 n4 c4, .bool b5, .slice ao5 n5 c5, .bool b6, .slice ao6 n6 c6, .int .i64 b.d] 58)) (.cells #[.bool false, .slice none 0 0, .bool false, .slice none 0 0, .bool false, .slice none 0 0, .int .i64 0] 58))
  refine (commonRoot_any a b _ _ _ (ha.soft sf0) (hb.soft sf0)).mono ?_
  rintro e w1 ⟨rfl, hk1⟩
  have kq0 := kp0.trans' hk1
  have sq0 := sf0.trans (Sf.keep hk1)
  have B1a : Blk w1 (w.heap.size) #[.bool b1, .slice ao1 n1 c1, .bool b2, .slice ao2 n2 c2, .bool b3, .slice ao3 n3 c3, .int .i64 a.d] 58 := Blk.keep hk1 (Blk.at (Blk.alloc (Blk.alloc (Blk.new _ _ _) _) _) (by simp))
  have B1b : Blk w1 (w.heap.size + 1) #[.bool b4, .slice ao4 n4 c4, .bool b5, .slice ao5 n5 c5, .bool b6, .slice ao6 n6 c6, .int .i64 b.d] 58 := Blk.keep hk1 (Blk.at (Blk.alloc (Blk.new _ _ _) _) (by simp))
  have B1res : Blk w1 (w.heap.size + 1 + 1) #[.bool false, .slice none 0 0, .bool false, .slice none 0 0, .bool false, .slice none 0 0, .int .i64 0] 58 := Blk.keep hk1 (Blk.at (Blk.new _ _ _) (by simp))
  have B1ac := B1a.cell
  have B1af := B1a.frozen
  have B1al := B1a.lt
  have ge1a : w.heap.size ≤ w.heap.size := by (first | omega | (have := kp0.size; simp only [World.size_alloc, size_setCell', size_drew'] at this; omega))
  have B1bc := B1b.cell
  have B1bf := B1b.frozen
  have B1bl := B1b.lt
  have ge1b : w.heap.size ≤ w.heap.size + 1 := by (first | omega | (have := kp0.size; simp only [World.size_alloc, size_setCell', size_drew'] at this; omega))
  have B1resc := B1res.cell
  have B1resf := B1res.frozen
  have B1resl := B1res.lt
  have ge1res : w.heap.size ≤ w.heap.size + 1 + 1 := by (first | omega | (have := kp0.size; simp only [World.size_alloc, size_setCell', size_drew'] at this; omega))
  replace hp := hp.soft sq0
  replace hq := hq.soft sq0
  replace hr := hr.soft sq0
  replace hp' := hp'.soft sq0
  replace hq' := hq'.soft sq0
  replace hr' := hr'.soft sq0
  rw [hD]
  clear hD hdd
  go_wp2_with fail
  refine bodyPost_ret (v := .tuple #[.agg #[.bool false, .slice none 0 0, .bool false, .slice none 0 0, .bool false, .slice none 0 0, .int .i64 0], .int .i64 4]) (by simp [results, Tryd.results118, go_sem, B1resc]) rfl ?_
  have kpE : Kp w _ := (Below.setCell (Below.setCell (Below.setCell (Below.setCell (Below.setCell (Below.setCell (Below.setCell kq0 (p := ⟨w.heap.size + 1 + 1, 0, none⟩) (by have := ge1res; omega) (.bool false)) (p := ⟨w.heap.size + 1 + 1, 1, none⟩) (by have := ge1res; omega) (.slice none 0 0)) (p := ⟨w.heap.size + 1 + 1, 2, none⟩) (by have := ge1res; omega) (.bool false)) (p := ⟨w.heap.size + 1 + 1, 3, none⟩) (by have := ge1res; omega) (.slice none 0 0)) (p := ⟨w.heap.size + 1 + 1, 4, none⟩) (by have := ge1res; omega) (.bool false)) (p := ⟨w.heap.size + 1 + 1, 5, none⟩) (by have := ge1res; omega) (.slice none 0 0)) (p := ⟨w.heap.size + 1 + 1, 6, none⟩) (by have := ge1res; omega) (.int .i64 0))
  have sfE : Sf 2 w1 _ := (Sf.set (t := 58) (c := w.heap.size + 1 + 1) (o := 6) (y := .int .i64 0) (Sf.set (t := 58) (c := w.heap.size + 1 + 1) (o := 5) (y := .slice none 0 0) (Sf.set (t := 58) (c := w.heap.size + 1 + 1) (o := 4) (y := .bool false) (Sf.set (t := 58) (c := w.heap.size + 1 + 1) (o := 3) (y := .slice none 0 0) (Sf.set (t := 58) (c := w.heap.size + 1 + 1) (o := 2) (y := .bool false) (Sf.set (t := 58) (c := w.heap.size + 1 + 1) (o := 1) (y := .slice none 0 0) (Sf.set (t := 58) (c := w.heap.size + 1 + 1) (o := 0) (y := .bool false) (Sf.refl 2 w1) (by first | (simp only [elemOf_setCell]; exact B1res.elem) | exact B1res.elem) (by decide)) (by first | (simp only [elemOf_setCell]; exact B1res.elem) | exact B1res.elem) (by decide)) (by first | (simp only [elemOf_setCell]; exact B1res.elem) | exact B1res.elem) (by decide)) (by first | (simp only [elemOf_setCell]; exact B1res.elem) | exact B1res.elem) (by decide)) (by first | (simp only [elemOf_setCell]; exact B1res.elem) | exact B1res.elem) (by decide)) (by first | (simp only [elemOf_setCell]; exact B1res.elem) | exact B1res.elem) (by decide)) (by first | (simp only [elemOf_setCell]; exact B1res.elem) | exact B1res.elem) (by decide))
  exact ⟨_, rfl, xn_zero _, kpE⟩

set_option maxHeartbeats 3200000 in
theorem xmul_n (a b : Qn) (m : Nat) (u v : Value) (w : World) (ha : XN w u a) (hb : XN w v b) (hm : m ≤ 40000000) (fa : QF m a) (fb : QF m b) (da : 0 ≤ a.d ∧ a.d ≤ 1000000) (db : 0 ≤ b.d ∧ b.d ≤ 1000000) (hD : qroot a.d b.d ≠ 0) :
    Calls Tryd.prog 118 #[u, v] w (RetXE w (qmulN a b) 0) := by
  have hdd : 0 ≤ qroot a.d b.d ∧ qroot a.d b.d ≤ 1000000 := by unfold qroot; split <;> (try split) <;> omega
  obtain ⟨fp, fq, fr⟩ := fa
  obtain ⟨fp', fq', fr'⟩ := fb
  obtain ⟨b1, ao1, n1, c1, b2, ao2, n2, c2, b3, ao3, n3, c3, rfl, hp, hq, hr⟩ := id ha
  obtain ⟨b4, ao4, n4, c4, b5, ao5, n5, c5, b6, ao6, n6, c6, rfl, hp', hq', hr'⟩ := id hb
  go_enter Tryd.func118, Tryd.ntmps118
  go_wp2_with fail
  have kp0 : Kp w _ := (Kp.alloc' (Kp.alloc' (Kp.alloc' (Below.refl w.heap.size w) (.cells #[.bool b1, .slice ao1 n1 c1, .bool b2, .slice ao2 n2 c2, .bool b3, .slice ao3 n3 c3, .int .i64 a.d] 58)) (.cells #[.bool b4, .slice ao4 n4 c4, .bool b5, .slice ao5 n5 c5, .bool b6, .slice ao6 n6 c6, .int .i64 b.d] 58)) (.cells #[.bool false, .slice none 0 0, .bool false, .slice none 0 0, .bool false, .slice none 0 0, .int .i64 0] 58))
  have sf0 : Sf 2 w _ := (Sf.alloc (Sf.alloc (Sf.alloc (Sf.refl 2 w) (.cells #[.bool b1, .slice ao1 n1 c1, .bool b2, .slice ao2 n2 c2, .bool b3, .slice ao3 n3 c3, .int .i64 a.d] 58)) (.cells #[.bool b4, .slice ao4 n4 c4, .bool b5, .slice ao5 n5 c5, .bool b6, .slice ao6 n6 c6, .int .i64 b.d] 58)) (.cells #[.bool false, .slice none 0 0, .bool false, .slice none 0 0, .bool false, .slice none 0 0, .int .i64 0] 58))
  refine (commonRoot_any a b _ _ _ (ha.soft sf0) (hb.soft sf0)).mono ?_
  rintro e w1 ⟨rfl, hk1⟩
  have kq0 := kp0.trans' hk1
  have sq0 := sf0.trans (Sf.keep hk1)
  have B1a : Blk w1 (w.heap.size) #[.bool b1, .slice ao1 n1 c1, .bool b2, .slice ao2 n2 c2, .bool b3, .slice ao3 n3 c3, .int .i64 a.d] 58 := Blk.keep hk1 (Blk.at (Blk.alloc (Blk.alloc (Blk.new _ _ _) _) _) (by simp))
  have B1b : Blk w1 (w.heap.size + 1) #[.bool b4, .slice ao4 n4 c4, .bool b5, .slice ao5 n5 c5, .bool b6, .slice ao6 n6 c6, .int .i64 b.d] 58 := Blk.keep hk1 (Blk.at (Blk.alloc (Blk.new _ _ _) _) (by simp))
  have B1res : Blk w1 (w.heap.size + 1 + 1) #[.bool false, .slice none 0 0, .bool false, .slice none 0 0, .bool false, .slice none 0 0, .int .i64 0] 58 := Blk.keep hk1 (Blk.at (Blk.new _ _ _) (by simp))
  have B1ac := B1a.cell
  have B1af := B1a.frozen
  have B1al := B1a.lt
  have ge1a : w.heap.size ≤ w.heap.size := by (first | omega | (have := kp0.size; simp only [World.size_alloc, size_setCell', size_drew'] at this; omega))
  have B1bc := B1b.cell
  have B1bf := B1b.frozen
  have B1bl := B1b.lt
  have ge1b : w.heap.size ≤ w.heap.size + 1 := by (first | omega | (have := kp0.size; simp only [World.size_alloc, size_setCell', size_drew'] at this; omega))
  have B1resc := B1res.cell
  have B1resf := B1res.frozen
  have B1resl := B1res.lt
  have ge1res : w.heap.size ≤ w.heap.size + 1 + 1 := by (first | omega | (have := kp0.size; simp only [World.size_alloc, size_setCell', size_drew'] at this; omega))
  replace hp := hp.soft sq0
  replace hq := hq.soft sq0
  replace hr := hr.soft sq0
  replace hp' := hp'.soft sq0
  replace hq' := hq'.soft sq0
  replace hr' := hr'.soft sq0
  have hDb : (qroot a.d b.d == 0) = false := by simp; exact hD
  have HDN := Hid.mk hD
  clear hD
  generalize hDg : qroot a.d b.d = D at *
  have HDg := Hid.mk hDg
  clear hDg
  go_wp2_with fail
  have kp1 : Kp w _ := kq0
  have sf1 : Sf 2 w1 _ := (Sf.refl 2 w1)
  refine (timesRoot_any b.q D m _ _ (hq'.soft sf1) (by omega) fq' hdd.1 hdd.2).mono ?_
  rintro e w2 ⟨v2, rfl, hs, hk2⟩
  obtain ⟨b7, ao7, n7, c7, rfl⟩ := hs.shape'
  have fs : Ft (m + 7) (b.q * D) := fq'.mul (by unfold Ft; omega)
  have kq1 := kp1.trans' hk2
  have sq1 := sf1.trans (Sf.keep hk2)
  have B2a : Blk w2 (w.heap.size) #[.bool b1, .slice ao1 n1 c1, .bool b2, .slice ao2 n2 c2, .bool b3, .slice ao3 n3 c3, .int .i64 a.d] 58 := Blk.keep hk2 B1a
  have B2b : Blk w2 (w.heap.size + 1) #[.bool b4, .slice ao4 n4 c4, .bool b5, .slice ao5 n5 c5, .bool b6, .slice ao6 n6 c6, .int .i64 b.d] 58 := Blk.keep hk2 B1b
  have B2res : Blk w2 (w.heap.size + 1 + 1) #[.bool false, .slice none 0 0, .bool false, .slice none 0 0, .bool false, .slice none 0 0, .int .i64 0] 58 := Blk.keep hk2 B1res
  have B2ac := B2a.cell
  have B2af := B2a.frozen
  have B2al := B2a.lt
  have ge2a : w.heap.size ≤ w.heap.size := by (first | omega | (have := kp1.size; simp only [World.size_alloc, size_setCell', size_drew'] at this; omega))
  have B2bc := B2b.cell
  have B2bf := B2b.frozen
  have B2bl := B2b.lt
  have ge2b : w.heap.size ≤ w.heap.size + 1 := by (first | omega | (have := kp1.size; simp only [World.size_alloc, size_setCell', size_drew'] at this; omega))
  have B2resc := B2res.cell
  have B2resf := B2res.frozen
  have B2resl := B2res.lt
  have ge2res : w.heap.size ≤ w.heap.size + 1 + 1 := by (first | omega | (have := kp1.size; simp only [World.size_alloc, size_setCell', size_drew'] at this; omega))
  replace hp := hp.soft sq1
  replace hq := hq.soft sq1
  replace hr := hr.soft sq1
  replace hp' := hp'.soft sq1
  replace hq' := hq'.soft sq1
  replace hr' := hr'.soft sq1
  clear B1a B1ac B1af B1b B1bc B1bf B1res B1resc B1resf
  go_wp2_with fail
  have kp2 : Kp w _ := (Kp.alloc' kq1 (.cells #[.bool b7, .slice ao7 n7 c7] 56))
  have sf2 : Sf 2 w2 _ := (Sf.alloc (Sf.refl 2 w2) (.cells #[.bool b7, .slice ao7 n7 c7] 56))
  refine (sumOfProducts_any a.p b.p a.q (b.q * D) (m + 7) _ _ _ _ _ (hp.soft sf2) (hp'.soft sf2) (hq.soft sf2) (hs.soft sf2) (by omega) (fp.mono (by omega)) (fp'.mono (by omega)) (fq.mono (by omega)) fs).mono ?_
  rintro e w3 ⟨v3, rfl, hv2, hk3⟩
  obtain ⟨b8, ao8, n8, c8, rfl⟩ := hv2.shape'
  have kq2 := kp2.trans' hk3
  have sq2 := sf2.trans (Sf.keep hk3)
  have B3a : Blk w3 (w.heap.size) #[.bool b1, .slice ao1 n1 c1, .bool b2, .slice ao2 n2 c2, .bool b3, .slice ao3 n3 c3, .int .i64 a.d] 58 := Blk.keep hk3 (Blk.alloc B2a _)
  have B3b : Blk w3 (w.heap.size + 1) #[.bool b4, .slice ao4 n4 c4, .bool b5, .slice ao5 n5 c5, .bool b6, .slice ao6 n6 c6, .int .i64 b.d] 58 := Blk.keep hk3 (Blk.alloc B2b _)
  have B3res : Blk w3 (w.heap.size + 1 + 1) #[.bool false, .slice none 0 0, .bool false, .slice none 0 0, .bool false, .slice none 0 0, .int .i64 0] 58 := Blk.keep hk3 (Blk.alloc B2res _)
  have B3ac := B3a.cell
  have B3af := B3a.frozen
  have B3al := B3a.lt
  have ge3a : w.heap.size ≤ w.heap.size := by (first | omega | (have := kp2.size; simp only [World.size_alloc, size_setCell', size_drew'] at this; omega))
  have B3bc := B3b.cell
  have B3bf := B3b.frozen
  have B3bl := B3b.lt
  have ge3b : w.heap.size ≤ w.heap.size + 1 := by (first | omega | (have := kp2.size; simp only [World.size_alloc, size_setCell', size_drew'] at this; omega))
  have B3resc := B3res.cell
  have B3resf := B3res.frozen
  have B3resl := B3res.lt
  have ge3res : w.heap.size ≤ w.heap.size + 1 + 1 := by (first | omega | (have := kp2.size; simp only [World.size_alloc, size_setCell', size_drew'] at this; omega))
  replace hp := hp.soft sq2
  replace hq := hq.soft sq2
  replace hr := hr.soft sq2
  replace hp' := hp'.soft sq2
  replace hq' := hq'.soft sq2
  replace hr' := hr'.soft sq2
  clear B2a B2ac B2af B2b B2bc B2bf B2res B2resc B2resf
  go_wp2_with fail
  have kp3 : Kp w _ := (Kp.alloc' kq2 (.cells #[.bool b8, .slice ao8 n8 c8] 56))
  have sf3 : Sf 2 w3 _ := (Sf.alloc (Sf.refl 2 w3) (.cells #[.bool b8, .slice ao8 n8 c8] 56))
  refine (sumOfProducts_any a.p b.q a.q b.p m _ _ _ _ _ (hp.soft sf3) (hq'.soft sf3) (hq.soft sf3) (hp'.soft sf3) (by omega) fp fq' fq fp').mono ?_
  rintro e w4 ⟨v4, rfl, hv3, hk4⟩
  obtain ⟨b9, ao9, n9, c9, rfl⟩ := hv3.shape'
  have kq3 := kp3.trans' hk4
  have sq3 := sf3.trans (Sf.keep hk4)
  have B4a : Blk w4 (w.heap.size) #[.bool b1, .slice ao1 n1 c1, .bool b2, .slice ao2 n2 c2, .bool b3, .slice ao3 n3 c3, .int .i64 a.d] 58 := Blk.keep hk4 (Blk.alloc B3a _)
  have B4b : Blk w4 (w.heap.size + 1) #[.bool b4, .slice ao4 n4 c4, .bool b5, .slice ao5 n5 c5, .bool b6, .slice ao6 n6 c6, .int .i64 b.d] 58 := Blk.keep hk4 (Blk.alloc B3b _)
  have B4res : Blk w4 (w.heap.size + 1 + 1) #[.bool false, .slice none 0 0, .bool false, .slice none 0 0, .bool false, .slice none 0 0, .int .i64 0] 58 := Blk.keep hk4 (Blk.alloc B3res _)
  have B4p : Blk w4 (w3.heap.size) #[.bool b8, .slice ao8 n8 c8] 56 := Blk.keep hk4 (Blk.at (Blk.new _ _ _) (by simp))
  have B4ac := B4a.cell
  have B4af := B4a.frozen
  have B4al := B4a.lt
  have ge4a : w.heap.size ≤ w.heap.size := by (first | omega | (have := kp3.size; simp only [World.size_alloc, size_setCell', size_drew'] at this; omega))
  have B4bc := B4b.cell
  have B4bf := B4b.frozen
  have B4bl := B4b.lt
  have ge4b : w.heap.size ≤ w.heap.size + 1 := by (first | omega | (have := kp3.size; simp only [World.size_alloc, size_setCell', size_drew'] at this; omega))
  have B4resc := B4res.cell
  have B4resf := B4res.frozen
  have B4resl := B4res.lt
  have ge4res : w.heap.size ≤ w.heap.size + 1 + 1 := by (first | omega | (have := kp3.size; simp only [World.size_alloc, size_setCell', size_drew'] at this; omega))
  have B4pc := B4p.cell
  have B4pf := B4p.frozen
  have B4pl := B4p.lt
  have ge4p : w.heap.size ≤ w3.heap.size := by (first | omega | (have := kp3.size; simp only [World.size_alloc, size_setCell', size_drew'] at this; omega))
  replace hr := hr.soft sq3
  replace hr' := hr'.soft sq3
  replace hv2 := hv2.soft sq3
  clear B3a B3ac B3af B3b B3bc B3bf B3res B3resc B3resf
  go_wp2_with fail
  have kp4 : Kp w _ := (Kp.alloc' kq3 (.cells #[.bool b9, .slice ao9 n9 c9] 56))
  have sf4 : Sf 2 w4 _ := (Sf.alloc (Sf.refl 2 w4) (.cells #[.bool b9, .slice ao9 n9 c9] 56))
  refine (multiply_any a.r b.r _ _ _ (hr.soft sf4) (hr'.soft sf4) (fr.fit (by omega)) (fr'.fit (by omega))).mono ?_
  rintro e w5 ⟨v5, rfl, hv4, hk5⟩
  obtain ⟨b10, ao10, n10, c10, rfl⟩ := hv4.shape'
  have kq4 := kp4.trans' hk5
  have sq4 := sf4.trans (Sf.keep hk5)
  have B5res : Blk w5 (w.heap.size + 1 + 1) #[.bool false, .slice none 0 0, .bool false, .slice none 0 0, .bool false, .slice none 0 0, .int .i64 0] 58 := Blk.keep hk5 (Blk.alloc B4res _)
  have B5p : Blk w5 (w3.heap.size) #[.bool b8, .slice ao8 n8 c8] 56 := Blk.keep hk5 (Blk.alloc B4p _)
  have B5q : Blk w5 (w4.heap.size) #[.bool b9, .slice ao9 n9 c9] 56 := Blk.keep hk5 (Blk.at (Blk.new _ _ _) (by simp))
  have B5resc := B5res.cell
  have B5resf := B5res.frozen
  have B5resl := B5res.lt
  have ge5res : w.heap.size ≤ w.heap.size + 1 + 1 := by (first | omega | (have := kp4.size; simp only [World.size_alloc, size_setCell', size_drew'] at this; omega))
  have B5pc := B5p.cell
  have B5pf := B5p.frozen
  have B5pl := B5p.lt
  have ge5p : w.heap.size ≤ w3.heap.size := by (first | omega | (have := kp4.size; simp only [World.size_alloc, size_setCell', size_drew'] at this; omega))
  have B5qc := B5q.cell
  have B5qf := B5q.frozen
  have B5ql := B5q.lt
  have ge5q : w.heap.size ≤ w4.heap.size := by (first | omega | (have := kp4.size; simp only [World.size_alloc, size_setCell', size_drew'] at this; omega))
  replace hv2 := hv2.soft sq4
  replace hv3 := hv3.soft sq4
  clear B4a B4ac B4af B4b B4bc B4bf B4res B4resc B4resf B4p B4pc B4pf
  go_wp2_with fail
  have kp5 : Kp w _ := (Kp.alloc' kq4 (.cells #[.bool b10, .slice ao10 n10 c10] 56))
  have sf5 : Sf 2 w5 _ := (Sf.alloc (Sf.refl 2 w5) (.cells #[.bool b10, .slice ao10 n10 c10] 56))
  refine (reduce_any (a.p * b.p + a.q * (b.q * D)) (a.p * b.q + a.q * b.p) (a.r * b.r) D (m + 7 + (m + 7) + 1) _ _ _ _ (hv2.soft sf5) (hv3.soft sf5) (hv4.soft sf5) (by omega) ((fp.mono (by omega)).sop (fp'.mono (by omega)) (fq.mono (by omega)) fs) ((fp.sop fq' fq fp').mono (by omega)) ((fr.mul fr').mono (by omega))).mono ?_
  rintro e w6 ⟨v6, rfl, hX, hk6⟩
  obtain ⟨b11, ao11, n11, c11, b12, ao12, n12, c12, b13, ao13, n13, c13, rfl, g1, g2, g3⟩ := id hX
  clear g1 g2 g3
  have kq5 := kp5.trans' hk6
  have sq5 := sf5.trans (Sf.keep hk6)
  have B6res : Blk w6 (w.heap.size + 1 + 1) #[.bool false, .slice none 0 0, .bool false, .slice none 0 0, .bool false, .slice none 0 0, .int .i64 0] 58 := Blk.keep hk6 (Blk.alloc B5res _)
  have B6resc := B6res.cell
  have B6resf := B6res.frozen
  have B6resl := B6res.lt
  have ge6res : w.heap.size ≤ w.heap.size + 1 + 1 := by (first | omega | (have := kp5.size; simp only [World.size_alloc, size_setCell', size_drew'] at this; omega))
  clear B5res B5resc B5resf B5p B5pc B5pf B5q B5qc B5qf
  generalize hQ : qreduce (a.p * b.p + a.q * (b.q * D)) (a.p * b.q + a.q * b.p) (a.r * b.r) D = Q at *
  go_wp2_with fail
  refine bodyPost_ret (v := .tuple #[.agg #[.bool b11, .slice ao11 n11 c11, .bool b12, .slice ao12 n12 c12, .bool b13, .slice ao13 n13 c13, .int .i64 Q.d], .int .i64 0]) (by simp [results, Tryd.results118, go_sem, B6resc, B6resl]) rfl ?_
  have kpE : Kp w _ := (Kp.alloc' (Below.setCell (Below.setCell (Below.setCell (Below.setCell (Below.setCell (Below.setCell (Below.setCell kq5 (p := ⟨w.heap.size + 1 + 1, 0, none⟩) (by have := ge6res; omega) (.bool b11)) (p := ⟨w.heap.size + 1 + 1, 1, none⟩) (by have := ge6res; omega) (.slice ao11 n11 c11)) (p := ⟨w.heap.size + 1 + 1, 2, none⟩) (by have := ge6res; omega) (.bool b12)) (p := ⟨w.heap.size + 1 + 1, 3, none⟩) (by have := ge6res; omega) (.slice ao12 n12 c12)) (p := ⟨w.heap.size + 1 + 1, 4, none⟩) (by have := ge6res; omega) (.bool b13)) (p := ⟨w.heap.size + 1 + 1, 5, none⟩) (by have := ge6res; omega) (.slice ao13 n13 c13)) (p := ⟨w.heap.size + 1 + 1, 6, none⟩) (by have := ge6res; omega) (.int .i64 Q.d)) (.cells #[.bool b11, .slice ao11 n11 c11, .bool b12, .slice ao12 n12 c12, .bool b13, .slice ao13 n13 c13, .int .i64 Q.d] 58))
  have sfE : Sf 2 w6 _ := (Sf.alloc (Sf.set (t := 58) (c := w.heap.size + 1 + 1) (o := 6) (y := .int .i64 Q.d) (Sf.set (t := 58) (c := w.heap.size + 1 + 1) (o := 5) (y := .slice ao13 n13 c13) (Sf.set (t := 58) (c := w.heap.size + 1 + 1) (o := 4) (y := .bool b13) (Sf.set (t := 58) (c := w.heap.size + 1 + 1) (o := 3) (y := .slice ao12 n12 c12) (Sf.set (t := 58) (c := w.heap.size + 1 + 1) (o := 2) (y := .bool b12) (Sf.set (t := 58) (c := w.heap.size + 1 + 1) (o := 1) (y := .slice ao11 n11 c11) (Sf.set (t := 58) (c := w.heap.size + 1 + 1) (o := 0) (y := .bool b11) (Sf.refl 2 w6) (by first | (simp only [elemOf_setCell]; exact B6res.elem) | exact B6res.elem) (by decide)) (by first | (simp only [elemOf_setCell]; exact B6res.elem) | exact B6res.elem) (by decide)) (by first | (simp only [elemOf_setCell]; exact B6res.elem) | exact B6res.elem) (by decide)) (by first | (simp only [elemOf_setCell]; exact B6res.elem) | exact B6res.elem) (by decide)) (by first | (simp only [elemOf_setCell]; exact B6res.elem) | exact B6res.elem) (by decide)) (by first | (simp only [elemOf_setCell]; exact B6res.elem) | exact B6res.elem) (by decide)) (by first | (simp only [elemOf_setCell]; exact B6res.elem) | exact B6res.elem) (by decide)) (.cells #[.bool b11, .slice ao11 n11 c11, .bool b12, .slice ao12 n12 c12, .bool b13, .slice ao13 n13 c13, .int .i64 Q.d] 58))
  have hQ' : Q = (qmulN a b) := by rw [← hQ, ← HDg.out]; rfl
  rw [← hQ']
  exact ⟨_, rfl, hX.soft sfE, kpE⟩


end Go.Proofs.YtjahbjjekednfaaDoor
