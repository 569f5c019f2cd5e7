import Derived.Test.YtjahbjjekednfaaX3
import Derived.Test.YtjahbjjekednfaaMath
namespace Go.Proofs.Ytjahbjjekednfaa
open Go.RowKit

def qadd (a b : Qn) : Qn × Int := if qroot a.d b.d = 0 then (qzero, 4) else (qaddN a b, 0)
def qmul (a b : Qn) : Qn × Int := if qroot a.d b.d = 0 then (qzero, 4) else (qmulN a b, 0)
def qsub (a b : Qn) : Qn × Int := qadd a (qneg b)
def qdiv (a b : Qn) : Qn × Int := if b.p = 0 ∧ b.q = 0 then (qzero, 3) else qmul a (qinv b)
def QD (a : Qn) : Prop := 0 ≤ a.d ∧ a.d ≤ 1000000
theorem QF.neg {m : Nat} {a : Qn} (h : QF m a) : QF m (qneg a) := ⟨h.1.neg, h.2.1.neg, h.2.2⟩
theorem QD.neg {a : Qn} (h : QD a) : QD (qneg a) := h
theorem QF.inv {m : Nat} {a : Qn} (h : QF m a) (hd : QD a) : QF (m + (m + 7) + 1) (qinv a) := by
  have h7 : Ft (m + 7) (-a.q * a.d) := h.2.1.neg.mul (by have := hd.1; have := hd.2; unfold Ft; omega)
  refine QF.reduce ((h.2.2.mul h.1).mono (by omega)) ((h.2.2.mul h.2.1.neg).mono (by omega)) ?_
  exact (Ft.add ((h.1.mul h.1).mono (by omega)) (h.2.1.mul h7))
theorem QD.inv {a : Qn} (h : QD a) : QD (qinv a) := by
  have h1 := h.1
  have h2 := h.2
  unfold QD qinv qreduce
  simp only
  split <;> omega

theorem xadd_any (a b : Qn) (m : Nat) (u v : Value) (w : World) (ha : XN w u a) (hb : XN w v b) (hm : m ≤ 40000000) (fa : QF m a) (fb : QF m b) (da : QD a) (db : QD b) :
    Calls Try.prog 93 #[u, v] w (RetXE w (qadd a b).1 (qadd a b).2) := by
  unfold qadd
  split
  · exact xadd_e a b m u v w ha hb hm fa fb da db (by assumption)
  · exact xadd_n a b m u v w ha hb hm fa fb da db (by assumption)
theorem xmul_any (a b : Qn) (m : Nat) (u v : Value) (w : World) (ha : XN w u a) (hb : XN w v b) (hm : m ≤ 40000000) (fa : QF m a) (fb : QF m b) (da : QD a) (db : QD b) :
    Calls Try.prog 95 #[u, v] w (RetXE w (qmul a b).1 (qmul a b).2) := by
  unfold qmul
  split
  · exact xmul_e a b m u v w ha hb hm fa fb da db (by assumption)
  · exact xmul_n a b m u v w ha hb hm fa fb da db (by assumption)

set_option maxHeartbeats 1600000 in
theorem xsub_any (a b : Qn) (m : Nat) (u v : Value) (w : World) (ha : XN w u a) (hb : XN w v b) (hm : m ≤ 40000000) (fa : QF m a) (fb : QF m b) (da : QD a) (db : QD b) :
    Calls Try.prog 94 #[u, v] w (RetXE w (qsub a b).1 (qsub a b).2) := by
  obtain ⟨b1, ao1, n1, c1, b2, ao2, n2, c2, b3, ao3, n3, c3, rfl, hp, hq, hr⟩ := id ha
  obtain ⟨b4, ao4, n4, c4, b5, ao5, n5, c5, b6, ao6, n6, c6, rfl, hp', hq', hr'⟩ := id hb
  clear hp hq hr hp' hq' hr'
  go_enter Try.func94, Try.ntmps94
  go_wp2_with fail
  have kp0 : Kp w _ := (Kp.alloc' (Kp.alloc' (Kp.alloc' (Below.refl w.heap.size w) (.cells #[.bool b1, .slice ao1 n1 c1, .bool b2, .slice ao2 n2 c2, .bool b3, .slice ao3 n3 c3, .int .i64 a.d] 41)) (.cells #[.bool b4, .slice ao4 n4 c4, .bool b5, .slice ao5 n5 c5, .bool b6, .slice ao6 n6 c6, .int .i64 b.d] 41)) (.cells #[.bool false, .slice none 0 0, .bool false, .slice none 0 0, .bool false, .slice none 0 0, .int .i64 0] 41))
  have sf0 : Sf 2 w _ := (Sf.alloc (Sf.alloc (Sf.alloc (Sf.refl 2 w) (.cells #[.bool b1, .slice ao1 n1 c1, .bool b2, .slice ao2 n2 c2, .bool b3, .slice ao3 n3 c3, .int .i64 a.d] 41)) (.cells #[.bool b4, .slice ao4 n4 c4, .bool b5, .slice ao5 n5 c5, .bool b6, .slice ao6 n6 c6, .int .i64 b.d] 41)) (.cells #[.bool false, .slice none 0 0, .bool false, .slice none 0 0, .bool false, .slice none 0 0, .int .i64 0] 41))
  refine (xnegate_any b m _ _ (hb.soft sf0) (by omega) fb).mono ?_
  rintro e w1 ⟨v1, rfl, hv1, hk1⟩
  obtain ⟨b7, ao7, n7, c7, b8, ao8, n8, c8, b9, ao9, n9, c9, rfl, g1, g2, g3⟩ := id hv1
  clear g1 g2 g3
  have kq0 := kp0.trans' hk1
  have sq0 := sf0.trans (Sf.keep hk1)
  have B1a : Blk w1 (w.heap.size) #[.bool b1, .slice ao1 n1 c1, .bool b2, .slice ao2 n2 c2, .bool b3, .slice ao3 n3 c3, .int .i64 a.d] 41 := Blk.keep hk1 (Blk.at (Blk.alloc (Blk.alloc (Blk.new _ _ _) _) _) (by simp))
  have B1res : Blk w1 (w.heap.size + 1 + 1) #[.bool false, .slice none 0 0, .bool false, .slice none 0 0, .bool false, .slice none 0 0, .int .i64 0] 41 := Blk.keep hk1 (Blk.at (Blk.new _ _ _) (by simp))
  have B1ac := B1a.cell
  have B1af := B1a.frozen
  have B1al := B1a.lt
  have ge1a : w.heap.size ≤ w.heap.size := by (first | omega | (have := kp0.size; simp only [World.size_alloc, size_setCell', size_drew'] at this; omega))
  have B1resc := B1res.cell
  have B1resf := B1res.frozen
  have B1resl := B1res.lt
  have ge1res : w.heap.size ≤ w.heap.size + 1 + 1 := by (first | omega | (have := kp0.size; simp only [World.size_alloc, size_setCell', size_drew'] at this; omega))
  replace ha := ha.soft sq0
  go_wp2_with fail
  have kp1 : Kp w _ := (Kp.alloc' kq0 (.cells #[.bool b7, .slice ao7 n7 c7, .bool b8, .slice ao8 n8 c8, .bool b9, .slice ao9 n9 c9, .int .i64 (qneg b).d] 41))
  have sf1 : Sf 2 w1 _ := (Sf.alloc (Sf.refl 2 w1) (.cells #[.bool b7, .slice ao7 n7 c7, .bool b8, .slice ao8 n8 c8, .bool b9, .slice ao9 n9 c9, .int .i64 (qneg b).d] 41))
  refine (xadd_any a (qneg b) m _ _ _ (ha.soft sf1) (hv1.soft sf1) hm fa fb.neg da db.neg).mono ?_
  rintro e w2 ⟨v2, rfl, hv2, hk2⟩
  obtain ⟨b10, ao10, n10, c10, b11, ao11, n11, c11, b12, ao12, n12, c12, rfl, g1, g2, g3⟩ := id hv2
  clear g1 g2 g3
  have kq1 := kp1.trans' hk2
  have sq1 := sf1.trans (Sf.keep hk2)
  have B2res : Blk w2 (w.heap.size + 1 + 1) #[.bool false, .slice none 0 0, .bool false, .slice none 0 0, .bool false, .slice none 0 0, .int .i64 0] 41 := Blk.keep hk2 (Blk.alloc B1res _)
  have B2resc := B2res.cell
  have B2resf := B2res.frozen
  have B2resl := B2res.lt
  have ge2res : w.heap.size ≤ w.heap.size + 1 + 1 := by (first | omega | (have := kp1.size; simp only [World.size_alloc, size_setCell', size_drew'] at this; omega))
  clear B1a B1ac B1af B1res B1resc B1resf
  generalize hQ : qadd a (qneg b) = Q at *
  go_wp2_with fail
  refine bodyPost_ret (v := .tuple #[.agg #[.bool b10, .slice ao10 n10 c10, .bool b11, .slice ao11 n11 c11, .bool b12, .slice ao12 n12 c12, .int .i64 Q.1.d], .int .i64 Q.2]) (by simp [results, Try.results94, go_sem, B2resc]) rfl ?_
  have kpE : Kp w _ := (Below.setCell (Below.setCell (Below.setCell (Below.setCell (Below.setCell (Below.setCell (Below.setCell kq1 (p := ⟨w.heap.size + 1 + 1, 0, none⟩) (by have := ge2res; omega) (.bool b10)) (p := ⟨w.heap.size + 1 + 1, 1, none⟩) (by have := ge2res; omega) (.slice ao10 n10 c10)) (p := ⟨w.heap.size + 1 + 1, 2, none⟩) (by have := ge2res; omega) (.bool b11)) (p := ⟨w.heap.size + 1 + 1, 3, none⟩) (by have := ge2res; omega) (.slice ao11 n11 c11)) (p := ⟨w.heap.size + 1 + 1, 4, none⟩) (by have := ge2res; omega) (.bool b12)) (p := ⟨w.heap.size + 1 + 1, 5, none⟩) (by have := ge2res; omega) (.slice ao12 n12 c12)) (p := ⟨w.heap.size + 1 + 1, 6, none⟩) (by have := ge2res; omega) (.int .i64 Q.1.d))
  have sfE : Sf 2 w2 _ := (Sf.set (t := 41) (c := w.heap.size + 1 + 1) (o := 6) (y := .int .i64 Q.1.d) (Sf.set (t := 41) (c := w.heap.size + 1 + 1) (o := 5) (y := .slice ao12 n12 c12) (Sf.set (t := 41) (c := w.heap.size + 1 + 1) (o := 4) (y := .bool b12) (Sf.set (t := 41) (c := w.heap.size + 1 + 1) (o := 3) (y := .slice ao11 n11 c11) (Sf.set (t := 41) (c := w.heap.size + 1 + 1) (o := 2) (y := .bool b11) (Sf.set (t := 41) (c := w.heap.size + 1 + 1) (o := 1) (y := .slice ao10 n10 c10) (Sf.set (t := 41) (c := w.heap.size + 1 + 1) (o := 0) (y := .bool b10) (Sf.refl 2 w2) (by first | (simp only [elemOf_setCell]; exact B2res.elem) | exact B2res.elem) (by decide)) (by first | (simp only [elemOf_setCell]; exact B2res.elem) | exact B2res.elem) (by decide)) (by first | (simp only [elemOf_setCell]; exact B2res.elem) | exact B2res.elem) (by decide)) (by first | (simp only [elemOf_setCell]; exact B2res.elem) | exact B2res.elem) (by decide)) (by first | (simp only [elemOf_setCell]; exact B2res.elem) | exact B2res.elem) (by decide)) (by first | (simp only [elemOf_setCell]; exact B2res.elem) | exact B2res.elem) (by decide)) (by first | (simp only [elemOf_setCell]; exact B2res.elem) | exact B2res.elem) (by decide))
  have hQ' : qsub a b = Q := hQ
  rw [hQ']
  exact ⟨_, rfl, hv2.soft sfE, kpE⟩

set_option maxHeartbeats 3200000 in
theorem invert_any (a : Qn) (m : Nat) (u : Value) (w : World) (ha : XN w u a) (hm : m ≤ 40000000) (fa : QF m a) (da : QD a) :
    Calls Try.prog 106 #[u] w (RetX w (qinv a)) := by
  obtain ⟨fp, fq, fr⟩ := fa
  obtain ⟨b1, ao1, n1, c1, b2, ao2, n2, c2, b3, ao3, n3, c3, rfl, hp, hq, hr⟩ := ha
  go_enter Try.func106, Try.ntmps106
  go_wp2_with fail
  have kp0 : Kp w _ := (Kp.alloc' (Kp.alloc' (Below.refl w.heap.size w) (.cells #[.bool b1, .slice ao1 n1 c1, .bool b2, .slice ao2 n2 c2, .bool b3, .slice ao3 n3 c3, .int .i64 a.d] 41)) (.cells #[.bool false, .slice none 0 0, .bool false, .slice none 0 0, .bool false, .slice none 0 0, .int .i64 0] 41))
  have sf0 : Sf 2 w _ := (Sf.alloc (Sf.alloc (Sf.refl 2 w) (.cells #[.bool b1, .slice ao1 n1 c1, .bool b2, .slice ao2 n2 c2, .bool b3, .slice ao3 n3 c3, .int .i64 a.d] 41)) (.cells #[.bool false, .slice none 0 0, .bool false, .slice none 0 0, .bool false, .slice none 0 0, .int .i64 0] 41))
  refine (negate_any a.q _ _ (hq.soft sf0) (fq.fit (by omega))).mono ?_
  rintro e w1 ⟨v1, rfl, ho, hk1⟩
  obtain ⟨b4, ao4, n4, c4, rfl⟩ := ho.shape'
  have kq0 := kp0.trans' hk1
  have sq0 := sf0.trans (Sf.keep hk1)
  have B1a : Blk w1 (w.heap.size) #[.bool b1, .slice ao1 n1 c1, .bool b2, .slice ao2 n2 c2, .bool b3, .slice ao3 n3 c3, .int .i64 a.d] 41 := Blk.keep hk1 (Blk.at (Blk.alloc (Blk.new _ _ _) _) (by simp))
  have B1res : Blk w1 (w.heap.size + 1) #[.bool false, .slice none 0 0, .bool false, .slice none 0 0, .bool false, .slice none 0 0, .int .i64 0] 41 := Blk.keep hk1 (Blk.at (Blk.new _ _ _) (by simp))
  have B1ac := B1a.cell
  have B1af := B1a.frozen
  have B1al := B1a.lt
  have ge1a : w.heap.size ≤ w.heap.size := by (first | omega | (have := kp0.size; simp only [World.size_alloc, size_setCell', size_drew'] at this; omega))
  have B1resc := B1res.cell
  have B1resf := B1res.frozen
  have B1resl := B1res.lt
  have ge1res : w.heap.size ≤ w.heap.size + 1 := by (first | omega | (have := kp0.size; simp only [World.size_alloc, size_setCell', size_drew'] at this; omega))
  replace hp := hp.soft sq0
  replace hq := hq.soft sq0
  replace hr := hr.soft sq0
  go_wp2_with fail
  have kp1 : Kp w _ := (Kp.alloc' kq0 (.cells #[.bool b4, .slice ao4 n4 c4] 39))
  have sf1 : Sf 2 w1 _ := (Sf.alloc (Sf.refl 2 w1) (.cells #[.bool b4, .slice ao4 n4 c4] 39))
  refine (timesRoot_any (-a.q) a.d m _ _ (ho.soft sf1) (by omega) fq.neg da.1 da.2).mono ?_
  rintro e w2 ⟨v2, rfl, hs, hk2⟩
  obtain ⟨b5, ao5, n5, c5, rfl⟩ := hs.shape'
  have fs : Ft (m + 7) (-a.q * a.d) := fq.neg.mul (by have := da.1; have := da.2; unfold Ft; omega)
  have kq1 := kp1.trans' hk2
  have sq1 := sf1.trans (Sf.keep hk2)
  have B2a : Blk w2 (w.heap.size) #[.bool b1, .slice ao1 n1 c1, .bool b2, .slice ao2 n2 c2, .bool b3, .slice ao3 n3 c3, .int .i64 a.d] 41 := Blk.keep hk2 (Blk.alloc B1a _)
  have B2res : Blk w2 (w.heap.size + 1) #[.bool false, .slice none 0 0, .bool false, .slice none 0 0, .bool false, .slice none 0 0, .int .i64 0] 41 := Blk.keep hk2 (Blk.alloc B1res _)
  have B2opp : Blk w2 (w1.heap.size) #[.bool b4, .slice ao4 n4 c4] 39 := Blk.keep hk2 (Blk.at (Blk.new _ _ _) (by simp))
  have B2ac := B2a.cell
  have B2af := B2a.frozen
  have B2al := B2a.lt
  have ge2a : w.heap.size ≤ w.heap.size := by (first | omega | (have := kp1.size; simp only [World.size_alloc, size_setCell', size_drew'] at this; omega))
  have B2resc := B2res.cell
  have B2resf := B2res.frozen
  have B2resl := B2res.lt
  have ge2res : w.heap.size ≤ w.heap.size + 1 := by (first | omega | (have := kp1.size; simp only [World.size_alloc, size_setCell', size_drew'] at this; omega))
  have B2oppc := B2opp.cell
  have B2oppf := B2opp.frozen
  have B2oppl := B2opp.lt
  have ge2opp : w.heap.size ≤ w1.heap.size := by (first | omega | (have := kp1.size; simp only [World.size_alloc, size_setCell', size_drew'] at this; omega))
  replace hp := hp.soft sq1
  replace hq := hq.soft sq1
  replace hr := hr.soft sq1
  replace ho := ho.soft sq1
  clear B1a B1ac B1af B1res B1resc B1resf
  go_wp2_with fail
  have kp2 : Kp w _ := (Kp.alloc' kq1 (.cells #[.bool b5, .slice ao5 n5 c5] 39))
  have sf2 : Sf 2 w2 _ := (Sf.alloc (Sf.refl 2 w2) (.cells #[.bool b5, .slice ao5 n5 c5] 39))
  refine (sumOfProducts_any a.p a.p a.q (-a.q * a.d) (m + 7) _ _ _ _ _ (hp.soft sf2) (hp.soft sf2) (hq.soft sf2) (hs.soft sf2) (by omega) (fp.mono (by omega)) (fp.mono (by omega)) (fq.mono (by omega)) fs).mono ?_
  rintro e w3 ⟨v3, rfl, hn, hk3⟩
  obtain ⟨b6, ao6, n6, c6, rfl⟩ := hn.shape'
  have kq2 := kp2.trans' hk3
  have sq2 := sf2.trans (Sf.keep hk3)
  have B3a : Blk w3 (w.heap.size) #[.bool b1, .slice ao1 n1 c1, .bool b2, .slice ao2 n2 c2, .bool b3, .slice ao3 n3 c3, .int .i64 a.d] 41 := Blk.keep hk3 (Blk.alloc B2a _)
  have B3res : Blk w3 (w.heap.size + 1) #[.bool false, .slice none 0 0, .bool false, .slice none 0 0, .bool false, .slice none 0 0, .int .i64 0] 41 := Blk.keep hk3 (Blk.alloc B2res _)
  have B3opp : Blk w3 (w1.heap.size) #[.bool b4, .slice ao4 n4 c4] 39 := Blk.keep hk3 (Blk.alloc B2opp _)
  have B3ac := B3a.cell
  have B3af := B3a.frozen
  have B3al := B3a.lt
  have ge3a : w.heap.size ≤ w.heap.size := by (first | omega | (have := kp2.size; simp only [World.size_alloc, size_setCell', size_drew'] at this; omega))
  have B3resc := B3res.cell
  have B3resf := B3res.frozen
  have B3resl := B3res.lt
  have ge3res : w.heap.size ≤ w.heap.size + 1 := by (first | omega | (have := kp2.size; simp only [World.size_alloc, size_setCell', size_drew'] at this; omega))
  have B3oppc := B3opp.cell
  have B3oppf := B3opp.frozen
  have B3oppl := B3opp.lt
  have ge3opp : w.heap.size ≤ w1.heap.size := by (first | omega | (have := kp2.size; simp only [World.size_alloc, size_setCell', size_drew'] at this; omega))
  replace hp := hp.soft sq2
  replace hr := hr.soft sq2
  replace ho := ho.soft sq2
  clear B2a B2ac B2af B2res B2resc B2resf B2opp B2oppc B2oppf
  go_wp2_with fail
  have kp3 : Kp w _ := (Kp.alloc' kq2 (.cells #[.bool b6, .slice ao6 n6 c6] 39))
  have sf3 : Sf 2 w3 _ := (Sf.alloc (Sf.refl 2 w3) (.cells #[.bool b6, .slice ao6 n6 c6] 39))
  refine (multiply_any a.r a.p _ _ _ (hr.soft sf3) (hp.soft sf3) (fr.fit (by omega)) (fp.fit (by omega))).mono ?_
  rintro e w4 ⟨v4, rfl, hp1, hk4⟩
  obtain ⟨b7, ao7, n7, c7, rfl⟩ := hp1.shape'
  have kq3 := kp3.trans' hk4
  have sq3 := sf3.trans (Sf.keep hk4)
  have B4a : Blk w4 (w.heap.size) #[.bool b1, .slice ao1 n1 c1, .bool b2, .slice ao2 n2 c2, .bool b3, .slice ao3 n3 c3, .int .i64 a.d] 41 := Blk.keep hk4 (Blk.alloc B3a _)
  have B4res : Blk w4 (w.heap.size + 1) #[.bool false, .slice none 0 0, .bool false, .slice none 0 0, .bool false, .slice none 0 0, .int .i64 0] 41 := Blk.keep hk4 (Blk.alloc B3res _)
  have B4opp : Blk w4 (w1.heap.size) #[.bool b4, .slice ao4 n4 c4] 39 := Blk.keep hk4 (Blk.alloc B3opp _)
  have B4norm : Blk w4 (w3.heap.size) #[.bool b6, .slice ao6 n6 c6] 39 := Blk.keep hk4 (Blk.at (Blk.new _ _ _) (by simp))
  have B4ac := B4a.cell
  have B4af := B4a.frozen
  have B4al := B4a.lt
  have ge4a : w.heap.size ≤ w.heap.size := by (first | omega | (have := kp3.size; simp only [World.size_alloc, size_setCell', size_drew'] at this; omega))
  have B4resc := B4res.cell
  have B4resf := B4res.frozen
  have B4resl := B4res.lt
  have ge4res : w.heap.size ≤ w.heap.size + 1 := by (first | omega | (have := kp3.size; simp only [World.size_alloc, size_setCell', size_drew'] at this; omega))
  have B4oppc := B4opp.cell
  have B4oppf := B4opp.frozen
  have B4oppl := B4opp.lt
  have ge4opp : w.heap.size ≤ w1.heap.size := by (first | omega | (have := kp3.size; simp only [World.size_alloc, size_setCell', size_drew'] at this; omega))
  have B4normc := B4norm.cell
  have B4normf := B4norm.frozen
  have B4norml := B4norm.lt
  have ge4norm : w.heap.size ≤ w3.heap.size := by (first | omega | (have := kp3.size; simp only [World.size_alloc, size_setCell', size_drew'] at this; omega))
  replace hr := hr.soft sq3
  replace ho := ho.soft sq3
  replace hn := hn.soft sq3
  clear B3a B3ac B3af B3res B3resc B3resf B3opp B3oppc B3oppf
  go_wp2_with fail
  have kp4 : Kp w _ := (Kp.alloc' kq3 (.cells #[.bool b7, .slice ao7 n7 c7] 39))
  have sf4 : Sf 2 w4 _ := (Sf.alloc (Sf.refl 2 w4) (.cells #[.bool b7, .slice ao7 n7 c7] 39))
  refine (multiply_any a.r (-a.q) _ _ _ (hr.soft sf4) (ho.soft sf4) (fr.fit (by omega)) (fq.neg.fit (by omega))).mono ?_
  rintro e w5 ⟨v5, rfl, hq1, hk5⟩
  obtain ⟨b8, ao8, n8, c8, rfl⟩ := hq1.shape'
  have kq4 := kp4.trans' hk5
  have sq4 := sf4.trans (Sf.keep hk5)
  have B5a : Blk w5 (w.heap.size) #[.bool b1, .slice ao1 n1 c1, .bool b2, .slice ao2 n2 c2, .bool b3, .slice ao3 n3 c3, .int .i64 a.d] 41 := Blk.keep hk5 (Blk.alloc B4a _)
  have B5res : Blk w5 (w.heap.size + 1) #[.bool false, .slice none 0 0, .bool false, .slice none 0 0, .bool false, .slice none 0 0, .int .i64 0] 41 := Blk.keep hk5 (Blk.alloc B4res _)
  have B5norm : Blk w5 (w3.heap.size) #[.bool b6, .slice ao6 n6 c6] 39 := Blk.keep hk5 (Blk.alloc B4norm _)
  have B5p : Blk w5 (w4.heap.size) #[.bool b7, .slice ao7 n7 c7] 39 := Blk.keep hk5 (Blk.at (Blk.new _ _ _) (by simp))
  have B5ac := B5a.cell
  have B5af := B5a.frozen
  have B5al := B5a.lt
  have ge5a : w.heap.size ≤ w.heap.size := by (first | omega | (have := kp4.size; simp only [World.size_alloc, size_setCell', size_drew'] at this; omega))
  have B5resc := B5res.cell
  have B5resf := B5res.frozen
  have B5resl := B5res.lt
  have ge5res : w.heap.size ≤ w.heap.size + 1 := by (first | omega | (have := kp4.size; simp only [World.size_alloc, size_setCell', size_drew'] at this; omega))
  have B5normc := B5norm.cell
  have B5normf := B5norm.frozen
  have B5norml := B5norm.lt
  have ge5norm : w.heap.size ≤ w3.heap.size := by (first | omega | (have := kp4.size; simp only [World.size_alloc, size_setCell', size_drew'] at this; omega))
  have B5pc := B5p.cell
  have B5pf := B5p.frozen
  have B5pl := B5p.lt
  have ge5p : w.heap.size ≤ w4.heap.size := by (first | omega | (have := kp4.size; simp only [World.size_alloc, size_setCell', size_drew'] at this; omega))
  replace hn := hn.soft sq4
  replace hp1 := hp1.soft sq4
  clear B4a B4ac B4af B4res B4resc B4resf B4opp B4oppc B4oppf B4norm B4normc B4normf
  go_wp2_with fail
  have kp5 : Kp w _ := (Kp.alloc' kq4 (.cells #[.bool b8, .slice ao8 n8 c8] 39))
  have sf5 : Sf 2 w5 _ := (Sf.alloc (Sf.refl 2 w5) (.cells #[.bool b8, .slice ao8 n8 c8] 39))
  refine (reduce_any (a.r * a.p) (a.r * -a.q) (a.p * a.p + a.q * (-a.q * a.d)) a.d (m + 7 + (m + 7) + 1) _ _ _ _ (hp1.soft sf5) (hq1.soft sf5) (hn.soft sf5) (by omega) ((fr.mul fp).mono (by omega)) ((fr.mul fq.neg).mono (by omega)) (Ft.sop (fp.mono (by omega)) (fp.mono (by omega)) (fq.mono (by omega)) fs)).mono ?_
  rintro e w6 ⟨v6, rfl, hX, hk6⟩
  obtain ⟨b11, ao11, n11, c11, b12, ao12, n12, c12, b13, ao13, n13, c13, rfl, g1, g2, g3⟩ := id hX
  clear g1 g2 g3
  have kq5 := kp5.trans' hk6
  have sq5 := sf5.trans (Sf.keep hk6)
  have B6res : Blk w6 (w.heap.size + 1) #[.bool false, .slice none 0 0, .bool false, .slice none 0 0, .bool false, .slice none 0 0, .int .i64 0] 41 := Blk.keep hk6 (Blk.alloc B5res _)
  have B6resc := B6res.cell
  have B6resf := B6res.frozen
  have B6resl := B6res.lt
  have ge6res : w.heap.size ≤ w.heap.size + 1 := by (first | omega | (have := kp5.size; simp only [World.size_alloc, size_setCell', size_drew'] at this; omega))
  clear B5a B5ac B5af B5res B5resc B5resf B5norm B5normc B5normf B5p B5pc B5pf
  generalize hQ : qreduce (a.r * a.p) (a.r * -a.q) (a.p * a.p + a.q * (-a.q * a.d)) a.d = Q at *
  go_wp2_with fail
  refine bodyPost_ret (v := .agg #[.bool b11, .slice ao11 n11 c11, .bool b12, .slice ao12 n12 c12, .bool b13, .slice ao13 n13 c13, .int .i64 Q.d]) (by simp [results, Try.results106, go_sem, B6resc]) rfl ?_
  have kpE : Kp w _ := (Below.setCell (Below.setCell (Below.setCell (Below.setCell (Below.setCell (Below.setCell (Below.setCell kq5 (p := ⟨w.heap.size + 1, 0, none⟩) (by have := ge6res; omega) (.bool b11)) (p := ⟨w.heap.size + 1, 1, none⟩) (by have := ge6res; omega) (.slice ao11 n11 c11)) (p := ⟨w.heap.size + 1, 2, none⟩) (by have := ge6res; omega) (.bool b12)) (p := ⟨w.heap.size + 1, 3, none⟩) (by have := ge6res; omega) (.slice ao12 n12 c12)) (p := ⟨w.heap.size + 1, 4, none⟩) (by have := ge6res; omega) (.bool b13)) (p := ⟨w.heap.size + 1, 5, none⟩) (by have := ge6res; omega) (.slice ao13 n13 c13)) (p := ⟨w.heap.size + 1, 6, none⟩) (by have := ge6res; omega) (.int .i64 Q.d))
  have sfE : Sf 2 w6 _ := (Sf.set (t := 41) (c := w.heap.size + 1) (o := 6) (y := .int .i64 Q.d) (Sf.set (t := 41) (c := w.heap.size + 1) (o := 5) (y := .slice ao13 n13 c13) (Sf.set (t := 41) (c := w.heap.size + 1) (o := 4) (y := .bool b13) (Sf.set (t := 41) (c := w.heap.size + 1) (o := 3) (y := .slice ao12 n12 c12) (Sf.set (t := 41) (c := w.heap.size + 1) (o := 2) (y := .bool b12) (Sf.set (t := 41) (c := w.heap.size + 1) (o := 1) (y := .slice ao11 n11 c11) (Sf.set (t := 41) (c := w.heap.size + 1) (o := 0) (y := .bool b11) (Sf.refl 2 w6) (by first | (simp only [elemOf_setCell]; exact B6res.elem) | exact B6res.elem) (by decide)) (by first | (simp only [elemOf_setCell]; exact B6res.elem) | exact B6res.elem) (by decide)) (by first | (simp only [elemOf_setCell]; exact B6res.elem) | exact B6res.elem) (by decide)) (by first | (simp only [elemOf_setCell]; exact B6res.elem) | exact B6res.elem) (by decide)) (by first | (simp only [elemOf_setCell]; exact B6res.elem) | exact B6res.elem) (by decide)) (by first | (simp only [elemOf_setCell]; exact B6res.elem) | exact B6res.elem) (by decide)) (by first | (simp only [elemOf_setCell]; exact B6res.elem) | exact B6res.elem) (by decide))
  have hQ' : qinv a = Q := hQ
  rw [hQ']
  exact ⟨_, rfl, hX.soft sfE, kpE⟩

set_option maxHeartbeats 1600000 in
theorem xdiv_e (a b : Qn) (m : Nat) (u v : Value) (w : World) (ha : XN w u a) (hb : XN w v b) (_hm : m ≤ 15000000) (_fa : QF m a) (_fb : QF m b) (_da : QD a) (_db : QD b) (hZ : (b.p = 0 ∧ b.q = 0)) :
    Calls Try.prog 96 #[u, v] w (RetXE w qzero 3) := by
  obtain ⟨b1, ao1, n1, c1, b2, ao2, n2, c2, b3, ao3, n3, c3, rfl, hp, hq, hr⟩ := id ha
  obtain ⟨b4, ao4, n4, c4, b5, ao5, n5, c5, b6, ao6, n6, c6, rfl, hp', hq', hr'⟩ := id hb
  clear hp hq hr hp' hq' hr'
  go_enter Try.func96, Try.ntmps96
  go_wp2_with fail
  have kp0 : Kp w _ := (Kp.alloc' (Kp.alloc' (Kp.alloc' (Below.refl w.heap.size w) (.cells #[.bool b1, .slice ao1 n1 c1, .bool b2, .slice ao2 n2 c2, .bool b3, .slice ao3 n3 c3, .int .i64 a.d] 41)) (.cells #[.bool b4, .slice ao4 n4 c4, .bool b5, .slice ao5 n5 c5, .bool b6, .slice ao6 n6 c6, .int .i64 b.d] 41)) (.cells #[.bool false, .slice none 0 0, .bool false, .slice none 0 0, .bool false, .slice none 0 0, .int .i64 0] 41))
  have sf0 : Sf 2 w _ := (Sf.alloc (Sf.alloc (Sf.alloc (Sf.refl 2 w) (.cells #[.bool b1, .slice ao1 n1 c1, .bool b2, .slice ao2 n2 c2, .bool b3, .slice ao3 n3 c3, .int .i64 a.d] 41)) (.cells #[.bool b4, .slice ao4 n4 c4, .bool b5, .slice ao5 n5 c5, .bool b6, .slice ao6 n6 c6, .int .i64 b.d] 41)) (.cells #[.bool false, .slice none 0 0, .bool false, .slice none 0 0, .bool false, .slice none 0 0, .int .i64 0] 41))
  refine (isZero_any b _ _ (hb.soft sf0)).mono ?_
  rintro e w1 ⟨rfl, hk1⟩
  rw [decide_eq_true hZ]
  have kq0 := kp0.trans' hk1
  have sq0 := sf0.trans (Sf.keep hk1)
  have B1a : Blk w1 (w.heap.size) #[.bool b1, .slice ao1 n1 c1, .bool b2, .slice ao2 n2 c2, .bool b3, .slice ao3 n3 c3, .int .i64 a.d] 41 := Blk.keep hk1 (Blk.at (Blk.alloc (Blk.alloc (Blk.new _ _ _) _) _) (by simp))
  have B1b : Blk w1 (w.heap.size + 1) #[.bool b4, .slice ao4 n4 c4, .bool b5, .slice ao5 n5 c5, .bool b6, .slice ao6 n6 c6, .int .i64 b.d] 41 := Blk.keep hk1 (Blk.at (Blk.alloc (Blk.new _ _ _) _) (by simp))
  have B1res : Blk w1 (w.heap.size + 1 + 1) #[.bool false, .slice none 0 0, .bool false, .slice none 0 0, .bool false, .slice none 0 0, .int .i64 0] 41 := Blk.keep hk1 (Blk.at (Blk.new _ _ _) (by simp))
  have B1ac := B1a.cell
  have B1af := B1a.frozen
  have B1al := B1a.lt
  have ge1a : w.heap.size ≤ w.heap.size := by (first | omega | (have := kp0.size; simp only [World.size_alloc, size_setCell', size_drew'] at this; omega))
  have B1bc := B1b.cell
  have B1bf := B1b.frozen
  have B1bl := B1b.lt
  have ge1b : w.heap.size ≤ w.heap.size + 1 := by (first | omega | (have := kp0.size; simp only [World.size_alloc, size_setCell', size_drew'] at this; omega))
  have B1resc := B1res.cell
  have B1resf := B1res.frozen
  have B1resl := B1res.lt
  have ge1res : w.heap.size ≤ w.heap.size + 1 + 1 := by (first | omega | (have := kp0.size; simp only [World.size_alloc, size_setCell', size_drew'] at this; omega))
  replace ha := ha.soft sq0
  replace hb := hb.soft sq0
  clear hZ
  go_wp2_with fail
  refine bodyPost_ret (v := .tuple #[.agg #[.bool false, .slice none 0 0, .bool false, .slice none 0 0, .bool false, .slice none 0 0, .int .i64 0], .int .i64 3]) (by simp [results, Try.results96, go_sem, B1resc]) rfl ?_
  have kpE : Kp w _ := (Below.setCell (Below.setCell (Below.setCell (Below.setCell (Below.setCell (Below.setCell (Below.setCell kq0 (p := ⟨w.heap.size + 1 + 1, 0, none⟩) (by have := ge1res; omega) (.bool false)) (p := ⟨w.heap.size + 1 + 1, 1, none⟩) (by have := ge1res; omega) (.slice none 0 0)) (p := ⟨w.heap.size + 1 + 1, 2, none⟩) (by have := ge1res; omega) (.bool false)) (p := ⟨w.heap.size + 1 + 1, 3, none⟩) (by have := ge1res; omega) (.slice none 0 0)) (p := ⟨w.heap.size + 1 + 1, 4, none⟩) (by have := ge1res; omega) (.bool false)) (p := ⟨w.heap.size + 1 + 1, 5, none⟩) (by have := ge1res; omega) (.slice none 0 0)) (p := ⟨w.heap.size + 1 + 1, 6, none⟩) (by have := ge1res; omega) (.int .i64 0))
  have sfE : Sf 2 w1 _ := (Sf.set (t := 41) (c := w.heap.size + 1 + 1) (o := 6) (y := .int .i64 0) (Sf.set (t := 41) (c := w.heap.size + 1 + 1) (o := 5) (y := .slice none 0 0) (Sf.set (t := 41) (c := w.heap.size + 1 + 1) (o := 4) (y := .bool false) (Sf.set (t := 41) (c := w.heap.size + 1 + 1) (o := 3) (y := .slice none 0 0) (Sf.set (t := 41) (c := w.heap.size + 1 + 1) (o := 2) (y := .bool false) (Sf.set (t := 41) (c := w.heap.size + 1 + 1) (o := 1) (y := .slice none 0 0) (Sf.set (t := 41) (c := w.heap.size + 1 + 1) (o := 0) (y := .bool false) (Sf.refl 2 w1) (by first | (simp only [elemOf_setCell]; exact B1res.elem) | exact B1res.elem) (by decide)) (by first | (simp only [elemOf_setCell]; exact B1res.elem) | exact B1res.elem) (by decide)) (by first | (simp only [elemOf_setCell]; exact B1res.elem) | exact B1res.elem) (by decide)) (by first | (simp only [elemOf_setCell]; exact B1res.elem) | exact B1res.elem) (by decide)) (by first | (simp only [elemOf_setCell]; exact B1res.elem) | exact B1res.elem) (by decide)) (by first | (simp only [elemOf_setCell]; exact B1res.elem) | exact B1res.elem) (by decide)) (by first | (simp only [elemOf_setCell]; exact B1res.elem) | exact B1res.elem) (by decide))
  exact ⟨_, rfl, xn_zero _, kpE⟩

set_option maxHeartbeats 1600000 in
theorem xdiv_n (a b : Qn) (m : Nat) (u v : Value) (w : World) (ha : XN w u a) (hb : XN w v b) (hm : m ≤ 15000000) (fa : QF m a) (fb : QF m b) (da : QD a) (db : QD b) (hZ : ¬ (b.p = 0 ∧ b.q = 0)) :
    Calls Try.prog 96 #[u, v] w (RetXE w (qmul a (qinv b)).1 (qmul a (qinv b)).2) := by
  obtain ⟨b1, ao1, n1, c1, b2, ao2, n2, c2, b3, ao3, n3, c3, rfl, hp, hq, hr⟩ := id ha
  obtain ⟨b4, ao4, n4, c4, b5, ao5, n5, c5, b6, ao6, n6, c6, rfl, hp', hq', hr'⟩ := id hb
  clear hp hq hr hp' hq' hr'
  go_enter Try.func96, Try.ntmps96
  go_wp2_with fail
  have kp0 : Kp w _ := (Kp.alloc' (Kp.alloc' (Kp.alloc' (Below.refl w.heap.size w) (.cells #[.bool b1, .slice ao1 n1 c1, .bool b2, .slice ao2 n2 c2, .bool b3, .slice ao3 n3 c3, .int .i64 a.d] 41)) (.cells #[.bool b4, .slice ao4 n4 c4, .bool b5, .slice ao5 n5 c5, .bool b6, .slice ao6 n6 c6, .int .i64 b.d] 41)) (.cells #[.bool false, .slice none 0 0, .bool false, .slice none 0 0, .bool false, .slice none 0 0, .int .i64 0] 41))
  have sf0 : Sf 2 w _ := (Sf.alloc (Sf.alloc (Sf.alloc (Sf.refl 2 w) (.cells #[.bool b1, .slice ao1 n1 c1, .bool b2, .slice ao2 n2 c2, .bool b3, .slice ao3 n3 c3, .int .i64 a.d] 41)) (.cells #[.bool b4, .slice ao4 n4 c4, .bool b5, .slice ao5 n5 c5, .bool b6, .slice ao6 n6 c6, .int .i64 b.d] 41)) (.cells #[.bool false, .slice none 0 0, .bool false, .slice none 0 0, .bool false, .slice none 0 0, .int .i64 0] 41))
  refine (isZero_any b _ _ (hb.soft sf0)).mono ?_
  rintro e w1 ⟨rfl, hk1⟩
  rw [decide_eq_false hZ]
  have kq0 := kp0.trans' hk1
  have sq0 := sf0.trans (Sf.keep hk1)
  have B1a : Blk w1 (w.heap.size) #[.bool b1, .slice ao1 n1 c1, .bool b2, .slice ao2 n2 c2, .bool b3, .slice ao3 n3 c3, .int .i64 a.d] 41 := Blk.keep hk1 (Blk.at (Blk.alloc (Blk.alloc (Blk.new _ _ _) _) _) (by simp))
  have B1b : Blk w1 (w.heap.size + 1) #[.bool b4, .slice ao4 n4 c4, .bool b5, .slice ao5 n5 c5, .bool b6, .slice ao6 n6 c6, .int .i64 b.d] 41 := Blk.keep hk1 (Blk.at (Blk.alloc (Blk.new _ _ _) _) (by simp))
  have B1res : Blk w1 (w.heap.size + 1 + 1) #[.bool false, .slice none 0 0, .bool false, .slice none 0 0, .bool false, .slice none 0 0, .int .i64 0] 41 := Blk.keep hk1 (Blk.at (Blk.new _ _ _) (by simp))
  have B1ac := B1a.cell
  have B1af := B1a.frozen
  have B1al := B1a.lt
  have ge1a : w.heap.size ≤ w.heap.size := by (first | omega | (have := kp0.size; simp only [World.size_alloc, size_setCell', size_drew'] at this; omega))
  have B1bc := B1b.cell
  have B1bf := B1b.frozen
  have B1bl := B1b.lt
  have ge1b : w.heap.size ≤ w.heap.size + 1 := by (first | omega | (have := kp0.size; simp only [World.size_alloc, size_setCell', size_drew'] at this; omega))
  have B1resc := B1res.cell
  have B1resf := B1res.frozen
  have B1resl := B1res.lt
  have ge1res : w.heap.size ≤ w.heap.size + 1 + 1 := by (first | omega | (have := kp0.size; simp only [World.size_alloc, size_setCell', size_drew'] at this; omega))
  replace ha := ha.soft sq0
  replace hb := hb.soft sq0
  clear hZ
  go_wp2_with fail
  have kp1 : Kp w _ := kq0
  have sf1 : Sf 2 w1 _ := (Sf.refl 2 w1)
  refine (invert_any b m _ _ (hb.soft sf1) (by omega) fb db).mono ?_
  rintro e w2 ⟨v2, rfl, hv2, hk2⟩
  obtain ⟨b7, ao7, n7, c7, b8, ao8, n8, c8, b9, ao9, n9, c9, rfl, g1, g2, g3⟩ := id hv2
  clear g1 g2 g3
  have kq1 := kp1.trans' hk2
  have sq1 := sf1.trans (Sf.keep hk2)
  have B2a : Blk w2 (w.heap.size) #[.bool b1, .slice ao1 n1 c1, .bool b2, .slice ao2 n2 c2, .bool b3, .slice ao3 n3 c3, .int .i64 a.d] 41 := Blk.keep hk2 B1a
  have B2res : Blk w2 (w.heap.size + 1 + 1) #[.bool false, .slice none 0 0, .bool false, .slice none 0 0, .bool false, .slice none 0 0, .int .i64 0] 41 := Blk.keep hk2 B1res
  have B2ac := B2a.cell
  have B2af := B2a.frozen
  have B2al := B2a.lt
  have ge2a : w.heap.size ≤ w.heap.size := by (first | omega | (have := kp1.size; simp only [World.size_alloc, size_setCell', size_drew'] at this; omega))
  have B2resc := B2res.cell
  have B2resf := B2res.frozen
  have B2resl := B2res.lt
  have ge2res : w.heap.size ≤ w.heap.size + 1 + 1 := by (first | omega | (have := kp1.size; simp only [World.size_alloc, size_setCell', size_drew'] at this; omega))
  replace ha := ha.soft sq1
  clear B1a B1ac B1af B1b B1bc B1bf B1res B1resc B1resf
  have fi := fb.inv db
  have di := db.inv
  generalize hI : qinv b = I at *
  go_wp2_with fail
  have kp2 : Kp w _ := (Kp.alloc' kq1 (.cells #[.bool b7, .slice ao7 n7 c7, .bool b8, .slice ao8 n8 c8, .bool b9, .slice ao9 n9 c9, .int .i64 I.d] 41))
  have sf2 : Sf 2 w2 _ := (Sf.alloc (Sf.refl 2 w2) (.cells #[.bool b7, .slice ao7 n7 c7, .bool b8, .slice ao8 n8 c8, .bool b9, .slice ao9 n9 c9, .int .i64 I.d] 41))
  refine (xmul_any a I (m + (m + 7) + 1) _ _ _ (ha.soft sf2) (hv2.soft sf2) (by omega) ⟨fa.1.mono (by omega), fa.2.1.mono (by omega), fa.2.2.mono (by omega)⟩ fi da di).mono ?_
  rintro e w3 ⟨v3, rfl, hv3, hk3⟩
  obtain ⟨b10, ao10, n10, c10, b11, ao11, n11, c11, b12, ao12, n12, c12, rfl, g1, g2, g3⟩ := id hv3
  clear g1 g2 g3
  have kq2 := kp2.trans' hk3
  have sq2 := sf2.trans (Sf.keep hk3)
  have B3res : Blk w3 (w.heap.size + 1 + 1) #[.bool false, .slice none 0 0, .bool false, .slice none 0 0, .bool false, .slice none 0 0, .int .i64 0] 41 := Blk.keep hk3 (Blk.alloc B2res _)
  have B3resc := B3res.cell
  have B3resf := B3res.frozen
  have B3resl := B3res.lt
  have ge3res : w.heap.size ≤ w.heap.size + 1 + 1 := by (first | omega | (have := kp2.size; simp only [World.size_alloc, size_setCell', size_drew'] at this; omega))
  clear B2a B2ac B2af B2res B2resc B2resf
  generalize hQ : qmul a I = Q at *
  go_wp2_with fail
  refine bodyPost_ret (v := .tuple #[.agg #[.bool b10, .slice ao10 n10 c10, .bool b11, .slice ao11 n11 c11, .bool b12, .slice ao12 n12 c12, .int .i64 Q.1.d], .int .i64 Q.2]) (by simp [results, Try.results96, go_sem, B3resc]) rfl ?_
  have kpE : Kp w _ := (Below.setCell (Below.setCell (Below.setCell (Below.setCell (Below.setCell (Below.setCell (Below.setCell kq2 (p := ⟨w.heap.size + 1 + 1, 0, none⟩) (by have := ge3res; omega) (.bool b10)) (p := ⟨w.heap.size + 1 + 1, 1, none⟩) (by have := ge3res; omega) (.slice ao10 n10 c10)) (p := ⟨w.heap.size + 1 + 1, 2, none⟩) (by have := ge3res; omega) (.bool b11)) (p := ⟨w.heap.size + 1 + 1, 3, none⟩) (by have := ge3res; omega) (.slice ao11 n11 c11)) (p := ⟨w.heap.size + 1 + 1, 4, none⟩) (by have := ge3res; omega) (.bool b12)) (p := ⟨w.heap.size + 1 + 1, 5, none⟩) (by have := ge3res; omega) (.slice ao12 n12 c12)) (p := ⟨w.heap.size + 1 + 1, 6, none⟩) (by have := ge3res; omega) (.int .i64 Q.1.d))
  have sfE : Sf 2 w3 _ := (Sf.set (t := 41) (c := w.heap.size + 1 + 1) (o := 6) (y := .int .i64 Q.1.d) (Sf.set (t := 41) (c := w.heap.size + 1 + 1) (o := 5) (y := .slice ao12 n12 c12) (Sf.set (t := 41) (c := w.heap.size + 1 + 1) (o := 4) (y := .bool b12) (Sf.set (t := 41) (c := w.heap.size + 1 + 1) (o := 3) (y := .slice ao11 n11 c11) (Sf.set (t := 41) (c := w.heap.size + 1 + 1) (o := 2) (y := .bool b11) (Sf.set (t := 41) (c := w.heap.size + 1 + 1) (o := 1) (y := .slice ao10 n10 c10) (Sf.set (t := 41) (c := w.heap.size + 1 + 1) (o := 0) (y := .bool b10) (Sf.refl 2 w3) (by first | (simp only [elemOf_setCell]; exact B3res.elem) | exact B3res.elem) (by decide)) (by first | (simp only [elemOf_setCell]; exact B3res.elem) | exact B3res.elem) (by decide)) (by first | (simp only [elemOf_setCell]; exact B3res.elem) | exact B3res.elem) (by decide)) (by first | (simp only [elemOf_setCell]; exact B3res.elem) | exact B3res.elem) (by decide)) (by first | (simp only [elemOf_setCell]; exact B3res.elem) | exact B3res.elem) (by decide)) (by first | (simp only [elemOf_setCell]; exact B3res.elem) | exact B3res.elem) (by decide)) (by first | (simp only [elemOf_setCell]; exact B3res.elem) | exact B3res.elem) (by decide))
  exact ⟨_, rfl, hv3.soft sfE, kpE⟩

theorem xdiv_any (a b : Qn) (m : Nat) (u v : Value) (w : World) (ha : XN w u a) (hb : XN w v b) (hm : m ≤ 15000000) (fa : QF m a) (fb : QF m b) (da : QD a) (db : QD b) :
    Calls Try.prog 96 #[u, v] w (RetXE w (qdiv a b).1 (qdiv a b).2) := by
  unfold qdiv
  split
  · exact xdiv_e a b m u v w ha hb hm fa fb da db (by assumption)
  · exact xdiv_n a b m u v w ha hb hm fa fb da db (by assumption)

end Go.Proofs.Ytjahbjjekednfaa
