import Derived.Test.YtjahbjjekednfaaDoorQ1
namespace Go.Proofs.YtjahbjjekednfaaDoor
open Go.RowKit

set_option maxHeartbeats 1600000 in
theorem combine_qadd (c : Int) (a b : Qn) (m : Nat) (u v : Value) (w : World) (ha : XN w u a) (hb : XN w v b) (hm : m ≤ 15000000) (fa : QF m a) (fb : QF m b) (da : QD a) (db : QD b) (h0 : c = 43) :
    Calls Tryd.prog 92 #[u, .int .u8 c, v] w (RetXE w (comb c a b).1 (comb c a b).2) := by
  have HC : comb c a b = qadd a b := by unfold comb; rw [if_pos h0]
  rw [HC]
  clear HC
  have e0 : (c == 43) = true := by simp [h0]
  clear h0
  obtain ⟨b1, ao1, n1, c1, b2, ao2, n2, c2, b3, ao3, n3, c3, rfl, hp, hq, hr⟩ := id ha
  obtain ⟨b4, ao4, n4, c4, b5, ao5, n5, c5, b6, ao6, n6, c6, rfl, hp', hq', hr'⟩ := id hb
  clear hp hq hr hp' hq' hr'
  go_enter Tryd.func92, Tryd.ntmps92
  go_wp2_with fail
  have kp0 : Kp w _ := (Kp.alloc' (Kp.alloc' (Kp.alloc' (Below.refl w.heap.size w) (.cells #[.bool b1, .slice ao1 n1 c1, .bool b2, .slice ao2 n2 c2, .bool b3, .slice ao3 n3 c3, .int .i64 a.d] 58)) (.cells #[.bool b4, .slice ao4 n4 c4, .bool b5, .slice ao5 n5 c5, .bool b6, .slice ao6 n6 c6, .int .i64 b.d] 58)) (.cells #[.bool false, .slice none 0 0, .bool false, .slice none 0 0, .bool false, .slice none 0 0, .int .i64 0] 58))
  have sf0 : Sf 2 w _ := (Sf.alloc (Sf.alloc (Sf.alloc (Sf.refl 2 w) (.cells #[.bool b1, .slice ao1 n1 c1, .bool b2, .slice ao2 n2 c2, .bool b3, .slice ao3 n3 c3, .int .i64 a.d] 58)) (.cells #[.bool b4, .slice ao4 n4 c4, .bool b5, .slice ao5 n5 c5, .bool b6, .slice ao6 n6 c6, .int .i64 b.d] 58)) (.cells #[.bool false, .slice none 0 0, .bool false, .slice none 0 0, .bool false, .slice none 0 0, .int .i64 0] 58))
  refine (xadd_any a b m _ _ _ (ha.soft sf0) (hb.soft sf0) (by omega) fa fb da db).mono ?_
  rintro e w1 ⟨v1, rfl, hv1, hk1⟩
  obtain ⟨b7, ao7, n7, c7, b8, ao8, n8, c8, b9, ao9, n9, c9, rfl, g1, g2, g3⟩ := id hv1
  clear g1 g2 g3
  have kq0 := kp0.trans' hk1
  have sq0 := sf0.trans (Sf.keep hk1)
  have B1res : Blk w1 (w.heap.size + 1 + 1) #[.bool false, .slice none 0 0, .bool false, .slice none 0 0, .bool false, .slice none 0 0, .int .i64 0] 58 := Blk.keep hk1 (Blk.at (Blk.new _ _ _) (by simp))
  have B1resc := B1res.cell
  have B1resf := B1res.frozen
  have B1resl := B1res.lt
  have ge1res : w.heap.size ≤ w.heap.size + 1 + 1 := by (first | omega | (have := kp0.size; simp only [World.size_alloc, size_setCell', size_drew'] at this; omega))
  generalize hQ : qadd a b = Q at *
  go_wp2_with fail
  refine bodyPost_ret (v := .tuple #[.agg #[.bool b7, .slice ao7 n7 c7, .bool b8, .slice ao8 n8 c8, .bool b9, .slice ao9 n9 c9, .int .i64 Q.1.d], .int .i64 Q.2]) (by simp [results, Tryd.results92, go_sem, B1resc]) rfl ?_
  have kpE : Kp w _ := (Below.setCell (Below.setCell (Below.setCell (Below.setCell (Below.setCell (Below.setCell (Below.setCell kq0 (p := ⟨w.heap.size + 1 + 1, 0, none⟩) (by have := ge1res; omega) (.bool b7)) (p := ⟨w.heap.size + 1 + 1, 1, none⟩) (by have := ge1res; omega) (.slice ao7 n7 c7)) (p := ⟨w.heap.size + 1 + 1, 2, none⟩) (by have := ge1res; omega) (.bool b8)) (p := ⟨w.heap.size + 1 + 1, 3, none⟩) (by have := ge1res; omega) (.slice ao8 n8 c8)) (p := ⟨w.heap.size + 1 + 1, 4, none⟩) (by have := ge1res; omega) (.bool b9)) (p := ⟨w.heap.size + 1 + 1, 5, none⟩) (by have := ge1res; omega) (.slice ao9 n9 c9)) (p := ⟨w.heap.size + 1 + 1, 6, none⟩) (by have := ge1res; omega) (.int .i64 Q.1.d))
  have sfE : Sf 2 w1 _ := (Sf.set (t := 58) (c := w.heap.size + 1 + 1) (o := 6) (y := .int .i64 Q.1.d) (Sf.set (t := 58) (c := w.heap.size + 1 + 1) (o := 5) (y := .slice ao9 n9 c9) (Sf.set (t := 58) (c := w.heap.size + 1 + 1) (o := 4) (y := .bool b9) (Sf.set (t := 58) (c := w.heap.size + 1 + 1) (o := 3) (y := .slice ao8 n8 c8) (Sf.set (t := 58) (c := w.heap.size + 1 + 1) (o := 2) (y := .bool b8) (Sf.set (t := 58) (c := w.heap.size + 1 + 1) (o := 1) (y := .slice ao7 n7 c7) (Sf.set (t := 58) (c := w.heap.size + 1 + 1) (o := 0) (y := .bool b7) (Sf.refl 2 w1) (by first | (simp only [elemOf_setCell]; exact B1res.elem) | exact B1res.elem) (by decide)) (by first | (simp only [elemOf_setCell]; exact B1res.elem) | exact B1res.elem) (by decide)) (by first | (simp only [elemOf_setCell]; exact B1res.elem) | exact B1res.elem) (by decide)) (by first | (simp only [elemOf_setCell]; exact B1res.elem) | exact B1res.elem) (by decide)) (by first | (simp only [elemOf_setCell]; exact B1res.elem) | exact B1res.elem) (by decide)) (by first | (simp only [elemOf_setCell]; exact B1res.elem) | exact B1res.elem) (by decide)) (by first | (simp only [elemOf_setCell]; exact B1res.elem) | exact B1res.elem) (by decide))
  exact ⟨_, rfl, hv1.soft sfE, kpE⟩

set_option maxHeartbeats 1600000 in
theorem combine_qsub (c : Int) (a b : Qn) (m : Nat) (u v : Value) (w : World) (ha : XN w u a) (hb : XN w v b) (hm : m ≤ 15000000) (fa : QF m a) (fb : QF m b) (da : QD a) (db : QD b) (h0 : ¬ c = 43) (h1 : c = 45) :
    Calls Tryd.prog 92 #[u, .int .u8 c, v] w (RetXE w (comb c a b).1 (comb c a b).2) := by
  have HC : comb c a b = qsub a b := by unfold comb; rw [if_neg h0, if_pos h1]
  rw [HC]
  clear HC
  have e0 : (c == 43) = false := by simp [h0]
  have e1 : (c == 45) = true := by simp [h1]
  clear h0 h1
  obtain ⟨b1, ao1, n1, c1, b2, ao2, n2, c2, b3, ao3, n3, c3, rfl, hp, hq, hr⟩ := id ha
  obtain ⟨b4, ao4, n4, c4, b5, ao5, n5, c5, b6, ao6, n6, c6, rfl, hp', hq', hr'⟩ := id hb
  clear hp hq hr hp' hq' hr'
  go_enter Tryd.func92, Tryd.ntmps92
  go_wp2_with fail
  have kp0 : Kp w _ := (Kp.alloc' (Kp.alloc' (Kp.alloc' (Below.refl w.heap.size w) (.cells #[.bool b1, .slice ao1 n1 c1, .bool b2, .slice ao2 n2 c2, .bool b3, .slice ao3 n3 c3, .int .i64 a.d] 58)) (.cells #[.bool b4, .slice ao4 n4 c4, .bool b5, .slice ao5 n5 c5, .bool b6, .slice ao6 n6 c6, .int .i64 b.d] 58)) (.cells #[.bool false, .slice none 0 0, .bool false, .slice none 0 0, .bool false, .slice none 0 0, .int .i64 0] 58))
  have sf0 : Sf 2 w _ := (Sf.alloc (Sf.alloc (Sf.alloc (Sf.refl 2 w) (.cells #[.bool b1, .slice ao1 n1 c1, .bool b2, .slice ao2 n2 c2, .bool b3, .slice ao3 n3 c3, .int .i64 a.d] 58)) (.cells #[.bool b4, .slice ao4 n4 c4, .bool b5, .slice ao5 n5 c5, .bool b6, .slice ao6 n6 c6, .int .i64 b.d] 58)) (.cells #[.bool false, .slice none 0 0, .bool false, .slice none 0 0, .bool false, .slice none 0 0, .int .i64 0] 58))
  refine (xsub_any a b m _ _ _ (ha.soft sf0) (hb.soft sf0) (by omega) fa fb da db).mono ?_
  rintro e w1 ⟨v1, rfl, hv1, hk1⟩
  obtain ⟨b7, ao7, n7, c7, b8, ao8, n8, c8, b9, ao9, n9, c9, rfl, g1, g2, g3⟩ := id hv1
  clear g1 g2 g3
  have kq0 := kp0.trans' hk1
  have sq0 := sf0.trans (Sf.keep hk1)
  have B1res : Blk w1 (w.heap.size + 1 + 1) #[.bool false, .slice none 0 0, .bool false, .slice none 0 0, .bool false, .slice none 0 0, .int .i64 0] 58 := Blk.keep hk1 (Blk.at (Blk.new _ _ _) (by simp))
  have B1resc := B1res.cell
  have B1resf := B1res.frozen
  have B1resl := B1res.lt
  have ge1res : w.heap.size ≤ w.heap.size + 1 + 1 := by (first | omega | (have := kp0.size; simp only [World.size_alloc, size_setCell', size_drew'] at this; omega))
  generalize hQ : qsub a b = Q at *
  go_wp2_with fail
  refine bodyPost_ret (v := .tuple #[.agg #[.bool b7, .slice ao7 n7 c7, .bool b8, .slice ao8 n8 c8, .bool b9, .slice ao9 n9 c9, .int .i64 Q.1.d], .int .i64 Q.2]) (by simp [results, Tryd.results92, go_sem, B1resc]) rfl ?_
  have kpE : Kp w _ := (Below.setCell (Below.setCell (Below.setCell (Below.setCell (Below.setCell (Below.setCell (Below.setCell kq0 (p := ⟨w.heap.size + 1 + 1, 0, none⟩) (by have := ge1res; omega) (.bool b7)) (p := ⟨w.heap.size + 1 + 1, 1, none⟩) (by have := ge1res; omega) (.slice ao7 n7 c7)) (p := ⟨w.heap.size + 1 + 1, 2, none⟩) (by have := ge1res; omega) (.bool b8)) (p := ⟨w.heap.size + 1 + 1, 3, none⟩) (by have := ge1res; omega) (.slice ao8 n8 c8)) (p := ⟨w.heap.size + 1 + 1, 4, none⟩) (by have := ge1res; omega) (.bool b9)) (p := ⟨w.heap.size + 1 + 1, 5, none⟩) (by have := ge1res; omega) (.slice ao9 n9 c9)) (p := ⟨w.heap.size + 1 + 1, 6, none⟩) (by have := ge1res; omega) (.int .i64 Q.1.d))
  have sfE : Sf 2 w1 _ := (Sf.set (t := 58) (c := w.heap.size + 1 + 1) (o := 6) (y := .int .i64 Q.1.d) (Sf.set (t := 58) (c := w.heap.size + 1 + 1) (o := 5) (y := .slice ao9 n9 c9) (Sf.set (t := 58) (c := w.heap.size + 1 + 1) (o := 4) (y := .bool b9) (Sf.set (t := 58) (c := w.heap.size + 1 + 1) (o := 3) (y := .slice ao8 n8 c8) (Sf.set (t := 58) (c := w.heap.size + 1 + 1) (o := 2) (y := .bool b8) (Sf.set (t := 58) (c := w.heap.size + 1 + 1) (o := 1) (y := .slice ao7 n7 c7) (Sf.set (t := 58) (c := w.heap.size + 1 + 1) (o := 0) (y := .bool b7) (Sf.refl 2 w1) (by first | (simp only [elemOf_setCell]; exact B1res.elem) | exact B1res.elem) (by decide)) (by first | (simp only [elemOf_setCell]; exact B1res.elem) | exact B1res.elem) (by decide)) (by first | (simp only [elemOf_setCell]; exact B1res.elem) | exact B1res.elem) (by decide)) (by first | (simp only [elemOf_setCell]; exact B1res.elem) | exact B1res.elem) (by decide)) (by first | (simp only [elemOf_setCell]; exact B1res.elem) | exact B1res.elem) (by decide)) (by first | (simp only [elemOf_setCell]; exact B1res.elem) | exact B1res.elem) (by decide)) (by first | (simp only [elemOf_setCell]; exact B1res.elem) | exact B1res.elem) (by decide))
  exact ⟨_, rfl, hv1.soft sfE, kpE⟩

set_option maxHeartbeats 1600000 in
theorem combine_qmul (c : Int) (a b : Qn) (m : Nat) (u v : Value) (w : World) (ha : XN w u a) (hb : XN w v b) (hm : m ≤ 15000000) (fa : QF m a) (fb : QF m b) (da : QD a) (db : QD b) (h0 : ¬ c = 43) (h1 : ¬ c = 45) (h2 : c = 42) :
    Calls Tryd.prog 92 #[u, .int .u8 c, v] w (RetXE w (comb c a b).1 (comb c a b).2) := by
  have HC : comb c a b = qmul a b := by unfold comb; rw [if_neg h0, if_neg h1, if_pos h2]
  rw [HC]
  clear HC
  have e0 : (c == 43) = false := by simp [h0]
  have e1 : (c == 45) = false := by simp [h1]
  have e2 : (c == 42) = true := by simp [h2]
  clear h0 h1 h2
  obtain ⟨b1, ao1, n1, c1, b2, ao2, n2, c2, b3, ao3, n3, c3, rfl, hp, hq, hr⟩ := id ha
  obtain ⟨b4, ao4, n4, c4, b5, ao5, n5, c5, b6, ao6, n6, c6, rfl, hp', hq', hr'⟩ := id hb
  clear hp hq hr hp' hq' hr'
  go_enter Tryd.func92, Tryd.ntmps92
  go_wp2_with fail
  have kp0 : Kp w _ := (Kp.alloc' (Kp.alloc' (Kp.alloc' (Below.refl w.heap.size w) (.cells #[.bool b1, .slice ao1 n1 c1, .bool b2, .slice ao2 n2 c2, .bool b3, .slice ao3 n3 c3, .int .i64 a.d] 58)) (.cells #[.bool b4, .slice ao4 n4 c4, .bool b5, .slice ao5 n5 c5, .bool b6, .slice ao6 n6 c6, .int .i64 b.d] 58)) (.cells #[.bool false, .slice none 0 0, .bool false, .slice none 0 0, .bool false, .slice none 0 0, .int .i64 0] 58))
  have sf0 : Sf 2 w _ := (Sf.alloc (Sf.alloc (Sf.alloc (Sf.refl 2 w) (.cells #[.bool b1, .slice ao1 n1 c1, .bool b2, .slice ao2 n2 c2, .bool b3, .slice ao3 n3 c3, .int .i64 a.d] 58)) (.cells #[.bool b4, .slice ao4 n4 c4, .bool b5, .slice ao5 n5 c5, .bool b6, .slice ao6 n6 c6, .int .i64 b.d] 58)) (.cells #[.bool false, .slice none 0 0, .bool false, .slice none 0 0, .bool false, .slice none 0 0, .int .i64 0] 58))
  refine (xmul_any a b m _ _ _ (ha.soft sf0) (hb.soft sf0) (by omega) fa fb da db).mono ?_
  rintro e w1 ⟨v1, rfl, hv1, hk1⟩
  obtain ⟨b7, ao7, n7, c7, b8, ao8, n8, c8, b9, ao9, n9, c9, rfl, g1, g2, g3⟩ := id hv1
  clear g1 g2 g3
  have kq0 := kp0.trans' hk1
  have sq0 := sf0.trans (Sf.keep hk1)
  have B1res : Blk w1 (w.heap.size + 1 + 1) #[.bool false, .slice none 0 0, .bool false, .slice none 0 0, .bool false, .slice none 0 0, .int .i64 0] 58 := Blk.keep hk1 (Blk.at (Blk.new _ _ _) (by simp))
  have B1resc := B1res.cell
  have B1resf := B1res.frozen
  have B1resl := B1res.lt
  have ge1res : w.heap.size ≤ w.heap.size + 1 + 1 := by (first | omega | (have := kp0.size; simp only [World.size_alloc, size_setCell', size_drew'] at this; omega))
  generalize hQ : qmul a b = Q at *
  go_wp2_with fail
  refine bodyPost_ret (v := .tuple #[.agg #[.bool b7, .slice ao7 n7 c7, .bool b8, .slice ao8 n8 c8, .bool b9, .slice ao9 n9 c9, .int .i64 Q.1.d], .int .i64 Q.2]) (by simp [results, Tryd.results92, go_sem, B1resc]) rfl ?_
  have kpE : Kp w _ := (Below.setCell (Below.setCell (Below.setCell (Below.setCell (Below.setCell (Below.setCell (Below.setCell kq0 (p := ⟨w.heap.size + 1 + 1, 0, none⟩) (by have := ge1res; omega) (.bool b7)) (p := ⟨w.heap.size + 1 + 1, 1, none⟩) (by have := ge1res; omega) (.slice ao7 n7 c7)) (p := ⟨w.heap.size + 1 + 1, 2, none⟩) (by have := ge1res; omega) (.bool b8)) (p := ⟨w.heap.size + 1 + 1, 3, none⟩) (by have := ge1res; omega) (.slice ao8 n8 c8)) (p := ⟨w.heap.size + 1 + 1, 4, none⟩) (by have := ge1res; omega) (.bool b9)) (p := ⟨w.heap.size + 1 + 1, 5, none⟩) (by have := ge1res; omega) (.slice ao9 n9 c9)) (p := ⟨w.heap.size + 1 + 1, 6, none⟩) (by have := ge1res; omega) (.int .i64 Q.1.d))
  have sfE : Sf 2 w1 _ := (Sf.set (t := 58) (c := w.heap.size + 1 + 1) (o := 6) (y := .int .i64 Q.1.d) (Sf.set (t := 58) (c := w.heap.size + 1 + 1) (o := 5) (y := .slice ao9 n9 c9) (Sf.set (t := 58) (c := w.heap.size + 1 + 1) (o := 4) (y := .bool b9) (Sf.set (t := 58) (c := w.heap.size + 1 + 1) (o := 3) (y := .slice ao8 n8 c8) (Sf.set (t := 58) (c := w.heap.size + 1 + 1) (o := 2) (y := .bool b8) (Sf.set (t := 58) (c := w.heap.size + 1 + 1) (o := 1) (y := .slice ao7 n7 c7) (Sf.set (t := 58) (c := w.heap.size + 1 + 1) (o := 0) (y := .bool b7) (Sf.refl 2 w1) (by first | (simp only [elemOf_setCell]; exact B1res.elem) | exact B1res.elem) (by decide)) (by first | (simp only [elemOf_setCell]; exact B1res.elem) | exact B1res.elem) (by decide)) (by first | (simp only [elemOf_setCell]; exact B1res.elem) | exact B1res.elem) (by decide)) (by first | (simp only [elemOf_setCell]; exact B1res.elem) | exact B1res.elem) (by decide)) (by first | (simp only [elemOf_setCell]; exact B1res.elem) | exact B1res.elem) (by decide)) (by first | (simp only [elemOf_setCell]; exact B1res.elem) | exact B1res.elem) (by decide)) (by first | (simp only [elemOf_setCell]; exact B1res.elem) | exact B1res.elem) (by decide))
  exact ⟨_, rfl, hv1.soft sfE, kpE⟩

set_option maxHeartbeats 1600000 in
theorem combine_qdiv (c : Int) (a b : Qn) (m : Nat) (u v : Value) (w : World) (ha : XN w u a) (hb : XN w v b) (hm : m ≤ 15000000) (fa : QF m a) (fb : QF m b) (da : QD a) (db : QD b) (h0 : ¬ c = 43) (h1 : ¬ c = 45) (h2 : ¬ c = 42) :
    Calls Tryd.prog 92 #[u, .int .u8 c, v] w (RetXE w (comb c a b).1 (comb c a b).2) := by
  have HC : comb c a b = qdiv a b := by unfold comb; rw [if_neg h0, if_neg h1, if_neg h2]
  rw [HC]
  clear HC
  have e0 : (c == 43) = false := by simp [h0]
  have e1 : (c == 45) = false := by simp [h1]
  have e2 : (c == 42) = false := by simp [h2]
  clear h0 h1 h2
  obtain ⟨b1, ao1, n1, c1, b2, ao2, n2, c2, b3, ao3, n3, c3, rfl, hp, hq, hr⟩ := id ha
  obtain ⟨b4, ao4, n4, c4, b5, ao5, n5, c5, b6, ao6, n6, c6, rfl, hp', hq', hr'⟩ := id hb
  clear hp hq hr hp' hq' hr'
  go_enter Tryd.func92, Tryd.ntmps92
  go_wp2_with fail
  have kp0 : Kp w _ := (Kp.alloc' (Kp.alloc' (Kp.alloc' (Below.refl w.heap.size w) (.cells #[.bool b1, .slice ao1 n1 c1, .bool b2, .slice ao2 n2 c2, .bool b3, .slice ao3 n3 c3, .int .i64 a.d] 58)) (.cells #[.bool b4, .slice ao4 n4 c4, .bool b5, .slice ao5 n5 c5, .bool b6, .slice ao6 n6 c6, .int .i64 b.d] 58)) (.cells #[.bool false, .slice none 0 0, .bool false, .slice none 0 0, .bool false, .slice none 0 0, .int .i64 0] 58))
  have sf0 : Sf 2 w _ := (Sf.alloc (Sf.alloc (Sf.alloc (Sf.refl 2 w) (.cells #[.bool b1, .slice ao1 n1 c1, .bool b2, .slice ao2 n2 c2, .bool b3, .slice ao3 n3 c3, .int .i64 a.d] 58)) (.cells #[.bool b4, .slice ao4 n4 c4, .bool b5, .slice ao5 n5 c5, .bool b6, .slice ao6 n6 c6, .int .i64 b.d] 58)) (.cells #[.bool false, .slice none 0 0, .bool false, .slice none 0 0, .bool false, .slice none 0 0, .int .i64 0] 58))
  refine (xdiv_any a b m _ _ _ (ha.soft sf0) (hb.soft sf0) (by omega) fa fb da db).mono ?_
  rintro e w1 ⟨v1, rfl, hv1, hk1⟩
  obtain ⟨b7, ao7, n7, c7, b8, ao8, n8, c8, b9, ao9, n9, c9, rfl, g1, g2, g3⟩ := id hv1
  clear g1 g2 g3
  have kq0 := kp0.trans' hk1
  have sq0 := sf0.trans (Sf.keep hk1)
  have B1res : Blk w1 (w.heap.size + 1 + 1) #[.bool false, .slice none 0 0, .bool false, .slice none 0 0, .bool false, .slice none 0 0, .int .i64 0] 58 := Blk.keep hk1 (Blk.at (Blk.new _ _ _) (by simp))
  have B1resc := B1res.cell
  have B1resf := B1res.frozen
  have B1resl := B1res.lt
  have ge1res : w.heap.size ≤ w.heap.size + 1 + 1 := by (first | omega | (have := kp0.size; simp only [World.size_alloc, size_setCell', size_drew'] at this; omega))
  generalize hQ : qdiv a b = Q at *
  go_wp2_with fail
  refine bodyPost_ret (v := .tuple #[.agg #[.bool b7, .slice ao7 n7 c7, .bool b8, .slice ao8 n8 c8, .bool b9, .slice ao9 n9 c9, .int .i64 Q.1.d], .int .i64 Q.2]) (by simp [results, Tryd.results92, go_sem, B1resc]) rfl ?_
  have kpE : Kp w _ := (Below.setCell (Below.setCell (Below.setCell (Below.setCell (Below.setCell (Below.setCell (Below.setCell kq0 (p := ⟨w.heap.size + 1 + 1, 0, none⟩) (by have := ge1res; omega) (.bool b7)) (p := ⟨w.heap.size + 1 + 1, 1, none⟩) (by have := ge1res; omega) (.slice ao7 n7 c7)) (p := ⟨w.heap.size + 1 + 1, 2, none⟩) (by have := ge1res; omega) (.bool b8)) (p := ⟨w.heap.size + 1 + 1, 3, none⟩) (by have := ge1res; omega) (.slice ao8 n8 c8)) (p := ⟨w.heap.size + 1 + 1, 4, none⟩) (by have := ge1res; omega) (.bool b9)) (p := ⟨w.heap.size + 1 + 1, 5, none⟩) (by have := ge1res; omega) (.slice ao9 n9 c9)) (p := ⟨w.heap.size + 1 + 1, 6, none⟩) (by have := ge1res; omega) (.int .i64 Q.1.d))
  have sfE : Sf 2 w1 _ := (Sf.set (t := 58) (c := w.heap.size + 1 + 1) (o := 6) (y := .int .i64 Q.1.d) (Sf.set (t := 58) (c := w.heap.size + 1 + 1) (o := 5) (y := .slice ao9 n9 c9) (Sf.set (t := 58) (c := w.heap.size + 1 + 1) (o := 4) (y := .bool b9) (Sf.set (t := 58) (c := w.heap.size + 1 + 1) (o := 3) (y := .slice ao8 n8 c8) (Sf.set (t := 58) (c := w.heap.size + 1 + 1) (o := 2) (y := .bool b8) (Sf.set (t := 58) (c := w.heap.size + 1 + 1) (o := 1) (y := .slice ao7 n7 c7) (Sf.set (t := 58) (c := w.heap.size + 1 + 1) (o := 0) (y := .bool b7) (Sf.refl 2 w1) (by first | (simp only [elemOf_setCell]; exact B1res.elem) | exact B1res.elem) (by decide)) (by first | (simp only [elemOf_setCell]; exact B1res.elem) | exact B1res.elem) (by decide)) (by first | (simp only [elemOf_setCell]; exact B1res.elem) | exact B1res.elem) (by decide)) (by first | (simp only [elemOf_setCell]; exact B1res.elem) | exact B1res.elem) (by decide)) (by first | (simp only [elemOf_setCell]; exact B1res.elem) | exact B1res.elem) (by decide)) (by first | (simp only [elemOf_setCell]; exact B1res.elem) | exact B1res.elem) (by decide)) (by first | (simp only [elemOf_setCell]; exact B1res.elem) | exact B1res.elem) (by decide))
  exact ⟨_, rfl, hv1.soft sfE, kpE⟩

theorem combine_any (c : Int) (a b : Qn) (m : Nat) (u v : Value) (w : World) (ha : XN w u a) (hb : XN w v b) (hm : m ≤ 15000000) (fa : QF m a) (fb : QF m b) (da : QD a) (db : QD b) :
    Calls Tryd.prog 92 #[u, .int .u8 c, v] w (RetXE w (comb c a b).1 (comb c a b).2) := by
  by_cases h0 : c = 43
  · exact combine_qadd c a b m u v w ha hb hm fa fb da db h0
  by_cases h1 : c = 45
  · exact combine_qsub c a b m u v w ha hb hm fa fb da db h0 h1
  by_cases h2 : c = 42
  · exact combine_qmul c a b m u v w ha hb hm fa fb da db h0 h1 h2
  · exact combine_qdiv c a b m u v w ha hb hm fa fb da db h0 h1 h2

theorem KeepsBut.of_kp {c : Nat} {x w : World} (h : Kp x w) : KeepsBut c x w := ⟨h.os, h.tape, h.output, h.size, fun k hk _ => h.block k hk⟩
theorem KeepsBut.setNew {c d o : Nat} {x w : World} {y : Value} (h : KeepsBut c x w) (hd : x.heap.size ≤ d) : KeepsBut c x (w.setCell ⟨d, o, none⟩ y) :=
  ⟨h.os, h.tape, h.output, by simpa [World.setCell] using h.size, fun k hk hc => (Below.heap_setCell _ _ _ _ (show k ≠ d by omega)).trans (h.block k hk hc)⟩
theorem Blk.but {c : Nat} {w w' : World} {b : Nat} {cs : Array Value} {t : TypeId} (hk : KeepsBut c w w') (hb : b ≠ c) (h : Blk w b cs t) : Blk w' b cs t := by
  unfold Blk
  rw [hk.block b h.lt hb]; exact h

/-- What a reading leaves: the value; the reader behind it; all else as it was. -/
def RetO (b : Nat) (s : ByteArray) (p : Int) (r : Rs) (w : World) (e : Ending) (w' : World) : Prop :=
  ∃ v, e = .returned v ∧ XN w' v r.v ∧ Blk w' b #[.string s, .int .i64 p, .int .i64 r.e, .int .i64 r.k] 84 ∧ KeepsBut b w w'

set_option maxHeartbeats 1600000 in
theorem operate_e (s : ByteArray) (i : Int) (er ea c : Int) (p : Nat) (a : Rs) (bq : Qn) (b : Nat) (u v : Value) (w : World) (hB : Blk w b #[.string s, .int .i64 i, .int .i64 er, .int .i64 ea] 84) (ha : XN w u a.v) (hb : XN w v bq) (h1 : er ≠ 0) :
    Calls Tryd.prog 67 #[.pointer (some ⟨b, 0, none⟩), u, .int .u8 c, .int .i64 p, v] w (RetO b s i ⟨a.v, er, ea⟩ w) := by
  have e1 : (er != 0) = true := by simp [h1]
  have hl := hB.lt
  have hc := hB.cell
  clear h1
  obtain ⟨b1, ao1, n1, c1, b2, ao2, n2, c2, b3, ao3, n3, c3, rfl, hp, hq, hr⟩ := id ha
  obtain ⟨b4, ao4, n4, c4, b5, ao5, n5, c5, b6, ao6, n6, c6, rfl, hp', hq', hr'⟩ := id hb
  clear hp hq hr hp' hq' hr'
  have hB3 : Blk (((w.alloc (.cells #[.bool b1, .slice ao1 n1 c1, .bool b2, .slice ao2 n2 c2, .bool b3, .slice ao3 n3 c3, .int .i64 a.v.d] 58)).alloc (.cells #[.bool b4, .slice ao4 n4 c4, .bool b5, .slice ao5 n5 c5, .bool b6, .slice ao6 n6 c6, .int .i64 bq.d] 58)).alloc (.cells #[.bool false, .slice none 0 0, .bool false, .slice none 0 0, .bool false, .slice none 0 0, .int .i64 0] 58)) b #[.string s, .int .i64 i, .int .i64 er, .int .i64 ea] 84 := Blk.alloc (Blk.alloc (Blk.alloc hB (.cells #[.bool b1, .slice ao1 n1 c1, .bool b2, .slice ao2 n2 c2, .bool b3, .slice ao3 n3 c3, .int .i64 a.v.d] 58)) (.cells #[.bool b4, .slice ao4 n4 c4, .bool b5, .slice ao5 n5 c5, .bool b6, .slice ao6 n6 c6, .int .i64 bq.d] 58)) (.cells #[.bool false, .slice none 0 0, .bool false, .slice none 0 0, .bool false, .slice none 0 0, .int .i64 0] 58)
  have hc3 := hB3.cell
  have hl3 := hB3.lt
  go_enter Tryd.func67, Tryd.ntmps67
  go_wp2_with fail
  refine bodyPost_ret (v := .agg #[.bool b1, .slice ao1 n1 c1, .bool b2, .slice ao2 n2 c2, .bool b3, .slice ao3 n3 c3, .int .i64 a.v.d]) (by simp [results, Tryd.results67, go_sem]) rfl ?_
  have kpE : Kp w _ := (Kp.alloc' (Kp.alloc' (Kp.alloc' (Below.refl w.heap.size w) (.cells #[.bool b1, .slice ao1 n1 c1, .bool b2, .slice ao2 n2 c2, .bool b3, .slice ao3 n3 c3, .int .i64 a.v.d] 58)) (.cells #[.bool b4, .slice ao4 n4 c4, .bool b5, .slice ao5 n5 c5, .bool b6, .slice ao6 n6 c6, .int .i64 bq.d] 58)) (.cells #[.bool b1, .slice ao1 n1 c1, .bool b2, .slice ao2 n2 c2, .bool b3, .slice ao3 n3 c3, .int .i64 a.v.d] 58))
  have sfE : Sf 2 w _ := (Sf.alloc (Sf.alloc (Sf.alloc (Sf.refl 2 w) (.cells #[.bool b1, .slice ao1 n1 c1, .bool b2, .slice ao2 n2 c2, .bool b3, .slice ao3 n3 c3, .int .i64 a.v.d] 58)) (.cells #[.bool b4, .slice ao4 n4 c4, .bool b5, .slice ao5 n5 c5, .bool b6, .slice ao6 n6 c6, .int .i64 bq.d] 58)) (.cells #[.bool b1, .slice ao1 n1 c1, .bool b2, .slice ao2 n2 c2, .bool b3, .slice ao3 n3 c3, .int .i64 a.v.d] 58))
  exact ⟨_, rfl, ha.soft sfE, (Blk.alloc (Blk.alloc (Blk.alloc hB (.cells #[.bool b1, .slice ao1 n1 c1, .bool b2, .slice ao2 n2 c2, .bool b3, .slice ao3 n3 c3, .int .i64 a.v.d] 58)) (.cells #[.bool b4, .slice ao4 n4 c4, .bool b5, .slice ao5 n5 c5, .bool b6, .slice ao6 n6 c6, .int .i64 bq.d] 58)) (.cells #[.bool b1, .slice ao1 n1 c1, .bool b2, .slice ao2 n2 c2, .bool b3, .slice ao3 n3 c3, .int .i64 a.v.d] 58)), KeepsBut.of_kp kpE⟩


set_option maxHeartbeats 1600000 in
theorem operate_ok (s : ByteArray) (i : Int) (er ea c : Int) (p : Nat) (a : Rs) (bq : Qn) (m : Nat) (b : Nat) (u v : Value) (w : World) (hB : Blk w b #[.string s, .int .i64 i, .int .i64 er, .int .i64 ea] 84) (ha : XN w u a.v) (hb : XN w v bq) (h1 : er = 0) (h2 : (comb c a.v bq).2 = 0) (hm : m ≤ 15000000) (fa : QF m a.v) (fb : QF m bq) (da : QD a.v) (db : QD bq) :
    Calls Tryd.prog 67 #[.pointer (some ⟨b, 0, none⟩), u, .int .u8 c, .int .i64 p, v] w (RetO b s i ⟨(comb c a.v bq).1, 0, ea⟩ w) := by
  subst h1
  have hl := hB.lt
  have hc := hB.cell
  have hf := hB.frozen
  obtain ⟨b1, ao1, n1, c1, b2, ao2, n2, c2, b3, ao3, n3, c3, rfl, hp, hq, hr⟩ := id ha
  obtain ⟨b4, ao4, n4, c4, b5, ao5, n5, c5, b6, ao6, n6, c6, rfl, hp', hq', hr'⟩ := id hb
  clear hp hq hr hp' hq' hr'
  have hB3 : Blk (((w.alloc (.cells #[.bool b1, .slice ao1 n1 c1, .bool b2, .slice ao2 n2 c2, .bool b3, .slice ao3 n3 c3, .int .i64 a.v.d] 58)).alloc (.cells #[.bool b4, .slice ao4 n4 c4, .bool b5, .slice ao5 n5 c5, .bool b6, .slice ao6 n6 c6, .int .i64 bq.d] 58)).alloc (.cells #[.bool false, .slice none 0 0, .bool false, .slice none 0 0, .bool false, .slice none 0 0, .int .i64 0] 58)) b #[.string s, .int .i64 i, .int .i64 0, .int .i64 ea] 84 := Blk.alloc (Blk.alloc (Blk.alloc hB (.cells #[.bool b1, .slice ao1 n1 c1, .bool b2, .slice ao2 n2 c2, .bool b3, .slice ao3 n3 c3, .int .i64 a.v.d] 58)) (.cells #[.bool b4, .slice ao4 n4 c4, .bool b5, .slice ao5 n5 c5, .bool b6, .slice ao6 n6 c6, .int .i64 bq.d] 58)) (.cells #[.bool false, .slice none 0 0, .bool false, .slice none 0 0, .bool false, .slice none 0 0, .int .i64 0] 58)
  have hc3 := hB3.cell
  have hl3 := hB3.lt
  go_enter Tryd.func67, Tryd.ntmps67
  go_wp2_with fail
  have kp0 : Kp w _ := (Kp.alloc' (Kp.alloc' (Kp.alloc' (Below.refl w.heap.size w) (.cells #[.bool b1, .slice ao1 n1 c1, .bool b2, .slice ao2 n2 c2, .bool b3, .slice ao3 n3 c3, .int .i64 a.v.d] 58)) (.cells #[.bool b4, .slice ao4 n4 c4, .bool b5, .slice ao5 n5 c5, .bool b6, .slice ao6 n6 c6, .int .i64 bq.d] 58)) (.cells #[.bool false, .slice none 0 0, .bool false, .slice none 0 0, .bool false, .slice none 0 0, .int .i64 0] 58))
  have sf0 : Sf 2 w _ := (Sf.alloc (Sf.alloc (Sf.alloc (Sf.refl 2 w) (.cells #[.bool b1, .slice ao1 n1 c1, .bool b2, .slice ao2 n2 c2, .bool b3, .slice ao3 n3 c3, .int .i64 a.v.d] 58)) (.cells #[.bool b4, .slice ao4 n4 c4, .bool b5, .slice ao5 n5 c5, .bool b6, .slice ao6 n6 c6, .int .i64 bq.d] 58)) (.cells #[.bool false, .slice none 0 0, .bool false, .slice none 0 0, .bool false, .slice none 0 0, .int .i64 0] 58))
  refine (combine_any c a.v bq m _ _ _ (ha.soft sf0) (hb.soft sf0) hm fa fb da db).mono ?_
  rintro e w1 ⟨v1, rfl, hv1, hk1⟩
  obtain ⟨b7, ao7, n7, c7, b8, ao8, n8, c8, b9, ao9, n9, c9, rfl, g1, g2, g3⟩ := id hv1
  clear g1 g2 g3
  replace hB : Blk w1 b #[.string s, .int .i64 i, .int .i64 0, .int .i64 ea] 84 := Blk.keep hk1 (Blk.alloc (Blk.alloc (Blk.alloc hB _) _) _)
  replace hc := hB.cell
  replace hf := hB.frozen
  have hl1 := hB.lt
  clear hB3 hc3 hl3
  have kq0 := kp0.trans' hk1
  have sq0 := sf0.trans (Sf.keep hk1)
  have B1res : Blk w1 (w.heap.size + 1 + 1) #[.bool false, .slice none 0 0, .bool false, .slice none 0 0, .bool false, .slice none 0 0, .int .i64 0] 58 := Blk.keep hk1 (Blk.at (Blk.new _ _ _) (by simp))
  have B1resc := B1res.cell
  have B1resf := B1res.frozen
  have B1resl := B1res.lt
  have ge1res : w.heap.size ≤ w.heap.size + 1 + 1 := by (first | omega | (have := kp0.size; simp only [World.size_alloc, size_setCell', size_drew'] at this; omega))
  generalize hQ : comb c a.v bq = Q at *
  rw [h2]
  clear h2
  go_wp2_with fail
  refine bodyPost_ret (v := .agg #[.bool b7, .slice ao7 n7 c7, .bool b8, .slice ao8 n8 c8, .bool b9, .slice ao9 n9 c9, .int .i64 Q.1.d]) (by simp [results, Tryd.results67, go_sem, B1resc, B1resl]) rfl ?_
  exact ⟨_, rfl, hv1.soft (Sf.alloc (Sf.set (t := 58) (c := w.heap.size + 1 + 1) (o := 6) (y := .int .i64 Q.1.d) (Sf.set (t := 58) (c := w.heap.size + 1 + 1) (o := 5) (y := .slice ao9 n9 c9) (Sf.set (t := 58) (c := w.heap.size + 1 + 1) (o := 4) (y := .bool b9) (Sf.set (t := 58) (c := w.heap.size + 1 + 1) (o := 3) (y := .slice ao8 n8 c8) (Sf.set (t := 58) (c := w.heap.size + 1 + 1) (o := 2) (y := .bool b8) (Sf.set (t := 58) (c := w.heap.size + 1 + 1) (o := 1) (y := .slice ao7 n7 c7) (Sf.set (t := 58) (c := w.heap.size + 1 + 1) (o := 0) (y := .bool b7) (Sf.refl 2 w1) (by first | (simp only [elemOf_setCell]; exact B1res.elem) | exact B1res.elem) (by decide)) (by first | (simp only [elemOf_setCell]; exact B1res.elem) | exact B1res.elem) (by decide)) (by first | (simp only [elemOf_setCell]; exact B1res.elem) | exact B1res.elem) (by decide)) (by first | (simp only [elemOf_setCell]; exact B1res.elem) | exact B1res.elem) (by decide)) (by first | (simp only [elemOf_setCell]; exact B1res.elem) | exact B1res.elem) (by decide)) (by first | (simp only [elemOf_setCell]; exact B1res.elem) | exact B1res.elem) (by decide)) (by first | (simp only [elemOf_setCell]; exact B1res.elem) | exact B1res.elem) (by decide)) (.cells #[.bool b7, .slice ao7 n7 c7, .bool b8, .slice ao8 n8 c8, .bool b9, .slice ao9 n9 c9, .int .i64 Q.1.d] 58)), (Blk.alloc (Blk.other (Blk.other (Blk.other (Blk.other (Blk.other (Blk.other (Blk.other hB (by omega)) (by omega)) (by omega)) (by omega)) (by omega)) (by omega)) (by omega)) (.cells #[.bool b7, .slice ao7 n7 c7, .bool b8, .slice ao8 n8 c8, .bool b9, .slice ao9 n9 c9, .int .i64 Q.1.d] 58)), (KeepsBut.alloc (KeepsBut.setNew (d := w.heap.size + 1 + 1) (o := 6) (y := .int .i64 Q.1.d) (KeepsBut.setNew (d := w.heap.size + 1 + 1) (o := 5) (y := .slice ao9 n9 c9) (KeepsBut.setNew (d := w.heap.size + 1 + 1) (o := 4) (y := .bool b9) (KeepsBut.setNew (d := w.heap.size + 1 + 1) (o := 3) (y := .slice ao8 n8 c8) (KeepsBut.setNew (d := w.heap.size + 1 + 1) (o := 2) (y := .bool b8) (KeepsBut.setNew (d := w.heap.size + 1 + 1) (o := 1) (y := .slice ao7 n7 c7) (KeepsBut.setNew (d := w.heap.size + 1 + 1) (o := 0) (y := .bool b7) (KeepsBut.of_kp kq0) (by have := ge1res; omega)) (by have := ge1res; omega)) (by have := ge1res; omega)) (by have := ge1res; omega)) (by have := ge1res; omega)) (by have := ge1res; omega)) (by have := ge1res; omega)) (.cells #[.bool b7, .slice ao7 n7 c7, .bool b8, .slice ao8 n8 c8, .bool b9, .slice ao9 n9 c9, .int .i64 Q.1.d] 58))⟩


set_option maxHeartbeats 1600000 in
theorem operate_bad (s : ByteArray) (i : Int) (er ea c : Int) (p : Nat) (a : Rs) (bq : Qn) (m : Nat) (b : Nat) (u v : Value) (w : World) (hB : Blk w b #[.string s, .int .i64 i, .int .i64 er, .int .i64 ea] 84) (ha : XN w u a.v) (hb : XN w v bq) (h1 : er = 0) (h2 : (comb c a.v bq).2 ≠ 0) (hm : m ≤ 15000000) (fa : QF m a.v) (fb : QF m bq) (da : QD a.v) (db : QD bq) :
    Calls Tryd.prog 67 #[.pointer (some ⟨b, 0, none⟩), u, .int .u8 c, .int .i64 p, v] w (RetO b s i ⟨(comb c a.v bq).1, (comb c a.v bq).2, p⟩ w) := by
  subst h1
  have hl := hB.lt
  have hc := hB.cell
  have hf := hB.frozen
  obtain ⟨b1, ao1, n1, c1, b2, ao2, n2, c2, b3, ao3, n3, c3, rfl, hp, hq, hr⟩ := id ha
  obtain ⟨b4, ao4, n4, c4, b5, ao5, n5, c5, b6, ao6, n6, c6, rfl, hp', hq', hr'⟩ := id hb
  clear hp hq hr hp' hq' hr'
  have hB3 : Blk (((w.alloc (.cells #[.bool b1, .slice ao1 n1 c1, .bool b2, .slice ao2 n2 c2, .bool b3, .slice ao3 n3 c3, .int .i64 a.v.d] 58)).alloc (.cells #[.bool b4, .slice ao4 n4 c4, .bool b5, .slice ao5 n5 c5, .bool b6, .slice ao6 n6 c6, .int .i64 bq.d] 58)).alloc (.cells #[.bool false, .slice none 0 0, .bool false, .slice none 0 0, .bool false, .slice none 0 0, .int .i64 0] 58)) b #[.string s, .int .i64 i, .int .i64 0, .int .i64 ea] 84 := Blk.alloc (Blk.alloc (Blk.alloc hB (.cells #[.bool b1, .slice ao1 n1 c1, .bool b2, .slice ao2 n2 c2, .bool b3, .slice ao3 n3 c3, .int .i64 a.v.d] 58)) (.cells #[.bool b4, .slice ao4 n4 c4, .bool b5, .slice ao5 n5 c5, .bool b6, .slice ao6 n6 c6, .int .i64 bq.d] 58)) (.cells #[.bool false, .slice none 0 0, .bool false, .slice none 0 0, .bool false, .slice none 0 0, .int .i64 0] 58)
  have hc3 := hB3.cell
  have hl3 := hB3.lt
  go_enter Tryd.func67, Tryd.ntmps67
  go_wp2_with fail
  have kp0 : Kp w _ := (Kp.alloc' (Kp.alloc' (Kp.alloc' (Below.refl w.heap.size w) (.cells #[.bool b1, .slice ao1 n1 c1, .bool b2, .slice ao2 n2 c2, .bool b3, .slice ao3 n3 c3, .int .i64 a.v.d] 58)) (.cells #[.bool b4, .slice ao4 n4 c4, .bool b5, .slice ao5 n5 c5, .bool b6, .slice ao6 n6 c6, .int .i64 bq.d] 58)) (.cells #[.bool false, .slice none 0 0, .bool false, .slice none 0 0, .bool false, .slice none 0 0, .int .i64 0] 58))
  have sf0 : Sf 2 w _ := (Sf.alloc (Sf.alloc (Sf.alloc (Sf.refl 2 w) (.cells #[.bool b1, .slice ao1 n1 c1, .bool b2, .slice ao2 n2 c2, .bool b3, .slice ao3 n3 c3, .int .i64 a.v.d] 58)) (.cells #[.bool b4, .slice ao4 n4 c4, .bool b5, .slice ao5 n5 c5, .bool b6, .slice ao6 n6 c6, .int .i64 bq.d] 58)) (.cells #[.bool false, .slice none 0 0, .bool false, .slice none 0 0, .bool false, .slice none 0 0, .int .i64 0] 58))
  refine (combine_any c a.v bq m _ _ _ (ha.soft sf0) (hb.soft sf0) hm fa fb da db).mono ?_
  rintro e w1 ⟨v1, rfl, hv1, hk1⟩
  obtain ⟨b7, ao7, n7, c7, b8, ao8, n8, c8, b9, ao9, n9, c9, rfl, g1, g2, g3⟩ := id hv1
  clear g1 g2 g3
  replace hB : Blk w1 b #[.string s, .int .i64 i, .int .i64 0, .int .i64 ea] 84 := Blk.keep hk1 (Blk.alloc (Blk.alloc (Blk.alloc hB _) _) _)
  replace hc := hB.cell
  replace hf := hB.frozen
  have hl1 := hB.lt
  clear hB3 hc3 hl3
  have kq0 := kp0.trans' hk1
  have sq0 := sf0.trans (Sf.keep hk1)
  have B1res : Blk w1 (w.heap.size + 1 + 1) #[.bool false, .slice none 0 0, .bool false, .slice none 0 0, .bool false, .slice none 0 0, .int .i64 0] 58 := Blk.keep hk1 (Blk.at (Blk.new _ _ _) (by simp))
  have B1resc := B1res.cell
  have B1resf := B1res.frozen
  have B1resl := B1res.lt
  have ge1res : w.heap.size ≤ w.heap.size + 1 + 1 := by (first | omega | (have := kp0.size; simp only [World.size_alloc, size_setCell', size_drew'] at this; omega))
  generalize hQ : comb c a.v bq = Q at *
  have e2 : (Q.2 != 0) = true := by simp [h2]
  clear h2
  go_wp2_with fail
  refine bodyPost_ret (v := .agg #[.bool b7, .slice ao7 n7 c7, .bool b8, .slice ao8 n8 c8, .bool b9, .slice ao9 n9 c9, .int .i64 Q.1.d]) (by simp [results, Tryd.results67, go_sem, B1resc, B1resl]) rfl ?_
  exact ⟨_, rfl, hv1.soft (Sf.alloc (Sf.set (t := 58) (c := w.heap.size + 1 + 1) (o := 6) (y := .int .i64 Q.1.d) (Sf.set (t := 58) (c := w.heap.size + 1 + 1) (o := 5) (y := .slice ao9 n9 c9) (Sf.set (t := 58) (c := w.heap.size + 1 + 1) (o := 4) (y := .bool b9) (Sf.set (t := 58) (c := w.heap.size + 1 + 1) (o := 3) (y := .slice ao8 n8 c8) (Sf.set (t := 58) (c := w.heap.size + 1 + 1) (o := 2) (y := .bool b8) (Sf.set (t := 58) (c := w.heap.size + 1 + 1) (o := 1) (y := .slice ao7 n7 c7) (Sf.set (t := 58) (c := w.heap.size + 1 + 1) (o := 0) (y := .bool b7) (Sf.set (t := 84) (c := b) (o := 3) (y := .int .i64 p) (Sf.set (t := 84) (c := b) (o := 2) (y := .int .i64 Q.2) (Sf.refl 2 w1) (by first | (simp only [elemOf_setCell]; exact hB.elem) | exact hB.elem) (by decide)) (by first | (simp only [elemOf_setCell]; exact hB.elem) | exact hB.elem) (by decide)) (by first | (simp only [elemOf_setCell]; exact B1res.elem) | exact B1res.elem) (by decide)) (by first | (simp only [elemOf_setCell]; exact B1res.elem) | exact B1res.elem) (by decide)) (by first | (simp only [elemOf_setCell]; exact B1res.elem) | exact B1res.elem) (by decide)) (by first | (simp only [elemOf_setCell]; exact B1res.elem) | exact B1res.elem) (by decide)) (by first | (simp only [elemOf_setCell]; exact B1res.elem) | exact B1res.elem) (by decide)) (by first | (simp only [elemOf_setCell]; exact B1res.elem) | exact B1res.elem) (by decide)) (by first | (simp only [elemOf_setCell]; exact B1res.elem) | exact B1res.elem) (by decide)) (.cells #[.bool b7, .slice ao7 n7 c7, .bool b8, .slice ao8 n8 c8, .bool b9, .slice ao9 n9 c9, .int .i64 Q.1.d] 58)), (Blk.alloc (Blk.other (Blk.other (Blk.other (Blk.other (Blk.other (Blk.other (Blk.other (Blk.set (o := 3) (y := .int .i64 p) (Blk.set (o := 2) (y := .int .i64 Q.2) hB)) (by omega)) (by omega)) (by omega)) (by omega)) (by omega)) (by omega)) (by omega)) (.cells #[.bool b7, .slice ao7 n7 c7, .bool b8, .slice ao8 n8 c8, .bool b9, .slice ao9 n9 c9, .int .i64 Q.1.d] 58)), (KeepsBut.alloc (KeepsBut.setNew (d := w.heap.size + 1 + 1) (o := 6) (y := .int .i64 Q.1.d) (KeepsBut.setNew (d := w.heap.size + 1 + 1) (o := 5) (y := .slice ao9 n9 c9) (KeepsBut.setNew (d := w.heap.size + 1 + 1) (o := 4) (y := .bool b9) (KeepsBut.setNew (d := w.heap.size + 1 + 1) (o := 3) (y := .slice ao8 n8 c8) (KeepsBut.setNew (d := w.heap.size + 1 + 1) (o := 2) (y := .bool b8) (KeepsBut.setNew (d := w.heap.size + 1 + 1) (o := 1) (y := .slice ao7 n7 c7) (KeepsBut.setNew (d := w.heap.size + 1 + 1) (o := 0) (y := .bool b7) (KeepsBut.setCell (KeepsBut.setCell (KeepsBut.of_kp kq0) 2 (.int .i64 Q.2)) 3 (.int .i64 p)) (by have := ge1res; omega)) (by have := ge1res; omega)) (by have := ge1res; omega)) (by have := ge1res; omega)) (by have := ge1res; omega)) (by have := ge1res; omega)) (by have := ge1res; omega)) (.cells #[.bool b7, .slice ao7 n7 c7, .bool b8, .slice ao8 n8 c8, .bool b9, .slice ao9 n9 c9, .int .i64 Q.1.d] 58))⟩

end Go.Proofs.YtjahbjjekednfaaDoor
