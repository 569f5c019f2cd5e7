import Derived.Test.YtjahbjjekednfaaDoorR5
namespace Go.Proofs.YtjahbjjekednfaaDoor
open Go.RowKit

theorem plus_ge (x y : Int) (u v : Value) (w : World) (hx : IN w u x) (hy : IN w v y) (fx : Fit x) (hle : y.natAbs ≤ x.natAbs) : Calls Tryd.prog 100 #[u, v] w (RetI w (x + y)) := by
  obtain ⟨ao, n, c, rfl, hs⟩ := hx
  obtain ⟨ao', n', c', rfl, hs'⟩ := hy
  by_cases h1 : x < 0
  · rw [decide_eq_true h1]
    by_cases h2 : y < 0
    · rw [decide_eq_true h2]
      have := plus_tt (x.natAbs : Int) (y.natAbs : Int) ao ao' n c n' c' w hs hs' (fit_abs fx) (by omega)
      rwa [show signed true ((x.natAbs : Int) + 1 * (y.natAbs : Int)) = x + y by unfold signed; simp; omega] at this
    · rw [decide_eq_false h2]
      have := plus_tf (x.natAbs : Int) (y.natAbs : Int) ao ao' n c n' c' w hs hs' (fit_abs fx) (by omega)
      rwa [show signed true ((x.natAbs : Int) + (-1) * (y.natAbs : Int)) = x + y by unfold signed; simp; omega] at this
  · rw [decide_eq_false h1]
    by_cases h2 : y < 0
    · rw [decide_eq_true h2]
      have := plus_ft (x.natAbs : Int) (y.natAbs : Int) ao ao' n c n' c' w hs hs' (fit_abs fx) (by omega)
      rwa [show signed false ((x.natAbs : Int) + (-1) * (y.natAbs : Int)) = x + y by unfold signed; simp; omega] at this
    · rw [decide_eq_false h2]
      have := plus_ff (x.natAbs : Int) (y.natAbs : Int) ao ao' n c n' c' w hs hs' (fit_abs fx) (by omega)
      rwa [show signed false ((x.natAbs : Int) + 1 * (y.natAbs : Int)) = x + y by unfold signed; simp; omega] at this

theorem IN.rb {w : World} {b : Bool} {ao : Option Addr} {n c : Nat} {z : Int} (h : IN w (.agg #[.bool b, .slice ao n c]) z) : Rb w (.slice ao n c) (z.natAbs : Int) := by
  obtain ⟨ao', n', c', h1, h2⟩ := h
  simp only [Value.agg.injEq, Array.mk.injEq, List.cons.injEq, Value.slice.injEq, and_true] at h1
  obtain ⟨_, rfl, rfl, rfl⟩ := h1
  exact h2

set_option maxHeartbeats 1600000 in
theorem plus_lt (x y : Int) (u v : Value) (w : World) (hx : IN w u x) (hy : IN w v y) (fy : Fit y) (hlt : x.natAbs < y.natAbs) : Calls Tryd.prog 100 #[u, v] w (RetI w (x + y)) := by
  obtain ⟨b1, ao1, n1, c1, rfl⟩ := hx.shape'
  obtain ⟨b2, ao2, n2, c2, rfl⟩ := hy.shape'
  have HC := Hid.mk (cmp3_lt (x := (x.natAbs : Int)) (y := (y.natAbs : Int)) (by omega))
  go_enter Tryd.func100, Tryd.ntmps100
  go_wp2_with fail
  have kp0 : Kp w _ := (Kp.alloc' (Kp.alloc' (Kp.alloc' (Below.refl w.heap.size w) (.cells #[.bool b1, .slice ao1 n1 c1] 64)) (.cells #[.bool b2, .slice ao2 n2 c2] 64)) (.cells #[.bool false, .slice none 0 0] 64))
  have sf0 : Sf 3 w _ := (Sf.alloc (Sf.alloc (Sf.alloc (Sf.refl 3 w) (.cells #[.bool b1, .slice ao1 n1 c1] 64)) (.cells #[.bool b2, .slice ao2 n2 c2] 64)) (.cells #[.bool false, .slice none 0 0] 64))
  refine (order_any _ _ _ _ _ (hx.soft sf0).rb (hy.soft sf0).rb).mono ?_
  rintro e w1 ⟨rfl, hk1⟩
  rw [HC.out]
  have kq0 := kp0.trans' hk1
  have sq0 := sf0.trans (Sf.keep hk1)
  have B1x : Blk w1 (w.heap.size) #[.bool b1, .slice ao1 n1 c1] 64 := Blk.keep hk1 (Blk.at (Blk.alloc (Blk.alloc (Blk.new _ _ _) _) _) (by simp))
  have B1y : Blk w1 (w.heap.size + 1) #[.bool b2, .slice ao2 n2 c2] 64 := Blk.keep hk1 (Blk.at (Blk.alloc (Blk.new _ _ _) _) (by simp))
  have B1res : Blk w1 (w.heap.size + 1 + 1) #[.bool false, .slice none 0 0] 64 := Blk.keep hk1 (Blk.at (Blk.new _ _ _) (by simp))
  have B1xc := B1x.cell
  have B1xf := B1x.frozen
  have B1xl := B1x.lt
  have ge1x : w.heap.size ≤ w.heap.size := by (first | omega | (have := kp0.size; simp only [World.size_alloc, size_setCell', size_drew'] at this; omega))
  have B1yc := B1y.cell
  have B1yf := B1y.frozen
  have B1yl := B1y.lt
  have ge1y : w.heap.size ≤ w.heap.size + 1 := by (first | omega | (have := kp0.size; simp only [World.size_alloc, size_setCell', size_drew'] at this; omega))
  have B1resc := B1res.cell
  have B1resf := B1res.frozen
  have B1resl := B1res.lt
  have ge1res : w.heap.size ≤ w.heap.size + 1 + 1 := by (first | omega | (have := kp0.size; simp only [World.size_alloc, size_setCell', size_drew'] at this; omega))
  replace hx := hx.soft sq0
  replace hy := hy.soft sq0
  go_wp2_with fail
  have kp1 : Kp w _ := kq0
  have sf1 : Sf 3 w1 _ := (Sf.refl 3 w1)
  refine (plus_ge y x _ _ _ (hy.soft sf1) (hx.soft sf1) fy (by omega)).mono ?_
  rintro e w2 ⟨v2, rfl, hv2, hk2⟩
  obtain ⟨b3, ao3, n3, c3, rfl⟩ := hv2.shape'
  rw [Int.add_comm] at hv2
  have kq1 := kp1.trans' hk2
  have sq1 := sf1.trans (Sf.keep hk2)
  have B2res : Blk w2 (w.heap.size + 1 + 1) #[.bool false, .slice none 0 0] 64 := Blk.keep hk2 B1res
  have B2resc := B2res.cell
  have B2resf := B2res.frozen
  have B2resl := B2res.lt
  have ge2res : w.heap.size ≤ w.heap.size + 1 + 1 := by (first | omega | (have := kp1.size; simp only [World.size_alloc, size_setCell', size_drew'] at this; omega))
  clear B1x B1xc B1xf B1y B1yc B1yf B1res B1resc B1resf
  go_wp2_with fail
  refine bodyPost_ret (v := .agg #[.bool b3, .slice ao3 n3 c3]) (by simp [results, Tryd.results100, go_sem, B2resc]) rfl ?_
  have kpE : Kp w _ := (Below.setCell (Below.setCell kq1 (p := ⟨w.heap.size + 1 + 1, 0, none⟩) (by have := ge2res; omega) (.bool b3)) (p := ⟨w.heap.size + 1 + 1, 1, none⟩) (by have := ge2res; omega) (.slice ao3 n3 c3))
  have sfE : Sf 3 w2 _ := (Sf.set (t := 64) (c := w.heap.size + 1 + 1) (o := 1) (y := .slice ao3 n3 c3) (Sf.set (t := 64) (c := w.heap.size + 1 + 1) (o := 0) (y := .bool b3) (Sf.refl 3 w2) (by first | (simp only [elemOf_setCell]; exact B2res.elem) | exact B2res.elem) (by decide)) (by first | (simp only [elemOf_setCell]; exact B2res.elem) | exact B2res.elem) (by decide))
  exact retI_mk hv2 sfE kpE

theorem rplus_any (x y : Int) (u v : Value) (w : World) (hx : IN w u x) (hy : IN w v y) (fx : Fit x) (fy : Fit y) : Calls Tryd.prog 100 #[u, v] w (RetI w (x + y)) := by
  rcases Nat.lt_or_ge x.natAbs y.natAbs with h | h
  · exact plus_lt x y u v w hx hy fy h
  · exact plus_ge x y u v w hx hy fx h

set_option maxHeartbeats 1600000 in
set_option maxRecDepth 100000 in
theorem rminus_any (x y : Int) (u v : Value) (w : World) (hx : IN w u x) (hy : IN w v y) (fx : Fit x) (fy : Fit y) : Calls Tryd.prog 102 #[u, v] w (RetI w (x - y)) := by
  obtain ⟨b1, ao1, n1, c1, rfl⟩ := hx.shape'
  obtain ⟨b2, ao2, n2, c2, rfl⟩ := hy.shape'
  have fy' : Fit (-y) := by obtain ⟨n, h1, h2⟩ := fy; exact ⟨n, h1, by rwa [Int.natAbs_neg]⟩
  have kp0 : Kp w _ := ((kp_alloc w (.cells #[.bool b1, .slice ao1 n1 c1] 64)).alloc' (.cells #[.bool b2, .slice ao2 n2 c2] 64)).alloc' (.cells #[.bool false, .slice none 0 0] 64)
  have X0 := (hx.keep (Kp.drew' kp0))
  have Y0 := (hy.keep (Kp.drew' kp0))
  have BX : Blk _ w.heap.size #[.bool b1, .slice ao1 n1 c1] 64 := Blk.drew (Blk.alloc (Blk.alloc (Blk.new w _ _) (.cells #[.bool b2, .slice ao2 n2 c2] 64)) (.cells #[.bool false, .slice none 0 0] 64))
  have BY : Blk _ (w.heap.size + 1) #[.bool b2, .slice ao2 n2 c2] 64 := Blk.drew (Blk.alloc (Blk.at (Blk.new (w.alloc (.cells #[.bool b1, .slice ao1 n1 c1] 64)) _ _) (by simp)) (.cells #[.bool false, .slice none 0 0] 64))
  have B2 : Blk _ (w.heap.size + 1 + 1) #[.bool false, .slice none 0 0] 64 := Blk.drew (Blk.at (Blk.new ((w.alloc (.cells #[.bool b1, .slice ao1 n1 c1] 64)).alloc (.cells #[.bool b2, .slice ao2 n2 c2] 64)) _ _) (by simp))
  have kp0' := Kp.drew' kp0
  clear hx hy
  go_enter Tryd.func102, Tryd.ntmps102
  go_wp2_with fail
  go_region_held3 (fun w' => w'.cell? ⟨w.heap.size, 0, none⟩ = some (.bool b1) ∧ w'.cell? ⟨w.heap.size, 1, none⟩ = some (.slice ao1 n1 c1) ∧ w'.cell? ⟨w.heap.size + 1, 0, none⟩ = some (.bool b2) ∧ w'.cell? ⟨w.heap.size + 1, 1, none⟩ = some (.slice ao2 n2 c2))
    (first | (go_keep; done) | (simp [BXc, BYc]; done) | (exact ⟨Blk.cell (Blk.other (Blk.other BX2 (by omega)) (by omega)) 0, Blk.cell (Blk.other (Blk.other BX2 (by omega)) (by omega)) 1, Blk.cell (Blk.other (Blk.other BY2 (by omega)) (by omega)) 0, Blk.cell (Blk.other (Blk.other BY2 (by omega)) (by omega)) 1⟩))
    ((first
      | (go_at_call 94; refine (less_any y _ _ Y0).mono ?_; rintro e w1 ⟨v1, rfl, hv1, hk1⟩; obtain ⟨b3, ao3, n3, c3, rfl⟩ := hv1.shape'; have BXc := (BX.keep hk1).cell; have BYc := (BY.keep hk1).cell)
      | (go_at_call 100; refine (rplus_any x (-y) _ _ _ (X0.keep hk1) hv1 fx fy').mono ?_; rintro e w2 ⟨v2, rfl, hv2, hk2⟩; obtain ⟨b4, ao4, n4, c4, rfl⟩ := hv2.shape'; have BX2 := BX.keep (hk1.trans' hk2); have BXc := BX2.cell; have BY2 := BY.keep (hk1.trans' hk2); have BYc := BY2.cell; have B2e := B2.keep (hk1.trans' hk2); have B2c := B2e.cell; have B2f := B2e.frozen; have B2l := B2e.lt)))
  all_goals go_wp2_with fail
  refine bodyPost_ret (v := .agg #[.bool b4, .slice ao4 n4 c4]) (by simp [results, Tryd.results102, go_sem, B2c]) rfl ?_
  rw [← Int.sub_eq_add_neg] at hv2
  refine retI_mk hv2 (Sf.set (t := 64) (Sf.set (Sf.refl _ _) B2e.elem (by decide)) (by simp only [elemOf_setCell]; exact B2e.elem) (by decide)) (Below.setCell (Below.setCell (kp0'.trans' (hk1.trans' hk2)) ?_ _) ?_ _)
  · show w.heap.size ≤ w.heap.size + 1 + 1; omega
  · show w.heap.size ≤ w.heap.size + 1 + 1; omega

set_option maxHeartbeats 1600000 in
theorem rcmp_any (x y : Int) (u v : Value) (w : World) (hx : IN w u x) (hy : IN w v y) (fx : Fit x) (fy : Fit y) : Calls Tryd.prog 138 #[u, v] w (RetV w (.int .i64 (x - y).sign)) := by
  obtain ⟨b1, ao1, n1, c1, rfl⟩ := hx.shape'
  obtain ⟨b2, ao2, n2, c2, rfl⟩ := hy.shape'
  go_enter Tryd.func138, Tryd.ntmps138
  go_wp2_with fail
  have kp0 : Kp w _ := (Kp.alloc' (Kp.alloc' (Below.refl w.heap.size w) (.cells #[.bool b1, .slice ao1 n1 c1] 64)) (.cells #[.bool b2, .slice ao2 n2 c2] 64))
  have sf0 : Sf 3 w _ := (Sf.alloc (Sf.alloc (Sf.refl 3 w) (.cells #[.bool b1, .slice ao1 n1 c1] 64)) (.cells #[.bool b2, .slice ao2 n2 c2] 64))
  refine (rminus_any x y _ _ _ (hx.soft sf0) (hy.soft sf0) fx fy).mono ?_
  rintro e w1 ⟨v1, rfl, hv1, hk1⟩
  obtain ⟨b3, ao3, n3, c3, rfl⟩ := hv1.shape'
  have kq0 := kp0.trans' hk1
  have sq0 := sf0.trans (Sf.keep hk1)
  go_wp2_with fail
  have kp1 : Kp w _ := kq0
  have sf1 : Sf 3 w1 _ := (Sf.refl 3 w1)
  refine (rsign_any (x - y) _ _ (hv1.soft sf1)).mono ?_
  rintro e w2 ⟨rfl, hk2⟩
  have kq1 := kp1.trans' hk2
  have sq1 := sf1.trans (Sf.keep hk2)
  generalize (x - y).sign = sg at *
  go_wp2_with fail
  go_ret
  exact ⟨rfl, kq1⟩

end Go.Proofs.YtjahbjjekednfaaDoor
