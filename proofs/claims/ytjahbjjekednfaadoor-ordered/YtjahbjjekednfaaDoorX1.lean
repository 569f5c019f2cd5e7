import Derived.Test.YtjahbjjekednfaaDoorSoft
namespace Go.Proofs.YtjahbjjekednfaaDoor
open Go.RowKit

set_option maxHeartbeats 1600000 in
theorem sumOfProducts_any (x y z t : Int) (m : Nat) (u v u' v' : Value) (w : World) (hx : WN w u x) (hy : WN w v y) (hz : WN w u' z) (ht : WN w v' t) (hm : m ≤ 150000000) (fx : Ft m x) (fy : Ft m y) (fz : Ft m z) (ft : Ft m t) :
    Calls Tryd.prog 46 #[u, v, u', v'] w (RetW w (x * y + z * t)) := by
  obtain ⟨b1, ao1, n1, c1, rfl⟩ := hx.shape'
  obtain ⟨b2, ao2, n2, c2, rfl⟩ := hy.shape'
  obtain ⟨b3, ao3, n3, c3, rfl⟩ := hz.shape'
  obtain ⟨b4, ao4, n4, c4, rfl⟩ := ht.shape'
  go_enter Tryd.func46, Tryd.ntmps46
  go_wp2_with fail
  have kp0 : Kp w _ := (Kp.alloc' (Kp.alloc' (Kp.alloc' (Kp.alloc' (Kp.alloc' (Below.refl w.heap.size w) (.cells #[.bool b1, .slice ao1 n1 c1] 56)) (.cells #[.bool b2, .slice ao2 n2 c2] 56)) (.cells #[.bool b3, .slice ao3 n3 c3] 56)) (.cells #[.bool b4, .slice ao4 n4 c4] 56)) (.cells #[.bool false, .slice none 0 0] 56))
  have sf0 : Sf 2 w _ := (Sf.alloc (Sf.alloc (Sf.alloc (Sf.alloc (Sf.alloc (Sf.refl 2 w) (.cells #[.bool b1, .slice ao1 n1 c1] 56)) (.cells #[.bool b2, .slice ao2 n2 c2] 56)) (.cells #[.bool b3, .slice ao3 n3 c3] 56)) (.cells #[.bool b4, .slice ao4 n4 c4] 56)) (.cells #[.bool false, .slice none 0 0] 56))
  refine (multiply_any x y _ _ _ (hx.soft sf0) (hy.soft sf0) (fx.fit (by omega)) (fy.fit (by omega))).mono ?_
  rintro e w1 ⟨v1, rfl, hv1, hk1⟩
  obtain ⟨b5, ao5, n5, c5, rfl⟩ := hv1.shape'
  have kq0 := kp0.trans' hk1
  have sq0 := sf0.trans (Sf.keep hk1)
  have B1p3 : Blk w1 (w.heap.size + 1 + 1) #[.bool b3, .slice ao3 n3 c3] 56 := Blk.keep hk1 (Blk.at (Blk.alloc (Blk.alloc (Blk.new _ _ _) _) _) (by simp))
  have B1p4 : Blk w1 (w.heap.size + 1 + 1 + 1) #[.bool b4, .slice ao4 n4 c4] 56 := Blk.keep hk1 (Blk.at (Blk.alloc (Blk.new _ _ _) _) (by simp))
  have B1res : Blk w1 (w.heap.size + 1 + 1 + 1 + 1) #[.bool false, .slice none 0 0] 56 := Blk.keep hk1 (Blk.at (Blk.new _ _ _) (by simp))
  have B1p3c := B1p3.cell
  have B1p3f := B1p3.frozen
  have B1p3l := B1p3.lt
  have ge1p3 : w.heap.size ≤ w.heap.size + 1 + 1 := by (first | omega | (have := kp0.size; simp only [World.size_alloc, size_setCell', size_drew'] at this; omega))
  have B1p4c := B1p4.cell
  have B1p4f := B1p4.frozen
  have B1p4l := B1p4.lt
  have ge1p4 : w.heap.size ≤ w.heap.size + 1 + 1 + 1 := by (first | omega | (have := kp0.size; simp only [World.size_alloc, size_setCell', size_drew'] at this; omega))
  have B1resc := B1res.cell
  have B1resf := B1res.frozen
  have B1resl := B1res.lt
  have ge1res : w.heap.size ≤ w.heap.size + 1 + 1 + 1 + 1 := by (first | omega | (have := kp0.size; simp only [World.size_alloc, size_setCell', size_drew'] at this; omega))
  replace hz := hz.soft sq0
  replace ht := ht.soft sq0
  go_wp2_with fail
  have kp1 : Kp w _ := (Kp.alloc' kq0 (.cells #[.bool b5, .slice ao5 n5 c5] 56))
  have sf1 : Sf 2 w1 _ := (Sf.alloc (Sf.refl 2 w1) (.cells #[.bool b5, .slice ao5 n5 c5] 56))
  refine (multiply_any z t _ _ _ (hz.soft sf1) (ht.soft sf1) (fz.fit (by omega)) (ft.fit (by omega))).mono ?_
  rintro e w2 ⟨v2, rfl, hv2, hk2⟩
  obtain ⟨b6, ao6, n6, c6, rfl⟩ := hv2.shape'
  have kq1 := kp1.trans' hk2
  have sq1 := sf1.trans (Sf.keep hk2)
  have B2res : Blk w2 (w.heap.size + 1 + 1 + 1 + 1) #[.bool false, .slice none 0 0] 56 := Blk.keep hk2 (Blk.alloc B1res _)
  have B2first : Blk w2 (w1.heap.size) #[.bool b5, .slice ao5 n5 c5] 56 := Blk.keep hk2 (Blk.at (Blk.new _ _ _) (by simp))
  have B2resc := B2res.cell
  have B2resf := B2res.frozen
  have B2resl := B2res.lt
  have ge2res : w.heap.size ≤ w.heap.size + 1 + 1 + 1 + 1 := by (first | omega | (have := kp1.size; simp only [World.size_alloc, size_setCell', size_drew'] at this; omega))
  have B2firstc := B2first.cell
  have B2firstf := B2first.frozen
  have B2firstl := B2first.lt
  have ge2first : w.heap.size ≤ w1.heap.size := by (first | omega | (have := kp1.size; simp only [World.size_alloc, size_setCell', size_drew'] at this; omega))
  replace hv1 := hv1.soft sq1
  clear B1p3 B1p3c B1p3f B1p4 B1p4c B1p4f B1res B1resc B1resf
  go_wp2_with fail
  have kp2 : Kp w _ := (Kp.alloc' kq1 (.cells #[.bool b6, .slice ao6 n6 c6] 56))
  have sf2 : Sf 2 w2 _ := (Sf.alloc (Sf.refl 2 w2) (.cells #[.bool b6, .slice ao6 n6 c6] 56))
  refine (add_any (x * y) (z * t) _ _ _ (hv1.soft sf2) (hv2.soft sf2) ((fx.mul fy).fit (by omega)) ((fz.mul ft).fit (by omega))).mono ?_
  rintro e w3 ⟨v3, rfl, hv3, hk3⟩
  obtain ⟨b7, ao7, n7, c7, rfl⟩ := hv3.shape'
  have kq2 := kp2.trans' hk3
  have sq2 := sf2.trans (Sf.keep hk3)
  have B3res : Blk w3 (w.heap.size + 1 + 1 + 1 + 1) #[.bool false, .slice none 0 0] 56 := Blk.keep hk3 (Blk.alloc B2res _)
  have B3resc := B3res.cell
  have B3resf := B3res.frozen
  have B3resl := B3res.lt
  have ge3res : w.heap.size ≤ w.heap.size + 1 + 1 + 1 + 1 := by (first | omega | (have := kp2.size; simp only [World.size_alloc, size_setCell', size_drew'] at this; omega))
  clear B2res B2resc B2resf B2first B2firstc B2firstf
  go_wp2_with fail
  refine bodyPost_ret (v := .agg #[.bool b7, .slice ao7 n7 c7]) (by simp [results, Tryd.results46, go_sem, B3resc]) rfl ?_
  have kpE : Kp w _ := (Below.setCell (Below.setCell kq2 (p := ⟨w.heap.size + 1 + 1 + 1 + 1, 0, none⟩) (by have := ge3res; omega) (.bool b7)) (p := ⟨w.heap.size + 1 + 1 + 1 + 1, 1, none⟩) (by have := ge3res; omega) (.slice ao7 n7 c7))
  have sfE : Sf 2 w3 _ := (Sf.set (t := 56) (c := w.heap.size + 1 + 1 + 1 + 1) (o := 1) (y := .slice ao7 n7 c7) (Sf.set (t := 56) (c := w.heap.size + 1 + 1 + 1 + 1) (o := 0) (y := .bool b7) (Sf.refl 2 w3) (by first | (simp only [elemOf_setCell]; exact B3res.elem) | exact B3res.elem) (by decide)) (by first | (simp only [elemOf_setCell]; exact B3res.elem) | exact B3res.elem) (by decide))
  exact retW_mk hv3 sfE kpE

set_option maxHeartbeats 1600000 in
theorem timesRoot_any (x d : Int) (m : Nat) (u : Value) (w : World) (hx : WN w u x) (hm : m ≤ 150000000) (fx : Ft m x) (h0 : 0 ≤ d) (hd : d ≤ 1000000) :
    Calls Tryd.prog 134 #[u, .int .i64 d] w (RetW w (x * d)) := by
  obtain ⟨b1, ao1, n1, c1, rfl⟩ := hx.shape'
  go_enter Tryd.func134, Tryd.ntmps134
  go_wp2_with fail
  have kp0 : Kp w _ := (Kp.alloc' (Kp.alloc' (Below.refl w.heap.size w) (.cells #[.bool b1, .slice ao1 n1 c1] 56)) (.cells #[.bool false, .slice none 0 0] 56))
  have sf0 : Sf 2 w _ := (Sf.alloc (Sf.alloc (Sf.refl 2 w) (.cells #[.bool b1, .slice ao1 n1 c1] 56)) (.cells #[.bool false, .slice none 0 0] 56))
  refine (fromInt_any d _ h0 (by omega)).mono ?_
  rintro e w1 ⟨v1, rfl, hv1, hk1⟩
  obtain ⟨b2, ao2, n2, c2, rfl⟩ := hv1.shape'
  have kq0 := kp0.trans' hk1
  have sq0 := sf0.trans (Sf.keep hk1)
  have B1p1 : Blk w1 (w.heap.size) #[.bool b1, .slice ao1 n1 c1] 56 := Blk.keep hk1 (Blk.at (Blk.alloc (Blk.new _ _ _) _) (by simp))
  have B1res : Blk w1 (w.heap.size + 1) #[.bool false, .slice none 0 0] 56 := Blk.keep hk1 (Blk.at (Blk.new _ _ _) (by simp))
  have B1p1c := B1p1.cell
  have B1p1f := B1p1.frozen
  have B1p1l := B1p1.lt
  have ge1p1 : w.heap.size ≤ w.heap.size := by (first | omega | (have := kp0.size; simp only [World.size_alloc, size_setCell', size_drew'] at this; omega))
  have B1resc := B1res.cell
  have B1resf := B1res.frozen
  have B1resl := B1res.lt
  have ge1res : w.heap.size ≤ w.heap.size + 1 := by (first | omega | (have := kp0.size; simp only [World.size_alloc, size_setCell', size_drew'] at this; omega))
  replace hx := hx.soft sq0
  go_wp2_with fail
  have kp1 : Kp w _ := (Kp.alloc' kq0 (.cells #[.bool b2, .slice ao2 n2 c2] 56))
  have sf1 : Sf 2 w1 _ := (Sf.alloc (Sf.refl 2 w1) (.cells #[.bool b2, .slice ao2 n2 c2] 56))
  have fd : Ft 7 d := by unfold Ft; omega
  refine (multiply_any x d _ _ _ (hx.soft sf1) (hv1.soft sf1) (fx.fit (by omega)) (fd.fit (by omega))).mono ?_
  rintro e w2 ⟨v2, rfl, hv2, hk2⟩
  obtain ⟨b3, ao3, n3, c3, rfl⟩ := hv2.shape'
  have kq1 := kp1.trans' hk2
  have sq1 := sf1.trans (Sf.keep hk2)
  have B2res : Blk w2 (w.heap.size + 1) #[.bool false, .slice none 0 0] 56 := Blk.keep hk2 (Blk.alloc B1res _)
  have B2resc := B2res.cell
  have B2resf := B2res.frozen
  have B2resl := B2res.lt
  have ge2res : w.heap.size ≤ w.heap.size + 1 := by (first | omega | (have := kp1.size; simp only [World.size_alloc, size_setCell', size_drew'] at this; omega))
  clear B1p1 B1p1c B1p1f B1res B1resc B1resf
  go_wp2_with fail
  refine bodyPost_ret (v := .agg #[.bool b3, .slice ao3 n3 c3]) (by simp [results, Tryd.results134, go_sem, B2resc]) rfl ?_
  have kpE : Kp w _ := (Below.setCell (Below.setCell kq1 (p := ⟨w.heap.size + 1, 0, none⟩) (by have := ge2res; omega) (.bool b3)) (p := ⟨w.heap.size + 1, 1, none⟩) (by have := ge2res; omega) (.slice ao3 n3 c3))
  have sfE : Sf 2 w2 _ := (Sf.set (t := 56) (c := w.heap.size + 1) (o := 1) (y := .slice ao3 n3 c3) (Sf.set (t := 56) (c := w.heap.size + 1) (o := 0) (y := .bool b3) (Sf.refl 2 w2) (by first | (simp only [elemOf_setCell]; exact B2res.elem) | exact B2res.elem) (by decide)) (by first | (simp only [elemOf_setCell]; exact B2res.elem) | exact B2res.elem) (by decide))
  exact retW_mk hv2 sfE kpE

end Go.Proofs.YtjahbjjekednfaaDoor
