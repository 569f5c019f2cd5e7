import Derived.Test.YtjahbjjekednfaaDoorSoft
import Derived.Test.YtjahbjjekednfaaDoorF1
import Derived.Test.YtjahbjjekednfaaDoorV1
/-! A struct of 16 cells, written whole. -/
namespace Go.Proofs.YtjahbjjekednfaaDoor
open Go.RowKit

theorem sf16 {E t : TypeId} {w : World} {A : Nat} {cs : Array Value} (x0 x1 x2 x3 x4 x5 x6 x7 x8 x9 x10 x11 x12 x13 x14 x15 : Value) (h : Blk w A cs t) (ht : t ≠ E) : Sf E w ((((((((((((((((w.setCell ⟨A, 0, none⟩ x0).setCell ⟨A, 1, none⟩ x1).setCell ⟨A, 2, none⟩ x2).setCell ⟨A, 3, none⟩ x3).setCell ⟨A, 4, none⟩ x4).setCell ⟨A, 5, none⟩ x5).setCell ⟨A, 6, none⟩ x6).setCell ⟨A, 7, none⟩ x7).setCell ⟨A, 8, none⟩ x8).setCell ⟨A, 9, none⟩ x9).setCell ⟨A, 10, none⟩ x10).setCell ⟨A, 11, none⟩ x11).setCell ⟨A, 12, none⟩ x12).setCell ⟨A, 13, none⟩ x13).setCell ⟨A, 14, none⟩ x14).setCell ⟨A, 15, none⟩ x15) :=
 (Sf.set (t := t) (c := A) (o := 15) (y := x15) (Sf.set (t := t) (c := A) (o := 14) (y := x14) (Sf.set (t := t) (c := A) (o := 13) (y := x13) (Sf.set (t := t) (c := A) (o := 12) (y := x12) (Sf.set (t := t) (c := A) (o := 11) (y := x11) (Sf.set (t := t) (c := A) (o := 10) (y := x10) (Sf.set (t := t) (c := A) (o := 9) (y := x9) (Sf.set (t := t) (c := A) (o := 8) (y := x8) (Sf.set (t := t) (c := A) (o := 7) (y := x7) (Sf.set (t := t) (c := A) (o := 6) (y := x6) (Sf.set (t := t) (c := A) (o := 5) (y := x5) (Sf.set (t := t) (c := A) (o := 4) (y := x4) (Sf.set (t := t) (c := A) (o := 3) (y := x3) (Sf.set (t := t) (c := A) (o := 2) (y := x2) (Sf.set (t := t) (c := A) (o := 1) (y := x1) (Sf.set (t := t) (c := A) (o := 0) (y := x0) (Sf.refl E w) h.elem ht) (by simp only [elemOf_setCell]; exact h.elem) ht) (by simp only [elemOf_setCell]; exact h.elem) ht) (by simp only [elemOf_setCell]; exact h.elem) ht) (by simp only [elemOf_setCell]; exact h.elem) ht) (by simp only [elemOf_setCell]; exact h.elem) ht) (by simp only [elemOf_setCell]; exact h.elem) ht) (by simp only [elemOf_setCell]; exact h.elem) ht) (by simp only [elemOf_setCell]; exact h.elem) ht) (by simp only [elemOf_setCell]; exact h.elem) ht) (by simp only [elemOf_setCell]; exact h.elem) ht) (by simp only [elemOf_setCell]; exact h.elem) ht) (by simp only [elemOf_setCell]; exact h.elem) ht) (by simp only [elemOf_setCell]; exact h.elem) ht) (by simp only [elemOf_setCell]; exact h.elem) ht) (by simp only [elemOf_setCell]; exact h.elem) ht)
theorem kp16 {a w : World} {A : Nat} (x0 x1 x2 x3 x4 x5 x6 x7 x8 x9 x10 x11 x12 x13 x14 x15 : Value) (h : Kp a w) (hA : a.heap.size ≤ A) : Kp a ((((((((((((((((w.setCell ⟨A, 0, none⟩ x0).setCell ⟨A, 1, none⟩ x1).setCell ⟨A, 2, none⟩ x2).setCell ⟨A, 3, none⟩ x3).setCell ⟨A, 4, none⟩ x4).setCell ⟨A, 5, none⟩ x5).setCell ⟨A, 6, none⟩ x6).setCell ⟨A, 7, none⟩ x7).setCell ⟨A, 8, none⟩ x8).setCell ⟨A, 9, none⟩ x9).setCell ⟨A, 10, none⟩ x10).setCell ⟨A, 11, none⟩ x11).setCell ⟨A, 12, none⟩ x12).setCell ⟨A, 13, none⟩ x13).setCell ⟨A, 14, none⟩ x14).setCell ⟨A, 15, none⟩ x15) :=
 (Below.setCell (Below.setCell (Below.setCell (Below.setCell (Below.setCell (Below.setCell (Below.setCell (Below.setCell (Below.setCell (stK7 (A := A) (x0) (x1) (x2) (x3) (x4) (x5) (x6) h hA) (p := ⟨A, 7, none⟩) hA x7) (p := ⟨A, 8, none⟩) hA x8) (p := ⟨A, 9, none⟩) hA x9) (p := ⟨A, 10, none⟩) hA x10) (p := ⟨A, 11, none⟩) hA x11) (p := ⟨A, 12, none⟩) hA x12) (p := ⟨A, 13, none⟩) hA x13) (p := ⟨A, 14, none⟩) hA x14) (p := ⟨A, 15, none⟩) hA x15)
theorem ot16 {w : World} {A b : Nat} {cs : Array Value} {t : TypeId} (x0 x1 x2 x3 x4 x5 x6 x7 x8 x9 x10 x11 x12 x13 x14 x15 : Value) (h : Blk w b cs t) (hb : b ≠ A) : Blk ((((((((((((((((w.setCell ⟨A, 0, none⟩ x0).setCell ⟨A, 1, none⟩ x1).setCell ⟨A, 2, none⟩ x2).setCell ⟨A, 3, none⟩ x3).setCell ⟨A, 4, none⟩ x4).setCell ⟨A, 5, none⟩ x5).setCell ⟨A, 6, none⟩ x6).setCell ⟨A, 7, none⟩ x7).setCell ⟨A, 8, none⟩ x8).setCell ⟨A, 9, none⟩ x9).setCell ⟨A, 10, none⟩ x10).setCell ⟨A, 11, none⟩ x11).setCell ⟨A, 12, none⟩ x12).setCell ⟨A, 13, none⟩ x13).setCell ⟨A, 14, none⟩ x14).setCell ⟨A, 15, none⟩ x15) b cs t :=
 (Blk.other (c := A) (o := 15) (y := x15) (Blk.other (c := A) (o := 14) (y := x14) (Blk.other (c := A) (o := 13) (y := x13) (Blk.other (c := A) (o := 12) (y := x12) (Blk.other (c := A) (o := 11) (y := x11) (Blk.other (c := A) (o := 10) (y := x10) (Blk.other (c := A) (o := 9) (y := x9) (Blk.other (c := A) (o := 8) (y := x8) (Blk.other (c := A) (o := 7) (y := x7) (Blk.other (c := A) (o := 6) (y := x6) (Blk.other (c := A) (o := 5) (y := x5) (Blk.other (c := A) (o := 4) (y := x4) (Blk.other (c := A) (o := 3) (y := x3) (Blk.other (c := A) (o := 2) (y := x2) (Blk.other (c := A) (o := 1) (y := x1) (Blk.other (c := A) (o := 0) (y := x0) h hb) hb) hb) hb) hb) hb) hb) hb) hb) hb) hb) hb) hb) hb) hb) hb)
theorem bl16 {w : World} {A : Nat} {t : TypeId} {y0 y1 y2 y3 y4 y5 y6 y7 y8 y9 y10 y11 y12 y13 y14 y15 : Value} (x0 x1 x2 x3 x4 x5 x6 x7 x8 x9 x10 x11 x12 x13 x14 x15 : Value) (h : Blk w A #[y0, y1, y2, y3, y4, y5, y6, y7, y8, y9, y10, y11, y12, y13, y14, y15] t) : Blk ((((((((((((((((w.setCell ⟨A, 0, none⟩ x0).setCell ⟨A, 1, none⟩ x1).setCell ⟨A, 2, none⟩ x2).setCell ⟨A, 3, none⟩ x3).setCell ⟨A, 4, none⟩ x4).setCell ⟨A, 5, none⟩ x5).setCell ⟨A, 6, none⟩ x6).setCell ⟨A, 7, none⟩ x7).setCell ⟨A, 8, none⟩ x8).setCell ⟨A, 9, none⟩ x9).setCell ⟨A, 10, none⟩ x10).setCell ⟨A, 11, none⟩ x11).setCell ⟨A, 12, none⟩ x12).setCell ⟨A, 13, none⟩ x13).setCell ⟨A, 14, none⟩ x14).setCell ⟨A, 15, none⟩ x15) A #[x0, x1, x2, x3, x4, x5, x6, x7, x8, x9, x10, x11, x12, x13, x14, x15] t := by
 have h' := (Blk.set (o := 15) (y := x15) (Blk.set (o := 14) (y := x14) (Blk.set (o := 13) (y := x13) (Blk.set (o := 12) (y := x12) (Blk.set (o := 11) (y := x11) (Blk.set (o := 10) (y := x10) (Blk.set (o := 9) (y := x9) (Blk.set (o := 8) (y := x8) (Blk.set (o := 7) (y := x7) (Blk.set (o := 6) (y := x6) (Blk.set (o := 5) (y := x5) (Blk.set (o := 4) (y := x4) (Blk.set (o := 3) (y := x3) (Blk.set (o := 2) (y := x2) (Blk.set (o := 1) (y := x1) (Blk.set (o := 0) (y := x0) h))))))))))))))))
 simp only [List.setIfInBounds_toArray, List.set_cons_zero, List.set_cons_succ] at h'
 exact h'
open Go.RowKit

/-- v is the fraction x/y. -/
def FR (w : World) (v : Value) (x y : Int) : Prop := ∃ b1 ao1 n1 c1 b2 ao2 n2 c2, v = .agg #[.bool b1, .slice ao1 n1 c1, .bool b2, .slice ao2 n2 c2] ∧ WN w (.agg #[.bool b1, .slice ao1 n1 c1]) x ∧ WN w (.agg #[.bool b2, .slice ao2 n2 c2]) y
def RetFR (w : World) (x y : Int) (e : Ending) (w' : World) : Prop := ∃ v, e = .returned v ∧ FR w' v x y ∧ Kp w w'
theorem FR.soft {w W : World} {v : Value} {x y : Int} (hs : Sf 2 w W) (h : FR w v x y) : FR W v x y := by
 obtain ⟨b1, ao1, n1, c1, b2, ao2, n2, c2, e, h1, h2⟩ := h
 exact ⟨b1, ao1, n1, c1, b2, ao2, n2, c2, e, h1.soft hs, h2.soft hs⟩
/-- v is the walk: the rest, the last value and the one ahead of it. -/
def WK (w : World) (v : Value) (p q n lp lq ap aq : Int) : Prop := ∃ b1 ao1 n1 c1 b2 ao2 n2 c2 b3 ao3 n3 c3 b4 ao4 n4 c4 b5 ao5 n5 c5 b6 ao6 n6 c6 b7 ao7 n7 c7 b8 ao8 n8 c8, v = .agg #[.bool b1, .slice ao1 n1 c1, .bool b2, .slice ao2 n2 c2, .bool b3, .slice ao3 n3 c3, .bool b4, .slice ao4 n4 c4, .bool b5, .slice ao5 n5 c5, .bool b6, .slice ao6 n6 c6, .bool b7, .slice ao7 n7 c7, .bool b8, .slice ao8 n8 c8] ∧
 WN w (.agg #[.bool b1, .slice ao1 n1 c1]) p ∧ WN w (.agg #[.bool b2, .slice ao2 n2 c2]) q ∧ WN w (.agg #[.bool b3, .slice ao3 n3 c3]) n ∧ WN w (.agg #[.bool b4, .slice ao4 n4 c4]) (isq n.toNat : Nat) ∧
 WN w (.agg #[.bool b5, .slice ao5 n5 c5]) lp ∧ WN w (.agg #[.bool b6, .slice ao6 n6 c6]) lq ∧ WN w (.agg #[.bool b7, .slice ao7 n7 c7]) ap ∧ WN w (.agg #[.bool b8, .slice ao8 n8 c8]) aq
def RetWK (w : World) (p q n lp lq ap aq : Int) (e : Ending) (w' : World) : Prop := ∃ v, e = .returned v ∧ WK w' v p q n lp lq ap aq ∧ Kp w w'
theorem WK.soft {w W : World} {v : Value} {p q n lp lq ap aq : Int} (hs : Sf 2 w W) (h : WK w v p q n lp lq ap aq) : WK W v p q n lp lq ap aq := by
 obtain ⟨b1, ao1, n1, c1, b2, ao2, n2, c2, b3, ao3, n3, c3, b4, ao4, n4, c4, b5, ao5, n5, c5, b6, ao6, n6, c6, b7, ao7, n7, c7, b8, ao8, n8, c8, e, h1, h2, h3, h4, h5, h6, h7, h8⟩ := h
 exact ⟨b1, ao1, n1, c1, b2, ao2, n2, c2, b3, ao3, n3, c3, b4, ao4, n4, c4, b5, ao5, n5, c5, b6, ao6, n6, c6, b7, ao7, n7, c7, b8, ao8, n8, c8, e, h1.soft hs, h2.soft hs, h3.soft hs, h4.soft hs, h5.soft hs, h6.soft hs, h7.soft hs, h8.soft hs⟩

set_option maxHeartbeats 3200000 in
set_option maxRecDepth 100000 in
theorem with_any (p q n lp lq ap aq t : Int) (m M : Nat) (u v : Value) (w : World) (hv : WK w u p q n lp lq ap aq) (ht : WN w v t) (hm : m + M ≤ 300000000) (f1 : Ft M lp) (f2 : Ft M lq) (f3 : Ft M ap) (f4 : Ft M aq) (ft : Ft m t) :
  Calls Tryd.prog 81 #[u, v] w (RetFR w (t * lp + ap) (t * lq + aq)) := by
 obtain ⟨b1, ao1, n1, c1, b2, ao2, n2, c2, b3, ao3, n3, c3, b4, ao4, n4, c4, b5, ao5, n5, c5, b6, ao6, n6, c6, b7, ao7, n7, c7, b8, ao8, n8, c8, rfl, _, _, _, _, h5, h6, h7, h8⟩ := hv
 obtain ⟨b9, ao9, n9, c9, rfl⟩ := ht.shape'
 go_enter Tryd.func81, Tryd.ntmps81
 go_wp2_with fail
 have kp0 : Kp w _ := (Kp.alloc' (Kp.alloc' (Kp.alloc' (Below.refl w.heap.size w) (.cells #[.bool b1, .slice ao1 n1 c1, .bool b2, .slice ao2 n2 c2, .bool b3, .slice ao3 n3 c3, .bool b4, .slice ao4 n4 c4, .bool b5, .slice ao5 n5 c5, .bool b6, .slice ao6 n6 c6, .bool b7, .slice ao7 n7 c7, .bool b8, .slice ao8 n8 c8] 102)) (.cells #[.bool b9, .slice ao9 n9 c9] 56)) (.cells #[.bool false, .slice none 0 0, .bool false, .slice none 0 0] 78))
 have sf0 := Sf.keep (E := 2) kp0
 refine (multiply_any t lp _ _ _ (ht.soft sf0) (h5.soft sf0) (ft.fit (by omega)) (f1.fit (by omega))).mono ?_
 rintro e w1 ⟨vha, rfl, ha, hk1⟩
 obtain ⟨b10, ao10, n10, c10, rfl⟩ := ha.shape'
 have kq0 := kp0.trans' hk1
 have sq0 := sf0.trans (Sf.keep hk1)
 have B1px : Blk w1 (w.heap.size) #[.bool b1, .slice ao1 n1 c1, .bool b2, .slice ao2 n2 c2, .bool b3, .slice ao3 n3 c3, .bool b4, .slice ao4 n4 c4, .bool b5, .slice ao5 n5 c5, .bool b6, .slice ao6 n6 c6, .bool b7, .slice ao7 n7 c7, .bool b8, .slice ao8 n8 c8] 102 := Blk.keep hk1 (Blk.at (Blk.alloc (Blk.alloc (Blk.new _ _ _) _) _) (by simp))
 have B1pt : Blk w1 (w.heap.size + 1) #[.bool b9, .slice ao9 n9 c9] 56 := Blk.keep hk1 (Blk.at (Blk.alloc (Blk.new _ _ _) _) (by simp))
 have B1res : Blk w1 (w.heap.size + 1 + 1) #[.bool false, .slice none 0 0, .bool false, .slice none 0 0] 78 := Blk.keep hk1 (Blk.at (Blk.new _ _ _) (by simp))
 obtain ⟨B1pxc, B1pxf, B1pxl⟩ := B1px.all
 obtain ⟨B1ptc, B1ptf, B1ptl⟩ := B1pt.all
 obtain ⟨B1resc, B1resf, B1resl⟩ := B1res.all
 replace ht := ht.soft sq0
 replace h6 := h6.soft sq0
 replace h7 := h7.soft sq0
 replace h8 := h8.soft sq0
 go_wp2_with fail
 have kp1 : Kp w _ := (Kp.alloc' kq0 (.cells #[.bool b10, .slice ao10 n10 c10] 56))
 have sf1 : Sf 2 w1 _ := (Sf.alloc (Sf.refl 2 w1) (.cells #[.bool b10, .slice ao10 n10 c10] 56))
 refine (add_any (t * lp) ap _ _ _ (ha.soft sf1) (h7.soft sf1) ((ft.mul f1).fit (by omega)) (f3.fit (by omega))).mono ?_
 rintro e w2 ⟨v2, rfl, hb, hk2⟩
 obtain ⟨b11, ao11, n11, c11, rfl⟩ := hb.shape'
 have kq1 := kp1.trans' hk2
 have sq1 := sf1.trans (Sf.keep hk2)
 have B2px := Blk.keep hk2 (Blk.alloc B1px _)
 have B2pt := Blk.keep hk2 (Blk.alloc B1pt _)
 have B2res := Blk.keep hk2 (Blk.alloc B1res _)
 have B2p : Blk w2 (w1.heap.size) #[.bool b10, .slice ao10 n10 c10] 56 := Blk.keep hk2 (Blk.at (Blk.new _ _ _) (by simp))
 obtain ⟨B2pxc, B2pxf, B2pxl⟩ := B2px.all
 obtain ⟨B2ptc, B2ptf, B2ptl⟩ := B2pt.all
 obtain ⟨B2resc, B2resf, B2resl⟩ := B2res.all
 obtain ⟨B2pc, B2pf, B2pl⟩ := B2p.all
 have ge2p : w.heap.size ≤ w1.heap.size := by (first | omega | (have := kp1.size; simp only [World.size_alloc, size_setCell', size_drew'] at this; omega))
 replace ht := ht.soft sq1
 replace h6 := h6.soft sq1
 replace h8 := h8.soft sq1
 clear B1px B1pxc B1pxf B1pt B1ptc B1ptf B1res B1resc B1resf
 go_wp2_with fail
 have kp2 : Kp w _ := (stK2 (A := w1.heap.size) (.bool b11) (.slice ao11 n11 c11) kq1 (by have := ge2p; omega))
 have sf2 : Sf 2 w2 _ := (stS2 (E := 2) (.bool b11) (.slice ao11 n11 c11) B2p (by decide))
 refine (multiply_any t lq _ _ _ (ht.soft sf2) (h6.soft sf2) (ft.fit (by omega)) (f2.fit (by omega))).mono ?_
 rintro e w3 ⟨vhc, rfl, hc, hk3⟩
 obtain ⟨b12, ao12, n12, c12, rfl⟩ := hc.shape'
 have kq2 := kp2.trans' hk3
 have sq2 := sf2.trans (Sf.keep hk3)
 have B3px := Blk.keep hk3 (Blk.other (Blk.other B2px (by omega)) (by omega))
 have B3res := Blk.keep hk3 (Blk.other (Blk.other B2res (by omega)) (by omega))
 have B3p : Blk w3 (w1.heap.size) #[.bool b11, .slice ao11 n11 c11] 56 := Blk.keep hk3 (Blk.set (Blk.set B2p))
 obtain ⟨B3pxc, B3pxf, B3pxl⟩ := B3px.all
 obtain ⟨B3resc, B3resf, B3resl⟩ := B3res.all
 obtain ⟨B3pc, B3pf, B3pl⟩ := B3p.all
 replace h8 := h8.soft sq2
 replace hb := hb.soft sq2
 clear B2px B2pxc B2pxf B2pt B2ptc B2ptf B2res B2resc B2resf B2p B2pc B2pf
 go_wp2_with fail
 have kp3 : Kp w _ := (Kp.alloc' kq2 (.cells #[.bool b12, .slice ao12 n12 c12] 56))
 have sf3 : Sf 2 w3 _ := (Sf.alloc (Sf.refl 2 w3) (.cells #[.bool b12, .slice ao12 n12 c12] 56))
 refine (add_any (t * lq) aq _ _ _ (hc.soft sf3) (h8.soft sf3) ((ft.mul f2).fit (by omega)) (f4.fit (by omega))).mono ?_
 rintro e w4 ⟨v4, rfl, hd, hk4⟩
 obtain ⟨b13, ao13, n13, c13, rfl⟩ := hd.shape'
 have kq3 := kp3.trans' hk4
 have sq3 := sf3.trans (Sf.keep hk4)
 have B4res := Blk.keep hk4 (Blk.alloc B3res _)
 have B4p := Blk.keep hk4 (Blk.alloc B3p _)
 have B4q : Blk w4 (w3.heap.size) #[.bool b12, .slice ao12 n12 c12] 56 := Blk.keep hk4 (Blk.at (Blk.new _ _ _) (by simp))
 obtain ⟨B4resc, B4resf, B4resl⟩ := B4res.all
 have ge4res : w.heap.size ≤ w.heap.size + 1 + 1 := by omega
 obtain ⟨B4pc, B4pf, B4pl⟩ := B4p.all
 obtain ⟨B4qc, B4qf, B4ql⟩ := B4q.all
 have ge4q : w.heap.size ≤ w3.heap.size := by (first | omega | (have := kp3.size; simp only [World.size_alloc, size_setCell', size_drew'] at this; omega))
 replace hb := hb.soft sq3
 clear B3px B3pxc B3pxf B3res B3resc B3resf B3p B3pc B3pf
 go_wp2_with fail
 refine bodyPost_ret (v := .agg #[.bool b11, .slice ao11 n11 c11, .bool b13, .slice ao13 n13 c13]) (by simp [results, Tryd.results81, go_sem, B4resc]) rfl ?_
 have kpE : Kp w _ := (Below.setCell (Below.setCell (stK2 (A := w.heap.size + 1 + 1) (.bool b11) (.slice ao11 n11 c11) (stK2 (A := w3.heap.size) (.bool b13) (.slice ao13 n13 c13) kq3 (by have := ge4q; omega)) (by have := ge4res; omega)) (p := ⟨w.heap.size + 1 + 1, 2, none⟩) (by have := ge4res; omega) (.bool b13)) (p := ⟨w.heap.size + 1 + 1, 3, none⟩) (by have := ge4res; omega) (.slice ao13 n13 c13))
 have sfE : Sf 2 w4 _ := (Sf.set (t := 78) (c := w.heap.size + 1 + 1) (o := 3) (y := .slice ao13 n13 c13) (Sf.set (t := 78) (c := w.heap.size + 1 + 1) (o := 2) (y := .bool b13) (Sf.set (t := 78) (c := w.heap.size + 1 + 1) (o := 1) (y := .slice ao11 n11 c11) (Sf.set (t := 78) (c := w.heap.size + 1 + 1) (o := 0) (y := .bool b11) (stS2 (E := 2) (.bool b13) (.slice ao13 n13 c13) B4q (by decide)) (by first | (simp only [elemOf_setCell]; exact B4res.elem) | exact B4res.elem) (by decide)) (by first | (simp only [elemOf_setCell]; exact B4res.elem) | exact B4res.elem) (by decide)) (by first | (simp only [elemOf_setCell]; exact B4res.elem) | exact B4res.elem) (by decide)) (by first | (simp only [elemOf_setCell]; exact B4res.elem) | exact B4res.elem) (by decide))
 exact ⟨_, rfl, ⟨b11, ao11, n11, c11, b13, ao13, n13, c13, rfl, hb.soft sfE, hd.soft sfE⟩, kpE⟩
open Go.RowKit

set_option maxHeartbeats 3200000 in
set_option maxRecDepth 100000 in
theorem wnext_any (p q n lp lq ap aq : Int) (m M : Nat) (u : Value) (w : World) (hv : WK w u p q n lp lq ap aq) (hm : m ≤ 30000000) (hM : M ≤ 260000000) (fp : Ft m p) (fq : Ft m q) (fn : Ft m n) (fr : Ft m ((isq n.toNat : Nat) : Int)) (hq0 : q ≠ 0) (hn0 : 0 ≤ n)
  (f1 : Ft M lp) (f2 : Ft M lq) (f3 : Ft M ap) (f4 : Ft M aq) :
  Calls Tryd.prog 59 #[u] w (RetWK w (nxp p q n) (nxq p q n) n (trm p q n * lp + ap) (trm p q n * lq + aq) lp lq) := by
 have ft := trm_ft fp fq fr hq0
 have HN := fun (v : Value) (W : World) (hW : RR W v p q n) => next_any p q n m v W hW (by omega) fp fq fn fr hq0 hn0
 obtain ⟨b1, ao1, n1, c1, b2, ao2, n2, c2, b3, ao3, n3, c3, b4, ao4, n4, c4, b5, ao5, n5, c5, b6, ao6, n6, c6, b7, ao7, n7, c7, b8, ao8, n8, c8, rfl, h1, h2, h3, h4, h5, h6, h7, h8⟩ := id hv
 have hR : RR w (.agg #[.bool b1, .slice ao1 n1 c1, .bool b2, .slice ao2 n2 c2, .bool b3, .slice ao3 n3 c3, .bool b4, .slice ao4 n4 c4]) p q n := ⟨b1, ao1, n1, c1, b2, ao2, n2, c2, b3, ao3, n3, c3, b4, ao4, n4, c4, rfl, h1, h2, h3, h4⟩
 clear h1 h2 h3 h4 h7 h8
 generalize trm p q n = t at *
 generalize nxp p q n = x at *
 generalize nxq p q n = y at *
 go_enter Tryd.func59, Tryd.ntmps59
 go_wp2_with fail
 have kp0 : Kp w _ := (Kp.alloc' (Kp.alloc' (Below.refl w.heap.size w) (.cells #[.bool b1, .slice ao1 n1 c1, .bool b2, .slice ao2 n2 c2, .bool b3, .slice ao3 n3 c3, .bool b4, .slice ao4 n4 c4, .bool b5, .slice ao5 n5 c5, .bool b6, .slice ao6 n6 c6, .bool b7, .slice ao7 n7 c7, .bool b8, .slice ao8 n8 c8] 102)) (.cells #[.bool false, .slice none 0 0, .bool false, .slice none 0 0, .bool false, .slice none 0 0, .bool false, .slice none 0 0, .bool false, .slice none 0 0, .bool false, .slice none 0 0, .bool false, .slice none 0 0, .bool false, .slice none 0 0] 102))
 have sf0 := Sf.keep (E := 2) kp0
 refine (HN _ _ (hR.soft sf0)).mono ?_
 rintro e w1 ⟨v1, v2, rfl, ht, hr, hk1⟩
 obtain ⟨b9, ao9, n9, c9, rfl⟩ := ht.shape'
 obtain ⟨b10, ao10, n10, c10, b11, ao11, n11, c11, b12, ao12, n12, c12, b13, ao13, n13, c13, rfl, g1, g2, g3, g4⟩ := hr
 clear HN
 have kq0 := kp0.trans' hk1
 have sq0 := sf0.trans (Sf.keep hk1)
 have B1px : Blk w1 (w.heap.size) #[.bool b1, .slice ao1 n1 c1, .bool b2, .slice ao2 n2 c2, .bool b3, .slice ao3 n3 c3, .bool b4, .slice ao4 n4 c4, .bool b5, .slice ao5 n5 c5, .bool b6, .slice ao6 n6 c6, .bool b7, .slice ao7 n7 c7, .bool b8, .slice ao8 n8 c8] 102 := Blk.keep hk1 (Blk.at (Blk.alloc (Blk.new _ _ _) _) (by simp))
 have B1res : Blk w1 (w.heap.size + 1) #[.bool false, .slice none 0 0, .bool false, .slice none 0 0, .bool false, .slice none 0 0, .bool false, .slice none 0 0, .bool false, .slice none 0 0, .bool false, .slice none 0 0, .bool false, .slice none 0 0, .bool false, .slice none 0 0] 102 := Blk.keep hk1 (Blk.at (Blk.new _ _ _) (by simp))
 obtain ⟨B1pxc, B1pxf, B1pxl⟩ := B1px.all
 have ge1px : w.heap.size ≤ w.heap.size := by omega
 obtain ⟨B1resc, B1resf, B1resl⟩ := B1res.all
 have ge1res : w.heap.size ≤ w.heap.size + 1 := by omega
 replace hv := hv.soft sq0
 replace h5 := h5.soft sq0
 replace h6 := h6.soft sq0
 have Tpx : Blk ((w1.alloc (.cells #[.bool b9, .slice ao9 n9 c9] 56)).alloc (.cells #[.bool b10, .slice ao10 n10 c10, .bool b11, .slice ao11 n11 c11, .bool b12, .slice ao12 n12 c12, .bool b13, .slice ao13 n13 c13] 72)) (w.heap.size) #[.bool b1, .slice ao1 n1 c1, .bool b2, .slice ao2 n2 c2, .bool b3, .slice ao3 n3 c3, .bool b4, .slice ao4 n4 c4, .bool b5, .slice ao5 n5 c5, .bool b6, .slice ao6 n6 c6, .bool b7, .slice ao7 n7 c7, .bool b8, .slice ao8 n8 c8] 102 := Blk.alloc (Blk.alloc B1px _) _
 obtain ⟨Tpxc, Tpxf, Tpxl⟩ := Tpx.all
 have Tres : Blk ((w1.alloc (.cells #[.bool b9, .slice ao9 n9 c9] 56)).alloc (.cells #[.bool b10, .slice ao10 n10 c10, .bool b11, .slice ao11 n11 c11, .bool b12, .slice ao12 n12 c12, .bool b13, .slice ao13 n13 c13] 72)) (w.heap.size + 1) #[.bool false, .slice none 0 0, .bool false, .slice none 0 0, .bool false, .slice none 0 0, .bool false, .slice none 0 0, .bool false, .slice none 0 0, .bool false, .slice none 0 0, .bool false, .slice none 0 0, .bool false, .slice none 0 0] 102 := Blk.alloc (Blk.alloc B1res _) _
 obtain ⟨Tresc, Tresf, Tresl⟩ := Tres.all
 go_wp2_with fail
 have kp1 : Kp w _ := (Kp.alloc' (Kp.alloc' kq0 (.cells #[.bool b9, .slice ao9 n9 c9] 56)) (.cells #[.bool b10, .slice ao10 n10 c10, .bool b11, .slice ao11 n11 c11, .bool b12, .slice ao12 n12 c12, .bool b13, .slice ao13 n13 c13] 72))
 have sf1 : Sf 2 w1 _ := (Sf.alloc (Sf.alloc (Sf.refl 2 w1) (.cells #[.bool b9, .slice ao9 n9 c9] 56)) (.cells #[.bool b10, .slice ao10 n10 c10, .bool b11, .slice ao11 n11 c11, .bool b12, .slice ao12 n12 c12, .bool b13, .slice ao13 n13 c13] 72))
 clear Tpx Tpxc Tpxf Tpxl Tres Tresc Tresf Tresl
 refine (with_any p q n lp lq ap aq t (m + 1 + 1) M _ _ _ (hv.soft sf1) (ht.soft sf1) (by omega) f1 f2 f3 f4 ft).mono ?_
 rintro e w2 ⟨v3, rfl, hf, hk2⟩
 obtain ⟨b14, ao14, n14, c14, b15, ao15, n15, c15, rfl, e1, e2⟩ := hf
 have kq1 := kp1.trans' hk2
 have sq1 := sf1.trans (Sf.keep hk2)
 have B2px := Blk.keep hk2 (Blk.alloc (Blk.alloc B1px _) _)
 have B2res := Blk.keep hk2 (Blk.alloc (Blk.alloc B1res _) _)
 have B2rest : Blk w2 (w1.heap.size + 1) #[.bool b10, .slice ao10 n10 c10, .bool b11, .slice ao11 n11 c11, .bool b12, .slice ao12 n12 c12, .bool b13, .slice ao13 n13 c13] 72 := Blk.keep hk2 (Blk.at (Blk.new _ _ _) (by simp))
 obtain ⟨B2pxc, B2pxf, B2pxl⟩ := B2px.all
 have ge2px : w.heap.size ≤ w.heap.size := by omega
 obtain ⟨B2resc, B2resf, B2resl⟩ := B2res.all
 have ge2res : w.heap.size ≤ w.heap.size + 1 := by omega
 obtain ⟨B2restc, B2restf, B2restl⟩ := B2rest.all
 replace h5 := h5.soft sq1
 replace h6 := h6.soft sq1
 replace g1 := g1.soft sq1
 replace g2 := g2.soft sq1
 replace g3 := g3.soft sq1
 replace g4 := g4.soft sq1
 clear B1px B1pxc B1pxf B1res B1resc B1resf
 go_wp2_with fail
 refine bodyPost_ret (v := .agg #[.bool b10, .slice ao10 n10 c10, .bool b11, .slice ao11 n11 c11, .bool b12, .slice ao12 n12 c12, .bool b13, .slice ao13 n13 c13, .bool b14, .slice ao14 n14 c14, .bool b15, .slice ao15 n15 c15, .bool b5, .slice ao5 n5 c5, .bool b6, .slice ao6 n6 c6]) (by simp [results, Tryd.results59, go_sem, B2resc, B2resl]) rfl ?_
 have kpE : Kp w _ := (Kp.alloc' (kp16 (A := w.heap.size + 1) (.bool b10) (.slice ao10 n10 c10) (.bool b11) (.slice ao11 n11 c11) (.bool b12) (.slice ao12 n12 c12) (.bool b13) (.slice ao13 n13 c13) (.bool b14) (.slice ao14 n14 c14) (.bool b15) (.slice ao15 n15 c15) (.bool b5) (.slice ao5 n5 c5) (.bool b6) (.slice ao6 n6 c6) kq1 (by have := ge2res; omega)) (.cells #[.bool b14, .slice ao14 n14 c14, .bool b15, .slice ao15 n15 c15] 78))
 have sfE : Sf 2 w2 _ := (Sf.alloc (sf16 (E := 2) (.bool b10) (.slice ao10 n10 c10) (.bool b11) (.slice ao11 n11 c11) (.bool b12) (.slice ao12 n12 c12) (.bool b13) (.slice ao13 n13 c13) (.bool b14) (.slice ao14 n14 c14) (.bool b15) (.slice ao15 n15 c15) (.bool b5) (.slice ao5 n5 c5) (.bool b6) (.slice ao6 n6 c6) B2res (by decide)) (.cells #[.bool b14, .slice ao14 n14 c14, .bool b15, .slice ao15 n15 c15] 78))
 exact ⟨_, rfl, ⟨b10, ao10, n10, c10, b11, ao11, n11, c11, b12, ao12, n12, c12, b13, ao13, n13, c13, b14, ao14, n14, c14, b15, ao15, n15, c15, b5, ao5, n5, c5, b6, ao6, n6, c6, rfl, g1.soft sfE, g2.soft sfE, g3.soft sfE, g4.soft sfE, e1.soft sfE, e2.soft sfE, h5.soft sfE, h6.soft sfE⟩, kpE⟩

set_option maxHeartbeats 3200000 in
set_option maxRecDepth 100000 in
theorem begin_core (a : Qn) (x y n : Int) (v : Value) (w : World) (hv : XN w v a) (HO : ∀ (W : World), XN W v a → Calls Tryd.prog 33 #[v] W (RetRR W x y n)) : Calls Tryd.prog 58 #[v] w (RetWK w x y n 1 0 0 1) := by
 obtain ⟨b1, ao1, n1, c1, b2, ao2, n2, c2, b3, ao3, n3, c3, rfl, _, _, _⟩ := id hv
 go_enter Tryd.func58, Tryd.ntmps58
 go_wp2_with fail
 have kp0 : Kp w _ := (Kp.alloc' (Kp.alloc' (Below.refl w.heap.size w) (.cells #[.bool b1, .slice ao1 n1 c1, .bool b2, .slice ao2 n2 c2, .bool b3, .slice ao3 n3 c3, .int .i64 a.d] 58)) (.cells #[.bool false, .slice none 0 0, .bool false, .slice none 0 0, .bool false, .slice none 0 0, .bool false, .slice none 0 0, .bool false, .slice none 0 0, .bool false, .slice none 0 0, .bool false, .slice none 0 0, .bool false, .slice none 0 0] 102))
 have sf0 := Sf.keep (E := 2) kp0
 refine (fromInt_any 0 _ (by decide) (by decide)).mono ?_
 rintro e w1 ⟨v1, rfl, hz, hk1⟩
 obtain ⟨b4, ao4, n4, c4, rfl⟩ := hz.shape'
 have kq0 := kp0.trans' hk1
 have sq0 := sf0.trans (Sf.keep hk1)
 have B1px : Blk w1 (w.heap.size) #[.bool b1, .slice ao1 n1 c1, .bool b2, .slice ao2 n2 c2, .bool b3, .slice ao3 n3 c3, .int .i64 a.d] 58 := Blk.keep hk1 (Blk.at (Blk.alloc (Blk.new _ _ _) _) (by simp))
 have B1res : Blk w1 (w.heap.size + 1) #[.bool false, .slice none 0 0, .bool false, .slice none 0 0, .bool false, .slice none 0 0, .bool false, .slice none 0 0, .bool false, .slice none 0 0, .bool false, .slice none 0 0, .bool false, .slice none 0 0, .bool false, .slice none 0 0] 102 := Blk.keep hk1 (Blk.at (Blk.new _ _ _) (by simp))
 obtain ⟨B1pxc, B1pxf, B1pxl⟩ := B1px.all
 obtain ⟨B1resc, B1resf, B1resl⟩ := B1res.all
 replace hv := hv.soft sq0
 go_wp2_with fail
 have kp1 : Kp w _ := (Kp.alloc' kq0 (.cells #[.bool b4, .slice ao4 n4 c4] 56))
 have sf1 : Sf 2 w1 _ := (Sf.alloc (Sf.refl 2 w1) (.cells #[.bool b4, .slice ao4 n4 c4] 56))
 refine (fromInt_any 1 _ (by decide) (by decide)).mono ?_
 rintro e w2 ⟨v2, rfl, ho, hk2⟩
 obtain ⟨b5, ao5, n5, c5, rfl⟩ := ho.shape'
 have kq1 := kp1.trans' hk2
 have sq1 := sf1.trans (Sf.keep hk2)
 have B2px := Blk.keep hk2 (Blk.alloc B1px _)
 have B2res := Blk.keep hk2 (Blk.alloc B1res _)
 have B2zero : Blk w2 (w1.heap.size) #[.bool b4, .slice ao4 n4 c4] 56 := Blk.keep hk2 (Blk.at (Blk.new _ _ _) (by simp))
 obtain ⟨B2pxc, B2pxf, B2pxl⟩ := B2px.all
 obtain ⟨B2resc, B2resf, B2resl⟩ := B2res.all
 obtain ⟨B2zeroc, B2zerof, B2zerol⟩ := B2zero.all
 replace hv := hv.soft sq1
 replace hz := hz.soft sq1
 clear B1px B1pxc B1pxf B1res B1resc B1resf
 have T0px : Blk (w2.alloc (.cells #[.bool b5, .slice ao5 n5 c5] 56)) (w.heap.size) #[.bool b1, .slice ao1 n1 c1, .bool b2, .slice ao2 n2 c2, .bool b3, .slice ao3 n3 c3, .int .i64 a.d] 58 := (Blk.alloc B2px _)
 have T0pxc := T0px.cell
 have T0pxl := T0px.lt
 have T0res : Blk (w2.alloc (.cells #[.bool b5, .slice ao5 n5 c5] 56)) (w.heap.size + 1) #[.bool false, .slice none 0 0, .bool false, .slice none 0 0, .bool false, .slice none 0 0, .bool false, .slice none 0 0, .bool false, .slice none 0 0, .bool false, .slice none 0 0, .bool false, .slice none 0 0, .bool false, .slice none 0 0] 102 := (Blk.alloc B2res _)
 have T0resc := T0res.cell
 have T0resl := T0res.lt
 have T0zero : Blk (w2.alloc (.cells #[.bool b5, .slice ao5 n5 c5] 56)) (w1.heap.size) #[.bool b4, .slice ao4 n4 c4] 56 := (Blk.alloc B2zero _)
 have T0zeroc := T0zero.cell
 have T0zerol := T0zero.lt
 have T1px : Blk ((w2.alloc (.cells #[.bool b5, .slice ao5 n5 c5] 56)).alloc (.cells #[.bool b5, .slice ao5 n5 c5, .bool b4, .slice ao4 n4 c4] 78)) (w.heap.size) #[.bool b1, .slice ao1 n1 c1, .bool b2, .slice ao2 n2 c2, .bool b3, .slice ao3 n3 c3, .int .i64 a.d] 58 := (Blk.alloc (Blk.alloc B2px _) _)
 have T1pxc := T1px.cell
 have T1pxl := T1px.lt
 have T1res : Blk ((w2.alloc (.cells #[.bool b5, .slice ao5 n5 c5] 56)).alloc (.cells #[.bool b5, .slice ao5 n5 c5, .bool b4, .slice ao4 n4 c4] 78)) (w.heap.size + 1) #[.bool false, .slice none 0 0, .bool false, .slice none 0 0, .bool false, .slice none 0 0, .bool false, .slice none 0 0, .bool false, .slice none 0 0, .bool false, .slice none 0 0, .bool false, .slice none 0 0, .bool false, .slice none 0 0] 102 := (Blk.alloc (Blk.alloc B2res _) _)
 have T1resc := T1res.cell
 have T1resl := T1res.lt
 have T1zero : Blk ((w2.alloc (.cells #[.bool b5, .slice ao5 n5 c5] 56)).alloc (.cells #[.bool b5, .slice ao5 n5 c5, .bool b4, .slice ao4 n4 c4] 78)) (w1.heap.size) #[.bool b4, .slice ao4 n4 c4] 56 := (Blk.alloc (Blk.alloc B2zero _) _)
 have T1zeroc := T1zero.cell
 have T1zerol := T1zero.lt
 have T2px : Blk (((w2.alloc (.cells #[.bool b5, .slice ao5 n5 c5] 56)).alloc (.cells #[.bool b5, .slice ao5 n5 c5, .bool b4, .slice ao4 n4 c4] 78)).alloc (.cells #[.bool b4, .slice ao4 n4 c4, .bool b5, .slice ao5 n5 c5] 78)) (w.heap.size) #[.bool b1, .slice ao1 n1 c1, .bool b2, .slice ao2 n2 c2, .bool b3, .slice ao3 n3 c3, .int .i64 a.d] 58 := (Blk.alloc (Blk.alloc (Blk.alloc B2px _) _) _)
 have T2pxc := T2px.cell
 have T2pxl := T2px.lt
 have T2res : Blk (((w2.alloc (.cells #[.bool b5, .slice ao5 n5 c5] 56)).alloc (.cells #[.bool b5, .slice ao5 n5 c5, .bool b4, .slice ao4 n4 c4] 78)).alloc (.cells #[.bool b4, .slice ao4 n4 c4, .bool b5, .slice ao5 n5 c5] 78)) (w.heap.size + 1) #[.bool false, .slice none 0 0, .bool false, .slice none 0 0, .bool false, .slice none 0 0, .bool false, .slice none 0 0, .bool false, .slice none 0 0, .bool false, .slice none 0 0, .bool false, .slice none 0 0, .bool false, .slice none 0 0] 102 := (Blk.alloc (Blk.alloc (Blk.alloc B2res _) _) _)
 have T2resc := T2res.cell
 have T2resl := T2res.lt
 have T2zero : Blk (((w2.alloc (.cells #[.bool b5, .slice ao5 n5 c5] 56)).alloc (.cells #[.bool b5, .slice ao5 n5 c5, .bool b4, .slice ao4 n4 c4] 78)).alloc (.cells #[.bool b4, .slice ao4 n4 c4, .bool b5, .slice ao5 n5 c5] 78)) (w1.heap.size) #[.bool b4, .slice ao4 n4 c4] 56 := (Blk.alloc (Blk.alloc (Blk.alloc B2zero _) _) _)
 have T2zeroc := T2zero.cell
 have T2zerol := T2zero.lt
 go_wp2_with fail
 have kp2 : Kp w _ := (Kp.alloc' (Kp.alloc' (Kp.alloc' kq1 (.cells #[.bool b5, .slice ao5 n5 c5] 56)) (.cells #[.bool b5, .slice ao5 n5 c5, .bool b4, .slice ao4 n4 c4] 78)) (.cells #[.bool b4, .slice ao4 n4 c4, .bool b5, .slice ao5 n5 c5] 78))
 have sf2 : Sf 2 w2 _ := (Sf.alloc (Sf.alloc (Sf.alloc (Sf.refl 2 w2) (.cells #[.bool b5, .slice ao5 n5 c5] 56)) (.cells #[.bool b5, .slice ao5 n5 c5, .bool b4, .slice ao4 n4 c4] 78)) (.cells #[.bool b4, .slice ao4 n4 c4, .bool b5, .slice ao5 n5 c5] 78))
 refine (HO _ (hv.soft sf2)).mono ?_
 rintro e w3 ⟨v3, rfl, hr, hk3⟩
 obtain ⟨b6, ao6, n6, c6, b7, ao7, n7, c7, b8, ao8, n8, c8, b9, ao9, n9, c9, rfl, g1, g2, g3, g4⟩ := hr
 clear T0px T0pxc T0pxl T0res T0resc T0resl T0zero T0zeroc T0zerol T1px T1pxc T1pxl T1res T1resc T1resl T1zero T1zeroc T1zerol T2px T2pxc T2pxl T2res T2resc T2resl T2zero T2zeroc T2zerol
 have kq2 := kp2.trans' hk3
 have sq2 := sf2.trans (Sf.keep hk3)
 have B3res := Blk.keep hk3 (Blk.alloc (Blk.alloc (Blk.alloc B2res _) _) _)
 have B3last : Blk w3 (w2.heap.size + 1) #[.bool b5, .slice ao5 n5 c5, .bool b4, .slice ao4 n4 c4] 78 := Blk.keep hk3 (Blk.at (Blk.alloc (Blk.new _ _ _) _) (by simp))
 have B3ahead : Blk w3 (w2.heap.size + 1 + 1) #[.bool b4, .slice ao4 n4 c4, .bool b5, .slice ao5 n5 c5] 78 := Blk.keep hk3 (Blk.at (Blk.new _ _ _) (by simp))
 obtain ⟨B3resc, B3resf, B3resl⟩ := B3res.all
 have ge3res : w.heap.size ≤ w.heap.size + 1 := by omega
 obtain ⟨B3lastc, B3lastf, B3lastl⟩ := B3last.all
 obtain ⟨B3aheadc, B3aheadf, B3aheadl⟩ := B3ahead.all
 replace hz := hz.soft sq2
 replace ho := ho.soft sq2
 clear B2px B2pxc B2pxf B2res B2resc B2resf B2zero B2zeroc B2zerof
 go_wp2_with fail
 refine bodyPost_ret (v := .agg #[.bool b6, .slice ao6 n6 c6, .bool b7, .slice ao7 n7 c7, .bool b8, .slice ao8 n8 c8, .bool b9, .slice ao9 n9 c9, .bool b5, .slice ao5 n5 c5, .bool b4, .slice ao4 n4 c4, .bool b4, .slice ao4 n4 c4, .bool b5, .slice ao5 n5 c5]) (by simp [results, Tryd.results58, go_sem, B3resc, B3resl]) rfl ?_
 have kpE : Kp w _ := (Kp.alloc' (kp16 (A := w.heap.size + 1) (.bool b6) (.slice ao6 n6 c6) (.bool b7) (.slice ao7 n7 c7) (.bool b8) (.slice ao8 n8 c8) (.bool b9) (.slice ao9 n9 c9) (.bool b5) (.slice ao5 n5 c5) (.bool b4) (.slice ao4 n4 c4) (.bool b4) (.slice ao4 n4 c4) (.bool b5) (.slice ao5 n5 c5) kq2 (by have := ge3res; omega)) (.cells #[.bool b6, .slice ao6 n6 c6, .bool b7, .slice ao7 n7 c7, .bool b8, .slice ao8 n8 c8, .bool b9, .slice ao9 n9 c9] 72))
 have sfE : Sf 2 w3 _ := (Sf.alloc (sf16 (E := 2) (.bool b6) (.slice ao6 n6 c6) (.bool b7) (.slice ao7 n7 c7) (.bool b8) (.slice ao8 n8 c8) (.bool b9) (.slice ao9 n9 c9) (.bool b5) (.slice ao5 n5 c5) (.bool b4) (.slice ao4 n4 c4) (.bool b4) (.slice ao4 n4 c4) (.bool b5) (.slice ao5 n5 c5) B3res (by decide)) (.cells #[.bool b6, .slice ao6 n6 c6, .bool b7, .slice ao7 n7 c7, .bool b8, .slice ao8 n8 c8, .bool b9, .slice ao9 n9 c9] 72))
 exact ⟨_, rfl, ⟨b6, ao6, n6, c6, b7, ao7, n7, c7, b8, ao8, n8, c8, b9, ao9, n9, c9, b5, ao5, n5, c5, b4, ao4, n4, c4, b4, ao4, n4, c4, b5, ao5, n5, c5, rfl, g1.soft sfE, g2.soft sfE, g3.soft sfE, g4.soft sfE, ho.soft sfE, hz.soft sfE, hz.soft sfE, ho.soft sfE⟩, kpE⟩
open Go.RowKit

set_option maxHeartbeats 1600000 in
set_option maxRecDepth 100000 in
/-- The two numbers' texts. -/
theorem texts_any (x y : Int) (v : Value) (w : World) (hv : FR w v x y) (fx : Fit x) (fy : Fit y) (ht : Tens w) : Calls Tryd.prog 38 #[v] w (RetV w (.tuple #[.string (strOf (Go.Lib.itoa x)), .string (strOf (Go.Lib.itoa y))])) := by
 obtain ⟨b1, ao1, n1, c1, b2, ao2, n2, c2, rfl, g1, g2⟩ := hv
 have kp0 := kp_alloc w (.cells #[.bool b1, .slice ao1 n1 c1, .bool b2, .slice ao2 n2 c2] 78)
 have B0 := Blk.new w #[.bool b1, .slice ao1 n1 c1, .bool b2, .slice ao2 n2 c2] 78
 have T1 := fun (u : Value) (W : World) (hu : WN W u x) (hT : Tens W) => text_any x u W hu fx hT
 have T2 := fun (u : Value) (W : World) (hu : WN W u y) (hT : Tens W) => text_any y u W hu fy hT
 generalize strOf (Go.Lib.itoa x) = s1 at T1 ⊢
 generalize strOf (Go.Lib.itoa y) = s2 at T2 ⊢
 go_enter Tryd.func38, Tryd.ntmps38
 go_wp2_with fail
 refine (T1 _ _ (g1.keep kp0) (ht.keep kp0)).mono ?_
 rintro e w1 ⟨rfl, hk1⟩
 have k1 := kp0.trans' hk1
 have B1 := B0.keep hk1
 have b1c := B1.cell
 have b1l := B1.lt
 go_wp2_with fail
 refine (T2 _ _ (g2.keep k1) (ht.keep k1)).mono ?_
 rintro e w2 ⟨rfl, hk2⟩
 go_wp2_with fail
 refine bodyPost_ret (v := .tuple #[.string s1, .string s2]) (by simp [results, Tryd.results38, go_sem]) rfl ?_
 exact ⟨rfl, k1.trans' hk2⟩

end Go.Proofs.YtjahbjjekednfaaDoor
