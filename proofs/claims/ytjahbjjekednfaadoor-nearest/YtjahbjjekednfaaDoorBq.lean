import Derived.Test.YtjahbjjekednfaaDoorSoft
import Derived.Test.YtjahbjjekednfaaDoorN2
import Derived.Test.YtjahbjjekednfaaDoorSt
/-! A struct of 4 cells, written whole. -/
namespace Go.Proofs.YtjahbjjekednfaaDoor
open Go.RowKit

theorem sf4 {E t : TypeId} {w : World} {A : Nat} {cs : Array Value} (x0 x1 x2 x3 : Value) (h : Blk w A cs t) (ht : t ≠ E) : Sf E w ((((w.setCell ⟨A, 0, none⟩ x0).setCell ⟨A, 1, none⟩ x1).setCell ⟨A, 2, none⟩ x2).setCell ⟨A, 3, none⟩ x3) :=
 (Sf.set (t := t) (c := A) (o := 3) (y := x3) (Sf.set (t := t) (c := A) (o := 2) (y := x2) (Sf.set (t := t) (c := A) (o := 1) (y := x1) (Sf.set (t := t) (c := A) (o := 0) (y := x0) (Sf.refl E w) h.elem ht) (by simp only [elemOf_setCell]; exact h.elem) ht) (by simp only [elemOf_setCell]; exact h.elem) ht) (by simp only [elemOf_setCell]; exact h.elem) ht)
theorem kp4 {a w : World} {A : Nat} (x0 x1 x2 x3 : Value) (h : Kp a w) (hA : a.heap.size ≤ A) : Kp a ((((w.setCell ⟨A, 0, none⟩ x0).setCell ⟨A, 1, none⟩ x1).setCell ⟨A, 2, none⟩ x2).setCell ⟨A, 3, none⟩ x3) :=
 (Below.setCell (Below.setCell (Below.setCell (Below.setCell h (p := ⟨A, 0, none⟩) hA x0) (p := ⟨A, 1, none⟩) hA x1) (p := ⟨A, 2, none⟩) hA x2) (p := ⟨A, 3, none⟩) hA x3)
theorem ot4 {w : World} {A b : Nat} {cs : Array Value} {t : TypeId} (x0 x1 x2 x3 : Value) (h : Blk w b cs t) (hb : b ≠ A) : Blk ((((w.setCell ⟨A, 0, none⟩ x0).setCell ⟨A, 1, none⟩ x1).setCell ⟨A, 2, none⟩ x2).setCell ⟨A, 3, none⟩ x3) b cs t :=
 (Blk.other (c := A) (o := 3) (y := x3) (Blk.other (c := A) (o := 2) (y := x2) (Blk.other (c := A) (o := 1) (y := x1) (Blk.other (c := A) (o := 0) (y := x0) h hb) hb) hb) hb)
theorem bl4 {w : World} {A : Nat} {t : TypeId} {y0 y1 y2 y3 : Value} (x0 x1 x2 x3 : Value) (h : Blk w A #[y0, y1, y2, y3] t) : Blk ((((w.setCell ⟨A, 0, none⟩ x0).setCell ⟨A, 1, none⟩ x1).setCell ⟨A, 2, none⟩ x2).setCell ⟨A, 3, none⟩ x3) A #[x0, x1, x2, x3] t := by
 have h' := (Blk.set (o := 3) (y := x3) (Blk.set (o := 2) (y := x2) (Blk.set (o := 1) (y := x1) (Blk.set (o := 0) (y := x0) h))))
 simp only [List.setIfInBounds_toArray, List.set_cons_zero, List.set_cons_succ] at h'
 exact h'

end Go.Proofs.YtjahbjjekednfaaDoor

namespace Go.Proofs.YtjahbjjekednfaaDoor
open Go.RowKit

set_option maxHeartbeats 3200000 in
set_option maxRecDepth 100000 in
/-- exact.Quotient. -/
theorem quotient_any (p q : Int) (m : Nat) (u v : Value) (w : World) (hp : WN w u p) (hq : WN w v q) (hm : m ≤ 150000000) (fp : Ft m p) (fq : Ft m q) : Calls Tryd.prog 83 #[u, v] w (RetX w (qreduce p 0 q 1)) := by
 obtain ⟨b1, ao1, n1, c1, rfl⟩ := hp.shape'
 obtain ⟨b2, ao2, n2, c2, rfl⟩ := hq.shape'
 have hkw : Kp w (((w.alloc (.cells #[.bool b1, .slice ao1 n1 c1] 56)).alloc (.cells #[.bool b2, .slice ao2 n2 c2] 56)).alloc (.cells #[.bool false, .slice none 0 0, .bool false, .slice none 0 0, .bool false, .slice none 0 0, .int .i64 0] 58)) := (Kp.alloc' (Kp.alloc' (kp_alloc w _) _) _)
 have Bp : Blk (((w.alloc (.cells #[.bool b1, .slice ao1 n1 c1] 56)).alloc (.cells #[.bool b2, .slice ao2 n2 c2] 56)).alloc (.cells #[.bool false, .slice none 0 0, .bool false, .slice none 0 0, .bool false, .slice none 0 0, .int .i64 0] 58)) (w.heap.size) #[.bool b1, .slice ao1 n1 c1] 56 := (Blk.alloc (Blk.alloc (Blk.new w _ _) _) _)
 have Bq : Blk (((w.alloc (.cells #[.bool b1, .slice ao1 n1 c1] 56)).alloc (.cells #[.bool b2, .slice ao2 n2 c2] 56)).alloc (.cells #[.bool false, .slice none 0 0, .bool false, .slice none 0 0, .bool false, .slice none 0 0, .int .i64 0] 58)) (w.heap.size + 1) #[.bool b2, .slice ao2 n2 c2] 56 := (Blk.alloc (Blk.at (Blk.new (w.alloc (.cells #[.bool b1, .slice ao1 n1 c1] 56)) _ _) (by simp)) _)
 have Br : Blk (((w.alloc (.cells #[.bool b1, .slice ao1 n1 c1] 56)).alloc (.cells #[.bool b2, .slice ao2 n2 c2] 56)).alloc (.cells #[.bool false, .slice none 0 0, .bool false, .slice none 0 0, .bool false, .slice none 0 0, .int .i64 0] 58)) (w.heap.size + 1 + 1) #[.bool false, .slice none 0 0, .bool false, .slice none 0 0, .bool false, .slice none 0 0, .int .i64 0] 58 := (Blk.at (Blk.new ((w.alloc (.cells #[.bool b1, .slice ao1 n1 c1] 56)).alloc (.cells #[.bool b2, .slice ao2 n2 c2] 56)) _ _) (by simp))
 replace hp := hp.keep hkw
 replace hq := hq.keep hkw
 go_enter Tryd.func83, Tryd.ntmps83
 go_wp2_with fail
 generalize (((w.alloc (.cells #[.bool b1, .slice ao1 n1 c1] 56)).alloc (.cells #[.bool b2, .slice ao2 n2 c2] 56)).alloc (.cells #[.bool false, .slice none 0 0, .bool false, .slice none 0 0, .bool false, .slice none 0 0, .int .i64 0] 58)) = x0 at *
 refine (fromInt_any 0 _ (by decide) (by decide)).mono ?_
 rintro e w21 ⟨v3, rfl, h0, hk21⟩
 obtain ⟨b3, ao3, n3, c3, rfl⟩ := h0.shape'
 have ka21 : Kp w21 (w21.alloc (.cells #[.bool b3, .slice ao3 n3 c3] 56)) := kp_alloc w21 _
 have kk21 := hk21.trans' ka21
 have ltp21 := (Bp.keep hk21).lt
 have ltq21 := (Bq.keep hk21).lt
 have ltr21 := (Br.keep hk21).lt
 replace Bp := Bp.keep kk21
 replace Bq := Bq.keep kk21
 replace Br := Br.keep kk21
 replace hp := hp.keep kk21
 replace hq := hq.keep kk21
 replace hkw := hkw.trans' kk21
 replace h0 := h0.keep ka21
 have Bz : Blk (w21.alloc (.cells #[.bool b3, .slice ao3 n3 c3] 56)) w21.heap.size #[.bool b3, .slice ao3 n3 c3] 56 := Blk.new w21 _ _
 have gez : w.heap.size ≤ w21.heap.size := by have := (hkw.size); simp only [World.size_alloc] at this; omega
 clear hk21 ka21 kk21
 have pc := Bp.cell
 have pl := Bp.lt
 have qc := Bq.cell
 have ql := Bq.lt
 have zc := Bz.cell
 have zl := Bz.lt
 go_wp2_with fail
 generalize (w21.alloc (.cells #[.bool b3, .slice ao3 n3 c3] 56)) = x21 at *
 generalize w21.heap.size = Az at *
 refine (reduce_any p 0 q 1 m _ _ _ _ hp h0 hq hm fp (Ft.zero _) fq).mono ?_
 rintro e w22 ⟨v4, rfl, hX, hk22⟩
 obtain ⟨b4, ao4, n4, c4, b5, ao5, n5, c5, b6, ao6, n6, c6, rfl, _, _, _⟩ := id hX
 clear pc qc zc pl ql zl
 replace Bp := Bp.keep hk22
 replace Bq := Bq.keep hk22
 replace Br := Br.keep hk22
 replace Bz := Bz.keep hk22
 replace hp := hp.keep hk22
 replace hq := hq.keep hk22
 replace h0 := h0.keep hk22
 replace hkw := hkw.trans' hk22
 clear hk22
 have rc := Br.cell
 have rl := Br.lt
 have rf := Br.frozen
 go_wp2_with fail
 refine bodyPost_ret (v := .agg #[.bool b4, .slice ao4 n4 c4, .bool b5, .slice ao5 n5 c5, .bool b6, .slice ao6 n6 c6, .int .i64 (qreduce p 0 q 1).d]) (by simp [results, Tryd.results83, go_sem, rc]) rfl ?_
 exact ⟨_, rfl, hX.soft (sf7 (E := 2) (.bool b4) (.slice ao4 n4 c4) (.bool b5) (.slice ao5 n5 c5) (.bool b6) (.slice ao6 n6 c6) (.int .i64 (qreduce p 0 q 1).d) Br (by decide)), kp7 (A := w.heap.size + 1 + 1) (.bool b4) (.slice ao4 n4 c4) (.bool b5) (.slice ao5 n5 c5) (.bool b6) (.slice ao6 n6 c6) (.int .i64 (qreduce p 0 q 1).d) hkw (by omega)⟩

set_option maxHeartbeats 3200000 in
set_option maxRecDepth 100000 in
/-- walk.otherSide. -/
theorem otherSide_any (p q n lp lq ap aq N : Int) (M : Nat) (u v : Value) (w : World) (hv : WK w u p q n lp lq ap aq) (hm : WN w v N) (hM : M ≤ 100000000) (f1 : Ft M lp) (f2 : Ft M lq) (f3 : Ft M ap) (f4 : Ft M aq) (fN : Ft M N) (hq0 : lq ≠ 0) :
 Calls Tryd.prog 61 #[u, v] w (RetFR w (fl (N - aq) lq * lp + ap) (fl (N - aq) lq * lq + aq)) := by
 have fro : Ft (M + 1) (N - aq) := by rw [Int.sub_eq_add_neg]; exact Ft.add fN f4.neg
 have fte : Ft (M + 1) (fl (N - aq) lq) := fro.le (fl_abs _ _)
 have hW := Hid.mk hv
 obtain ⟨b1, ao1, n1, c1, b2, ao2, n2, c2, b3, ao3, n3, c3, b4, ao4, n4, c4, b5, ao5, n5, c5, b6, ao6, n6, c6, b7, ao7, n7, c7, b8, ao8, n8, c8, rfl, _, _, _, _, _, h6, _, h8⟩ := id hv
 obtain ⟨b9, ao9, n9, c9, rfl⟩ := hm.shape'
 clear hv
 have hkw : Kp w (((w.alloc (.cells #[.bool b1, .slice ao1 n1 c1, .bool b2, .slice ao2 n2 c2, .bool b3, .slice ao3 n3 c3, .bool b4, .slice ao4 n4 c4, .bool b5, .slice ao5 n5 c5, .bool b6, .slice ao6 n6 c6, .bool b7, .slice ao7 n7 c7, .bool b8, .slice ao8 n8 c8] 102)).alloc (.cells #[.bool b9, .slice ao9 n9 c9] 56)).alloc (.cells #[.bool false, .slice none 0 0, .bool false, .slice none 0 0] 78)) := (Kp.alloc' (Kp.alloc' (kp_alloc w _) _) _)
 have Ba : Blk (((w.alloc (.cells #[.bool b1, .slice ao1 n1 c1, .bool b2, .slice ao2 n2 c2, .bool b3, .slice ao3 n3 c3, .bool b4, .slice ao4 n4 c4, .bool b5, .slice ao5 n5 c5, .bool b6, .slice ao6 n6 c6, .bool b7, .slice ao7 n7 c7, .bool b8, .slice ao8 n8 c8] 102)).alloc (.cells #[.bool b9, .slice ao9 n9 c9] 56)).alloc (.cells #[.bool false, .slice none 0 0, .bool false, .slice none 0 0] 78)) (w.heap.size) #[.bool b1, .slice ao1 n1 c1, .bool b2, .slice ao2 n2 c2, .bool b3, .slice ao3 n3 c3, .bool b4, .slice ao4 n4 c4, .bool b5, .slice ao5 n5 c5, .bool b6, .slice ao6 n6 c6, .bool b7, .slice ao7 n7 c7, .bool b8, .slice ao8 n8 c8] 102 := (Blk.alloc (Blk.alloc (Blk.new w _ _) _) _)
 have Bm : Blk (((w.alloc (.cells #[.bool b1, .slice ao1 n1 c1, .bool b2, .slice ao2 n2 c2, .bool b3, .slice ao3 n3 c3, .bool b4, .slice ao4 n4 c4, .bool b5, .slice ao5 n5 c5, .bool b6, .slice ao6 n6 c6, .bool b7, .slice ao7 n7 c7, .bool b8, .slice ao8 n8 c8] 102)).alloc (.cells #[.bool b9, .slice ao9 n9 c9] 56)).alloc (.cells #[.bool false, .slice none 0 0, .bool false, .slice none 0 0] 78)) (w.heap.size + 1) #[.bool b9, .slice ao9 n9 c9] 56 := (Blk.alloc (Blk.at (Blk.new (w.alloc (.cells #[.bool b1, .slice ao1 n1 c1, .bool b2, .slice ao2 n2 c2, .bool b3, .slice ao3 n3 c3, .bool b4, .slice ao4 n4 c4, .bool b5, .slice ao5 n5 c5, .bool b6, .slice ao6 n6 c6, .bool b7, .slice ao7 n7 c7, .bool b8, .slice ao8 n8 c8] 102)) _ _) (by simp)) _)
 have Br : Blk (((w.alloc (.cells #[.bool b1, .slice ao1 n1 c1, .bool b2, .slice ao2 n2 c2, .bool b3, .slice ao3 n3 c3, .bool b4, .slice ao4 n4 c4, .bool b5, .slice ao5 n5 c5, .bool b6, .slice ao6 n6 c6, .bool b7, .slice ao7 n7 c7, .bool b8, .slice ao8 n8 c8] 102)).alloc (.cells #[.bool b9, .slice ao9 n9 c9] 56)).alloc (.cells #[.bool false, .slice none 0 0, .bool false, .slice none 0 0] 78)) (w.heap.size + 1 + 1) #[.bool false, .slice none 0 0, .bool false, .slice none 0 0] 78 := (Blk.at (Blk.new ((w.alloc (.cells #[.bool b1, .slice ao1 n1 c1, .bool b2, .slice ao2 n2 c2, .bool b3, .slice ao3 n3 c3, .bool b4, .slice ao4 n4 c4, .bool b5, .slice ao5 n5 c5, .bool b6, .slice ao6 n6 c6, .bool b7, .slice ao7 n7 c7, .bool b8, .slice ao8 n8 c8] 102)).alloc (.cells #[.bool b9, .slice ao9 n9 c9] 56)) _ _) (by simp))
 replace h6 := h6.keep hkw
 replace h8 := h8.keep hkw
 replace hm := hm.keep hkw
 go_enter Tryd.func61, Tryd.ntmps61
 replace hW := Hid.mk (hW.out.keep hkw)
 have mc := Bm.cell
 have ml := Bm.lt
 have ac := Ba.cell
 have al := Ba.lt
 go_wp2_with fail
 generalize (((w.alloc (.cells #[.bool b1, .slice ao1 n1 c1, .bool b2, .slice ao2 n2 c2, .bool b3, .slice ao3 n3 c3, .bool b4, .slice ao4 n4 c4, .bool b5, .slice ao5 n5 c5, .bool b6, .slice ao6 n6 c6, .bool b7, .slice ao7 n7 c7, .bool b8, .slice ao8 n8 c8] 102)).alloc (.cells #[.bool b9, .slice ao9 n9 c9] 56)).alloc (.cells #[.bool false, .slice none 0 0, .bool false, .slice none 0 0] 78)) = x0 at *
 refine (wsub_any N aq _ _ _ hm h8 (fN.fit (by omega)) (f4.fit (by omega))).mono ?_
 rintro e w21 ⟨v10, rfl, hro, hk21⟩
 obtain ⟨b10, ao10, n10, c10, rfl⟩ := hro.shape'
 clear mc ac ml al
 have ka21 : Kp w21 (w21.alloc (.cells #[.bool b10, .slice ao10 n10 c10] 56)) := kp_alloc w21 _
 have kk21 := hk21.trans' ka21
 have lta21 := (Ba.keep hk21).lt
 have ltm21 := (Bm.keep hk21).lt
 have ltr21 := (Br.keep hk21).lt
 replace Ba := Ba.keep kk21
 replace Bm := Bm.keep kk21
 replace Br := Br.keep kk21
 replace h6 := h6.keep kk21
 replace hkw := hkw.trans' kk21
 replace hro := hro.keep ka21
 have Bo : Blk (w21.alloc (.cells #[.bool b10, .slice ao10 n10 c10] 56)) w21.heap.size #[.bool b10, .slice ao10 n10 c10] 56 := Blk.new w21 _ _
 have geo : w.heap.size ≤ w21.heap.size := by have := (hkw.size); simp only [World.size_alloc] at this; omega
 replace hW := Hid.mk (hW.out.keep kk21)
 clear hk21 ka21 kk21
 have oc := Bo.cell
 have ol := Bo.lt
 have ac := Ba.cell
 have al := Ba.lt
 go_wp2_with fail
 generalize (w21.alloc (.cells #[.bool b10, .slice ao10 n10 c10] 56)) = x21 at *
 generalize w21.heap.size = Ao at *
 refine (floor_any (N - aq) lq (M + 1) _ _ _ hro h6 (by omega) fro (f2.mono (by omega)) hq0).mono ?_
 rintro e w22 ⟨v11, rfl, hte, hk22⟩
 obtain ⟨b11, ao11, n11, c11, rfl⟩ := hte.shape'
 clear oc ac ol al
 have ka22 : Kp w22 (w22.alloc (.cells #[.bool b11, .slice ao11 n11 c11] 56)) := kp_alloc w22 _
 have kk22 := hk22.trans' ka22
 have lta22 := (Ba.keep hk22).lt
 have ltm22 := (Bm.keep hk22).lt
 have ltr22 := (Br.keep hk22).lt
 have lto22 := (Bo.keep hk22).lt
 replace Ba := Ba.keep kk22
 replace Bm := Bm.keep kk22
 replace Br := Br.keep kk22
 replace Bo := Bo.keep kk22
 replace hkw := hkw.trans' kk22
 replace hte := hte.keep ka22
 have Bt : Blk (w22.alloc (.cells #[.bool b11, .slice ao11 n11 c11] 56)) w22.heap.size #[.bool b11, .slice ao11 n11 c11] 56 := Blk.new w22 _ _
 have get : w.heap.size ≤ w22.heap.size := by have := (hkw.size); simp only [World.size_alloc] at this; omega
 replace hW := Hid.mk (hW.out.keep kk22)
 clear hk22 ka22 kk22
 have ac := Ba.cell
 have al := Ba.lt
 have tc := Bt.cell
 have tl := Bt.lt
 go_wp2_with fail
 generalize (w22.alloc (.cells #[.bool b11, .slice ao11 n11 c11] 56)) = x22 at *
 generalize w22.heap.size = At at *
 refine (with_any p q n lp lq ap aq (fl (N - aq) lq) (M + 1) M _ _ _ hW.out hte (by omega) f1 f2 f3 f4 fte).mono ?_
 rintro e w23 ⟨v12, rfl, hF, hk23⟩
 obtain ⟨b12, ao12, n12, c12, b13, ao13, n13, c13, rfl, _, _⟩ := id hF
 clear ac tc al tl
 replace Ba := Ba.keep hk23
 replace Bm := Bm.keep hk23
 replace Br := Br.keep hk23
 replace Bo := Bo.keep hk23
 replace Bt := Bt.keep hk23
 replace hkw := hkw.trans' hk23
 clear hk23
 have rc := Br.cell
 have rl := Br.lt
 have rf := Br.frozen
 go_wp2_with fail
 refine bodyPost_ret (v := .agg #[.bool b12, .slice ao12 n12 c12, .bool b13, .slice ao13 n13 c13]) (by simp [results, Tryd.results61, go_sem, rc]) rfl ?_
 exact ⟨_, rfl, hF.soft (sf4 (E := 2) (.bool b12) (.slice ao12 n12 c12) (.bool b13) (.slice ao13 n13 c13) Br (by decide)), kp4 (A := w.heap.size + 1 + 1) (.bool b12) (.slice ao12 n12 c12) (.bool b13) (.slice ao13 n13 c13) hkw (by omega)⟩

end Go.Proofs.YtjahbjjekednfaaDoor
