import Derived.Test.YtjahbjjekednfaaR11
namespace Go.Proofs.Ytjahbjjekednfaa
open Go.RowKit

set_option maxHeartbeats 6400000 in
set_option maxRecDepth 100000 in
theorem worked_add (a b : Qn) (m : Nat) (D : Int) (u v : Value) (w : World) (ha : NN w u a) (hb : NN w v b) (hm : m ≤ 10000000) (fa : QF m a) (fb : QF m b) (hD : D = if 1 < a.d then a.d else b.d) (D0 : 0 ≤ D) (D2 : D ≤ 1000000) (hr0 : a.r * b.r ≠ 0) :
  Calls Try.prog 30 #[u, .int .u8 43, v] w (RetNN w (qreduce ((a.p * b.r) + (b.p * a.r)) ((a.q * b.r) + (b.q * a.r)) (a.r * b.r) D)) := by
 have D1 : D ≤ 9223372036854775807 := by omega
 have fD : Ft 7 D := by unfold Ft; omega
 have hroot := Hid.mk (fun w' (h1 : NN w' u a) (h2 : NN w' v b) => root_ref a b u v w' h1 h2)
 rw [← hD] at hroot
 clear hD
 obtain ⟨b1, ao1, n1, c1, b2, ao2, n2, c2, b3, ao3, n3, c3, rfl, hap, haq, har⟩ := id ha
 obtain ⟨b4, ao4, n4, c4, b5, ao5, n5, c5, b6, ao6, n6, c6, rfl, hbp, hbq, hbr⟩ := id hb
 have hkb : Kp w (((w.alloc (.cells #[.bool b1, .slice ao1 n1 c1, .bool b2, .slice ao2 n2 c2, .bool b3, .slice ao3 n3 c3, .int .i64 a.d] 48)).alloc (.cells #[.bool b4, .slice ao4 n4 c4, .bool b5, .slice ao5 n5 c5, .bool b6, .slice ao6 n6 c6, .int .i64 b.d] 48)).alloc (.cells #[.bool false, .slice none 0 0, .bool false, .slice none 0 0, .bool false, .slice none 0 0, .int .i64 0] 48)) := (Kp.alloc' (Kp.alloc' (Kp.alloc' (Below.refl w.heap.size w) (.cells #[.bool b1, .slice ao1 n1 c1, .bool b2, .slice ao2 n2 c2, .bool b3, .slice ao3 n3 c3, .int .i64 a.d] 48)) (.cells #[.bool b4, .slice ao4 n4 c4, .bool b5, .slice ao5 n5 c5, .bool b6, .slice ao6 n6 c6, .int .i64 b.d] 48)) (.cells #[.bool false, .slice none 0 0, .bool false, .slice none 0 0, .bool false, .slice none 0 0, .int .i64 0] 48))
 have BA : Blk (((w.alloc (.cells #[.bool b1, .slice ao1 n1 c1, .bool b2, .slice ao2 n2 c2, .bool b3, .slice ao3 n3 c3, .int .i64 a.d] 48)).alloc (.cells #[.bool b4, .slice ao4 n4 c4, .bool b5, .slice ao5 n5 c5, .bool b6, .slice ao6 n6 c6, .int .i64 b.d] 48)).alloc (.cells #[.bool false, .slice none 0 0, .bool false, .slice none 0 0, .bool false, .slice none 0 0, .int .i64 0] 48)) (w.heap.size) #[.bool b1, .slice ao1 n1 c1, .bool b2, .slice ao2 n2 c2, .bool b3, .slice ao3 n3 c3, .int .i64 a.d] 48 := (Blk.alloc (Blk.alloc (Blk.new w _ _) (.cells #[.bool b4, .slice ao4 n4 c4, .bool b5, .slice ao5 n5 c5, .bool b6, .slice ao6 n6 c6, .int .i64 b.d] 48)) (.cells #[.bool false, .slice none 0 0, .bool false, .slice none 0 0, .bool false, .slice none 0 0, .int .i64 0] 48))
 have BB : Blk (((w.alloc (.cells #[.bool b1, .slice ao1 n1 c1, .bool b2, .slice ao2 n2 c2, .bool b3, .slice ao3 n3 c3, .int .i64 a.d] 48)).alloc (.cells #[.bool b4, .slice ao4 n4 c4, .bool b5, .slice ao5 n5 c5, .bool b6, .slice ao6 n6 c6, .int .i64 b.d] 48)).alloc (.cells #[.bool false, .slice none 0 0, .bool false, .slice none 0 0, .bool false, .slice none 0 0, .int .i64 0] 48)) (w.heap.size + 1) #[.bool b4, .slice ao4 n4 c4, .bool b5, .slice ao5 n5 c5, .bool b6, .slice ao6 n6 c6, .int .i64 b.d] 48 := (Blk.alloc (Blk.at (Blk.new (w.alloc (.cells #[.bool b1, .slice ao1 n1 c1, .bool b2, .slice ao2 n2 c2, .bool b3, .slice ao3 n3 c3, .int .i64 a.d] 48)) _ _) (by simp)) (.cells #[.bool false, .slice none 0 0, .bool false, .slice none 0 0, .bool false, .slice none 0 0, .int .i64 0] 48))
 have BE : Blk (((w.alloc (.cells #[.bool b1, .slice ao1 n1 c1, .bool b2, .slice ao2 n2 c2, .bool b3, .slice ao3 n3 c3, .int .i64 a.d] 48)).alloc (.cells #[.bool b4, .slice ao4 n4 c4, .bool b5, .slice ao5 n5 c5, .bool b6, .slice ao6 n6 c6, .int .i64 b.d] 48)).alloc (.cells #[.bool false, .slice none 0 0, .bool false, .slice none 0 0, .bool false, .slice none 0 0, .int .i64 0] 48)) (w.heap.size + 1 + 1) #[.bool false, .slice none 0 0, .bool false, .slice none 0 0, .bool false, .slice none 0 0, .int .i64 0] 48 := (Blk.at (Blk.new ((w.alloc (.cells #[.bool b1, .slice ao1 n1 c1, .bool b2, .slice ao2 n2 c2, .bool b3, .slice ao3 n3 c3, .int .i64 a.d] 48)).alloc (.cells #[.bool b4, .slice ao4 n4 c4, .bool b5, .slice ao5 n5 c5, .bool b6, .slice ao6 n6 c6, .int .i64 b.d] 48)) _ _) (by simp))
 
 replace hap := hap.keep hkb
 replace haq := haq.keep hkb
 replace har := har.keep hkb
 replace hbp := hbp.keep hkb
 replace hbq := hbq.keep hkb
 replace hbr := hbr.keep hkb
 replace ha := ha.keep hkb
 replace hb := hb.keep hkb
 have l1 := BA.lt
 have l2 := BB.lt
 have l3 := BE.lt
 go_enter Try.func30, Try.ntmps30
 go_wp2_with fail
 refine (hroot.out _ ha hb).mono ?_
 rintro e w0 ⟨rfl, hk0⟩
 replace hap := hap.keep hk0
 replace haq := haq.keep hk0
 replace har := har.keep hk0
 replace hbp := hbp.keep hk0
 replace hbq := hbq.keep hk0
 replace hbr := hbr.keep hk0
 replace BA := BA.keep hk0
 replace BB := BB.keep hk0
 replace BE := BE.keep hk0
 replace ha := ha.keep hk0
 replace hb := hb.keep hk0
 replace hkb := hkb.trans' hk0
 have hs0 := hk0.size
 clear hroot
 generalize (((w.alloc (.cells #[.bool b1, .slice ao1 n1 c1, .bool b2, .slice ao2 n2 c2, .bool b3, .slice ao3 n3 c3, .int .i64 a.d] 48)).alloc (.cells #[.bool b4, .slice ao4 n4 c4, .bool b5, .slice ao5 n5 c5, .bool b6, .slice ao6 n6 c6, .int .i64 b.d] 48)).alloc (.cells #[.bool false, .slice none 0 0, .bool false, .slice none 0 0, .bool false, .slice none 0 0, .int .i64 0] 48)) = wz at *
 go_wp2_with fail
 go_cut [8] from 36 to 46 (fun p' wx => ∃ (bg : Nat) (bb : Bool) (aa : Option Addr) (nn cc : Nat), p' = .pointer (some ⟨bg, 0, none⟩) ∧ Blk wx bg #[.bool bb, .slice aa nn cc] 46 ∧ IN wx (.agg #[.bool bb, .slice aa nn cc]) ((a.p * b.r) + (b.p * a.r)) ∧ Kp w0 wx ∧ w0.heap.size ≤ bg)
 case first =>
  refine wp_region_l (S := fun w' => Kp w0 w') (by kernel_rfl) (Kp.drew' (Below.refl _ _)) (fun hS0 => ?_)
  generalize w0.drew = wd at *
  refine wpAnyL_tk (i := 0) (k := 1) (v := .pointer (some ⟨w.heap.size, 0, none⟩)) rfl ?_ hS0 ?_
  ·intro w' hw'; go_simp
  simp only [sq]
  refine wpAnyL_tk (i := 1) (k := 4) (v := .agg #[.bool b1, .slice ao1 n1 c1]) rfl ?_ hS0 ?_
  ·intro w' hw'; have hc := ((BA).keep hw').cell; go_simp
  simp only [sq]
  refine wpAnyL_tk (i := 2) (k := 3) (v := .pointer (some ⟨w.heap.size + 1, 4, none⟩)) rfl ?_ hS0 ?_
  ·intro w' hw'; go_simp
  simp only [sq]
  refine wpAnyL_tk (i := 3) (k := 4) (v := .agg #[.bool b6, .slice ao6 n6 c6]) rfl ?_ hS0 ?_
  ·intro w' hw'; have hc := ((BB).keep hw').cell; go_simp
  simp only [sq]
  refine wpAnyL_tk (i := 5) (k := 6) (v := .pointer (some ⟨w.heap.size + 1, 0, none⟩)) rfl ?_ hS0 ?_
  ·intro w' hw'; go_simp
  simp only [sq]
  refine wpAnyL_tk (i := 6) (k := 9) (v := .agg #[.bool b4, .slice ao4 n4 c4]) rfl ?_ hS0 ?_
  ·intro w' hw'; have hc := ((BB).keep hw').cell; go_simp
  simp only [sq]
  refine wpAnyL_tk (i := 7) (k := 8) (v := .pointer (some ⟨w.heap.size, 4, none⟩)) rfl ?_ hS0 ?_
  ·intro w' hw'; go_simp
  simp only [sq]
  refine wpAnyL_tk (i := 8) (k := 9) (v := .agg #[.bool b3, .slice ao3 n3 c3]) rfl ?_ hS0 ?_
  ·intro w' hw'; have hc := ((BA).keep hw').cell; go_simp
  simp only [sq]
  refine wpAnyL_ready (rs := [4, 11]) (by kernel_rfl) (by simp) ?_
  refine AllReadyL.cons rfl (fun K hK => ?_) ?_
  ·go_simp
   refine (rtimes_any a.p b.r _ _ _ (hap.keep hS0) (hbr.keep hS0) (Ft.fit fa.1 (by omega)) (Ft.fit fb.2.2 (by omega))).mono ?_
   rintro e w104 ⟨v104, rfl, hv104, hk104⟩
   obtain ⟨b104, ao104, n104, c104, rfl⟩ := hv104.shape'
   go_wp2_with fail
   refine hK.out _ _ (hS0.trans' hk104) (fun hS1 => ?_)
   clear hK K
   refine wpAnyL_ready (rs := [9, 11]) (by kernel_rfl) (by simp) ?_
   refine AllReadyL.cons rfl (fun K hK => ?_) ?_
   ·go_simp
    refine (rtimes_any b.p a.r _ _ _ (hbp.keep hS1) (har.keep hS1) (Ft.fit fb.1 (by omega)) (Ft.fit fa.2.2 (by omega))).mono ?_
    rintro e w109 ⟨v109, rfl, hv109, hk109⟩
    obtain ⟨b109, ao109, n109, c109, rfl⟩ := hv109.shape'
    replace hv104 := hv104.keep hk109
    go_wp2_with fail
    refine hK.out _ _ (hS1.trans' hk109) (fun hS2 => ?_)
    clear hK K
    refine wpAnyL_ready (rs := [10, 11]) (by kernel_rfl) (by simp) ?_
    refine AllReadyL.cons rfl (fun K hK => ?_) ?_
    ·go_simp
     refine (rplus_any (a.p * b.r) (b.p * a.r) _ _ _ hv104 hv109 (Ft.fit (Ft.mono (n := 2 * m + 0) (Ft.mul fa.1 fb.2.2) (by omega)) (by omega)) (Ft.fit (Ft.mono (n := 2 * m + 0) (Ft.mul fb.1 fa.2.2) (by omega)) (by omega))).mono ?_
     rintro e w110 ⟨v110, rfl, hv110, hk110⟩
     obtain ⟨b110, ao110, n110, c110, rfl⟩ := hv110.shape'
     go_wp2_with fail
     refine hK.out _ _ (hS2.trans' hk110) (fun hS3 => ?_)
     clear hK K
     refine wpAnyL_on (i := 11) rfl (fun K hK => ?_)
     go_simp
     refine hK.out _ _ (Kp.alloc' hS3 (.cells #[.bool false, .slice none 0 0] 46)) (fun hS4 => ?_)
     clear hK K
     have NB11 := Blk.new w110 #[.bool false, .slice none 0 0] 46
     have ge11 : w0.heap.size ≤ w110.heap.size := hS3.size
     replace hv110 := hv110.keep (kp_alloc w110 (.cells #[.bool false, .slice none 0 0] 46))
     try simp only [sq]
     generalize hA11 : w110.heap.size = A11 at *
     generalize w110.alloc (.cells #[.bool false, .slice none 0 0] 46) = wn11 at *
     have st_c := NB11.cell
     have st_f := NB11.frozen
     have st_l := NB11.lt
     refine wpAnyL_last (i := 12) rfl (by kernel_rfl) (by kernel_rfl) (by kernel_rfl) (fun K hK => ?_)
     go_simp
     refine hK.out _ _ ?_
     clear hK K
     go_wp2_with fail
     go_meet
     case rel => exact ⟨A11, _, _, _, _, rfl, (bl2 (.bool b110) (.slice ao110 n110 c110) NB11), hv110.soft (sf2 (.bool b110) (.slice ao110 n110 c110) NB11 (by decide)), (kp2 (A := A11) (.bool b110) (.slice ao110 n110 c110) hS4 ge11), ge11⟩
    refine AllReadyL.cons rfl (fun K hK => ?_) ?_
    ·go_simp
     refine hK.out _ _ (Kp.alloc' hS2 (.cells #[.bool false, .slice none 0 0] 46)) (fun hS3 => ?_)
     clear hK K
     have NB11 := Blk.new w109 #[.bool false, .slice none 0 0] 46
     have ge11 : w0.heap.size ≤ w109.heap.size := hS2.size
     replace hv104 := hv104.keep (kp_alloc w109 (.cells #[.bool false, .slice none 0 0] 46))
     replace hv109 := hv109.keep (kp_alloc w109 (.cells #[.bool false, .slice none 0 0] 46))
     try simp only [sq]
     generalize hA11 : w109.heap.size = A11 at *
     generalize w109.alloc (.cells #[.bool false, .slice none 0 0] 46) = wn11 at *
     refine wpAnyL_on (i := 10) rfl (fun K hK => ?_)
     go_simp
     refine (rplus_any (a.p * b.r) (b.p * a.r) _ _ _ hv104 hv109 (Ft.fit (Ft.mono (n := 2 * m + 0) (Ft.mul fa.1 fb.2.2) (by omega)) (by omega)) (Ft.fit (Ft.mono (n := 2 * m + 0) (Ft.mul fb.1 fa.2.2) (by omega)) (by omega))).mono ?_
     rintro e w110 ⟨v110, rfl, hv110, hk110⟩
     obtain ⟨b110, ao110, n110, c110, rfl⟩ := hv110.shape'
     replace NB11 := NB11.keep hk110
     go_wp2_with fail
     refine hK.out _ _ (hS3.trans' hk110) (fun hS4 => ?_)
     clear hK K
     have st_c := NB11.cell
     have st_f := NB11.frozen
     have st_l := NB11.lt
     refine wpAnyL_last (i := 12) rfl (by kernel_rfl) (by kernel_rfl) (by kernel_rfl) (fun K hK => ?_)
     go_simp
     refine hK.out _ _ ?_
     clear hK K
     go_wp2_with fail
     go_meet
     case rel => exact ⟨A11, _, _, _, _, rfl, (bl2 (.bool b110) (.slice ao110 n110 c110) NB11), hv110.soft (sf2 (.bool b110) (.slice ao110 n110 c110) NB11 (by decide)), (kp2 (A := A11) (.bool b110) (.slice ao110 n110 c110) hS4 ge11), ge11⟩
    exact AllReadyL.nil
   refine AllReadyL.cons rfl (fun K hK => ?_) ?_
   ·go_simp
    refine hK.out _ _ (Kp.alloc' hS1 (.cells #[.bool false, .slice none 0 0] 46)) (fun hS2 => ?_)
    clear hK K
    have NB11 := Blk.new w104 #[.bool false, .slice none 0 0] 46
    have ge11 : w0.heap.size ≤ w104.heap.size := hS1.size
    replace hv104 := hv104.keep (kp_alloc w104 (.cells #[.bool false, .slice none 0 0] 46))
    try simp only [sq]
    generalize hA11 : w104.heap.size = A11 at *
    generalize w104.alloc (.cells #[.bool false, .slice none 0 0] 46) = wn11 at *
    refine wpAnyL_on (i := 9) rfl (fun K hK => ?_)
    go_simp
    refine (rtimes_any b.p a.r _ _ _ (hbp.keep hS2) (har.keep hS2) (Ft.fit fb.1 (by omega)) (Ft.fit fa.2.2 (by omega))).mono ?_
    rintro e w109 ⟨v109, rfl, hv109, hk109⟩
    obtain ⟨b109, ao109, n109, c109, rfl⟩ := hv109.shape'
    replace hv104 := hv104.keep hk109
    replace NB11 := NB11.keep hk109
    go_wp2_with fail
    refine hK.out _ _ (hS2.trans' hk109) (fun hS3 => ?_)
    clear hK K
    refine wpAnyL_on (i := 10) rfl (fun K hK => ?_)
    go_simp
    refine (rplus_any (a.p * b.r) (b.p * a.r) _ _ _ hv104 hv109 (Ft.fit (Ft.mono (n := 2 * m + 0) (Ft.mul fa.1 fb.2.2) (by omega)) (by omega)) (Ft.fit (Ft.mono (n := 2 * m + 0) (Ft.mul fb.1 fa.2.2) (by omega)) (by omega))).mono ?_
    rintro e w110 ⟨v110, rfl, hv110, hk110⟩
    obtain ⟨b110, ao110, n110, c110, rfl⟩ := hv110.shape'
    replace NB11 := NB11.keep hk110
    go_wp2_with fail
    refine hK.out _ _ (hS3.trans' hk110) (fun hS4 => ?_)
    clear hK K
    have st_c := NB11.cell
    have st_f := NB11.frozen
    have st_l := NB11.lt
    refine wpAnyL_last (i := 12) rfl (by kernel_rfl) (by kernel_rfl) (by kernel_rfl) (fun K hK => ?_)
    go_simp
    refine hK.out _ _ ?_
    clear hK K
    go_wp2_with fail
    go_meet
    case rel => exact ⟨A11, _, _, _, _, rfl, (bl2 (.bool b110) (.slice ao110 n110 c110) NB11), hv110.soft (sf2 (.bool b110) (.slice ao110 n110 c110) NB11 (by decide)), (kp2 (A := A11) (.bool b110) (.slice ao110 n110 c110) hS4 ge11), ge11⟩
   exact AllReadyL.nil
  refine AllReadyL.cons rfl (fun K hK => ?_) ?_
  ·go_simp
   refine hK.out _ _ (Kp.alloc' hS0 (.cells #[.bool false, .slice none 0 0] 46)) (fun hS1 => ?_)
   clear hK K
   have NB11 := Blk.new wd #[.bool false, .slice none 0 0] 46
   have ge11 : w0.heap.size ≤ wd.heap.size := hS0.size
   try simp only [sq]
   generalize hA11 : wd.heap.size = A11 at *
   generalize wd.alloc (.cells #[.bool false, .slice none 0 0] 46) = wn11 at *
   refine wpAnyL_on (i := 4) rfl (fun K hK => ?_)
   go_simp
   refine (rtimes_any a.p b.r _ _ _ (hap.keep hS1) (hbr.keep hS1) (Ft.fit fa.1 (by omega)) (Ft.fit fb.2.2 (by omega))).mono ?_
   rintro e w104 ⟨v104, rfl, hv104, hk104⟩
   obtain ⟨b104, ao104, n104, c104, rfl⟩ := hv104.shape'
   replace NB11 := NB11.keep hk104
   go_wp2_with fail
   refine hK.out _ _ (hS1.trans' hk104) (fun hS2 => ?_)
   clear hK K
   refine wpAnyL_on (i := 9) rfl (fun K hK => ?_)
   go_simp
   refine (rtimes_any b.p a.r _ _ _ (hbp.keep hS2) (har.keep hS2) (Ft.fit fb.1 (by omega)) (Ft.fit fa.2.2 (by omega))).mono ?_
   rintro e w109 ⟨v109, rfl, hv109, hk109⟩
   obtain ⟨b109, ao109, n109, c109, rfl⟩ := hv109.shape'
   replace NB11 := NB11.keep hk109
   replace hv104 := hv104.keep hk109
   go_wp2_with fail
   refine hK.out _ _ (hS2.trans' hk109) (fun hS3 => ?_)
   clear hK K
   refine wpAnyL_on (i := 10) rfl (fun K hK => ?_)
   go_simp
   refine (rplus_any (a.p * b.r) (b.p * a.r) _ _ _ hv104 hv109 (Ft.fit (Ft.mono (n := 2 * m + 0) (Ft.mul fa.1 fb.2.2) (by omega)) (by omega)) (Ft.fit (Ft.mono (n := 2 * m + 0) (Ft.mul fb.1 fa.2.2) (by omega)) (by omega))).mono ?_
   rintro e w110 ⟨v110, rfl, hv110, hk110⟩
   obtain ⟨b110, ao110, n110, c110, rfl⟩ := hv110.shape'
   replace NB11 := NB11.keep hk110
   go_wp2_with fail
   refine hK.out _ _ (hS3.trans' hk110) (fun hS4 => ?_)
   clear hK K
   have st_c := NB11.cell
   have st_f := NB11.frozen
   have st_l := NB11.lt
   refine wpAnyL_last (i := 12) rfl (by kernel_rfl) (by kernel_rfl) (by kernel_rfl) (fun K hK => ?_)
   go_simp
   refine hK.out _ _ ?_
   clear hK K
   go_wp2_with fail
   go_meet
   case rel => exact ⟨A11, _, _, _, _, rfl, (bl2 (.bool b110) (.slice ao110 n110 c110) NB11), hv110.soft (sf2 (.bool b110) (.slice ao110 n110 c110) NB11 (by decide)), (kp2 (A := A11) (.bool b110) (.slice ao110 n110 c110) hS4 ge11), ge11⟩
  exact AllReadyL.nil
 case rest =>
  obtain ⟨bg11, b11, ao11, n11, c11, rfl, BP, hP, hkc, ge11x⟩ := hcut
  replace hap := hap.keep hkc
  replace haq := haq.keep hkc
  replace har := har.keep hkc
  replace hbp := hbp.keep hkc
  replace hbq := hbq.keep hkc
  replace hbr := hbr.keep hkc
  replace BA := BA.keep hkc
  replace BB := BB.keep hkc
  replace BE := BE.keep hkc
  replace hkb := hkb.trans' hkc
  have hsx11 := hkc.size
  clear hkc
  generalize wc = w1 at *
  go_wp2_with fail
  go_cut [9] from 47 to 57 (fun p' wx => ∃ (bg : Nat) (bb : Bool) (aa : Option Addr) (nn cc : Nat), p' = .pointer (some ⟨bg, 0, none⟩) ∧ Blk wx bg #[.bool bb, .slice aa nn cc] 46 ∧ IN wx (.agg #[.bool bb, .slice aa nn cc]) ((a.q * b.r) + (b.q * a.r)) ∧ Kp w1 wx ∧ w1.heap.size ≤ bg)
  case first =>
   refine wp_region_l (S := fun w' => Kp w1 w') (by kernel_rfl) (Kp.drew' (Below.refl _ _)) (fun hS0 => ?_)
   generalize w1.drew = wd at *
   refine wpAnyL_tk (i := 0) (k := 1) (v := .pointer (some ⟨w.heap.size, 2, none⟩)) rfl ?_ hS0 ?_
   ·intro w' hw'; go_simp
   simp only [sq]
   refine wpAnyL_tk (i := 1) (k := 4) (v := .agg #[.bool b2, .slice ao2 n2 c2]) rfl ?_ hS0 ?_
   ·intro w' hw'; have hc := ((BA).keep hw').cell; go_simp
   simp only [sq]
   refine wpAnyL_tk (i := 2) (k := 3) (v := .pointer (some ⟨w.heap.size + 1, 4, none⟩)) rfl ?_ hS0 ?_
   ·intro w' hw'; go_simp
   simp only [sq]
   refine wpAnyL_tk (i := 3) (k := 4) (v := .agg #[.bool b6, .slice ao6 n6 c6]) rfl ?_ hS0 ?_
   ·intro w' hw'; have hc := ((BB).keep hw').cell; go_simp
   simp only [sq]
   refine wpAnyL_tk (i := 5) (k := 6) (v := .pointer (some ⟨w.heap.size + 1, 2, none⟩)) rfl ?_ hS0 ?_
   ·intro w' hw'; go_simp
   simp only [sq]
   refine wpAnyL_tk (i := 6) (k := 9) (v := .agg #[.bool b5, .slice ao5 n5 c5]) rfl ?_ hS0 ?_
   ·intro w' hw'; have hc := ((BB).keep hw').cell; go_simp
   simp only [sq]
   refine wpAnyL_tk (i := 7) (k := 8) (v := .pointer (some ⟨w.heap.size, 4, none⟩)) rfl ?_ hS0 ?_
   ·intro w' hw'; go_simp
   simp only [sq]
   refine wpAnyL_tk (i := 8) (k := 9) (v := .agg #[.bool b3, .slice ao3 n3 c3]) rfl ?_ hS0 ?_
   ·intro w' hw'; have hc := ((BA).keep hw').cell; go_simp
   simp only [sq]
   refine wpAnyL_ready (rs := [4, 11]) (by kernel_rfl) (by simp) ?_
   refine AllReadyL.cons rfl (fun K hK => ?_) ?_
   ·go_simp
    refine (rtimes_any a.q b.r _ _ _ (haq.keep hS0) (hbr.keep hS0) (Ft.fit fa.2.1 (by omega)) (Ft.fit fb.2.2 (by omega))).mono ?_
    rintro e w104 ⟨v104, rfl, hv104, hk104⟩
    obtain ⟨b104, ao104, n104, c104, rfl⟩ := hv104.shape'
    go_wp2_with fail
    refine hK.out _ _ (hS0.trans' hk104) (fun hS1 => ?_)
    clear hK K
    refine wpAnyL_ready (rs := [9, 11]) (by kernel_rfl) (by simp) ?_
    refine AllReadyL.cons rfl (fun K hK => ?_) ?_
    ·go_simp
     refine (rtimes_any b.q a.r _ _ _ (hbq.keep hS1) (har.keep hS1) (Ft.fit fb.2.1 (by omega)) (Ft.fit fa.2.2 (by omega))).mono ?_
     rintro e w109 ⟨v109, rfl, hv109, hk109⟩
     obtain ⟨b109, ao109, n109, c109, rfl⟩ := hv109.shape'
     replace hv104 := hv104.keep hk109
     go_wp2_with fail
     refine hK.out _ _ (hS1.trans' hk109) (fun hS2 => ?_)
     clear hK K
     refine wpAnyL_ready (rs := [10, 11]) (by kernel_rfl) (by simp) ?_
     refine AllReadyL.cons rfl (fun K hK => ?_) ?_
     ·go_simp
      refine (rplus_any (a.q * b.r) (b.q * a.r) _ _ _ hv104 hv109 (Ft.fit (Ft.mono (n := 2 * m + 0) (Ft.mul fa.2.1 fb.2.2) (by omega)) (by omega)) (Ft.fit (Ft.mono (n := 2 * m + 0) (Ft.mul fb.2.1 fa.2.2) (by omega)) (by omega))).mono ?_
      rintro e w110 ⟨v110, rfl, hv110, hk110⟩
      obtain ⟨b110, ao110, n110, c110, rfl⟩ := hv110.shape'
      go_wp2_with fail
      refine hK.out _ _ (hS2.trans' hk110) (fun hS3 => ?_)
      clear hK K
      refine wpAnyL_on (i := 11) rfl (fun K hK => ?_)
      go_simp
      refine hK.out _ _ (Kp.alloc' hS3 (.cells #[.bool false, .slice none 0 0] 46)) (fun hS4 => ?_)
      clear hK K
      have NB11 := Blk.new w110 #[.bool false, .slice none 0 0] 46
      have ge11 : w1.heap.size ≤ w110.heap.size := hS3.size
      replace hv110 := hv110.keep (kp_alloc w110 (.cells #[.bool false, .slice none 0 0] 46))
      try simp only [sq]
      generalize hA11 : w110.heap.size = A11 at *
      generalize w110.alloc (.cells #[.bool false, .slice none 0 0] 46) = wn11 at *
      have st_c := NB11.cell
      have st_f := NB11.frozen
      have st_l := NB11.lt
      refine wpAnyL_last (i := 12) rfl (by kernel_rfl) (by kernel_rfl) (by kernel_rfl) (fun K hK => ?_)
      go_simp
      refine hK.out _ _ ?_
      clear hK K
      go_wp2_with fail
      go_meet
      case rel => exact ⟨A11, _, _, _, _, rfl, (bl2 (.bool b110) (.slice ao110 n110 c110) NB11), hv110.soft (sf2 (.bool b110) (.slice ao110 n110 c110) NB11 (by decide)), (kp2 (A := A11) (.bool b110) (.slice ao110 n110 c110) hS4 ge11), ge11⟩
     refine AllReadyL.cons rfl (fun K hK => ?_) ?_
     ·go_simp
      refine hK.out _ _ (Kp.alloc' hS2 (.cells #[.bool false, .slice none 0 0] 46)) (fun hS3 => ?_)
      clear hK K
      have NB11 := Blk.new w109 #[.bool false, .slice none 0 0] 46
      have ge11 : w1.heap.size ≤ w109.heap.size := hS2.size
      replace hv104 := hv104.keep (kp_alloc w109 (.cells #[.bool false, .slice none 0 0] 46))
      replace hv109 := hv109.keep (kp_alloc w109 (.cells #[.bool false, .slice none 0 0] 46))
      try simp only [sq]
      generalize hA11 : w109.heap.size = A11 at *
      generalize w109.alloc (.cells #[.bool false, .slice none 0 0] 46) = wn11 at *
      refine wpAnyL_on (i := 10) rfl (fun K hK => ?_)
      go_simp
      refine (rplus_any (a.q * b.r) (b.q * a.r) _ _ _ hv104 hv109 (Ft.fit (Ft.mono (n := 2 * m + 0) (Ft.mul fa.2.1 fb.2.2) (by omega)) (by omega)) (Ft.fit (Ft.mono (n := 2 * m + 0) (Ft.mul fb.2.1 fa.2.2) (by omega)) (by omega))).mono ?_
      rintro e w110 ⟨v110, rfl, hv110, hk110⟩
      obtain ⟨b110, ao110, n110, c110, rfl⟩ := hv110.shape'
      replace NB11 := NB11.keep hk110
      go_wp2_with fail
      refine hK.out _ _ (hS3.trans' hk110) (fun hS4 => ?_)
      clear hK K
      have st_c := NB11.cell
      have st_f := NB11.frozen
      have st_l := NB11.lt
      refine wpAnyL_last (i := 12) rfl (by kernel_rfl) (by kernel_rfl) (by kernel_rfl) (fun K hK => ?_)
      go_simp
      refine hK.out _ _ ?_
      clear hK K
      go_wp2_with fail
      go_meet
      case rel => exact ⟨A11, _, _, _, _, rfl, (bl2 (.bool b110) (.slice ao110 n110 c110) NB11), hv110.soft (sf2 (.bool b110) (.slice ao110 n110 c110) NB11 (by decide)), (kp2 (A := A11) (.bool b110) (.slice ao110 n110 c110) hS4 ge11), ge11⟩
     exact AllReadyL.nil
    refine AllReadyL.cons rfl (fun K hK => ?_) ?_
    ·go_simp
     refine hK.out _ _ (Kp.alloc' hS1 (.cells #[.bool false, .slice none 0 0] 46)) (fun hS2 => ?_)
     clear hK K
     have NB11 := Blk.new w104 #[.bool false, .slice none 0 0] 46
     have ge11 : w1.heap.size ≤ w104.heap.size := hS1.size
     replace hv104 := hv104.keep (kp_alloc w104 (.cells #[.bool false, .slice none 0 0] 46))
     try simp only [sq]
     generalize hA11 : w104.heap.size = A11 at *
     generalize w104.alloc (.cells #[.bool false, .slice none 0 0] 46) = wn11 at *
     refine wpAnyL_on (i := 9) rfl (fun K hK => ?_)
     go_simp
     refine (rtimes_any b.q a.r _ _ _ (hbq.keep hS2) (har.keep hS2) (Ft.fit fb.2.1 (by omega)) (Ft.fit fa.2.2 (by omega))).mono ?_
     rintro e w109 ⟨v109, rfl, hv109, hk109⟩
     obtain ⟨b109, ao109, n109, c109, rfl⟩ := hv109.shape'
     replace hv104 := hv104.keep hk109
     replace NB11 := NB11.keep hk109
     go_wp2_with fail
     refine hK.out _ _ (hS2.trans' hk109) (fun hS3 => ?_)
     clear hK K
     refine wpAnyL_on (i := 10) rfl (fun K hK => ?_)
     go_simp
     refine (rplus_any (a.q * b.r) (b.q * a.r) _ _ _ hv104 hv109 (Ft.fit (Ft.mono (n := 2 * m + 0) (Ft.mul fa.2.1 fb.2.2) (by omega)) (by omega)) (Ft.fit (Ft.mono (n := 2 * m + 0) (Ft.mul fb.2.1 fa.2.2) (by omega)) (by omega))).mono ?_
     rintro e w110 ⟨v110, rfl, hv110, hk110⟩
     obtain ⟨b110, ao110, n110, c110, rfl⟩ := hv110.shape'
     replace NB11 := NB11.keep hk110
     go_wp2_with fail
     refine hK.out _ _ (hS3.trans' hk110) (fun hS4 => ?_)
     clear hK K
     have st_c := NB11.cell
     have st_f := NB11.frozen
     have st_l := NB11.lt
     refine wpAnyL_last (i := 12) rfl (by kernel_rfl) (by kernel_rfl) (by kernel_rfl) (fun K hK => ?_)
     go_simp
     refine hK.out _ _ ?_
     clear hK K
     go_wp2_with fail
     go_meet
     case rel => exact ⟨A11, _, _, _, _, rfl, (bl2 (.bool b110) (.slice ao110 n110 c110) NB11), hv110.soft (sf2 (.bool b110) (.slice ao110 n110 c110) NB11 (by decide)), (kp2 (A := A11) (.bool b110) (.slice ao110 n110 c110) hS4 ge11), ge11⟩
    exact AllReadyL.nil
   refine AllReadyL.cons rfl (fun K hK => ?_) ?_
   ·go_simp
    refine hK.out _ _ (Kp.alloc' hS0 (.cells #[.bool false, .slice none 0 0] 46)) (fun hS1 => ?_)
    clear hK K
    have NB11 := Blk.new wd #[.bool false, .slice none 0 0] 46
    have ge11 : w1.heap.size ≤ wd.heap.size := hS0.size
    try simp only [sq]
    generalize hA11 : wd.heap.size = A11 at *
    generalize wd.alloc (.cells #[.bool false, .slice none 0 0] 46) = wn11 at *
    refine wpAnyL_on (i := 4) rfl (fun K hK => ?_)
    go_simp
    refine (rtimes_any a.q b.r _ _ _ (haq.keep hS1) (hbr.keep hS1) (Ft.fit fa.2.1 (by omega)) (Ft.fit fb.2.2 (by omega))).mono ?_
    rintro e w104 ⟨v104, rfl, hv104, hk104⟩
    obtain ⟨b104, ao104, n104, c104, rfl⟩ := hv104.shape'
    replace NB11 := NB11.keep hk104
    go_wp2_with fail
    refine hK.out _ _ (hS1.trans' hk104) (fun hS2 => ?_)
    clear hK K
    refine wpAnyL_on (i := 9) rfl (fun K hK => ?_)
    go_simp
    refine (rtimes_any b.q a.r _ _ _ (hbq.keep hS2) (har.keep hS2) (Ft.fit fb.2.1 (by omega)) (Ft.fit fa.2.2 (by omega))).mono ?_
    rintro e w109 ⟨v109, rfl, hv109, hk109⟩
    obtain ⟨b109, ao109, n109, c109, rfl⟩ := hv109.shape'
    replace NB11 := NB11.keep hk109
    replace hv104 := hv104.keep hk109
    go_wp2_with fail
    refine hK.out _ _ (hS2.trans' hk109) (fun hS3 => ?_)
    clear hK K
    refine wpAnyL_on (i := 10) rfl (fun K hK => ?_)
    go_simp
    refine (rplus_any (a.q * b.r) (b.q * a.r) _ _ _ hv104 hv109 (Ft.fit (Ft.mono (n := 2 * m + 0) (Ft.mul fa.2.1 fb.2.2) (by omega)) (by omega)) (Ft.fit (Ft.mono (n := 2 * m + 0) (Ft.mul fb.2.1 fa.2.2) (by omega)) (by omega))).mono ?_
    rintro e w110 ⟨v110, rfl, hv110, hk110⟩
    obtain ⟨b110, ao110, n110, c110, rfl⟩ := hv110.shape'
    replace NB11 := NB11.keep hk110
    go_wp2_with fail
    refine hK.out _ _ (hS3.trans' hk110) (fun hS4 => ?_)
    clear hK K
    have st_c := NB11.cell
    have st_f := NB11.frozen
    have st_l := NB11.lt
    refine wpAnyL_last (i := 12) rfl (by kernel_rfl) (by kernel_rfl) (by kernel_rfl) (fun K hK => ?_)
    go_simp
    refine hK.out _ _ ?_
    clear hK K
    go_wp2_with fail
    go_meet
    case rel => exact ⟨A11, _, _, _, _, rfl, (bl2 (.bool b110) (.slice ao110 n110 c110) NB11), hv110.soft (sf2 (.bool b110) (.slice ao110 n110 c110) NB11 (by decide)), (kp2 (A := A11) (.bool b110) (.slice ao110 n110 c110) hS4 ge11), ge11⟩
   exact AllReadyL.nil
  case rest =>
   obtain ⟨bg12, b12, ao12, n12, c12, rfl, BQ, hQ, hkc, ge12x⟩ := hcut
   replace hap := hap.keep hkc
   replace haq := haq.keep hkc
   replace har := har.keep hkc
   replace hbp := hbp.keep hkc
   replace hbq := hbq.keep hkc
   replace hbr := hbr.keep hkc
   replace BA := BA.keep hkc
   replace BB := BB.keep hkc
   replace BE := BE.keep hkc
   replace BP := BP.keep hkc
   replace hP := hP.keep hkc
   replace hkb := hkb.trans' hkc
   have hsx12 := hkc.size
   clear hkc
   generalize wc = w2 at *
   go_wp2_with fail
   refine wp_region_l (S := fun w' => Kp w2 w') (by kernel_rfl) (Kp.drew' (Below.refl _ _)) (fun hS0 => ?_)
   generalize w2.drew = wd at *
   refine wpAnyL_tk (i := 0) (k := 8) (v := .agg #[.bool b11, .slice ao11 n11 c11]) rfl ?_ hS0 ?_
   ·intro w' hw'; have hc := ((BP).keep hw').cell; go_simp
   simp only [sq]
   refine wpAnyL_tk (i := 1) (k := 8) (v := .agg #[.bool b12, .slice ao12 n12 c12]) rfl ?_ hS0 ?_
   ·intro w' hw'; have hc := ((BQ).keep hw').cell; go_simp
   simp only [sq]
   refine wpAnyL_tk (i := 2) (k := 3) (v := .pointer (some ⟨w.heap.size, 4, none⟩)) rfl ?_ hS0 ?_
   ·intro w' hw'; go_simp
   simp only [sq]
   refine wpAnyL_tk (i := 3) (k := 6) (v := .agg #[.bool b3, .slice ao3 n3 c3]) rfl ?_ hS0 ?_
   ·intro w' hw'; have hc := ((BA).keep hw').cell; go_simp
   simp only [sq]
   refine wpAnyL_tk (i := 4) (k := 5) (v := .pointer (some ⟨w.heap.size + 1, 4, none⟩)) rfl ?_ hS0 ?_
   ·intro w' hw'; go_simp
   simp only [sq]
   refine wpAnyL_tk (i := 5) (k := 6) (v := .agg #[.bool b6, .slice ao6 n6 c6]) rfl ?_ hS0 ?_
   ·intro w' hw'; have hc := ((BB).keep hw').cell; go_simp
   simp only [sq]
   refine wpAnyL_tk (i := 7) (k := 8) (v := .int .i64 D) rfl ?_ hS0 ?_
   ·intro w' hw'; go_simp
   simp only [sq]
   refine wpAnyL_on (i := 6) rfl (fun K hK => ?_)
   go_simp
   refine (rtimes_any a.r b.r _ _ _ (har.keep hS0) (hbr.keep hS0) (Ft.fit fa.2.2 (by omega)) (Ft.fit fb.2.2 (by omega))).mono ?_
   rintro e w106 ⟨v106, rfl, hv106, hk106⟩
   obtain ⟨b106, ao106, n106, c106, rfl⟩ := hv106.shape'
   go_wp2_with fail
   refine hK.out _ _ (hS0.trans' hk106) (fun hS1 => ?_)
   clear hK K
   refine wpAnyL_on (i := 8) rfl (fun K hK => ?_)
   go_simp
   refine (formed_any ((a.p * b.r) + (b.p * a.r)) ((a.q * b.r) + (b.q * a.r)) (a.r * b.r) D (2 * m + 1) _ _ _ _ (hP.keep hS1) (hQ.keep hS1) hv106 hr0 (by omega) (Ft.mono (n := 2 * m + 1) (Ft.mono (n := 2 * m + 1) (Ft.add (Ft.mono (n := 2 * m + 0) (Ft.mono (n := 2 * m + 0) (Ft.mul fa.1 fb.2.2) (by omega)) (by omega)) (Ft.mono (n := 2 * m + 0) (Ft.mono (n := 2 * m + 0) (Ft.mul fb.1 fa.2.2) (by omega)) (by omega))) (by omega)) (by omega)) (Ft.mono (n := 2 * m + 1) (Ft.mono (n := 2 * m + 1) (Ft.add (Ft.mono (n := 2 * m + 0) (Ft.mono (n := 2 * m + 0) (Ft.mul fa.2.1 fb.2.2) (by omega)) (by omega)) (Ft.mono (n := 2 * m + 0) (Ft.mono (n := 2 * m + 0) (Ft.mul fb.2.1 fa.2.2) (by omega)) (by omega))) (by omega)) (by omega)) (Ft.mono (n := 2 * m + 1) (Ft.mono (n := 2 * m + 0) (Ft.mul fa.2.2 fb.2.2) (by omega)) (by omega))).mono ?_
   rintro e w108 ⟨v108, rfl, hv108, hk108⟩
   obtain ⟨b108p, ao108p, n108p, c108p, b108q, ao108q, n108q, c108q, b108r, ao108r, n108r, c108r, rfl, hv108p, hv108q, hv108r⟩ := id hv108
   go_wp2_with fail
   refine hK.out _ _ (hS1.trans' hk108) (fun hS2 => ?_)
   clear hK K
   have TB := (BE).keep hS2
   have st_c := TB.cell
   have st_f := TB.frozen
   have st_l := TB.lt
   refine wpAnyL_last (i := 9) rfl (by kernel_rfl) (by kernel_rfl) (by kernel_rfl) (fun K hK => ?_)
   go_simp
   refine hK.out _ _ ?_
   clear hK K
   go_wp2_with fail
   refine bodyPost_ret (v := .agg #[.bool b108p, .slice ao108p n108p c108p, .bool b108q, .slice ao108q n108q c108q, .bool b108r, .slice ao108r n108r c108r, .int .i64 (qreduce ((a.p * b.r) + (b.p * a.r)) ((a.q * b.r) + (b.q * a.r)) (a.r * b.r) D).d]) (by simp [results, Try.results30, go_sem, st_c]) rfl ?_
   exact ⟨_, rfl, hv108.soft (sf7 (.bool b108p) (.slice ao108p n108p c108p) (.bool b108q) (.slice ao108q n108q c108q) (.bool b108r) (.slice ao108r n108r c108r) (.int .i64 (qreduce ((a.p * b.r) + (b.p * a.r)) ((a.q * b.r) + (b.q * a.r)) (a.r * b.r) D).d) TB (by decide)), (kp7 (A := w.heap.size + 1 + 1) (.bool b108p) (.slice ao108p n108p c108p) (.bool b108q) (.slice ao108q n108q c108q) (.bool b108r) (.slice ao108r n108r c108r) (.int .i64 (qreduce ((a.p * b.r) + (b.p * a.r)) ((a.q * b.r) + (b.q * a.r)) (a.r * b.r) D).d) (hkb.trans' hS2) (by show w.heap.size ≤ w.heap.size + 1 + 1; omega))⟩
 

end Go.Proofs.Ytjahbjjekednfaa
