import Derived.Test.YtjahbjjekednfaaC5
import Derived.Test.YtjahbjjekednfaaC1
import Derived.Test.YtjahbjjekednfaaSt
import Derived.Deep.CutRange
namespace Go.Proofs.Ytjahbjjekednfaa
open Go.RowKit

theorem rsg_bd (p q d : Int) : rsg p q d = -1 ∨ rsg p q d = 0 ∨ rsg p q d = 1 := by
 have hp : p.sign = -1 ∨ p.sign = 0 ∨ p.sign = 1 := by rcases sign3 p with h | h | h <;> omega
 have hq : q.sign = -1 ∨ q.sign = 0 ∨ q.sign = 1 := by rcases sign3 q with h | h | h <;> omega
 unfold rsg rsS
 split
 ·split
  ·exact hp
  ·exact hq
 ·split
  ·exact hp
  ·exact hq

set_option maxHeartbeats 6400000 in
set_option maxRecDepth 100000 in
theorem order_two (a b : Qn) (u v : Value) (w : World) (m : Nat) (hm : m ≤ 9000000) (ha : NN w u a) (hb : NN w v b) (oa : Qok a) (ob : Qok b) (fa : QF m a) (fb : QF m b) (h : ¬ (a.d = 1 ∨ b.d = 1 ∨ a.d = b.d)) :
  Calls Try.prog 16 #[u, v] w (RetV w (.int .i64 (rord a b))) := by
 have HR : Hid (rord a b = r3 (rsg ((a.p * b.r) - (b.p * a.r)) (a.q * b.r) a.d) (b.q * a.r).sign (rsg (((((a.p * b.r) - (b.p * a.r)) * ((a.p * b.r) - (b.p * a.r))) + (((a.q * b.r) * (a.q * b.r)) * a.d)) - (((b.q * a.r) * (b.q * a.r)) * b.d)) (2 * (((a.p * b.r) - (b.p * a.r)) * (a.q * b.r))) a.d)) := by unfold Hid rord; rw [if_neg h]
 have x1 : (a.d == 1) = false := by simp; omega
 have x2 : (b.d == 1) = false := by simp; omega
 have x3 : (a.d == b.d) = false := by simp; omega
 have ad0 : 0 ≤ a.d := by have := oa.d0; omega
 have ad2 : a.d ≤ 1000000 := by have := oa.d1; omega
 have bd0 : 0 ≤ b.d := by have := ob.d0; omega
 have bd2 : b.d ≤ 1000000 := by have := ob.d1; omega
 have ad1 : a.d ≤ 9223372036854775807 := by omega
 have bd1 : b.d ≤ 9223372036854775807 := by omega
 have fad : Ft 7 a.d := by unfold Ft; omega
 have fbd : Ft 7 b.d := by unfold Ft; omega
 have f2 : Ft 1 2 := by unfold Ft; decide
 obtain ⟨b1, ao1, n1, c1, b2, ao2, n2, c2, b3, ao3, n3, c3, rfl, hap, haq, har⟩ := id ha
 obtain ⟨b4, ao4, n4, c4, b5, ao5, n5, c5, b6, ao6, n6, c6, rfl, hbp, hbq, hbr⟩ := id hb
 have hkb : Kp w ((w.alloc (.cells #[.bool b1, .slice ao1 n1 c1, .bool b2, .slice ao2 n2 c2, .bool b3, .slice ao3 n3 c3, .int .i64 a.d] 48)).alloc (.cells #[.bool b4, .slice ao4 n4 c4, .bool b5, .slice ao5 n5 c5, .bool b6, .slice ao6 n6 c6, .int .i64 b.d] 48)) := (Kp.alloc' (Kp.alloc' (Below.refl w.heap.size w) (.cells #[.bool b1, .slice ao1 n1 c1, .bool b2, .slice ao2 n2 c2, .bool b3, .slice ao3 n3 c3, .int .i64 a.d] 48)) (.cells #[.bool b4, .slice ao4 n4 c4, .bool b5, .slice ao5 n5 c5, .bool b6, .slice ao6 n6 c6, .int .i64 b.d] 48))
 have BA : Blk ((w.alloc (.cells #[.bool b1, .slice ao1 n1 c1, .bool b2, .slice ao2 n2 c2, .bool b3, .slice ao3 n3 c3, .int .i64 a.d] 48)).alloc (.cells #[.bool b4, .slice ao4 n4 c4, .bool b5, .slice ao5 n5 c5, .bool b6, .slice ao6 n6 c6, .int .i64 b.d] 48)) (w.heap.size) #[.bool b1, .slice ao1 n1 c1, .bool b2, .slice ao2 n2 c2, .bool b3, .slice ao3 n3 c3, .int .i64 a.d] 48 := (Blk.alloc (Blk.new w _ _) (.cells #[.bool b4, .slice ao4 n4 c4, .bool b5, .slice ao5 n5 c5, .bool b6, .slice ao6 n6 c6, .int .i64 b.d] 48))
 have BB : Blk ((w.alloc (.cells #[.bool b1, .slice ao1 n1 c1, .bool b2, .slice ao2 n2 c2, .bool b3, .slice ao3 n3 c3, .int .i64 a.d] 48)).alloc (.cells #[.bool b4, .slice ao4 n4 c4, .bool b5, .slice ao5 n5 c5, .bool b6, .slice ao6 n6 c6, .int .i64 b.d] 48)) (w.heap.size + 1) #[.bool b4, .slice ao4 n4 c4, .bool b5, .slice ao5 n5 c5, .bool b6, .slice ao6 n6 c6, .int .i64 b.d] 48 := (Blk.at (Blk.new (w.alloc (.cells #[.bool b1, .slice ao1 n1 c1, .bool b2, .slice ao2 n2 c2, .bool b3, .slice ao3 n3 c3, .int .i64 a.d] 48)) _ _) (by simp))
 
 replace hap := hap.keep hkb
 replace haq := haq.keep hkb
 replace har := har.keep hkb
 replace hbp := hbp.keep hkb
 replace hbq := hbq.keep hkb
 replace hbr := hbr.keep hkb
 have l1 := BA.lt
 have l2 := BB.lt
 clear ha hb oa ob h
 go_enter Try.func16, Try.ntmps16
 go_wp2_with fail
 generalize ((w.alloc (.cells #[.bool b1, .slice ao1 n1 c1, .bool b2, .slice ao2 n2 c2, .bool b3, .slice ao3 n3 c3, .int .i64 a.d] 48)).alloc (.cells #[.bool b4, .slice ao4 n4 c4, .bool b5, .slice ao5 n5 c5, .bool b6, .slice ao6 n6 c6, .int .i64 b.d] 48)) = w0 at *
 go_cut [6] from 38 to 48 (fun p' wx => ∃ (bg : Nat) (bb : Bool) (aa : Option Addr) (nn cc : Nat), p' = .pointer (some ⟨bg, 0, none⟩) ∧ Blk wx bg #[.bool bb, .slice aa nn cc] 46 ∧ IN wx (.agg #[.bool bb, .slice aa nn cc]) ((a.p * b.r) - (b.p * a.r)) ∧ Kp w0 wx ∧ w0.heap.size ≤ bg)
 case first =>
  refine wp_region_l (S := fun w' => Kp w0 w') (by kernel_rfl) (Kp.drew' (Below.refl _ _)) (fun hS0 => ?_)
  generalize w0.drew = wd at *
  refine wpAnyL_tk (i := 0) (k := 1) (v := .pointer (some ⟨w.heap.size, 0, none⟩)) rfl ?_ hS0 ?_
  ·intro w' hw'; go_simp
  simp only [sq]
  refine wpAnyL_tk (i := 1) (k := 4) (v := .agg #[.bool b1, .slice ao1 n1 c1]) rfl ?_ hS0 ?_
  ·intro w' hw'; have hc := ((BA).keep hw').cell; go_simp
  simp only [sq]
  refine wpAnyL_tk (i := 2) (k := 3) (v := .pointer (some ⟨w.heap.size + 1, 4, none⟩)) rfl ?_ hS0 ?_
  ·intro w' hw'; go_simp
  simp only [sq]
  refine wpAnyL_tk (i := 3) (k := 4) (v := .agg #[.bool b6, .slice ao6 n6 c6]) rfl ?_ hS0 ?_
  ·intro w' hw'; have hc := ((BB).keep hw').cell; go_simp
  simp only [sq]
  refine wpAnyL_tk (i := 5) (k := 6) (v := .pointer (some ⟨w.heap.size + 1, 0, none⟩)) rfl ?_ hS0 ?_
  ·intro w' hw'; go_simp
  simp only [sq]
  refine wpAnyL_tk (i := 6) (k := 9) (v := .agg #[.bool b4, .slice ao4 n4 c4]) rfl ?_ hS0 ?_
  ·intro w' hw'; have hc := ((BB).keep hw').cell; go_simp
  simp only [sq]
  refine wpAnyL_tk (i := 7) (k := 8) (v := .pointer (some ⟨w.heap.size, 4, none⟩)) rfl ?_ hS0 ?_
  ·intro w' hw'; go_simp
  simp only [sq]
  refine wpAnyL_tk (i := 8) (k := 9) (v := .agg #[.bool b3, .slice ao3 n3 c3]) rfl ?_ hS0 ?_
  ·intro w' hw'; have hc := ((BA).keep hw').cell; go_simp
  simp only [sq]
  refine wpAnyL_ready (rs := [4, 11]) (by kernel_rfl) (by simp) ?_
  refine AllReadyL.cons rfl (fun K hK => ?_) ?_
  ·go_simp
   refine (rtimes_any a.p b.r _ _ _ (hap.keep hS0) (hbr.keep hS0) (Ft.fit fa.1 (by omega)) (Ft.fit fb.2.2 (by omega))).mono ?_
   rintro e w104 ⟨v104, rfl, hv104, hk104⟩
   obtain ⟨b104, ao104, n104, c104, rfl⟩ := hv104.shape'
   go_wp2_with fail
   refine hK.out _ _ (hS0.trans' hk104) (fun hS1 => ?_)
   clear hK K
   refine wpAnyL_ready (rs := [9, 11]) (by kernel_rfl) (by simp) ?_
   refine AllReadyL.cons rfl (fun K hK => ?_) ?_
   ·go_simp
    refine (rtimes_any b.p a.r _ _ _ (hbp.keep hS1) (har.keep hS1) (Ft.fit fb.1 (by omega)) (Ft.fit fa.2.2 (by omega))).mono ?_
    rintro e w109 ⟨v109, rfl, hv109, hk109⟩
    obtain ⟨b109, ao109, n109, c109, rfl⟩ := hv109.shape'
    replace hv104 := hv104.keep hk109
    go_wp2_with fail
    refine hK.out _ _ (hS1.trans' hk109) (fun hS2 => ?_)
    clear hK K
    refine wpAnyL_ready (rs := [10, 11]) (by kernel_rfl) (by simp) ?_
    refine AllReadyL.cons rfl (fun K hK => ?_) ?_
    ·go_simp
     refine (rminus_any (a.p * b.r) (b.p * a.r) _ _ _ hv104 hv109 (Ft.fit (Ft.mono (n := 2 * m + 0) (Ft.mul fa.1 fb.2.2) (by omega)) (by omega)) (Ft.fit (Ft.mono (n := 2 * m + 0) (Ft.mul fb.1 fa.2.2) (by omega)) (by omega))).mono ?_
     rintro e w110 ⟨v110, rfl, hv110, hk110⟩
     obtain ⟨b110, ao110, n110, c110, rfl⟩ := hv110.shape'
     go_wp2_with fail
     refine hK.out _ _ (hS2.trans' hk110) (fun hS3 => ?_)
     clear hK K
     refine wpAnyL_on (i := 11) rfl (fun K hK => ?_)
     go_simp
     refine hK.out _ _ (Kp.alloc' hS3 (.cells #[.bool false, .slice none 0 0] 46)) (fun hS4 => ?_)
     clear hK K
     have NB11 := Blk.new w110 #[.bool false, .slice none 0 0] 46
     have ge11 : w0.heap.size ≤ w110.heap.size := hS3.size
     replace hv110 := hv110.keep (kp_alloc w110 (.cells #[.bool false, .slice none 0 0] 46))
     try simp only [sq]
     generalize hA11 : w110.heap.size = A11 at *
     generalize w110.alloc (.cells #[.bool false, .slice none 0 0] 46) = wn11 at *
     have st_c := NB11.cell
     have st_f := NB11.frozen
     have st_l := NB11.lt
     refine wpAnyL_last (i := 12) rfl (by kernel_rfl) (by kernel_rfl) (by kernel_rfl) (fun K hK => ?_)
     go_simp
     refine hK.out _ _ ?_
     clear hK K
     go_wp2_with fail
     go_meet
     case rel => exact ⟨A11, _, _, _, _, rfl, (bl2 (.bool b110) (.slice ao110 n110 c110) NB11), hv110.soft (sf2 (.bool b110) (.slice ao110 n110 c110) NB11 (by decide)), (kp2 (A := A11) (.bool b110) (.slice ao110 n110 c110) hS4 ge11), ge11⟩
    refine AllReadyL.cons rfl (fun K hK => ?_) ?_
    ·go_simp
     refine hK.out _ _ (Kp.alloc' hS2 (.cells #[.bool false, .slice none 0 0] 46)) (fun hS3 => ?_)
     clear hK K
     have NB11 := Blk.new w109 #[.bool false, .slice none 0 0] 46
     have ge11 : w0.heap.size ≤ w109.heap.size := hS2.size
     replace hv104 := hv104.keep (kp_alloc w109 (.cells #[.bool false, .slice none 0 0] 46))
     replace hv109 := hv109.keep (kp_alloc w109 (.cells #[.bool false, .slice none 0 0] 46))
     try simp only [sq]
     generalize hA11 : w109.heap.size = A11 at *
     generalize w109.alloc (.cells #[.bool false, .slice none 0 0] 46) = wn11 at *
     refine wpAnyL_on (i := 10) rfl (fun K hK => ?_)
     go_simp
     refine (rminus_any (a.p * b.r) (b.p * a.r) _ _ _ hv104 hv109 (Ft.fit (Ft.mono (n := 2 * m + 0) (Ft.mul fa.1 fb.2.2) (by omega)) (by omega)) (Ft.fit (Ft.mono (n := 2 * m + 0) (Ft.mul fb.1 fa.2.2) (by omega)) (by omega))).mono ?_
     rintro e w110 ⟨v110, rfl, hv110, hk110⟩
     obtain ⟨b110, ao110, n110, c110, rfl⟩ := hv110.shape'
     replace NB11 := NB11.keep hk110
     go_wp2_with fail
     refine hK.out _ _ (hS3.trans' hk110) (fun hS4 => ?_)
     clear hK K
     have st_c := NB11.cell
     have st_f := NB11.frozen
     have st_l := NB11.lt
     refine wpAnyL_last (i := 12) rfl (by kernel_rfl) (by kernel_rfl) (by kernel_rfl) (fun K hK => ?_)
     go_simp
     refine hK.out _ _ ?_
     clear hK K
     go_wp2_with fail
     go_meet
     case rel => exact ⟨A11, _, _, _, _, rfl, (bl2 (.bool b110) (.slice ao110 n110 c110) NB11), hv110.soft (sf2 (.bool b110) (.slice ao110 n110 c110) NB11 (by decide)), (kp2 (A := A11) (.bool b110) (.slice ao110 n110 c110) hS4 ge11), ge11⟩
    exact AllReadyL.nil
   refine AllReadyL.cons rfl (fun K hK => ?_) ?_
   ·go_simp
    refine hK.out _ _ (Kp.alloc' hS1 (.cells #[.bool false, .slice none 0 0] 46)) (fun hS2 => ?_)
    clear hK K
    have NB11 := Blk.new w104 #[.bool false, .slice none 0 0] 46
    have ge11 : w0.heap.size ≤ w104.heap.size := hS1.size
    replace hv104 := hv104.keep (kp_alloc w104 (.cells #[.bool false, .slice none 0 0] 46))
    try simp only [sq]
    generalize hA11 : w104.heap.size = A11 at *
    generalize w104.alloc (.cells #[.bool false, .slice none 0 0] 46) = wn11 at *
    refine wpAnyL_on (i := 9) rfl (fun K hK => ?_)
    go_simp
    refine (rtimes_any b.p a.r _ _ _ (hbp.keep hS2) (har.keep hS2) (Ft.fit fb.1 (by omega)) (Ft.fit fa.2.2 (by omega))).mono ?_
    rintro e w109 ⟨v109, rfl, hv109, hk109⟩
    obtain ⟨b109, ao109, n109, c109, rfl⟩ := hv109.shape'
    replace hv104 := hv104.keep hk109
    replace NB11 := NB11.keep hk109
    go_wp2_with fail
    refine hK.out _ _ (hS2.trans' hk109) (fun hS3 => ?_)
    clear hK K
    refine wpAnyL_on (i := 10) rfl (fun K hK => ?_)
    go_simp
    refine (rminus_any (a.p * b.r) (b.p * a.r) _ _ _ hv104 hv109 (Ft.fit (Ft.mono (n := 2 * m + 0) (Ft.mul fa.1 fb.2.2) (by omega)) (by omega)) (Ft.fit (Ft.mono (n := 2 * m + 0) (Ft.mul fb.1 fa.2.2) (by omega)) (by omega))).mono ?_
    rintro e w110 ⟨v110, rfl, hv110, hk110⟩
    obtain ⟨b110, ao110, n110, c110, rfl⟩ := hv110.shape'
    replace NB11 := NB11.keep hk110
    go_wp2_with fail
    refine hK.out _ _ (hS3.trans' hk110) (fun hS4 => ?_)
    clear hK K
    have st_c := NB11.cell
    have st_f := NB11.frozen
    have st_l := NB11.lt
    refine wpAnyL_last (i := 12) rfl (by kernel_rfl) (by kernel_rfl) (by kernel_rfl) (fun K hK => ?_)
    go_simp
    refine hK.out _ _ ?_
    clear hK K
    go_wp2_with fail
    go_meet
    case rel => exact ⟨A11, _, _, _, _, rfl, (bl2 (.bool b110) (.slice ao110 n110 c110) NB11), hv110.soft (sf2 (.bool b110) (.slice ao110 n110 c110) NB11 (by decide)), (kp2 (A := A11) (.bool b110) (.slice ao110 n110 c110) hS4 ge11), ge11⟩
   exact AllReadyL.nil
  refine AllReadyL.cons rfl (fun K hK => ?_) ?_
  ·go_simp
   refine hK.out _ _ (Kp.alloc' hS0 (.cells #[.bool false, .slice none 0 0] 46)) (fun hS1 => ?_)
   clear hK K
   have NB11 := Blk.new wd #[.bool false, .slice none 0 0] 46
   have ge11 : w0.heap.size ≤ wd.heap.size := hS0.size
   try simp only [sq]
   generalize hA11 : wd.heap.size = A11 at *
   generalize wd.alloc (.cells #[.bool false, .slice none 0 0] 46) = wn11 at *
   refine wpAnyL_on (i := 4) rfl (fun K hK => ?_)
   go_simp
   refine (rtimes_any a.p b.r _ _ _ (hap.keep hS1) (hbr.keep hS1) (Ft.fit fa.1 (by omega)) (Ft.fit fb.2.2 (by omega))).mono ?_
   rintro e w104 ⟨v104, rfl, hv104, hk104⟩
   obtain ⟨b104, ao104, n104, c104, rfl⟩ := hv104.shape'
   replace NB11 := NB11.keep hk104
   go_wp2_with fail
   refine hK.out _ _ (hS1.trans' hk104) (fun hS2 => ?_)
   clear hK K
   refine wpAnyL_on (i := 9) rfl (fun K hK => ?_)
   go_simp
   refine (rtimes_any b.p a.r _ _ _ (hbp.keep hS2) (har.keep hS2) (Ft.fit fb.1 (by omega)) (Ft.fit fa.2.2 (by omega))).mono ?_
   rintro e w109 ⟨v109, rfl, hv109, hk109⟩
   obtain ⟨b109, ao109, n109, c109, rfl⟩ := hv109.shape'
   replace NB11 := NB11.keep hk109
   replace hv104 := hv104.keep hk109
   go_wp2_with fail
   refine hK.out _ _ (hS2.trans' hk109) (fun hS3 => ?_)
   clear hK K
   refine wpAnyL_on (i := 10) rfl (fun K hK => ?_)
   go_simp
   refine (rminus_any (a.p * b.r) (b.p * a.r) _ _ _ hv104 hv109 (Ft.fit (Ft.mono (n := 2 * m + 0) (Ft.mul fa.1 fb.2.2) (by omega)) (by omega)) (Ft.fit (Ft.mono (n := 2 * m + 0) (Ft.mul fb.1 fa.2.2) (by omega)) (by omega))).mono ?_
   rintro e w110 ⟨v110, rfl, hv110, hk110⟩
   obtain ⟨b110, ao110, n110, c110, rfl⟩ := hv110.shape'
   replace NB11 := NB11.keep hk110
   go_wp2_with fail
   refine hK.out _ _ (hS3.trans' hk110) (fun hS4 => ?_)
   clear hK K
   have st_c := NB11.cell
   have st_f := NB11.frozen
   have st_l := NB11.lt
   refine wpAnyL_last (i := 12) rfl (by kernel_rfl) (by kernel_rfl) (by kernel_rfl) (fun K hK => ?_)
   go_simp
   refine hK.out _ _ ?_
   clear hK K
   go_wp2_with fail
   go_meet
   case rel => exact ⟨A11, _, _, _, _, rfl, (bl2 (.bool b110) (.slice ao110 n110 c110) NB11), hv110.soft (sf2 (.bool b110) (.slice ao110 n110 c110) NB11 (by decide)), (kp2 (A := A11) (.bool b110) (.slice ao110 n110 c110) hS4 ge11), ge11⟩
  exact AllReadyL.nil
 case rest =>
  obtain ⟨ba, b11, ao11, n11, c11, rfl, B6, hA, hkc, gea⟩ := hcut
  replace hap := hap.keep hkc
  replace haq := haq.keep hkc
  replace har := har.keep hkc
  replace hbp := hbp.keep hkc
  replace hbq := hbq.keep hkc
  replace hbr := hbr.keep hkc
  replace BA := BA.keep hkc
  replace BB := BB.keep hkc
  replace hkb := hkb.trans' hkc
  have hsA := hkc.size
  clear hkc
  have fA : Ft (2 * m + 1) ((a.p * b.r) - (b.p * a.r)) := (Ft.mono (n := 2 * m + 1) (Int.sub_eq_add_neg ▸ Ft.add (Ft.mono (n := 2 * m + 0) (Ft.mono (n := 2 * m + 0) (Ft.mul fa.1 fb.2.2) (by omega)) (by omega)) (Ft.neg (Ft.mono (n := 2 * m + 0) (Ft.mono (n := 2 * m + 0) (Ft.mul fb.1 fa.2.2) (by omega)) (by omega)))) (by omega))
  have fB : Ft (2 * m + 1) (a.q * b.r) := (fa.2.1.mul fb.2.2).mono (by omega)
  have fC : Ft (2 * m + 1) (b.q * a.r) := (fb.2.1.mul fa.2.2).mono (by omega)
  generalize wc = w1 at *
  have ac := BA.cell
  have bc' := BB.cell
  have al := BA.lt
  have bl' := BB.lt
  go_wp2_with fail
  refine (rtimes_any a.q b.r _ _ _ haq hbr (fa.2.1.fit (by omega)) (fb.2.2.fit (by omega))).mono ?_
  rintro e w2 ⟨v2, rfl, hB, hk2⟩
  obtain ⟨b12, ao12, n12, c12, rfl⟩ := hB.shape'
  have ka2 := kp_alloc w2 (.cells #[.bool b12, .slice ao12 n12 c12] 46)
  have B7 := Blk.new w2 #[.bool b12, .slice ao12 n12 c12] 46
  clear ac bc' al bl'
  replace hap := hap.keep (hk2.trans' ka2)
  replace haq := haq.keep (hk2.trans' ka2)
  replace har := har.keep (hk2.trans' ka2)
  replace hbp := hbp.keep (hk2.trans' ka2)
  replace hbq := hbq.keep (hk2.trans' ka2)
  replace hbr := hbr.keep (hk2.trans' ka2)
  replace BA := BA.keep (hk2.trans' ka2)
  replace BB := BB.keep (hk2.trans' ka2)
  replace B6 := B6.keep (hk2.trans' ka2)
  replace hA := hA.keep (hk2.trans' ka2)
  replace hB := hB.keep ka2
  replace hkb := hkb.trans' (hk2.trans' ka2)
  have ac := BA.cell
  have bc' := BB.cell
  have al := BA.lt
  have bl' := BB.lt
  have a6l := B6.lt
  have a6c := B6.cell
  go_wp2_with fail
  generalize hbb : w2.heap.size = bb at *
  generalize w2.alloc (.cells #[.bool b12, .slice ao12 n12 c12] 46) = w2' at *
  refine (rtimes_any b.q a.r _ _ _ hbq har (fb.2.1.fit (by omega)) (fa.2.2.fit (by omega))).mono ?_
  rintro e w3 ⟨v3, rfl, hC, hk3⟩
  obtain ⟨b13, ao13, n13, c13, rfl⟩ := hC.shape'
  have ka3 := kp_alloc w3 (.cells #[.bool b13, .slice ao13 n13 c13] 46)
  have B8 := Blk.new w3 #[.bool b13, .slice ao13 n13 c13] 46
  clear ac bc' al bl' a6l a6c
  replace BA := BA.keep (hk3.trans' ka3)
  replace BB := BB.keep (hk3.trans' ka3)
  replace B6 := B6.keep (hk3.trans' ka3)
  replace B7 := B7.keep (hk3.trans' ka3)
  replace hA := hA.keep (hk3.trans' ka3)
  replace hB := hB.keep (hk3.trans' ka3)
  replace hC := hC.keep ka3
  replace hkb := hkb.trans' (hk3.trans' ka3)
  clear hap haq har hbp hbq hbr
  generalize ((a.p * b.r) - (b.p * a.r)) = A at *
  generalize (a.q * b.r) = B at *
  generalize (b.q * a.r) = C at *
  have ac := BA.cell
  have al := BA.lt
  have a6l := B6.lt
  have a6c := B6.cell
  have a7l := B7.lt
  have a7c := B7.cell
  have a8l := B8.lt
  have a8c := B8.cell
  go_wp2_with fail
  generalize hbc : w3.heap.size = bc at *
  generalize w3.alloc (.cells #[.bool b13, .slice ao13 n13 c13] 46) = w3' at *
  refine (sign_ref A B a.d (2 * m + 1) _ _ _ hA hB (by omega) fA fB ad0 ad2).mono ?_
  rintro e w4 ⟨rfl, hk4⟩
  clear ac al a6l a6c a7l a7c a8l a8c
  replace BA := BA.keep hk4
  replace BB := BB.keep hk4
  replace B6 := B6.keep hk4
  replace B7 := B7.keep hk4
  replace B8 := B8.keep hk4
  replace hA := hA.keep hk4
  replace hB := hB.keep hk4
  replace hC := hC.keep hk4
  replace hkb := hkb.trans' hk4
  have a8l := B8.lt
  have a8c := B8.cell
  generalize hss : rsg A B a.d = ss at *
  go_wp2_with fail
  refine (rsign_any C _ _ hC).mono ?_
  rintro e w5 ⟨rfl, hk5⟩
  clear a8l a8c
  replace BA := BA.keep hk5
  replace BB := BB.keep hk5
  replace B6 := B6.keep hk5
  replace B7 := B7.keep hk5
  replace B8 := B8.keep hk5
  replace hA := hA.keep hk5
  replace hB := hB.keep hk5
  replace hC := hC.keep hk5
  replace hkb := hkb.trans' hk5
  have al := BA.lt
  have bl' := BB.lt
  have a6l := B6.lt
  have a7l := B7.lt
  have a8l := B8.lt
  generalize htt : C.sign = tt at *
  by_cases g1 : tt < ss
  ·have HO : Hid (rord a b = 1) := by unfold Hid; rw [HR.out]; unfold r3; rw [if_pos g1]
   clear HR
   go_wp2_with fail
   go_ret
   exact ⟨by rw [HO.out]; rfl, hkb⟩
  ·by_cases g2 : ss < tt
   ·have HO : Hid (rord a b = -1) := by unfold Hid; rw [HR.out]; unfold r3; rw [if_neg g1, if_pos g2]
    clear HR
    go_wp2_with fail
    go_ret
    exact ⟨by rw [HO.out]; rfl, hkb⟩
   ·have HO : Hid (rord a b = ss * rsg (((A * A) + ((B * B) * a.d)) - ((C * C) * b.d)) (2 * (A * B)) a.d) := by unfold Hid; rw [HR.out]; unfold r3; rw [if_neg g1, if_neg g2]
    clear HR
    have hss3 := rsg_bd A B a.d
    rw [hss] at hss3
    clear hss htt
    go_wp2_with fail
    go_cut [11] from 72 to 90 (fun p' wx => ∃ (bg : Nat) (bb : Bool) (aa : Option Addr) (nn cc : Nat), p' = .pointer (some ⟨bg, 0, none⟩) ∧ Blk wx bg #[.bool bb, .slice aa nn cc] 46 ∧ IN wx (.agg #[.bool bb, .slice aa nn cc]) (((A * A) + ((B * B) * a.d)) - ((C * C) * b.d)) ∧ Kp w5 wx ∧ w5.heap.size ≤ bg)
    case first =>
     refine wp_region_l (S := fun w' => Kp w5 w') (by kernel_rfl) (Kp.drew' (Below.refl _ _)) (fun hS0 => ?_)
     generalize w5.drew = wd at *
     refine wpAnyL_tk (i := 0) (k := 2) (v := .agg #[.bool b11, .slice ao11 n11 c11]) rfl ?_ hS0 ?_
     ·intro w' hw'; have hc := ((B6).keep hw').cell; go_simp
     simp only [sq]
     refine wpAnyL_tk (i := 1) (k := 2) (v := .agg #[.bool b11, .slice ao11 n11 c11]) rfl ?_ hS0 ?_
     ·intro w' hw'; have hc := ((B6).keep hw').cell; go_simp
     simp only [sq]
     refine wpAnyL_tk (i := 3) (k := 5) (v := .agg #[.bool b12, .slice ao12 n12 c12]) rfl ?_ hS0 ?_
     ·intro w' hw'; have hc := ((B7).keep hw').cell; go_simp
     simp only [sq]
     refine wpAnyL_tk (i := 4) (k := 5) (v := .agg #[.bool b12, .slice ao12 n12 c12]) rfl ?_ hS0 ?_
     ·intro w' hw'; have hc := ((B7).keep hw').cell; go_simp
     simp only [sq]
     refine wpAnyL_tk (i := 6) (k := 7) (v := .pointer (some ⟨w.heap.size, 6, none⟩)) rfl ?_ hS0 ?_
     ·intro w' hw'; go_simp
     simp only [sq]
     refine wpAnyL_tk (i := 7) (k := 8) (v := .int .i64 a.d) rfl ?_ hS0 ?_
     ·intro w' hw'; have hc := ((BA).keep hw').cell; go_simp
     simp only [sq]
     refine wpAnyL_tk (i := 11) (k := 13) (v := .agg #[.bool b13, .slice ao13 n13 c13]) rfl ?_ hS0 ?_
     ·intro w' hw'; have hc := ((B8).keep hw').cell; go_simp
     simp only [sq]
     refine wpAnyL_tk (i := 12) (k := 13) (v := .agg #[.bool b13, .slice ao13 n13 c13]) rfl ?_ hS0 ?_
     ·intro w' hw'; have hc := ((B8).keep hw').cell; go_simp
     simp only [sq]
     refine wpAnyL_tk (i := 14) (k := 15) (v := .pointer (some ⟨w.heap.size + 1, 6, none⟩)) rfl ?_ hS0 ?_
     ·intro w' hw'; go_simp
     simp only [sq]
     refine wpAnyL_tk (i := 15) (k := 16) (v := .int .i64 b.d) rfl ?_ hS0 ?_
     ·intro w' hw'; have hc := ((BB).keep hw').cell; go_simp
     simp only [sq]
     refine wpAnyL_ready (rs := [2, 19]) (by kernel_rfl) (by simp) ?_
     refine AllReadyL.cons rfl (fun K hK => ?_) ?_
     ·go_simp
      refine (rtimes_any A A _ _ _ (hA.keep hS0) (hA.keep hS0) (Ft.fit fA (by omega)) (Ft.fit fA (by omega))).mono ?_
      rintro e w102 ⟨v102, rfl, hv102, hk102⟩
      obtain ⟨b102, ao102, n102, c102, rfl⟩ := hv102.shape'
      go_wp2_with fail
      refine hK.out _ _ (hS0.trans' hk102) (fun hS1 => ?_)
      clear hK K
      refine wpAnyL_ready (rs := [5, 19]) (by kernel_rfl) (by simp) ?_
      refine AllReadyL.cons rfl (fun K hK => ?_) ?_
      ·go_simp
       refine (rtimes_any B B _ _ _ (hB.keep hS1) (hB.keep hS1) (Ft.fit fB (by omega)) (Ft.fit fB (by omega))).mono ?_
       rintro e w105 ⟨v105, rfl, hv105, hk105⟩
       obtain ⟨b105, ao105, n105, c105, rfl⟩ := hv105.shape'
       replace hv102 := hv102.keep hk105
       go_wp2_with fail
       refine hK.out _ _ (hS1.trans' hk105) (fun hS2 => ?_)
       clear hK K
       refine wpAnyL_ready (rs := [8, 19]) (by kernel_rfl) (by simp) ?_
       refine AllReadyL.cons rfl (fun K hK => ?_) ?_
       ·go_simp
        refine (of_any a.d _ ad0 ad1).mono ?_
        rintro e w108 ⟨v108, rfl, hv108, hk108⟩
        obtain ⟨b108, ao108, n108, c108, rfl⟩ := hv108.shape'
        replace hv102 := hv102.keep hk108
        replace hv105 := hv105.keep hk108
        go_wp2_with fail
        refine hK.out _ _ (hS2.trans' hk108) (fun hS3 => ?_)
        clear hK K
        refine wpAnyL_ready (rs := [9, 19]) (by kernel_rfl) (by simp) ?_
        refine AllReadyL.cons rfl (fun K hK => ?_) ?_
        ·go_simp
         refine (rtimes_any (B * B) a.d _ _ _ hv105 hv108 (Ft.fit (Ft.mono (n := 4 * m + 2) (Ft.mul fB fB) (by omega)) (by omega)) (Ft.fit fad (by omega))).mono ?_
         rintro e w109 ⟨v109, rfl, hv109, hk109⟩
         obtain ⟨b109, ao109, n109, c109, rfl⟩ := hv109.shape'
         replace hv102 := hv102.keep hk109
         go_wp2_with fail
         refine hK.out _ _ (hS3.trans' hk109) (fun hS4 => ?_)
         clear hK K
         refine wpAnyL_ready (rs := [10, 19]) (by kernel_rfl) (by simp) ?_
         refine AllReadyL.cons rfl (fun K hK => ?_) ?_
         ·go_simp
          refine (rplus_any (A * A) ((B * B) * a.d) _ _ _ hv102 hv109 (Ft.fit (Ft.mono (n := 4 * m + 2) (Ft.mul fA fA) (by omega)) (by omega)) (Ft.fit (Ft.mono (n := 4 * m + 9) (Ft.mul (Ft.mono (n := 4 * m + 2) (Ft.mul fB fB) (by omega)) fad) (by omega)) (by omega))).mono ?_
          rintro e w110 ⟨v110, rfl, hv110, hk110⟩
          obtain ⟨b110, ao110, n110, c110, rfl⟩ := hv110.shape'
          go_wp2_with fail
          refine hK.out _ _ (hS4.trans' hk110) (fun hS5 => ?_)
          clear hK K
          refine wpAnyL_ready (rs := [13, 19]) (by kernel_rfl) (by simp) ?_
          refine AllReadyL.cons rfl (fun K hK => ?_) ?_
          ·go_simp
           refine (rtimes_any C C _ _ _ (hC.keep hS5) (hC.keep hS5) (Ft.fit fC (by omega)) (Ft.fit fC (by omega))).mono ?_
           rintro e w113 ⟨v113, rfl, hv113, hk113⟩
           obtain ⟨b113, ao113, n113, c113, rfl⟩ := hv113.shape'
           replace hv110 := hv110.keep hk113
           go_wp2_with fail
           refine hK.out _ _ (hS5.trans' hk113) (fun hS6 => ?_)
           clear hK K
           refine wpAnyL_ready (rs := [16, 19]) (by kernel_rfl) (by simp) ?_
           refine AllReadyL.cons rfl (fun K hK => ?_) ?_
           ·go_simp
            refine (of_any b.d _ bd0 bd1).mono ?_
            rintro e w116 ⟨v116, rfl, hv116, hk116⟩
            obtain ⟨b116, ao116, n116, c116, rfl⟩ := hv116.shape'
            replace hv110 := hv110.keep hk116
            replace hv113 := hv113.keep hk116
            go_wp2_with fail
            refine hK.out _ _ (hS6.trans' hk116) (fun hS7 => ?_)
            clear hK K
            refine wpAnyL_ready (rs := [17, 19]) (by kernel_rfl) (by simp) ?_
            refine AllReadyL.cons rfl (fun K hK => ?_) ?_
            ·go_simp
             refine (rtimes_any (C * C) b.d _ _ _ hv113 hv116 (Ft.fit (Ft.mono (n := 4 * m + 2) (Ft.mul fC fC) (by omega)) (by omega)) (Ft.fit fbd (by omega))).mono ?_
             rintro e w117 ⟨v117, rfl, hv117, hk117⟩
             obtain ⟨b117, ao117, n117, c117, rfl⟩ := hv117.shape'
             replace hv110 := hv110.keep hk117
             go_wp2_with fail
             refine hK.out _ _ (hS7.trans' hk117) (fun hS8 => ?_)
             clear hK K
             refine wpAnyL_ready (rs := [18, 19]) (by kernel_rfl) (by simp) ?_
             refine AllReadyL.cons rfl (fun K hK => ?_) ?_
             ·go_simp
              refine (rminus_any ((A * A) + ((B * B) * a.d)) ((C * C) * b.d) _ _ _ hv110 hv117 (Ft.fit (Ft.mono (n := 4 * m + 10) (Ft.add (Ft.mono (n := 4 * m + 9) (Ft.mono (n := 4 * m + 2) (Ft.mul fA fA) (by omega)) (by omega)) (Ft.mono (n := 4 * m + 9) (Ft.mono (n := 4 * m + 9) (Ft.mul (Ft.mono (n := 4 * m + 2) (Ft.mul fB fB) (by omega)) fad) (by omega)) (by omega))) (by omega)) (by omega)) (Ft.fit (Ft.mono (n := 4 * m + 9) (Ft.mul (Ft.mono (n := 4 * m + 2) (Ft.mul fC fC) (by omega)) fbd) (by omega)) (by omega))).mono ?_
              rintro e w118 ⟨v118, rfl, hv118, hk118⟩
              obtain ⟨b118, ao118, n118, c118, rfl⟩ := hv118.shape'
              go_wp2_with fail
              refine hK.out _ _ (hS8.trans' hk118) (fun hS9 => ?_)
              clear hK K
              refine wpAnyL_on (i := 19) rfl (fun K hK => ?_)
              go_simp
              refine hK.out _ _ (Kp.alloc' hS9 (.cells #[.bool false, .slice none 0 0] 46)) (fun hS10 => ?_)
              clear hK K
              have NB19 := Blk.new w118 #[.bool false, .slice none 0 0] 46
              have ge19 : w5.heap.size ≤ w118.heap.size := hS9.size
              replace hv118 := hv118.keep (kp_alloc w118 (.cells #[.bool false, .slice none 0 0] 46))
              try simp only [sq]
              generalize hA19 : w118.heap.size = A19 at *
              generalize w118.alloc (.cells #[.bool false, .slice none 0 0] 46) = wn19 at *
              have st_c := NB19.cell
              have st_f := NB19.frozen
              have st_l := NB19.lt
              refine wpAnyL_last (i := 20) rfl (by kernel_rfl) (by kernel_rfl) (by kernel_rfl) (fun K hK => ?_)
              go_simp
              refine hK.out _ _ ?_
              clear hK K
              go_wp2_with fail
              go_meet
              case rel => exact ⟨A19, _, _, _, _, rfl, (bl2 (.bool b118) (.slice ao118 n118 c118) NB19), hv118.soft (sf2 (.bool b118) (.slice ao118 n118 c118) NB19 (by decide)), (kp2 (A := A19) (.bool b118) (.slice ao118 n118 c118) hS10 ge19), ge19⟩
             refine AllReadyL.cons rfl (fun K hK => ?_) ?_
             ·go_simp
              refine hK.out _ _ (Kp.alloc' hS8 (.cells #[.bool false, .slice none 0 0] 46)) (fun hS9 => ?_)
              clear hK K
              have NB19 := Blk.new w117 #[.bool false, .slice none 0 0] 46
              have ge19 : w5.heap.size ≤ w117.heap.size := hS8.size
              replace hv110 := hv110.keep (kp_alloc w117 (.cells #[.bool false, .slice none 0 0] 46))
              replace hv117 := hv117.keep (kp_alloc w117 (.cells #[.bool false, .slice none 0 0] 46))
              try simp only [sq]
              generalize hA19 : w117.heap.size = A19 at *
              generalize w117.alloc (.cells #[.bool false, .slice none 0 0] 46) = wn19 at *
              refine wpAnyL_on (i := 18) rfl (fun K hK => ?_)
              go_simp
              refine (rminus_any ((A * A) + ((B * B) * a.d)) ((C * C) * b.d) _ _ _ hv110 hv117 (Ft.fit (Ft.mono (n := 4 * m + 10) (Ft.add (Ft.mono (n := 4 * m + 9) (Ft.mono (n := 4 * m + 2) (Ft.mul fA fA) (by omega)) (by omega)) (Ft.mono (n := 4 * m + 9) (Ft.mono (n := 4 * m + 9) (Ft.mul (Ft.mono (n := 4 * m + 2) (Ft.mul fB fB) (by omega)) fad) (by omega)) (by omega))) (by omega)) (by omega)) (Ft.fit (Ft.mono (n := 4 * m + 9) (Ft.mul (Ft.mono (n := 4 * m + 2) (Ft.mul fC fC) (by omega)) fbd) (by omega)) (by omega))).mono ?_
              rintro e w118 ⟨v118, rfl, hv118, hk118⟩
              obtain ⟨b118, ao118, n118, c118, rfl⟩ := hv118.shape'
              replace NB19 := NB19.keep hk118
              go_wp2_with fail
              refine hK.out _ _ (hS9.trans' hk118) (fun hS10 => ?_)
              clear hK K
              have st_c := NB19.cell
              have st_f := NB19.frozen
              have st_l := NB19.lt
              refine wpAnyL_last (i := 20) rfl (by kernel_rfl) (by kernel_rfl) (by kernel_rfl) (fun K hK => ?_)
              go_simp
              refine hK.out _ _ ?_
              clear hK K
              go_wp2_with fail
              go_meet
              case rel => exact ⟨A19, _, _, _, _, rfl, (bl2 (.bool b118) (.slice ao118 n118 c118) NB19), hv118.soft (sf2 (.bool b118) (.slice ao118 n118 c118) NB19 (by decide)), (kp2 (A := A19) (.bool b118) (.slice ao118 n118 c118) hS10 ge19), ge19⟩
             exact AllReadyL.nil
            refine AllReadyL.cons rfl (fun K hK => ?_) ?_
            ·go_simp
             refine hK.out _ _ (Kp.alloc' hS7 (.cells #[.bool false, .slice none 0 0] 46)) (fun hS8 => ?_)
             clear hK K
             have NB19 := Blk.new w116 #[.bool false, .slice none 0 0] 46
             have ge19 : w5.heap.size ≤ w116.heap.size := hS7.size
             replace hv110 := hv110.keep (kp_alloc w116 (.cells #[.bool false, .slice none 0 0] 46))
             replace hv113 := hv113.keep (kp_alloc w116 (.cells #[.bool false, .slice none 0 0] 46))
             replace hv116 := hv116.keep (kp_alloc w116 (.cells #[.bool false, .slice none 0 0] 46))
             try simp only [sq]
             generalize hA19 : w116.heap.size = A19 at *
             generalize w116.alloc (.cells #[.bool false, .slice none 0 0] 46) = wn19 at *
             refine wpAnyL_on (i := 17) rfl (fun K hK => ?_)
             go_simp
             refine (rtimes_any (C * C) b.d _ _ _ hv113 hv116 (Ft.fit (Ft.mono (n := 4 * m + 2) (Ft.mul fC fC) (by omega)) (by omega)) (Ft.fit fbd (by omega))).mono ?_
             rintro e w117 ⟨v117, rfl, hv117, hk117⟩
             obtain ⟨b117, ao117, n117, c117, rfl⟩ := hv117.shape'
             replace hv110 := hv110.keep hk117
             replace NB19 := NB19.keep hk117
             go_wp2_with fail
             refine hK.out _ _ (hS8.trans' hk117) (fun hS9 => ?_)
             clear hK K
             refine wpAnyL_on (i := 18) rfl (fun K hK => ?_)
             go_simp
             refine (rminus_any ((A * A) + ((B * B) * a.d)) ((C * C) * b.d) _ _ _ hv110 hv117 (Ft.fit (Ft.mono (n := 4 * m + 10) (Ft.add (Ft.mono (n := 4 * m + 9) (Ft.mono (n := 4 * m + 2) (Ft.mul fA fA) (by omega)) (by omega)) (Ft.mono (n := 4 * m + 9) (Ft.mono (n := 4 * m + 9) (Ft.mul (Ft.mono (n := 4 * m + 2) (Ft.mul fB fB) (by omega)) fad) (by omega)) (by omega))) (by omega)) (by omega)) (Ft.fit (Ft.mono (n := 4 * m + 9) (Ft.mul (Ft.mono (n := 4 * m + 2) (Ft.mul fC fC) (by omega)) fbd) (by omega)) (by omega))).mono ?_
             rintro e w118 ⟨v118, rfl, hv118, hk118⟩
             obtain ⟨b118, ao118, n118, c118, rfl⟩ := hv118.shape'
             replace NB19 := NB19.keep hk118
             go_wp2_with fail
             refine hK.out _ _ (hS9.trans' hk118) (fun hS10 => ?_)
             clear hK K
             have st_c := NB19.cell
             have st_f := NB19.frozen
             have st_l := NB19.lt
             refine wpAnyL_last (i := 20) rfl (by kernel_rfl) (by kernel_rfl) (by kernel_rfl) (fun K hK => ?_)
             go_simp
             refine hK.out _ _ ?_
             clear hK K
             go_wp2_with fail
             go_meet
             case rel => exact ⟨A19, _, _, _, _, rfl, (bl2 (.bool b118) (.slice ao118 n118 c118) NB19), hv118.soft (sf2 (.bool b118) (.slice ao118 n118 c118) NB19 (by decide)), (kp2 (A := A19) (.bool b118) (.slice ao118 n118 c118) hS10 ge19), ge19⟩
            exact AllReadyL.nil
           refine AllReadyL.cons rfl (fun K hK => ?_) ?_
           ·go_simp
            refine hK.out _ _ (Kp.alloc' hS6 (.cells #[.bool false, .slice none 0 0] 46)) (fun hS7 => ?_)
            clear hK K
            have NB19 := Blk.new w113 #[.bool false, .slice none 0 0] 46
            have ge19 : w5.heap.size ≤ w113.heap.size := hS6.size
            replace hv110 := hv110.keep (kp_alloc w113 (.cells #[.bool false, .slice none 0 0] 46))
            replace hv113 := hv113.keep (kp_alloc w113 (.cells #[.bool false, .slice none 0 0] 46))
            try simp only [sq]
            generalize hA19 : w113.heap.size = A19 at *
            generalize w113.alloc (.cells #[.bool false, .slice none 0 0] 46) = wn19 at *
            refine wpAnyL_on (i := 16) rfl (fun K hK => ?_)
            go_simp
            refine (of_any b.d _ bd0 bd1).mono ?_
            rintro e w116 ⟨v116, rfl, hv116, hk116⟩
            obtain ⟨b116, ao116, n116, c116, rfl⟩ := hv116.shape'
            replace hv110 := hv110.keep hk116
            replace hv113 := hv113.keep hk116
            replace NB19 := NB19.keep hk116
            go_wp2_with fail
            refine hK.out _ _ (hS7.trans' hk116) (fun hS8 => ?_)
            clear hK K
            refine wpAnyL_on (i := 17) rfl (fun K hK => ?_)
            go_simp
            refine (rtimes_any (C * C) b.d _ _ _ hv113 hv116 (Ft.fit (Ft.mono (n := 4 * m + 2) (Ft.mul fC fC) (by omega)) (by omega)) (Ft.fit fbd (by omega))).mono ?_
            rintro e w117 ⟨v117, rfl, hv117, hk117⟩
            obtain ⟨b117, ao117, n117, c117, rfl⟩ := hv117.shape'
            replace hv110 := hv110.keep hk117
            replace NB19 := NB19.keep hk117
            go_wp2_with fail
            refine hK.out _ _ (hS8.trans' hk117) (fun hS9 => ?_)
            clear hK K
            refine wpAnyL_on (i := 18) rfl (fun K hK => ?_)
            go_simp
            refine (rminus_any ((A * A) + ((B * B) * a.d)) ((C * C) * b.d) _ _ _ hv110 hv117 (Ft.fit (Ft.mono (n := 4 * m + 10) (Ft.add (Ft.mono (n := 4 * m + 9) (Ft.mono (n := 4 * m + 2) (Ft.mul fA fA) (by omega)) (by omega)) (Ft.mono (n := 4 * m + 9) (Ft.mono (n := 4 * m + 9) (Ft.mul (Ft.mono (n := 4 * m + 2) (Ft.mul fB fB) (by omega)) fad) (by omega)) (by omega))) (by omega)) (by omega)) (Ft.fit (Ft.mono (n := 4 * m + 9) (Ft.mul (Ft.mono (n := 4 * m + 2) (Ft.mul fC fC) (by omega)) fbd) (by omega)) (by omega))).mono ?_
            rintro e w118 ⟨v118, rfl, hv118, hk118⟩
            obtain ⟨b118, ao118, n118, c118, rfl⟩ := hv118.shape'
            replace NB19 := NB19.keep hk118
            go_wp2_with fail
            refine hK.out _ _ (hS9.trans' hk118) (fun hS10 => ?_)
            clear hK K
            have st_c := NB19.cell
            have st_f := NB19.frozen
            have st_l := NB19.lt
            refine wpAnyL_last (i := 20) rfl (by kernel_rfl) (by kernel_rfl) (by kernel_rfl) (fun K hK => ?_)
            go_simp
            refine hK.out _ _ ?_
            clear hK K
            go_wp2_with fail
            go_meet
            case rel => exact ⟨A19, _, _, _, _, rfl, (bl2 (.bool b118) (.slice ao118 n118 c118) NB19), hv118.soft (sf2 (.bool b118) (.slice ao118 n118 c118) NB19 (by decide)), (kp2 (A := A19) (.bool b118) (.slice ao118 n118 c118) hS10 ge19), ge19⟩
           exact AllReadyL.nil
          refine AllReadyL.cons rfl (fun K hK => ?_) ?_
          ·go_simp
           refine hK.out _ _ (Kp.alloc' hS5 (.cells #[.bool false, .slice none 0 0] 46)) (fun hS6 => ?_)
           clear hK K
           have NB19 := Blk.new w110 #[.bool false, .slice none 0 0] 46
           have ge19 : w5.heap.size ≤ w110.heap.size := hS5.size
           replace hv110 := hv110.keep (kp_alloc w110 (.cells #[.bool false, .slice none 0 0] 46))
           try simp only [sq]
           generalize hA19 : w110.heap.size = A19 at *
           generalize w110.alloc (.cells #[.bool false, .slice none 0 0] 46) = wn19 at *
           refine wpAnyL_on (i := 13) rfl (fun K hK => ?_)
           go_simp
           refine (rtimes_any C C _ _ _ (hC.keep hS6) (hC.keep hS6) (Ft.fit fC (by omega)) (Ft.fit fC (by omega))).mono ?_
           rintro e w113 ⟨v113, rfl, hv113, hk113⟩
           obtain ⟨b113, ao113, n113, c113, rfl⟩ := hv113.shape'
           replace hv110 := hv110.keep hk113
           replace NB19 := NB19.keep hk113
           go_wp2_with fail
           refine hK.out _ _ (hS6.trans' hk113) (fun hS7 => ?_)
           clear hK K
           refine wpAnyL_on (i := 16) rfl (fun K hK => ?_)
           go_simp
           refine (of_any b.d _ bd0 bd1).mono ?_
           rintro e w116 ⟨v116, rfl, hv116, hk116⟩
           obtain ⟨b116, ao116, n116, c116, rfl⟩ := hv116.shape'
           replace hv110 := hv110.keep hk116
           replace NB19 := NB19.keep hk116
           replace hv113 := hv113.keep hk116
           go_wp2_with fail
           refine hK.out _ _ (hS7.trans' hk116) (fun hS8 => ?_)
           clear hK K
           refine wpAnyL_on (i := 17) rfl (fun K hK => ?_)
           go_simp
           refine (rtimes_any (C * C) b.d _ _ _ hv113 hv116 (Ft.fit (Ft.mono (n := 4 * m + 2) (Ft.mul fC fC) (by omega)) (by omega)) (Ft.fit fbd (by omega))).mono ?_
           rintro e w117 ⟨v117, rfl, hv117, hk117⟩
           obtain ⟨b117, ao117, n117, c117, rfl⟩ := hv117.shape'
           replace hv110 := hv110.keep hk117
           replace NB19 := NB19.keep hk117
           go_wp2_with fail
           refine hK.out _ _ (hS8.trans' hk117) (fun hS9 => ?_)
           clear hK K
           refine wpAnyL_on (i := 18) rfl (fun K hK => ?_)
           go_simp
           refine (rminus_any ((A * A) + ((B * B) * a.d)) ((C * C) * b.d) _ _ _ hv110 hv117 (Ft.fit (Ft.mono (n := 4 * m + 10) (Ft.add (Ft.mono (n := 4 * m + 9) (Ft.mono (n := 4 * m + 2) (Ft.mul fA fA) (by omega)) (by omega)) (Ft.mono (n := 4 * m + 9) (Ft.mono (n := 4 * m + 9) (Ft.mul (Ft.mono (n := 4 * m + 2) (Ft.mul fB fB) (by omega)) fad) (by omega)) (by omega))) (by omega)) (by omega)) (Ft.fit (Ft.mono (n := 4 * m + 9) (Ft.mul (Ft.mono (n := 4 * m + 2) (Ft.mul fC fC) (by omega)) fbd) (by omega)) (by omega))).mono ?_
           rintro e w118 ⟨v118, rfl, hv118, hk118⟩
           obtain ⟨b118, ao118, n118, c118, rfl⟩ := hv118.shape'
           replace NB19 := NB19.keep hk118
           go_wp2_with fail
           refine hK.out _ _ (hS9.trans' hk118) (fun hS10 => ?_)
           clear hK K
           have st_c := NB19.cell
           have st_f := NB19.frozen
           have st_l := NB19.lt
           refine wpAnyL_last (i := 20) rfl (by kernel_rfl) (by kernel_rfl) (by kernel_rfl) (fun K hK => ?_)
           go_simp
           refine hK.out _ _ ?_
           clear hK K
           go_wp2_with fail
           go_meet
           case rel => exact ⟨A19, _, _, _, _, rfl, (bl2 (.bool b118) (.slice ao118 n118 c118) NB19), hv118.soft (sf2 (.bool b118) (.slice ao118 n118 c118) NB19 (by decide)), (kp2 (A := A19) (.bool b118) (.slice ao118 n118 c118) hS10 ge19), ge19⟩
          exact AllReadyL.nil
         refine AllReadyL.cons rfl (fun K hK => ?_) ?_
         ·go_simp
          refine hK.out _ _ (Kp.alloc' hS4 (.cells #[.bool false, .slice none 0 0] 46)) (fun hS5 => ?_)
          clear hK K
          have NB19 := Blk.new w109 #[.bool false, .slice none 0 0] 46
          have ge19 : w5.heap.size ≤ w109.heap.size := hS4.size
          replace hv102 := hv102.keep (kp_alloc w109 (.cells #[.bool false, .slice none 0 0] 46))
          replace hv109 := hv109.keep (kp_alloc w109 (.cells #[.bool false, .slice none 0 0] 46))
          try simp only [sq]
          generalize hA19 : w109.heap.size = A19 at *
          generalize w109.alloc (.cells #[.bool false, .slice none 0 0] 46) = wn19 at *
          refine wpAnyL_on (i := 10) rfl (fun K hK => ?_)
          go_simp
          refine (rplus_any (A * A) ((B * B) * a.d) _ _ _ hv102 hv109 (Ft.fit (Ft.mono (n := 4 * m + 2) (Ft.mul fA fA) (by omega)) (by omega)) (Ft.fit (Ft.mono (n := 4 * m + 9) (Ft.mul (Ft.mono (n := 4 * m + 2) (Ft.mul fB fB) (by omega)) fad) (by omega)) (by omega))).mono ?_
          rintro e w110 ⟨v110, rfl, hv110, hk110⟩
          obtain ⟨b110, ao110, n110, c110, rfl⟩ := hv110.shape'
          replace NB19 := NB19.keep hk110
          go_wp2_with fail
          refine hK.out _ _ (hS5.trans' hk110) (fun hS6 => ?_)
          clear hK K
          refine wpAnyL_on (i := 13) rfl (fun K hK => ?_)
          go_simp
          refine (rtimes_any C C _ _ _ (hC.keep hS6) (hC.keep hS6) (Ft.fit fC (by omega)) (Ft.fit fC (by omega))).mono ?_
          rintro e w113 ⟨v113, rfl, hv113, hk113⟩
          obtain ⟨b113, ao113, n113, c113, rfl⟩ := hv113.shape'
          replace NB19 := NB19.keep hk113
          replace hv110 := hv110.keep hk113
          go_wp2_with fail
          refine hK.out _ _ (hS6.trans' hk113) (fun hS7 => ?_)
          clear hK K
          refine wpAnyL_on (i := 16) rfl (fun K hK => ?_)
          go_simp
          refine (of_any b.d _ bd0 bd1).mono ?_
          rintro e w116 ⟨v116, rfl, hv116, hk116⟩
          obtain ⟨b116, ao116, n116, c116, rfl⟩ := hv116.shape'
          replace NB19 := NB19.keep hk116
          replace hv110 := hv110.keep hk116
          replace hv113 := hv113.keep hk116
          go_wp2_with fail
          refine hK.out _ _ (hS7.trans' hk116) (fun hS8 => ?_)
          clear hK K
          refine wpAnyL_on (i := 17) rfl (fun K hK => ?_)
          go_simp
          refine (rtimes_any (C * C) b.d _ _ _ hv113 hv116 (Ft.fit (Ft.mono (n := 4 * m + 2) (Ft.mul fC fC) (by omega)) (by omega)) (Ft.fit fbd (by omega))).mono ?_
          rintro e w117 ⟨v117, rfl, hv117, hk117⟩
          obtain ⟨b117, ao117, n117, c117, rfl⟩ := hv117.shape'
          replace NB19 := NB19.keep hk117
          replace hv110 := hv110.keep hk117
          go_wp2_with fail
          refine hK.out _ _ (hS8.trans' hk117) (fun hS9 => ?_)
          clear hK K
          refine wpAnyL_on (i := 18) rfl (fun K hK => ?_)
          go_simp
          refine (rminus_any ((A * A) + ((B * B) * a.d)) ((C * C) * b.d) _ _ _ hv110 hv117 (Ft.fit (Ft.mono (n := 4 * m + 10) (Ft.add (Ft.mono (n := 4 * m + 9) (Ft.mono (n := 4 * m + 2) (Ft.mul fA fA) (by omega)) (by omega)) (Ft.mono (n := 4 * m + 9) (Ft.mono (n := 4 * m + 9) (Ft.mul (Ft.mono (n := 4 * m + 2) (Ft.mul fB fB) (by omega)) fad) (by omega)) (by omega))) (by omega)) (by omega)) (Ft.fit (Ft.mono (n := 4 * m + 9) (Ft.mul (Ft.mono (n := 4 * m + 2) (Ft.mul fC fC) (by omega)) fbd) (by omega)) (by omega))).mono ?_
          rintro e w118 ⟨v118, rfl, hv118, hk118⟩
          obtain ⟨b118, ao118, n118, c118, rfl⟩ := hv118.shape'
          replace NB19 := NB19.keep hk118
          go_wp2_with fail
          refine hK.out _ _ (hS9.trans' hk118) (fun hS10 => ?_)
          clear hK K
          have st_c := NB19.cell
          have st_f := NB19.frozen
          have st_l := NB19.lt
          refine wpAnyL_last (i := 20) rfl (by kernel_rfl) (by kernel_rfl) (by kernel_rfl) (fun K hK => ?_)
          go_simp
          refine hK.out _ _ ?_
          clear hK K
          go_wp2_with fail
          go_meet
          case rel => exact ⟨A19, _, _, _, _, rfl, (bl2 (.bool b118) (.slice ao118 n118 c118) NB19), hv118.soft (sf2 (.bool b118) (.slice ao118 n118 c118) NB19 (by decide)), (kp2 (A := A19) (.bool b118) (.slice ao118 n118 c118) hS10 ge19), ge19⟩
         exact AllReadyL.nil
        refine AllReadyL.cons rfl (fun K hK => ?_) ?_
        ·go_simp
         refine hK.out _ _ (Kp.alloc' hS3 (.cells #[.bool false, .slice none 0 0] 46)) (fun hS4 => ?_)
         clear hK K
         have NB19 := Blk.new w108 #[.bool false, .slice none 0 0] 46
         have ge19 : w5.heap.size ≤ w108.heap.size := hS3.size
         replace hv102 := hv102.keep (kp_alloc w108 (.cells #[.bool false, .slice none 0 0] 46))
         replace hv105 := hv105.keep (kp_alloc w108 (.cells #[.bool false, .slice none 0 0] 46))
         replace hv108 := hv108.keep (kp_alloc w108 (.cells #[.bool false, .slice none 0 0] 46))
         try simp only [sq]
         generalize hA19 : w108.heap.size = A19 at *
         generalize w108.alloc (.cells #[.bool false, .slice none 0 0] 46) = wn19 at *
         refine wpAnyL_on (i := 9) rfl (fun K hK => ?_)
         go_simp
         refine (rtimes_any (B * B) a.d _ _ _ hv105 hv108 (Ft.fit (Ft.mono (n := 4 * m + 2) (Ft.mul fB fB) (by omega)) (by omega)) (Ft.fit fad (by omega))).mono ?_
         rintro e w109 ⟨v109, rfl, hv109, hk109⟩
         obtain ⟨b109, ao109, n109, c109, rfl⟩ := hv109.shape'
         replace hv102 := hv102.keep hk109
         replace NB19 := NB19.keep hk109
         go_wp2_with fail
         refine hK.out _ _ (hS4.trans' hk109) (fun hS5 => ?_)
         clear hK K
         refine wpAnyL_on (i := 10) rfl (fun K hK => ?_)
         go_simp
         refine (rplus_any (A * A) ((B * B) * a.d) _ _ _ hv102 hv109 (Ft.fit (Ft.mono (n := 4 * m + 2) (Ft.mul fA fA) (by omega)) (by omega)) (Ft.fit (Ft.mono (n := 4 * m + 9) (Ft.mul (Ft.mono (n := 4 * m + 2) (Ft.mul fB fB) (by omega)) fad) (by omega)) (by omega))).mono ?_
         rintro e w110 ⟨v110, rfl, hv110, hk110⟩
         obtain ⟨b110, ao110, n110, c110, rfl⟩ := hv110.shape'
         replace NB19 := NB19.keep hk110
         go_wp2_with fail
         refine hK.out _ _ (hS5.trans' hk110) (fun hS6 => ?_)
         clear hK K
         refine wpAnyL_on (i := 13) rfl (fun K hK => ?_)
         go_simp
         refine (rtimes_any C C _ _ _ (hC.keep hS6) (hC.keep hS6) (Ft.fit fC (by omega)) (Ft.fit fC (by omega))).mono ?_
         rintro e w113 ⟨v113, rfl, hv113, hk113⟩
         obtain ⟨b113, ao113, n113, c113, rfl⟩ := hv113.shape'
         replace NB19 := NB19.keep hk113
         replace hv110 := hv110.keep hk113
         go_wp2_with fail
         refine hK.out _ _ (hS6.trans' hk113) (fun hS7 => ?_)
         clear hK K
         refine wpAnyL_on (i := 16) rfl (fun K hK => ?_)
         go_simp
         refine (of_any b.d _ bd0 bd1).mono ?_
         rintro e w116 ⟨v116, rfl, hv116, hk116⟩
         obtain ⟨b116, ao116, n116, c116, rfl⟩ := hv116.shape'
         replace NB19 := NB19.keep hk116
         replace hv110 := hv110.keep hk116
         replace hv113 := hv113.keep hk116
         go_wp2_with fail
         refine hK.out _ _ (hS7.trans' hk116) (fun hS8 => ?_)
         clear hK K
         refine wpAnyL_on (i := 17) rfl (fun K hK => ?_)
         go_simp
         refine (rtimes_any (C * C) b.d _ _ _ hv113 hv116 (Ft.fit (Ft.mono (n := 4 * m + 2) (Ft.mul fC fC) (by omega)) (by omega)) (Ft.fit fbd (by omega))).mono ?_
         rintro e w117 ⟨v117, rfl, hv117, hk117⟩
         obtain ⟨b117, ao117, n117, c117, rfl⟩ := hv117.shape'
         replace NB19 := NB19.keep hk117
         replace hv110 := hv110.keep hk117
         go_wp2_with fail
         refine hK.out _ _ (hS8.trans' hk117) (fun hS9 => ?_)
         clear hK K
         refine wpAnyL_on (i := 18) rfl (fun K hK => ?_)
         go_simp
         refine (rminus_any ((A * A) + ((B * B) * a.d)) ((C * C) * b.d) _ _ _ hv110 hv117 (Ft.fit (Ft.mono (n := 4 * m + 10) (Ft.add (Ft.mono (n := 4 * m + 9) (Ft.mono (n := 4 * m + 2) (Ft.mul fA fA) (by omega)) (by omega)) (Ft.mono (n := 4 * m + 9) (Ft.mono (n := 4 * m + 9) (Ft.mul (Ft.mono (n := 4 * m + 2) (Ft.mul fB fB) (by omega)) fad) (by omega)) (by omega))) (by omega)) (by omega)) (Ft.fit (Ft.mono (n := 4 * m + 9) (Ft.mul (Ft.mono (n := 4 * m + 2) (Ft.mul fC fC) (by omega)) fbd) (by omega)) (by omega))).mono ?_
         rintro e w118 ⟨v118, rfl, hv118, hk118⟩
         obtain ⟨b118, ao118, n118, c118, rfl⟩ := hv118.shape'
         replace NB19 := NB19.keep hk118
         go_wp2_with fail
         refine hK.out _ _ (hS9.trans' hk118) (fun hS10 => ?_)
         clear hK K
         have st_c := NB19.cell
         have st_f := NB19.frozen
         have st_l := NB19.lt
         refine wpAnyL_last (i := 20) rfl (by kernel_rfl) (by kernel_rfl) (by kernel_rfl) (fun K hK => ?_)
         go_simp
         refine hK.out _ _ ?_
         clear hK K
         go_wp2_with fail
         go_meet
         case rel => exact ⟨A19, _, _, _, _, rfl, (bl2 (.bool b118) (.slice ao118 n118 c118) NB19), hv118.soft (sf2 (.bool b118) (.slice ao118 n118 c118) NB19 (by decide)), (kp2 (A := A19) (.bool b118) (.slice ao118 n118 c118) hS10 ge19), ge19⟩
        exact AllReadyL.nil
       refine AllReadyL.cons rfl (fun K hK => ?_) ?_
       ·go_simp
        refine hK.out _ _ (Kp.alloc' hS2 (.cells #[.bool false, .slice none 0 0] 46)) (fun hS3 => ?_)
        clear hK K
        have NB19 := Blk.new w105 #[.bool false, .slice none 0 0] 46
        have ge19 : w5.heap.size ≤ w105.heap.size := hS2.size
        replace hv102 := hv102.keep (kp_alloc w105 (.cells #[.bool false, .slice none 0 0] 46))
        replace hv105 := hv105.keep (kp_alloc w105 (.cells #[.bool false, .slice none 0 0] 46))
        try simp only [sq]
        generalize hA19 : w105.heap.size = A19 at *
        generalize w105.alloc (.cells #[.bool false, .slice none 0 0] 46) = wn19 at *
        refine wpAnyL_on (i := 8) rfl (fun K hK => ?_)
        go_simp
        refine (of_any a.d _ ad0 ad1).mono ?_
        rintro e w108 ⟨v108, rfl, hv108, hk108⟩
        obtain ⟨b108, ao108, n108, c108, rfl⟩ := hv108.shape'
        replace hv102 := hv102.keep hk108
        replace hv105 := hv105.keep hk108
        replace NB19 := NB19.keep hk108
        go_wp2_with fail
        refine hK.out _ _ (hS3.trans' hk108) (fun hS4 => ?_)
        clear hK K
        refine wpAnyL_on (i := 9) rfl (fun K hK => ?_)
        go_simp
        refine (rtimes_any (B * B) a.d _ _ _ hv105 hv108 (Ft.fit (Ft.mono (n := 4 * m + 2) (Ft.mul fB fB) (by omega)) (by omega)) (Ft.fit fad (by omega))).mono ?_
        rintro e w109 ⟨v109, rfl, hv109, hk109⟩
        obtain ⟨b109, ao109, n109, c109, rfl⟩ := hv109.shape'
        replace hv102 := hv102.keep hk109
        replace NB19 := NB19.keep hk109
        go_wp2_with fail
        refine hK.out _ _ (hS4.trans' hk109) (fun hS5 => ?_)
        clear hK K
        refine wpAnyL_on (i := 10) rfl (fun K hK => ?_)
        go_simp
        refine (rplus_any (A * A) ((B * B) * a.d) _ _ _ hv102 hv109 (Ft.fit (Ft.mono (n := 4 * m + 2) (Ft.mul fA fA) (by omega)) (by omega)) (Ft.fit (Ft.mono (n := 4 * m + 9) (Ft.mul (Ft.mono (n := 4 * m + 2) (Ft.mul fB fB) (by omega)) fad) (by omega)) (by omega))).mono ?_
        rintro e w110 ⟨v110, rfl, hv110, hk110⟩
        obtain ⟨b110, ao110, n110, c110, rfl⟩ := hv110.shape'
        replace NB19 := NB19.keep hk110
        go_wp2_with fail
        refine hK.out _ _ (hS5.trans' hk110) (fun hS6 => ?_)
        clear hK K
        refine wpAnyL_on (i := 13) rfl (fun K hK => ?_)
        go_simp
        refine (rtimes_any C C _ _ _ (hC.keep hS6) (hC.keep hS6) (Ft.fit fC (by omega)) (Ft.fit fC (by omega))).mono ?_
        rintro e w113 ⟨v113, rfl, hv113, hk113⟩
        obtain ⟨b113, ao113, n113, c113, rfl⟩ := hv113.shape'
        replace NB19 := NB19.keep hk113
        replace hv110 := hv110.keep hk113
        go_wp2_with fail
        refine hK.out _ _ (hS6.trans' hk113) (fun hS7 => ?_)
        clear hK K
        refine wpAnyL_on (i := 16) rfl (fun K hK => ?_)
        go_simp
        refine (of_any b.d _ bd0 bd1).mono ?_
        rintro e w116 ⟨v116, rfl, hv116, hk116⟩
        obtain ⟨b116, ao116, n116, c116, rfl⟩ := hv116.shape'
        replace NB19 := NB19.keep hk116
        replace hv110 := hv110.keep hk116
        replace hv113 := hv113.keep hk116
        go_wp2_with fail
        refine hK.out _ _ (hS7.trans' hk116) (fun hS8 => ?_)
        clear hK K
        refine wpAnyL_on (i := 17) rfl (fun K hK => ?_)
        go_simp
        refine (rtimes_any (C * C) b.d _ _ _ hv113 hv116 (Ft.fit (Ft.mono (n := 4 * m + 2) (Ft.mul fC fC) (by omega)) (by omega)) (Ft.fit fbd (by omega))).mono ?_
        rintro e w117 ⟨v117, rfl, hv117, hk117⟩
        obtain ⟨b117, ao117, n117, c117, rfl⟩ := hv117.shape'
        replace NB19 := NB19.keep hk117
        replace hv110 := hv110.keep hk117
        go_wp2_with fail
        refine hK.out _ _ (hS8.trans' hk117) (fun hS9 => ?_)
        clear hK K
        refine wpAnyL_on (i := 18) rfl (fun K hK => ?_)
        go_simp
        refine (rminus_any ((A * A) + ((B * B) * a.d)) ((C * C) * b.d) _ _ _ hv110 hv117 (Ft.fit (Ft.mono (n := 4 * m + 10) (Ft.add (Ft.mono (n := 4 * m + 9) (Ft.mono (n := 4 * m + 2) (Ft.mul fA fA) (by omega)) (by omega)) (Ft.mono (n := 4 * m + 9) (Ft.mono (n := 4 * m + 9) (Ft.mul (Ft.mono (n := 4 * m + 2) (Ft.mul fB fB) (by omega)) fad) (by omega)) (by omega))) (by omega)) (by omega)) (Ft.fit (Ft.mono (n := 4 * m + 9) (Ft.mul (Ft.mono (n := 4 * m + 2) (Ft.mul fC fC) (by omega)) fbd) (by omega)) (by omega))).mono ?_
        rintro e w118 ⟨v118, rfl, hv118, hk118⟩
        obtain ⟨b118, ao118, n118, c118, rfl⟩ := hv118.shape'
        replace NB19 := NB19.keep hk118
        go_wp2_with fail
        refine hK.out _ _ (hS9.trans' hk118) (fun hS10 => ?_)
        clear hK K
        have st_c := NB19.cell
        have st_f := NB19.frozen
        have st_l := NB19.lt
        refine wpAnyL_last (i := 20) rfl (by kernel_rfl) (by kernel_rfl) (by kernel_rfl) (fun K hK => ?_)
        go_simp
        refine hK.out _ _ ?_
        clear hK K
        go_wp2_with fail
        go_meet
        case rel => exact ⟨A19, _, _, _, _, rfl, (bl2 (.bool b118) (.slice ao118 n118 c118) NB19), hv118.soft (sf2 (.bool b118) (.slice ao118 n118 c118) NB19 (by decide)), (kp2 (A := A19) (.bool b118) (.slice ao118 n118 c118) hS10 ge19), ge19⟩
       exact AllReadyL.nil
      refine AllReadyL.cons rfl (fun K hK => ?_) ?_
      ·go_simp
       refine hK.out _ _ (Kp.alloc' hS1 (.cells #[.bool false, .slice none 0 0] 46)) (fun hS2 => ?_)
       clear hK K
       have NB19 := Blk.new w102 #[.bool false, .slice none 0 0] 46
       have ge19 : w5.heap.size ≤ w102.heap.size := hS1.size
       replace hv102 := hv102.keep (kp_alloc w102 (.cells #[.bool false, .slice none 0 0] 46))
       try simp only [sq]
       generalize hA19 : w102.heap.size = A19 at *
       generalize w102.alloc (.cells #[.bool false, .slice none 0 0] 46) = wn19 at *
       refine wpAnyL_on (i := 5) rfl (fun K hK => ?_)
       go_simp
       refine (rtimes_any B B _ _ _ (hB.keep hS2) (hB.keep hS2) (Ft.fit fB (by omega)) (Ft.fit fB (by omega))).mono ?_
       rintro e w105 ⟨v105, rfl, hv105, hk105⟩
       obtain ⟨b105, ao105, n105, c105, rfl⟩ := hv105.shape'
       replace hv102 := hv102.keep hk105
       replace NB19 := NB19.keep hk105
       go_wp2_with fail
       refine hK.out _ _ (hS2.trans' hk105) (fun hS3 => ?_)
       clear hK K
       refine wpAnyL_on (i := 8) rfl (fun K hK => ?_)
       go_simp
       refine (of_any a.d _ ad0 ad1).mono ?_
       rintro e w108 ⟨v108, rfl, hv108, hk108⟩
       obtain ⟨b108, ao108, n108, c108, rfl⟩ := hv108.shape'
       replace hv102 := hv102.keep hk108
       replace NB19 := NB19.keep hk108
       replace hv105 := hv105.keep hk108
       go_wp2_with fail
       refine hK.out _ _ (hS3.trans' hk108) (fun hS4 => ?_)
       clear hK K
       refine wpAnyL_on (i := 9) rfl (fun K hK => ?_)
       go_simp
       refine (rtimes_any (B * B) a.d _ _ _ hv105 hv108 (Ft.fit (Ft.mono (n := 4 * m + 2) (Ft.mul fB fB) (by omega)) (by omega)) (Ft.fit fad (by omega))).mono ?_
       rintro e w109 ⟨v109, rfl, hv109, hk109⟩
       obtain ⟨b109, ao109, n109, c109, rfl⟩ := hv109.shape'
       replace hv102 := hv102.keep hk109
       replace NB19 := NB19.keep hk109
       go_wp2_with fail
       refine hK.out _ _ (hS4.trans' hk109) (fun hS5 => ?_)
       clear hK K
       refine wpAnyL_on (i := 10) rfl (fun K hK => ?_)
       go_simp
       refine (rplus_any (A * A) ((B * B) * a.d) _ _ _ hv102 hv109 (Ft.fit (Ft.mono (n := 4 * m + 2) (Ft.mul fA fA) (by omega)) (by omega)) (Ft.fit (Ft.mono (n := 4 * m + 9) (Ft.mul (Ft.mono (n := 4 * m + 2) (Ft.mul fB fB) (by omega)) fad) (by omega)) (by omega))).mono ?_
       rintro e w110 ⟨v110, rfl, hv110, hk110⟩
       obtain ⟨b110, ao110, n110, c110, rfl⟩ := hv110.shape'
       replace NB19 := NB19.keep hk110
       go_wp2_with fail
       refine hK.out _ _ (hS5.trans' hk110) (fun hS6 => ?_)
       clear hK K
       refine wpAnyL_on (i := 13) rfl (fun K hK => ?_)
       go_simp
       refine (rtimes_any C C _ _ _ (hC.keep hS6) (hC.keep hS6) (Ft.fit fC (by omega)) (Ft.fit fC (by omega))).mono ?_
       rintro e w113 ⟨v113, rfl, hv113, hk113⟩
       obtain ⟨b113, ao113, n113, c113, rfl⟩ := hv113.shape'
       replace NB19 := NB19.keep hk113
       replace hv110 := hv110.keep hk113
       go_wp2_with fail
       refine hK.out _ _ (hS6.trans' hk113) (fun hS7 => ?_)
       clear hK K
       refine wpAnyL_on (i := 16) rfl (fun K hK => ?_)
       go_simp
       refine (of_any b.d _ bd0 bd1).mono ?_
       rintro e w116 ⟨v116, rfl, hv116, hk116⟩
       obtain ⟨b116, ao116, n116, c116, rfl⟩ := hv116.shape'
       replace NB19 := NB19.keep hk116
       replace hv110 := hv110.keep hk116
       replace hv113 := hv113.keep hk116
       go_wp2_with fail
       refine hK.out _ _ (hS7.trans' hk116) (fun hS8 => ?_)
       clear hK K
       refine wpAnyL_on (i := 17) rfl (fun K hK => ?_)
       go_simp
       refine (rtimes_any (C * C) b.d _ _ _ hv113 hv116 (Ft.fit (Ft.mono (n := 4 * m + 2) (Ft.mul fC fC) (by omega)) (by omega)) (Ft.fit fbd (by omega))).mono ?_
       rintro e w117 ⟨v117, rfl, hv117, hk117⟩
       obtain ⟨b117, ao117, n117, c117, rfl⟩ := hv117.shape'
       replace NB19 := NB19.keep hk117
       replace hv110 := hv110.keep hk117
       go_wp2_with fail
       refine hK.out _ _ (hS8.trans' hk117) (fun hS9 => ?_)
       clear hK K
       refine wpAnyL_on (i := 18) rfl (fun K hK => ?_)
       go_simp
       refine (rminus_any ((A * A) + ((B * B) * a.d)) ((C * C) * b.d) _ _ _ hv110 hv117 (Ft.fit (Ft.mono (n := 4 * m + 10) (Ft.add (Ft.mono (n := 4 * m + 9) (Ft.mono (n := 4 * m + 2) (Ft.mul fA fA) (by omega)) (by omega)) (Ft.mono (n := 4 * m + 9) (Ft.mono (n := 4 * m + 9) (Ft.mul (Ft.mono (n := 4 * m + 2) (Ft.mul fB fB) (by omega)) fad) (by omega)) (by omega))) (by omega)) (by omega)) (Ft.fit (Ft.mono (n := 4 * m + 9) (Ft.mul (Ft.mono (n := 4 * m + 2) (Ft.mul fC fC) (by omega)) fbd) (by omega)) (by omega))).mono ?_
       rintro e w118 ⟨v118, rfl, hv118, hk118⟩
       obtain ⟨b118, ao118, n118, c118, rfl⟩ := hv118.shape'
       replace NB19 := NB19.keep hk118
       go_wp2_with fail
       refine hK.out _ _ (hS9.trans' hk118) (fun hS10 => ?_)
       clear hK K
       have st_c := NB19.cell
       have st_f := NB19.frozen
       have st_l := NB19.lt
       refine wpAnyL_last (i := 20) rfl (by kernel_rfl) (by kernel_rfl) (by kernel_rfl) (fun K hK => ?_)
       go_simp
       refine hK.out _ _ ?_
       clear hK K
       go_wp2_with fail
       go_meet
       case rel => exact ⟨A19, _, _, _, _, rfl, (bl2 (.bool b118) (.slice ao118 n118 c118) NB19), hv118.soft (sf2 (.bool b118) (.slice ao118 n118 c118) NB19 (by decide)), (kp2 (A := A19) (.bool b118) (.slice ao118 n118 c118) hS10 ge19), ge19⟩
      exact AllReadyL.nil
     refine AllReadyL.cons rfl (fun K hK => ?_) ?_
     ·go_simp
      refine hK.out _ _ (Kp.alloc' hS0 (.cells #[.bool false, .slice none 0 0] 46)) (fun hS1 => ?_)
      clear hK K
      have NB19 := Blk.new wd #[.bool false, .slice none 0 0] 46
      have ge19 : w5.heap.size ≤ wd.heap.size := hS0.size
      try simp only [sq]
      generalize hA19 : wd.heap.size = A19 at *
      generalize wd.alloc (.cells #[.bool false, .slice none 0 0] 46) = wn19 at *
      refine wpAnyL_on (i := 2) rfl (fun K hK => ?_)
      go_simp
      refine (rtimes_any A A _ _ _ (hA.keep hS1) (hA.keep hS1) (Ft.fit fA (by omega)) (Ft.fit fA (by omega))).mono ?_
      rintro e w102 ⟨v102, rfl, hv102, hk102⟩
      obtain ⟨b102, ao102, n102, c102, rfl⟩ := hv102.shape'
      replace NB19 := NB19.keep hk102
      go_wp2_with fail
      refine hK.out _ _ (hS1.trans' hk102) (fun hS2 => ?_)
      clear hK K
      refine wpAnyL_on (i := 5) rfl (fun K hK => ?_)
      go_simp
      refine (rtimes_any B B _ _ _ (hB.keep hS2) (hB.keep hS2) (Ft.fit fB (by omega)) (Ft.fit fB (by omega))).mono ?_
      rintro e w105 ⟨v105, rfl, hv105, hk105⟩
      obtain ⟨b105, ao105, n105, c105, rfl⟩ := hv105.shape'
      replace NB19 := NB19.keep hk105
      replace hv102 := hv102.keep hk105
      go_wp2_with fail
      refine hK.out _ _ (hS2.trans' hk105) (fun hS3 => ?_)
      clear hK K
      refine wpAnyL_on (i := 8) rfl (fun K hK => ?_)
      go_simp
      refine (of_any a.d _ ad0 ad1).mono ?_
      rintro e w108 ⟨v108, rfl, hv108, hk108⟩
      obtain ⟨b108, ao108, n108, c108, rfl⟩ := hv108.shape'
      replace NB19 := NB19.keep hk108
      replace hv102 := hv102.keep hk108
      replace hv105 := hv105.keep hk108
      go_wp2_with fail
      refine hK.out _ _ (hS3.trans' hk108) (fun hS4 => ?_)
      clear hK K
      refine wpAnyL_on (i := 9) rfl (fun K hK => ?_)
      go_simp
      refine (rtimes_any (B * B) a.d _ _ _ hv105 hv108 (Ft.fit (Ft.mono (n := 4 * m + 2) (Ft.mul fB fB) (by omega)) (by omega)) (Ft.fit fad (by omega))).mono ?_
      rintro e w109 ⟨v109, rfl, hv109, hk109⟩
      obtain ⟨b109, ao109, n109, c109, rfl⟩ := hv109.shape'
      replace NB19 := NB19.keep hk109
      replace hv102 := hv102.keep hk109
      go_wp2_with fail
      refine hK.out _ _ (hS4.trans' hk109) (fun hS5 => ?_)
      clear hK K
      refine wpAnyL_on (i := 10) rfl (fun K hK => ?_)
      go_simp
      refine (rplus_any (A * A) ((B * B) * a.d) _ _ _ hv102 hv109 (Ft.fit (Ft.mono (n := 4 * m + 2) (Ft.mul fA fA) (by omega)) (by omega)) (Ft.fit (Ft.mono (n := 4 * m + 9) (Ft.mul (Ft.mono (n := 4 * m + 2) (Ft.mul fB fB) (by omega)) fad) (by omega)) (by omega))).mono ?_
      rintro e w110 ⟨v110, rfl, hv110, hk110⟩
      obtain ⟨b110, ao110, n110, c110, rfl⟩ := hv110.shape'
      replace NB19 := NB19.keep hk110
      go_wp2_with fail
      refine hK.out _ _ (hS5.trans' hk110) (fun hS6 => ?_)
      clear hK K
      refine wpAnyL_on (i := 13) rfl (fun K hK => ?_)
      go_simp
      refine (rtimes_any C C _ _ _ (hC.keep hS6) (hC.keep hS6) (Ft.fit fC (by omega)) (Ft.fit fC (by omega))).mono ?_
      rintro e w113 ⟨v113, rfl, hv113, hk113⟩
      obtain ⟨b113, ao113, n113, c113, rfl⟩ := hv113.shape'
      replace NB19 := NB19.keep hk113
      replace hv110 := hv110.keep hk113
      go_wp2_with fail
      refine hK.out _ _ (hS6.trans' hk113) (fun hS7 => ?_)
      clear hK K
      refine wpAnyL_on (i := 16) rfl (fun K hK => ?_)
      go_simp
      refine (of_any b.d _ bd0 bd1).mono ?_
      rintro e w116 ⟨v116, rfl, hv116, hk116⟩
      obtain ⟨b116, ao116, n116, c116, rfl⟩ := hv116.shape'
      replace NB19 := NB19.keep hk116
      replace hv110 := hv110.keep hk116
      replace hv113 := hv113.keep hk116
      go_wp2_with fail
      refine hK.out _ _ (hS7.trans' hk116) (fun hS8 => ?_)
      clear hK K
      refine wpAnyL_on (i := 17) rfl (fun K hK => ?_)
      go_simp
      refine (rtimes_any (C * C) b.d _ _ _ hv113 hv116 (Ft.fit (Ft.mono (n := 4 * m + 2) (Ft.mul fC fC) (by omega)) (by omega)) (Ft.fit fbd (by omega))).mono ?_
      rintro e w117 ⟨v117, rfl, hv117, hk117⟩
      obtain ⟨b117, ao117, n117, c117, rfl⟩ := hv117.shape'
      replace NB19 := NB19.keep hk117
      replace hv110 := hv110.keep hk117
      go_wp2_with fail
      refine hK.out _ _ (hS8.trans' hk117) (fun hS9 => ?_)
      clear hK K
      refine wpAnyL_on (i := 18) rfl (fun K hK => ?_)
      go_simp
      refine (rminus_any ((A * A) + ((B * B) * a.d)) ((C * C) * b.d) _ _ _ hv110 hv117 (Ft.fit (Ft.mono (n := 4 * m + 10) (Ft.add (Ft.mono (n := 4 * m + 9) (Ft.mono (n := 4 * m + 2) (Ft.mul fA fA) (by omega)) (by omega)) (Ft.mono (n := 4 * m + 9) (Ft.mono (n := 4 * m + 9) (Ft.mul (Ft.mono (n := 4 * m + 2) (Ft.mul fB fB) (by omega)) fad) (by omega)) (by omega))) (by omega)) (by omega)) (Ft.fit (Ft.mono (n := 4 * m + 9) (Ft.mul (Ft.mono (n := 4 * m + 2) (Ft.mul fC fC) (by omega)) fbd) (by omega)) (by omega))).mono ?_
      rintro e w118 ⟨v118, rfl, hv118, hk118⟩
      obtain ⟨b118, ao118, n118, c118, rfl⟩ := hv118.shape'
      replace NB19 := NB19.keep hk118
      go_wp2_with fail
      refine hK.out _ _ (hS9.trans' hk118) (fun hS10 => ?_)
      clear hK K
      have st_c := NB19.cell
      have st_f := NB19.frozen
      have st_l := NB19.lt
      refine wpAnyL_last (i := 20) rfl (by kernel_rfl) (by kernel_rfl) (by kernel_rfl) (fun K hK => ?_)
      go_simp
      refine hK.out _ _ ?_
      clear hK K
      go_wp2_with fail
      go_meet
      case rel => exact ⟨A19, _, _, _, _, rfl, (bl2 (.bool b118) (.slice ao118 n118 c118) NB19), hv118.soft (sf2 (.bool b118) (.slice ao118 n118 c118) NB19 (by decide)), (kp2 (A := A19) (.bool b118) (.slice ao118 n118 c118) hS10 ge19), ge19⟩
     exact AllReadyL.nil
    case rest =>
     obtain ⟨bp, b21, ao21, n21, c21, rfl, B9, hP, hkc, gep⟩ := hcut
     replace BA := BA.keep hkc
     replace BB := BB.keep hkc
     replace B6 := B6.keep hkc
     replace B7 := B7.keep hkc
     replace B8 := B8.keep hkc
     replace hA := hA.keep hkc
     replace hB := hB.keep hkc
     replace hC := hC.keep hkc
     replace hkb := hkb.trans' hkc
     have hsp := hkc.size
     clear hkc
     generalize wc = w6 at *
     go_wp2_with fail
     go_cut [12] from 91 to 95 (fun p' wx => ∃ (bg : Nat) (bb : Bool) (aa : Option Addr) (nn cc : Nat), p' = .pointer (some ⟨bg, 0, none⟩) ∧ Blk wx bg #[.bool bb, .slice aa nn cc] 46 ∧ IN wx (.agg #[.bool bb, .slice aa nn cc]) (2 * (A * B)) ∧ Kp w6 wx ∧ w6.heap.size ≤ bg)
     case first =>
      refine wp_region_l (S := fun w' => Kp w6 w') (by kernel_rfl) (Kp.drew' (Below.refl _ _)) (fun hS0 => ?_)
      generalize w6.drew = wd at *
      refine wpAnyL_tk (i := 1) (k := 3) (v := .agg #[.bool b11, .slice ao11 n11 c11]) rfl ?_ hS0 ?_
      ·intro w' hw'; have hc := ((B6).keep hw').cell; go_simp
      simp only [sq]
      refine wpAnyL_tk (i := 2) (k := 3) (v := .agg #[.bool b12, .slice ao12 n12 c12]) rfl ?_ hS0 ?_
      ·intro w' hw'; have hc := ((B7).keep hw').cell; go_simp
      simp only [sq]
      refine wpAnyL_ready (rs := [0, 5]) (by kernel_rfl) (by simp) ?_
      refine AllReadyL.cons rfl (fun K hK => ?_) ?_
      ·go_simp
       refine (of_any 2 _ (by decide) (by decide)).mono ?_
       rintro e w100 ⟨v100, rfl, hv100, hk100⟩
       obtain ⟨b100, ao100, n100, c100, rfl⟩ := hv100.shape'
       go_wp2_with fail
       refine hK.out _ _ (hS0.trans' hk100) (fun hS1 => ?_)
       clear hK K
       refine wpAnyL_ready (rs := [3, 5]) (by kernel_rfl) (by simp) ?_
       refine AllReadyL.cons rfl (fun K hK => ?_) ?_
       ·go_simp
        refine (rtimes_any A B _ _ _ (hA.keep hS1) (hB.keep hS1) (Ft.fit fA (by omega)) (Ft.fit fB (by omega))).mono ?_
        rintro e w103 ⟨v103, rfl, hv103, hk103⟩
        obtain ⟨b103, ao103, n103, c103, rfl⟩ := hv103.shape'
        replace hv100 := hv100.keep hk103
        go_wp2_with fail
        refine hK.out _ _ (hS1.trans' hk103) (fun hS2 => ?_)
        clear hK K
        refine wpAnyL_ready (rs := [4, 5]) (by kernel_rfl) (by simp) ?_
        refine AllReadyL.cons rfl (fun K hK => ?_) ?_
        ·go_simp
         refine (rtimes_any 2 (A * B) _ _ _ hv100 hv103 (Ft.fit f2 (by omega)) (Ft.fit (Ft.mono (n := 4 * m + 2) (Ft.mul fA fB) (by omega)) (by omega))).mono ?_
         rintro e w104 ⟨v104, rfl, hv104, hk104⟩
         obtain ⟨b104, ao104, n104, c104, rfl⟩ := hv104.shape'
         go_wp2_with fail
         refine hK.out _ _ (hS2.trans' hk104) (fun hS3 => ?_)
         clear hK K
         refine wpAnyL_on (i := 5) rfl (fun K hK => ?_)
         go_simp
         refine hK.out _ _ (Kp.alloc' hS3 (.cells #[.bool false, .slice none 0 0] 46)) (fun hS4 => ?_)
         clear hK K
         have NB5 := Blk.new w104 #[.bool false, .slice none 0 0] 46
         have ge5 : w6.heap.size ≤ w104.heap.size := hS3.size
         replace hv104 := hv104.keep (kp_alloc w104 (.cells #[.bool false, .slice none 0 0] 46))
         try simp only [sq]
         generalize hA5 : w104.heap.size = A5 at *
         generalize w104.alloc (.cells #[.bool false, .slice none 0 0] 46) = wn5 at *
         have st_c := NB5.cell
         have st_f := NB5.frozen
         have st_l := NB5.lt
         refine wpAnyL_last (i := 6) rfl (by kernel_rfl) (by kernel_rfl) (by kernel_rfl) (fun K hK => ?_)
         go_simp
         refine hK.out _ _ ?_
         clear hK K
         go_wp2_with fail
         go_meet
         case rel => exact ⟨A5, _, _, _, _, rfl, (bl2 (.bool b104) (.slice ao104 n104 c104) NB5), hv104.soft (sf2 (.bool b104) (.slice ao104 n104 c104) NB5 (by decide)), (kp2 (A := A5) (.bool b104) (.slice ao104 n104 c104) hS4 ge5), ge5⟩
        refine AllReadyL.cons rfl (fun K hK => ?_) ?_
        ·go_simp
         refine hK.out _ _ (Kp.alloc' hS2 (.cells #[.bool false, .slice none 0 0] 46)) (fun hS3 => ?_)
         clear hK K
         have NB5 := Blk.new w103 #[.bool false, .slice none 0 0] 46
         have ge5 : w6.heap.size ≤ w103.heap.size := hS2.size
         replace hv100 := hv100.keep (kp_alloc w103 (.cells #[.bool false, .slice none 0 0] 46))
         replace hv103 := hv103.keep (kp_alloc w103 (.cells #[.bool false, .slice none 0 0] 46))
         try simp only [sq]
         generalize hA5 : w103.heap.size = A5 at *
         generalize w103.alloc (.cells #[.bool false, .slice none 0 0] 46) = wn5 at *
         refine wpAnyL_on (i := 4) rfl (fun K hK => ?_)
         go_simp
         refine (rtimes_any 2 (A * B) _ _ _ hv100 hv103 (Ft.fit f2 (by omega)) (Ft.fit (Ft.mono (n := 4 * m + 2) (Ft.mul fA fB) (by omega)) (by omega))).mono ?_
         rintro e w104 ⟨v104, rfl, hv104, hk104⟩
         obtain ⟨b104, ao104, n104, c104, rfl⟩ := hv104.shape'
         replace NB5 := NB5.keep hk104
         go_wp2_with fail
         refine hK.out _ _ (hS3.trans' hk104) (fun hS4 => ?_)
         clear hK K
         have st_c := NB5.cell
         have st_f := NB5.frozen
         have st_l := NB5.lt
         refine wpAnyL_last (i := 6) rfl (by kernel_rfl) (by kernel_rfl) (by kernel_rfl) (fun K hK => ?_)
         go_simp
         refine hK.out _ _ ?_
         clear hK K
         go_wp2_with fail
         go_meet
         case rel => exact ⟨A5, _, _, _, _, rfl, (bl2 (.bool b104) (.slice ao104 n104 c104) NB5), hv104.soft (sf2 (.bool b104) (.slice ao104 n104 c104) NB5 (by decide)), (kp2 (A := A5) (.bool b104) (.slice ao104 n104 c104) hS4 ge5), ge5⟩
        exact AllReadyL.nil
       refine AllReadyL.cons rfl (fun K hK => ?_) ?_
       ·go_simp
        refine hK.out _ _ (Kp.alloc' hS1 (.cells #[.bool false, .slice none 0 0] 46)) (fun hS2 => ?_)
        clear hK K
        have NB5 := Blk.new w100 #[.bool false, .slice none 0 0] 46
        have ge5 : w6.heap.size ≤ w100.heap.size := hS1.size
        replace hv100 := hv100.keep (kp_alloc w100 (.cells #[.bool false, .slice none 0 0] 46))
        try simp only [sq]
        generalize hA5 : w100.heap.size = A5 at *
        generalize w100.alloc (.cells #[.bool false, .slice none 0 0] 46) = wn5 at *
        refine wpAnyL_on (i := 3) rfl (fun K hK => ?_)
        go_simp
        refine (rtimes_any A B _ _ _ (hA.keep hS2) (hB.keep hS2) (Ft.fit fA (by omega)) (Ft.fit fB (by omega))).mono ?_
        rintro e w103 ⟨v103, rfl, hv103, hk103⟩
        obtain ⟨b103, ao103, n103, c103, rfl⟩ := hv103.shape'
        replace hv100 := hv100.keep hk103
        replace NB5 := NB5.keep hk103
        go_wp2_with fail
        refine hK.out _ _ (hS2.trans' hk103) (fun hS3 => ?_)
        clear hK K
        refine wpAnyL_on (i := 4) rfl (fun K hK => ?_)
        go_simp
        refine (rtimes_any 2 (A * B) _ _ _ hv100 hv103 (Ft.fit f2 (by omega)) (Ft.fit (Ft.mono (n := 4 * m + 2) (Ft.mul fA fB) (by omega)) (by omega))).mono ?_
        rintro e w104 ⟨v104, rfl, hv104, hk104⟩
        obtain ⟨b104, ao104, n104, c104, rfl⟩ := hv104.shape'
        replace NB5 := NB5.keep hk104
        go_wp2_with fail
        refine hK.out _ _ (hS3.trans' hk104) (fun hS4 => ?_)
        clear hK K
        have st_c := NB5.cell
        have st_f := NB5.frozen
        have st_l := NB5.lt
        refine wpAnyL_last (i := 6) rfl (by kernel_rfl) (by kernel_rfl) (by kernel_rfl) (fun K hK => ?_)
        go_simp
        refine hK.out _ _ ?_
        clear hK K
        go_wp2_with fail
        go_meet
        case rel => exact ⟨A5, _, _, _, _, rfl, (bl2 (.bool b104) (.slice ao104 n104 c104) NB5), hv104.soft (sf2 (.bool b104) (.slice ao104 n104 c104) NB5 (by decide)), (kp2 (A := A5) (.bool b104) (.slice ao104 n104 c104) hS4 ge5), ge5⟩
       exact AllReadyL.nil
      refine AllReadyL.cons rfl (fun K hK => ?_) ?_
      ·go_simp
       refine hK.out _ _ (Kp.alloc' hS0 (.cells #[.bool false, .slice none 0 0] 46)) (fun hS1 => ?_)
       clear hK K
       have NB5 := Blk.new wd #[.bool false, .slice none 0 0] 46
       have ge5 : w6.heap.size ≤ wd.heap.size := hS0.size
       try simp only [sq]
       generalize hA5 : wd.heap.size = A5 at *
       generalize wd.alloc (.cells #[.bool false, .slice none 0 0] 46) = wn5 at *
       refine wpAnyL_on (i := 0) rfl (fun K hK => ?_)
       go_simp
       refine (of_any 2 _ (by decide) (by decide)).mono ?_
       rintro e w100 ⟨v100, rfl, hv100, hk100⟩
       obtain ⟨b100, ao100, n100, c100, rfl⟩ := hv100.shape'
       replace NB5 := NB5.keep hk100
       go_wp2_with fail
       refine hK.out _ _ (hS1.trans' hk100) (fun hS2 => ?_)
       clear hK K
       refine wpAnyL_on (i := 3) rfl (fun K hK => ?_)
       go_simp
       refine (rtimes_any A B _ _ _ (hA.keep hS2) (hB.keep hS2) (Ft.fit fA (by omega)) (Ft.fit fB (by omega))).mono ?_
       rintro e w103 ⟨v103, rfl, hv103, hk103⟩
       obtain ⟨b103, ao103, n103, c103, rfl⟩ := hv103.shape'
       replace NB5 := NB5.keep hk103
       replace hv100 := hv100.keep hk103
       go_wp2_with fail
       refine hK.out _ _ (hS2.trans' hk103) (fun hS3 => ?_)
       clear hK K
       refine wpAnyL_on (i := 4) rfl (fun K hK => ?_)
       go_simp
       refine (rtimes_any 2 (A * B) _ _ _ hv100 hv103 (Ft.fit f2 (by omega)) (Ft.fit (Ft.mono (n := 4 * m + 2) (Ft.mul fA fB) (by omega)) (by omega))).mono ?_
       rintro e w104 ⟨v104, rfl, hv104, hk104⟩
       obtain ⟨b104, ao104, n104, c104, rfl⟩ := hv104.shape'
       replace NB5 := NB5.keep hk104
       go_wp2_with fail
       refine hK.out _ _ (hS3.trans' hk104) (fun hS4 => ?_)
       clear hK K
       have st_c := NB5.cell
       have st_f := NB5.frozen
       have st_l := NB5.lt
       refine wpAnyL_last (i := 6) rfl (by kernel_rfl) (by kernel_rfl) (by kernel_rfl) (fun K hK => ?_)
       go_simp
       refine hK.out _ _ ?_
       clear hK K
       go_wp2_with fail
       go_meet
       case rel => exact ⟨A5, _, _, _, _, rfl, (bl2 (.bool b104) (.slice ao104 n104 c104) NB5), hv104.soft (sf2 (.bool b104) (.slice ao104 n104 c104) NB5 (by decide)), (kp2 (A := A5) (.bool b104) (.slice ao104 n104 c104) hS4 ge5), ge5⟩
      exact AllReadyL.nil
     case rest =>
      obtain ⟨bq, b22, ao22, n22, c22, rfl, B10, hQ, hkc, geq⟩ := hcut
      replace B9 := B9.keep hkc
      replace BA := BA.keep hkc
      replace hP := hP.keep hkc
      replace hkb := hkb.trans' hkc
      have p9c := B9.cell
      have p9l := B9.lt
      have p10c := B10.cell
      have p10l := B10.lt
      have ac := BA.cell
      have al2 := BA.lt
      have fP : Ft (4 * m + 30) (((A * A) + ((B * B) * a.d)) - ((C * C) * b.d)) := Ft.mono (Ft.mono (n := 4 * m + 11) (Int.sub_eq_add_neg ▸ Ft.add (Ft.mono (n := 4 * m + 10) (Ft.mono (n := 4 * m + 10) (Ft.add (Ft.mono (n := 4 * m + 9) (Ft.mono (n := 4 * m + 2) (Ft.mul fA fA) (by omega)) (by omega)) (Ft.mono (n := 4 * m + 9) (Ft.mono (n := 4 * m + 9) (Ft.mul (Ft.mono (n := 4 * m + 2) (Ft.mul fB fB) (by omega)) fad) (by omega)) (by omega))) (by omega)) (by omega)) (Ft.neg (Ft.mono (n := 4 * m + 10) (Ft.mono (n := 4 * m + 9) (Ft.mul (Ft.mono (n := 4 * m + 2) (Ft.mul fC fC) (by omega)) fbd) (by omega)) (by omega)))) (by omega)) (by omega)
      have fQ : Ft (4 * m + 30) (2 * (A * B)) := Ft.mono (Ft.mono (n := 4 * m + 3) (Ft.mul f2 (Ft.mono (n := 4 * m + 2) (Ft.mul fA fB) (by omega))) (by omega)) (by omega)
      have hr3 := rsg_bd (((A * A) + ((B * B) * a.d)) - ((C * C) * b.d)) (2 * (A * B)) a.d
      go_wp2_with fail
      refine (sign_ref (((A * A) + ((B * B) * a.d)) - ((C * C) * b.d)) (2 * (A * B)) a.d (4 * m + 30) _ _ _ hP hQ (by omega) fP fQ ad0 ad2).mono ?_
      rintro e w9 ⟨rfl, hk9⟩
      generalize rsg (((A * A) + ((B * B) * a.d)) - ((C * C) * b.d)) (2 * (A * B)) a.d = rr at *
      have hmul : -1 ≤ ss * rr ∧ ss * rr ≤ 1 := by
       rcases hss3 with h | h | h <;> rcases hr3 with h' | h' | h' <;> rw [h, h'] <;> decide
      have hmw : IntKind.i64.wrap (ss * rr) = ss * rr := IntWalk.i64_in _ (by omega)
      obtain ⟨hm1, hm2⟩ := hmul
      go_wp2_with fail
      go_ret
      exact ⟨by rw [HO.out]; rfl, hkb.trans' hk9⟩


end Go.Proofs.Ytjahbjjekednfaa
