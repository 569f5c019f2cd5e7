import Derived.Test.YtjahbjjekednfaaR12
import Derived.Test.YtjahbjjekednfaaR13
namespace Go.Proofs.Ytjahbjjekednfaa
open Go.RowKit

set_option maxHeartbeats 6400000 in
set_option maxRecDepth 100000 in
theorem worked_sub (a b : Qn) (m : Nat) (D : Int) (u v : Value) (w : World) (ha : NN w u a) (hb : NN w v b) (hm : m ≤ 10000000) (fa : QF m a) (fb : QF m b) (hD : D = if 1 < a.d then a.d else b.d) (D0 : 0 ≤ D) (D2 : D ≤ 1000000) (hr0 : a.r * b.r ≠ 0) :
  Calls Try.prog 30 #[u, .int .u8 45, v] w (RetNN w (qreduce ((a.p * (qneg b).r) + ((qneg b).p * a.r)) ((a.q * (qneg b).r) + ((qneg b).q * a.r)) (a.r * (qneg b).r) D)) := by
 have D1 : D ≤ 9223372036854775807 := by omega
 have fD : Ft 7 D := by unfold Ft; omega
 have hroot := Hid.mk (fun w' (h1 : NN w' u a) (h2 : NN w' v b) => root_ref a b u v w' h1 h2)
 rw [← hD] at hroot
 have HD := Hid.mk hD
 clear hD
 obtain ⟨b1, ao1, n1, c1, b2, ao2, n2, c2, b3, ao3, n3, c3, rfl, hap, haq, har⟩ := id ha
 obtain ⟨b4, ao4, n4, c4, b5, ao5, n5, c5, b6, ao6, n6, c6, rfl, hbp, hbq, hbr⟩ := id hb
 have hkb : Kp w (((w.alloc (.cells #[.bool b1, .slice ao1 n1 c1, .bool b2, .slice ao2 n2 c2, .bool b3, .slice ao3 n3 c3, .int .i64 a.d] 48)).alloc (.cells #[.bool b4, .slice ao4 n4 c4, .bool b5, .slice ao5 n5 c5, .bool b6, .slice ao6 n6 c6, .int .i64 b.d] 48)).alloc (.cells #[.bool false, .slice none 0 0, .bool false, .slice none 0 0, .bool false, .slice none 0 0, .int .i64 0] 48)) := (Kp.alloc' (Kp.alloc' (Kp.alloc' (Below.refl w.heap.size w) (.cells #[.bool b1, .slice ao1 n1 c1, .bool b2, .slice ao2 n2 c2, .bool b3, .slice ao3 n3 c3, .int .i64 a.d] 48)) (.cells #[.bool b4, .slice ao4 n4 c4, .bool b5, .slice ao5 n5 c5, .bool b6, .slice ao6 n6 c6, .int .i64 b.d] 48)) (.cells #[.bool false, .slice none 0 0, .bool false, .slice none 0 0, .bool false, .slice none 0 0, .int .i64 0] 48))
 have BA : Blk (((w.alloc (.cells #[.bool b1, .slice ao1 n1 c1, .bool b2, .slice ao2 n2 c2, .bool b3, .slice ao3 n3 c3, .int .i64 a.d] 48)).alloc (.cells #[.bool b4, .slice ao4 n4 c4, .bool b5, .slice ao5 n5 c5, .bool b6, .slice ao6 n6 c6, .int .i64 b.d] 48)).alloc (.cells #[.bool false, .slice none 0 0, .bool false, .slice none 0 0, .bool false, .slice none 0 0, .int .i64 0] 48)) (w.heap.size) #[.bool b1, .slice ao1 n1 c1, .bool b2, .slice ao2 n2 c2, .bool b3, .slice ao3 n3 c3, .int .i64 a.d] 48 := (Blk.alloc (Blk.alloc (Blk.new w _ _) (.cells #[.bool b4, .slice ao4 n4 c4, .bool b5, .slice ao5 n5 c5, .bool b6, .slice ao6 n6 c6, .int .i64 b.d] 48)) (.cells #[.bool false, .slice none 0 0, .bool false, .slice none 0 0, .bool false, .slice none 0 0, .int .i64 0] 48))
 have BB : Blk (((w.alloc (.cells #[.bool b1, .slice ao1 n1 c1, .bool b2, .slice ao2 n2 c2, .bool b3, .slice ao3 n3 c3, .int .i64 a.d] 48)).alloc (.cells #[.bool b4, .slice ao4 n4 c4, .bool b5, .slice ao5 n5 c5, .bool b6, .slice ao6 n6 c6, .int .i64 b.d] 48)).alloc (.cells #[.bool false, .slice none 0 0, .bool false, .slice none 0 0, .bool false, .slice none 0 0, .int .i64 0] 48)) (w.heap.size + 1) #[.bool b4, .slice ao4 n4 c4, .bool b5, .slice ao5 n5 c5, .bool b6, .slice ao6 n6 c6, .int .i64 b.d] 48 := (Blk.alloc (Blk.at (Blk.new (w.alloc (.cells #[.bool b1, .slice ao1 n1 c1, .bool b2, .slice ao2 n2 c2, .bool b3, .slice ao3 n3 c3, .int .i64 a.d] 48)) _ _) (by simp)) (.cells #[.bool false, .slice none 0 0, .bool false, .slice none 0 0, .bool false, .slice none 0 0, .int .i64 0] 48))
 have BE : Blk (((w.alloc (.cells #[.bool b1, .slice ao1 n1 c1, .bool b2, .slice ao2 n2 c2, .bool b3, .slice ao3 n3 c3, .int .i64 a.d] 48)).alloc (.cells #[.bool b4, .slice ao4 n4 c4, .bool b5, .slice ao5 n5 c5, .bool b6, .slice ao6 n6 c6, .int .i64 b.d] 48)).alloc (.cells #[.bool false, .slice none 0 0, .bool false, .slice none 0 0, .bool false, .slice none 0 0, .int .i64 0] 48)) (w.heap.size + 1 + 1) #[.bool false, .slice none 0 0, .bool false, .slice none 0 0, .bool false, .slice none 0 0, .int .i64 0] 48 := (Blk.at (Blk.new ((w.alloc (.cells #[.bool b1, .slice ao1 n1 c1, .bool b2, .slice ao2 n2 c2, .bool b3, .slice ao3 n3 c3, .int .i64 a.d] 48)).alloc (.cells #[.bool b4, .slice ao4 n4 c4, .bool b5, .slice ao5 n5 c5, .bool b6, .slice ao6 n6 c6, .int .i64 b.d] 48)) _ _) (by simp))
 
 replace hap := hap.keep hkb
 replace haq := haq.keep hkb
 replace har := har.keep hkb
 replace hbp := hbp.keep hkb
 replace hbq := hbq.keep hkb
 replace hbr := hbr.keep hkb
 replace ha := ha.keep hkb
 replace hb := hb.keep hkb
 have l1 := BA.lt
 have l2 := BB.lt
 have l3 := BE.lt
 go_enter Try.func30, Try.ntmps30
 go_wp2_with fail
 refine (hroot.out _ ha hb).mono ?_
 rintro e w0 ⟨rfl, hk0⟩
 replace hap := hap.keep hk0
 replace haq := haq.keep hk0
 replace har := har.keep hk0
 replace hbp := hbp.keep hk0
 replace hbq := hbq.keep hk0
 replace hbr := hbr.keep hk0
 replace BA := BA.keep hk0
 replace BB := BB.keep hk0
 replace BE := BE.keep hk0
 replace ha := ha.keep hk0
 replace hb := hb.keep hk0
 replace hkb := hkb.trans' hk0
 have hs0 := hk0.size
 clear hroot
 generalize (((w.alloc (.cells #[.bool b1, .slice ao1 n1 c1, .bool b2, .slice ao2 n2 c2, .bool b3, .slice ao3 n3 c3, .int .i64 a.d] 48)).alloc (.cells #[.bool b4, .slice ao4 n4 c4, .bool b5, .slice ao5 n5 c5, .bool b6, .slice ao6 n6 c6, .int .i64 b.d] 48)).alloc (.cells #[.bool false, .slice none 0 0, .bool false, .slice none 0 0, .bool false, .slice none 0 0, .int .i64 0] 48)) = wz at *
 go_wp2_with fail
 refine wp_region_l (S := fun w' => Kp w0 w') (by kernel_rfl) (Kp.drew' (Below.refl _ _)) (fun hS0 => ?_)
 generalize w0.drew = wd at *
 refine wpAnyL_tk (i := 0) (k := 12) (v := .agg #[.bool b1, .slice ao1 n1 c1, .bool b2, .slice ao2 n2 c2, .bool b3, .slice ao3 n3 c3, .int .i64 a.d]) rfl ?_ hS0 ?_
 ·intro w' hw'; have hc := ((BA).keep hw').cell; go_simp
 simp only [sq]
 refine wpAnyL_tk (i := 1) (k := 2) (v := .pointer (some ⟨w.heap.size + 1, 0, none⟩)) rfl ?_ hS0 ?_
 ·intro w' hw'; go_simp
 simp only [sq]
 refine wpAnyL_tk (i := 2) (k := 3) (v := .agg #[.bool b4, .slice ao4 n4 c4]) rfl ?_ hS0 ?_
 ·intro w' hw'; have hc := ((BB).keep hw').cell; go_simp
 simp only [sq]
 refine wpAnyL_tk (i := 4) (k := 5) (v := .pointer (some ⟨w.heap.size + 1, 2, none⟩)) rfl ?_ hS0 ?_
 ·intro w' hw'; go_simp
 simp only [sq]
 refine wpAnyL_tk (i := 5) (k := 6) (v := .agg #[.bool b5, .slice ao5 n5 c5]) rfl ?_ hS0 ?_
 ·intro w' hw'; have hc := ((BB).keep hw').cell; go_simp
 simp only [sq]
 refine wpAnyL_tk (i := 7) (k := 8) (v := .pointer (some ⟨w.heap.size + 1, 4, none⟩)) rfl ?_ hS0 ?_
 ·intro w' hw'; go_simp
 simp only [sq]
 refine wpAnyL_tk (i := 8) (k := 11) (v := .agg #[.bool b6, .slice ao6 n6 c6]) rfl ?_ hS0 ?_
 ·intro w' hw'; have hc := ((BB).keep hw').cell; go_simp
 simp only [sq]
 refine wpAnyL_tk (i := 9) (k := 10) (v := .pointer (some ⟨w.heap.size + 1, 6, none⟩)) rfl ?_ hS0 ?_
 ·intro w' hw'; go_simp
 simp only [sq]
 refine wpAnyL_tk (i := 10) (k := 11) (v := .int .i64 b.d) rfl ?_ hS0 ?_
 ·intro w' hw'; have hc := ((BB).keep hw').cell; go_simp
 simp only [sq]
 refine wpAnyL_on (i := 3) rfl (fun K hK => ?_)
 go_simp
 refine (less_any b.p _ _ (hbp.keep hS0)).mono ?_
 rintro e w103 ⟨v103, rfl, hv103, hk103⟩
 obtain ⟨b103, ao103, n103, c103, rfl⟩ := hv103.shape'
 go_wp2_with fail
 refine hK.out _ _ (hS0.trans' hk103) (fun hS1 => ?_)
 clear hK K
 refine wpAnyL_on (i := 6) rfl (fun K hK => ?_)
 go_simp
 refine (less_any b.q _ _ (hbq.keep hS1)).mono ?_
 rintro e w106 ⟨v106, rfl, hv106, hk106⟩
 obtain ⟨b106, ao106, n106, c106, rfl⟩ := hv106.shape'
 replace hv103 := hv103.keep hk106
 go_wp2_with fail
 refine hK.out _ _ (hS1.trans' hk106) (fun hS2 => ?_)
 clear hK K
 refine wpAnyL_tk (i := 11) (k := 12) (v := .agg #[.bool b103, .slice ao103 n103 c103, .bool b106, .slice ao106 n106 c106, .bool b6, .slice ao6 n6 c6, .int .i64 b.d]) rfl ?_ hS2 ?_
 ·intro w' hw'; go_simp
 simp only [sq]
 refine wpAnyL_on (i := 12) rfl (fun K hK => ?_)
 go_simp
 refine (worked_add a (qneg b) m D _ _ _ (ha.keep hS2) ⟨_, _, _, _, _, _, _, _, _, _, _, _, rfl, hv103, hv106, (hbr.keep hS2)⟩ hm fa fb.neg HD.out D0 D2 hr0).mono ?_
 rintro e w112 ⟨v112, rfl, hv112, hk112⟩
 obtain ⟨b112p, ao112p, n112p, c112p, b112q, ao112q, n112q, c112q, b112r, ao112r, n112r, c112r, rfl, hv112p, hv112q, hv112r⟩ := id hv112
 go_wp2_with fail
 refine hK.out _ _ (hS2.trans' hk112) (fun hS3 => ?_)
 clear hK K
 have TB := (BE).keep hS3
 have st_c := TB.cell
 have st_f := TB.frozen
 have st_l := TB.lt
 refine wpAnyL_last (i := 13) rfl (by kernel_rfl) (by kernel_rfl) (by kernel_rfl) (fun K hK => ?_)
 go_simp
 refine hK.out _ _ ?_
 clear hK K
 go_wp2_with fail
 refine bodyPost_ret (v := .agg #[.bool b112p, .slice ao112p n112p c112p, .bool b112q, .slice ao112q n112q c112q, .bool b112r, .slice ao112r n112r c112r, .int .i64 (qreduce ((a.p * (qneg b).r) + ((qneg b).p * a.r)) ((a.q * (qneg b).r) + ((qneg b).q * a.r)) (a.r * (qneg b).r) D).d]) (by simp [results, Try.results30, go_sem, st_c]) rfl ?_
 exact ⟨_, rfl, hv112.soft (sf7 (.bool b112p) (.slice ao112p n112p c112p) (.bool b112q) (.slice ao112q n112q c112q) (.bool b112r) (.slice ao112r n112r c112r) (.int .i64 (qreduce ((a.p * (qneg b).r) + ((qneg b).p * a.r)) ((a.q * (qneg b).r) + ((qneg b).q * a.r)) (a.r * (qneg b).r) D).d) TB (by decide)), (kp7 (A := w.heap.size + 1 + 1) (.bool b112p) (.slice ao112p n112p c112p) (.bool b112q) (.slice ao112q n112q c112q) (.bool b112r) (.slice ao112r n112r c112r) (.int .i64 (qreduce ((a.p * (qneg b).r) + ((qneg b).p * a.r)) ((a.q * (qneg b).r) + ((qneg b).q * a.r)) (a.r * (qneg b).r) D).d) (hkb.trans' hS3) (by show w.heap.size ≤ w.heap.size + 1 + 1; omega))⟩

set_option maxHeartbeats 6400000 in
set_option maxRecDepth 100000 in
theorem worked_div (a b : Qn) (m : Nat) (D : Int) (u v : Value) (w : World) (ha : NN w u a) (hb : NN w v b) (hm : m ≤ 9000000) (fa : QF m a) (fb : QF m b) (hD : D = if 1 < a.d then a.d else b.d) (D0 : 0 ≤ D) (D2 : D ≤ 1000000) (c : Int) (h0 : ¬ c = 45) (h1 : ¬ c = 43) (h2 : ¬ c = 42) (ar : 0 < a.r) (hn : ((b.p * b.p) - ((b.q * b.q) * b.d)) ≠ 0) (bd0 : 0 ≤ b.d) (bd2 : b.d ≤ 1000000) :
  Calls Try.prog 30 #[u, .int .u8 c, v] w (RetNN w (qreduce ((qreduce ((a.p * b.p) + ((a.q * -b.q) * D)) ((a.p * -b.q) + (a.q * b.p)) (a.r * 1) D).p * b.r) ((qreduce ((a.p * b.p) + ((a.q * -b.q) * D)) ((a.p * -b.q) + (a.q * b.p)) (a.r * 1) D).q * b.r) ((qreduce ((a.p * b.p) + ((a.q * -b.q) * D)) ((a.p * -b.q) + (a.q * b.p)) (a.r * 1) D).r * ((b.p * b.p) - ((b.q * b.q) * b.d))) D)) := by
 have x0 : (c == 45) = false := by simp [h0]
 have x1 : (c == 43) = false := by simp [h1]
 have x2 : (c == 42) = false := by simp [h2]
 clear h0 h1 h2
 have bd1 : b.d ≤ 9223372036854775807 := by omega
 have fbd : Ft 7 b.d := by unfold Ft; omega
 have f1 : Ft 1 1 := by unfold Ft; decide
 have ft : QF (m + 1) ⟨b.p, -b.q, 1, b.d⟩ := ⟨fb.1.mono (by omega), fb.2.1.neg.mono (by omega), f1.mono (by omega)⟩
 have fa1 : QF (m + 1) a := ⟨fa.1.mono (by omega), fa.2.1.mono (by omega), fa.2.2.mono (by omega)⟩
 have fU0 : QF (2 * m + 9) (qreduce ((a.p * b.p) + ((a.q * -b.q) * D)) ((a.p * -b.q) + (a.q * b.p)) (a.r * 1) D) := by
  refine QF.reduce ((Ft.add ((fa.1.mul fb.1).mono (n := 2 * m + 7) (by omega)) ((Ft.mul (fa.2.1.mul fb.2.1.neg) (show Ft 7 D by unfold Ft; omega)).mono (n := 2 * m + 7) (by omega))).mono (by omega)) ?_ ((fa.2.2.mul f1).mono (by omega))
  exact (Ft.add ((fa.1.mul fb.2.1.neg).mono (n := 2 * m) (by omega)) ((fa.2.1.mul fb.1).mono (n := 2 * m) (by omega))).mono (by omega)
 have hUp0 : 0 < (qreduce ((a.p * b.p) + ((a.q * -b.q) * D)) ((a.p * -b.q) + (a.q * b.p)) (a.r * 1) D).r := qreduce_pos _ _ _ _ (by omega)
 have D1 : D ≤ 9223372036854775807 := by omega
 have fD : Ft 7 D := by unfold Ft; omega
 have hroot := Hid.mk (fun w' (h1 : NN w' u a) (h2 : NN w' v b) => root_ref a b u v w' h1 h2)
 rw [← hD] at hroot
 have HD := Hid.mk hD
 clear hD
 obtain ⟨b1, ao1, n1, c1, b2, ao2, n2, c2, b3, ao3, n3, c3, rfl, hap, haq, har⟩ := id ha
 obtain ⟨b4, ao4, n4, c4, b5, ao5, n5, c5, b6, ao6, n6, c6, rfl, hbp, hbq, hbr⟩ := id hb
 have hkb : Kp w (((w.alloc (.cells #[.bool b1, .slice ao1 n1 c1, .bool b2, .slice ao2 n2 c2, .bool b3, .slice ao3 n3 c3, .int .i64 a.d] 48)).alloc (.cells #[.bool b4, .slice ao4 n4 c4, .bool b5, .slice ao5 n5 c5, .bool b6, .slice ao6 n6 c6, .int .i64 b.d] 48)).alloc (.cells #[.bool false, .slice none 0 0, .bool false, .slice none 0 0, .bool false, .slice none 0 0, .int .i64 0] 48)) := (Kp.alloc' (Kp.alloc' (Kp.alloc' (Below.refl w.heap.size w) (.cells #[.bool b1, .slice ao1 n1 c1, .bool b2, .slice ao2 n2 c2, .bool b3, .slice ao3 n3 c3, .int .i64 a.d] 48)) (.cells #[.bool b4, .slice ao4 n4 c4, .bool b5, .slice ao5 n5 c5, .bool b6, .slice ao6 n6 c6, .int .i64 b.d] 48)) (.cells #[.bool false, .slice none 0 0, .bool false, .slice none 0 0, .bool false, .slice none 0 0, .int .i64 0] 48))
 have BA : Blk (((w.alloc (.cells #[.bool b1, .slice ao1 n1 c1, .bool b2, .slice ao2 n2 c2, .bool b3, .slice ao3 n3 c3, .int .i64 a.d] 48)).alloc (.cells #[.bool b4, .slice ao4 n4 c4, .bool b5, .slice ao5 n5 c5, .bool b6, .slice ao6 n6 c6, .int .i64 b.d] 48)).alloc (.cells #[.bool false, .slice none 0 0, .bool false, .slice none 0 0, .bool false, .slice none 0 0, .int .i64 0] 48)) (w.heap.size) #[.bool b1, .slice ao1 n1 c1, .bool b2, .slice ao2 n2 c2, .bool b3, .slice ao3 n3 c3, .int .i64 a.d] 48 := (Blk.alloc (Blk.alloc (Blk.new w _ _) (.cells #[.bool b4, .slice ao4 n4 c4, .bool b5, .slice ao5 n5 c5, .bool b6, .slice ao6 n6 c6, .int .i64 b.d] 48)) (.cells #[.bool false, .slice none 0 0, .bool false, .slice none 0 0, .bool false, .slice none 0 0, .int .i64 0] 48))
 have BB : Blk (((w.alloc (.cells #[.bool b1, .slice ao1 n1 c1, .bool b2, .slice ao2 n2 c2, .bool b3, .slice ao3 n3 c3, .int .i64 a.d] 48)).alloc (.cells #[.bool b4, .slice ao4 n4 c4, .bool b5, .slice ao5 n5 c5, .bool b6, .slice ao6 n6 c6, .int .i64 b.d] 48)).alloc (.cells #[.bool false, .slice none 0 0, .bool false, .slice none 0 0, .bool false, .slice none 0 0, .int .i64 0] 48)) (w.heap.size + 1) #[.bool b4, .slice ao4 n4 c4, .bool b5, .slice ao5 n5 c5, .bool b6, .slice ao6 n6 c6, .int .i64 b.d] 48 := (Blk.alloc (Blk.at (Blk.new (w.alloc (.cells #[.bool b1, .slice ao1 n1 c1, .bool b2, .slice ao2 n2 c2, .bool b3, .slice ao3 n3 c3, .int .i64 a.d] 48)) _ _) (by simp)) (.cells #[.bool false, .slice none 0 0, .bool false, .slice none 0 0, .bool false, .slice none 0 0, .int .i64 0] 48))
 have BE : Blk (((w.alloc (.cells #[.bool b1, .slice ao1 n1 c1, .bool b2, .slice ao2 n2 c2, .bool b3, .slice ao3 n3 c3, .int .i64 a.d] 48)).alloc (.cells #[.bool b4, .slice ao4 n4 c4, .bool b5, .slice ao5 n5 c5, .bool b6, .slice ao6 n6 c6, .int .i64 b.d] 48)).alloc (.cells #[.bool false, .slice none 0 0, .bool false, .slice none 0 0, .bool false, .slice none 0 0, .int .i64 0] 48)) (w.heap.size + 1 + 1) #[.bool false, .slice none 0 0, .bool false, .slice none 0 0, .bool false, .slice none 0 0, .int .i64 0] 48 := (Blk.at (Blk.new ((w.alloc (.cells #[.bool b1, .slice ao1 n1 c1, .bool b2, .slice ao2 n2 c2, .bool b3, .slice ao3 n3 c3, .int .i64 a.d] 48)).alloc (.cells #[.bool b4, .slice ao4 n4 c4, .bool b5, .slice ao5 n5 c5, .bool b6, .slice ao6 n6 c6, .int .i64 b.d] 48)) _ _) (by simp))
 
 replace hap := hap.keep hkb
 replace haq := haq.keep hkb
 replace har := har.keep hkb
 replace hbp := hbp.keep hkb
 replace hbq := hbq.keep hkb
 replace hbr := hbr.keep hkb
 replace ha := ha.keep hkb
 replace hb := hb.keep hkb
 have l1 := BA.lt
 have l2 := BB.lt
 have l3 := BE.lt
 go_enter Try.func30, Try.ntmps30
 go_wp2_with fail
 refine (hroot.out _ ha hb).mono ?_
 rintro e w0 ⟨rfl, hk0⟩
 replace hap := hap.keep hk0
 replace haq := haq.keep hk0
 replace har := har.keep hk0
 replace hbp := hbp.keep hk0
 replace hbq := hbq.keep hk0
 replace hbr := hbr.keep hk0
 replace BA := BA.keep hk0
 replace BB := BB.keep hk0
 replace BE := BE.keep hk0
 replace ha := ha.keep hk0
 replace hb := hb.keep hk0
 replace hkb := hkb.trans' hk0
 have hs0 := hk0.size
 clear hroot
 generalize (((w.alloc (.cells #[.bool b1, .slice ao1 n1 c1, .bool b2, .slice ao2 n2 c2, .bool b3, .slice ao3 n3 c3, .int .i64 a.d] 48)).alloc (.cells #[.bool b4, .slice ao4 n4 c4, .bool b5, .slice ao5 n5 c5, .bool b6, .slice ao6 n6 c6, .int .i64 b.d] 48)).alloc (.cells #[.bool false, .slice none 0 0, .bool false, .slice none 0 0, .bool false, .slice none 0 0, .int .i64 0] 48)) = wz at *
 go_wp2_with fail
 go_cut [12] from 103 to 111 (fun p' wx => ∃ (bt : Nat) (b31 : Bool) (ao31 : Option Addr) (n31 c31 : Nat) (b32 : Bool) (ao32 : Option Addr) (n32 c32 : Nat), p' = .pointer (some ⟨bt, 0, none⟩) ∧ Blk wx bt #[.bool b4, .slice ao4 n4 c4, .bool b31, .slice ao31 n31 c31, .bool b32, .slice ao32 n32 c32, .int .i64 b.d] 48 ∧ IN wx (.agg #[.bool b31, .slice ao31 n31 c31]) (-b.q) ∧ IN wx (.agg #[.bool b32, .slice ao32 n32 c32]) 1 ∧ Kp w0 wx ∧ w0.heap.size ≤ bt)
 case first =>
  refine wp_region_l (S := fun w' => Kp w0 w') (by kernel_rfl) (Kp.drew' (Below.refl _ _)) (fun hS0 => ?_)
  generalize w0.drew = wd at *
  refine wpAnyL_tk (i := 0) (k := 1) (v := .pointer (some ⟨w.heap.size + 1, 0, none⟩)) rfl ?_ hS0 ?_
  ·intro w' hw'; go_simp
  simp only [sq]
  refine wpAnyL_tk (i := 1) (k := 8) (v := .agg #[.bool b4, .slice ao4 n4 c4]) rfl ?_ hS0 ?_
  ·intro w' hw'; have hc := ((BB).keep hw').cell; go_simp
  simp only [sq]
  refine wpAnyL_tk (i := 2) (k := 3) (v := .pointer (some ⟨w.heap.size + 1, 2, none⟩)) rfl ?_ hS0 ?_
  ·intro w' hw'; go_simp
  simp only [sq]
  refine wpAnyL_tk (i := 3) (k := 4) (v := .agg #[.bool b5, .slice ao5 n5 c5]) rfl ?_ hS0 ?_
  ·intro w' hw'; have hc := ((BB).keep hw').cell; go_simp
  simp only [sq]
  refine wpAnyL_tk (i := 6) (k := 7) (v := .pointer (some ⟨w.heap.size + 1, 6, none⟩)) rfl ?_ hS0 ?_
  ·intro w' hw'; go_simp
  simp only [sq]
  refine wpAnyL_tk (i := 7) (k := 8) (v := .int .i64 b.d) rfl ?_ hS0 ?_
  ·intro w' hw'; have hc := ((BB).keep hw').cell; go_simp
  simp only [sq]
  refine wpAnyL_ready (rs := [4, 9]) (by kernel_rfl) (by simp) ?_
  refine AllReadyL.cons rfl (fun K hK => ?_) ?_
  ·go_simp
   refine (less_any b.q _ _ (hbq.keep hS0)).mono ?_
   rintro e w104 ⟨v104, rfl, hv104, hk104⟩
   obtain ⟨b104, ao104, n104, c104, rfl⟩ := hv104.shape'
   go_wp2_with fail
   refine hK.out _ _ (hS0.trans' hk104) (fun hS1 => ?_)
   clear hK K
   refine wpAnyL_ready (rs := [5, 9]) (by kernel_rfl) (by simp) ?_
   refine AllReadyL.cons rfl (fun K hK => ?_) ?_
   ·go_simp
    refine (of_any 1 _ (by decide) (by decide)).mono ?_
    rintro e w105 ⟨v105, rfl, hv105, hk105⟩
    obtain ⟨b105, ao105, n105, c105, rfl⟩ := hv105.shape'
    replace hv104 := hv104.keep hk105
    go_wp2_with fail
    refine hK.out _ _ (hS1.trans' hk105) (fun hS2 => ?_)
    clear hK K
    refine wpAnyL_tk (i := 8) (k := 10) (v := .agg #[.bool b4, .slice ao4 n4 c4, .bool b104, .slice ao104 n104 c104, .bool b105, .slice ao105 n105 c105, .int .i64 b.d]) rfl ?_ hS2 ?_
    ·intro w' hw'; go_simp
    simp only [sq]
    refine wpAnyL_on (i := 9) rfl (fun K hK => ?_)
    go_simp
    refine hK.out _ _ (Kp.alloc' hS2 (.cells #[.bool false, .slice none 0 0, .bool false, .slice none 0 0, .bool false, .slice none 0 0, .int .i64 0] 48)) (fun hS3 => ?_)
    clear hK K
    have NB9 := Blk.new w105 #[.bool false, .slice none 0 0, .bool false, .slice none 0 0, .bool false, .slice none 0 0, .int .i64 0] 48
    have ge9 : w0.heap.size ≤ w105.heap.size := hS2.size
    replace hv104 := hv104.keep (kp_alloc w105 (.cells #[.bool false, .slice none 0 0, .bool false, .slice none 0 0, .bool false, .slice none 0 0, .int .i64 0] 48))
    replace hv105 := hv105.keep (kp_alloc w105 (.cells #[.bool false, .slice none 0 0, .bool false, .slice none 0 0, .bool false, .slice none 0 0, .int .i64 0] 48))
    try simp only [sq]
    generalize hA9 : w105.heap.size = A9 at *
    generalize w105.alloc (.cells #[.bool false, .slice none 0 0, .bool false, .slice none 0 0, .bool false, .slice none 0 0, .int .i64 0] 48) = wn9 at *
    have st_c := NB9.cell
    have st_f := NB9.frozen
    have st_l := NB9.lt
    refine wpAnyL_last (i := 10) rfl (by kernel_rfl) (by kernel_rfl) (by kernel_rfl) (fun K hK => ?_)
    go_simp
    refine hK.out _ _ ?_
    clear hK K
    go_wp2_with fail
    go_meet
    case rel => exact ⟨A9, _, _, _, _, _, _, _, _, rfl, (bl7 (.bool b4) (.slice ao4 n4 c4) (.bool b104) (.slice ao104 n104 c104) (.bool b105) (.slice ao105 n105 c105) (.int .i64 b.d) NB9), hv104.soft (sf7 (.bool b4) (.slice ao4 n4 c4) (.bool b104) (.slice ao104 n104 c104) (.bool b105) (.slice ao105 n105 c105) (.int .i64 b.d) NB9 (by decide)), hv105.soft (sf7 (.bool b4) (.slice ao4 n4 c4) (.bool b104) (.slice ao104 n104 c104) (.bool b105) (.slice ao105 n105 c105) (.int .i64 b.d) NB9 (by decide)), (kp7 (A := A9) (.bool b4) (.slice ao4 n4 c4) (.bool b104) (.slice ao104 n104 c104) (.bool b105) (.slice ao105 n105 c105) (.int .i64 b.d) hS3 ge9), ge9⟩
   refine AllReadyL.cons rfl (fun K hK => ?_) ?_
   ·go_simp
    refine hK.out _ _ (Kp.alloc' hS1 (.cells #[.bool false, .slice none 0 0, .bool false, .slice none 0 0, .bool false, .slice none 0 0, .int .i64 0] 48)) (fun hS2 => ?_)
    clear hK K
    have NB9 := Blk.new w104 #[.bool false, .slice none 0 0, .bool false, .slice none 0 0, .bool false, .slice none 0 0, .int .i64 0] 48
    have ge9 : w0.heap.size ≤ w104.heap.size := hS1.size
    replace hv104 := hv104.keep (kp_alloc w104 (.cells #[.bool false, .slice none 0 0, .bool false, .slice none 0 0, .bool false, .slice none 0 0, .int .i64 0] 48))
    try simp only [sq]
    generalize hA9 : w104.heap.size = A9 at *
    generalize w104.alloc (.cells #[.bool false, .slice none 0 0, .bool false, .slice none 0 0, .bool false, .slice none 0 0, .int .i64 0] 48) = wn9 at *
    refine wpAnyL_on (i := 5) rfl (fun K hK => ?_)
    go_simp
    refine (of_any 1 _ (by decide) (by decide)).mono ?_
    rintro e w105 ⟨v105, rfl, hv105, hk105⟩
    obtain ⟨b105, ao105, n105, c105, rfl⟩ := hv105.shape'
    replace hv104 := hv104.keep hk105
    replace NB9 := NB9.keep hk105
    go_wp2_with fail
    refine hK.out _ _ (hS2.trans' hk105) (fun hS3 => ?_)
    clear hK K
    refine wpAnyL_tk (i := 8) (k := 10) (v := .agg #[.bool b4, .slice ao4 n4 c4, .bool b104, .slice ao104 n104 c104, .bool b105, .slice ao105 n105 c105, .int .i64 b.d]) rfl ?_ hS3 ?_
    ·intro w' hw'; go_simp
    simp only [sq]
    have st_c := NB9.cell
    have st_f := NB9.frozen
    have st_l := NB9.lt
    refine wpAnyL_last (i := 10) rfl (by kernel_rfl) (by kernel_rfl) (by kernel_rfl) (fun K hK => ?_)
    go_simp
    refine hK.out _ _ ?_
    clear hK K
    go_wp2_with fail
    go_meet
    case rel => exact ⟨A9, _, _, _, _, _, _, _, _, rfl, (bl7 (.bool b4) (.slice ao4 n4 c4) (.bool b104) (.slice ao104 n104 c104) (.bool b105) (.slice ao105 n105 c105) (.int .i64 b.d) NB9), hv104.soft (sf7 (.bool b4) (.slice ao4 n4 c4) (.bool b104) (.slice ao104 n104 c104) (.bool b105) (.slice ao105 n105 c105) (.int .i64 b.d) NB9 (by decide)), hv105.soft (sf7 (.bool b4) (.slice ao4 n4 c4) (.bool b104) (.slice ao104 n104 c104) (.bool b105) (.slice ao105 n105 c105) (.int .i64 b.d) NB9 (by decide)), (kp7 (A := A9) (.bool b4) (.slice ao4 n4 c4) (.bool b104) (.slice ao104 n104 c104) (.bool b105) (.slice ao105 n105 c105) (.int .i64 b.d) hS3 ge9), ge9⟩
   exact AllReadyL.nil
  refine AllReadyL.cons rfl (fun K hK => ?_) ?_
  ·go_simp
   refine hK.out _ _ (Kp.alloc' hS0 (.cells #[.bool false, .slice none 0 0, .bool false, .slice none 0 0, .bool false, .slice none 0 0, .int .i64 0] 48)) (fun hS1 => ?_)
   clear hK K
   have NB9 := Blk.new wd #[.bool false, .slice none 0 0, .bool false, .slice none 0 0, .bool false, .slice none 0 0, .int .i64 0] 48
   have ge9 : w0.heap.size ≤ wd.heap.size := hS0.size
   try simp only [sq]
   generalize hA9 : wd.heap.size = A9 at *
   generalize wd.alloc (.cells #[.bool false, .slice none 0 0, .bool false, .slice none 0 0, .bool false, .slice none 0 0, .int .i64 0] 48) = wn9 at *
   refine wpAnyL_on (i := 4) rfl (fun K hK => ?_)
   go_simp
   refine (less_any b.q _ _ (hbq.keep hS1)).mono ?_
   rintro e w104 ⟨v104, rfl, hv104, hk104⟩
   obtain ⟨b104, ao104, n104, c104, rfl⟩ := hv104.shape'
   replace NB9 := NB9.keep hk104
   go_wp2_with fail
   refine hK.out _ _ (hS1.trans' hk104) (fun hS2 => ?_)
   clear hK K
   refine wpAnyL_on (i := 5) rfl (fun K hK => ?_)
   go_simp
   refine (of_any 1 _ (by decide) (by decide)).mono ?_
   rintro e w105 ⟨v105, rfl, hv105, hk105⟩
   obtain ⟨b105, ao105, n105, c105, rfl⟩ := hv105.shape'
   replace NB9 := NB9.keep hk105
   replace hv104 := hv104.keep hk105
   go_wp2_with fail
   refine hK.out _ _ (hS2.trans' hk105) (fun hS3 => ?_)
   clear hK K
   refine wpAnyL_tk (i := 8) (k := 10) (v := .agg #[.bool b4, .slice ao4 n4 c4, .bool b104, .slice ao104 n104 c104, .bool b105, .slice ao105 n105 c105, .int .i64 b.d]) rfl ?_ hS3 ?_
   ·intro w' hw'; go_simp
   simp only [sq]
   have st_c := NB9.cell
   have st_f := NB9.frozen
   have st_l := NB9.lt
   refine wpAnyL_last (i := 10) rfl (by kernel_rfl) (by kernel_rfl) (by kernel_rfl) (fun K hK => ?_)
   go_simp
   refine hK.out _ _ ?_
   clear hK K
   go_wp2_with fail
   go_meet
   case rel => exact ⟨A9, _, _, _, _, _, _, _, _, rfl, (bl7 (.bool b4) (.slice ao4 n4 c4) (.bool b104) (.slice ao104 n104 c104) (.bool b105) (.slice ao105 n105 c105) (.int .i64 b.d) NB9), hv104.soft (sf7 (.bool b4) (.slice ao4 n4 c4) (.bool b104) (.slice ao104 n104 c104) (.bool b105) (.slice ao105 n105 c105) (.int .i64 b.d) NB9 (by decide)), hv105.soft (sf7 (.bool b4) (.slice ao4 n4 c4) (.bool b104) (.slice ao104 n104 c104) (.bool b105) (.slice ao105 n105 c105) (.int .i64 b.d) NB9 (by decide)), (kp7 (A := A9) (.bool b4) (.slice ao4 n4 c4) (.bool b104) (.slice ao104 n104 c104) (.bool b105) (.slice ao105 n105 c105) (.int .i64 b.d) hS3 ge9), ge9⟩
  exact AllReadyL.nil
 case rest =>
  obtain ⟨bt, b31, ao31, n31, c31, b32, ao32, n32, c32, rfl, BT, hT1, hT2, hkc, get⟩ := hcut
  replace hap := hap.keep hkc
  replace haq := haq.keep hkc
  replace har := har.keep hkc
  replace hbp := hbp.keep hkc
  replace hbq := hbq.keep hkc
  replace hbr := hbr.keep hkc
  replace BA := BA.keep hkc
  replace BB := BB.keep hkc
  replace BE := BE.keep hkc
  replace ha := ha.keep hkc
  replace hkb := hkb.trans' hkc
  have hsxt := hkc.size
  clear hkc
  have btc := BT.cell
  have btl := BT.lt
  have bac := BA.cell
  have bal := BA.lt
  go_wp2_with fail
  refine (worked_mul a ⟨b.p, -b.q, 1, b.d⟩ (m + 1) D _ _ _ ha ⟨_, _, _, _, _, _, _, _, _, _, _, _, rfl, hbp, hT1, hT2⟩ (by omega) fa1 ft HD.out D0 D2 (by simp only; omega)).mono ?_
  rintro e w3 ⟨v3, rfl, hv3, hk3⟩
  generalize hU : (qreduce ((a.p * b.p) + ((a.q * -b.q) * D)) ((a.p * -b.q) + (a.q * b.p)) (a.r * 1) D) = U at *
  obtain ⟨b41, ao41, n41, c41, b42, ao42, n42, c42, b43, ao43, n43, c43, rfl, hUp, hUq, hUr⟩ := id hv3
  have HU := Hid.mk hU
  have fU := fU0
  have hr0 : U.r * ((b.p * b.p) - ((b.q * b.q) * b.d)) ≠ 0 := fun h => (Int.mul_eq_zero.mp h).elim (fun h => by rw [h] at hUp0; exact absurd hUp0 (by decide)) (fun h => hn h)
  clear hU fU0 btc btl bac bal BT hT1 hT2 hv3 ha hb hn
  replace hap := hap.keep hk3
  replace haq := haq.keep hk3
  replace har := har.keep hk3
  replace hbp := hbp.keep hk3
  replace hbq := hbq.keep hk3
  replace hbr := hbr.keep hk3
  replace BA := BA.keep hk3
  replace BB := BB.keep hk3
  replace BE := BE.keep hk3
  replace hkb := hkb.trans' hk3
  have hsx3 := hk3.size
  go_wp2_with fail
  have kpu := kp_alloc w3 (.cells #[.bool b41, .slice ao41 n41 c41, .bool b42, .slice ao42 n42 c42, .bool b43, .slice ao43 n43 c43, .int .i64 U.d] 48)
  have BU := Blk.new w3 #[.bool b41, .slice ao41 n41 c41, .bool b42, .slice ao42 n42 c42, .bool b43, .slice ao43 n43 c43, .int .i64 U.d] 48
  replace hap := hap.keep kpu
  replace haq := haq.keep kpu
  replace har := har.keep kpu
  replace hbp := hbp.keep kpu
  replace hbq := hbq.keep kpu
  replace hbr := hbr.keep kpu
  replace BA := BA.keep kpu
  replace BB := BB.keep kpu
  replace BE := BE.keep kpu
  replace hUp := hUp.keep kpu
  replace hUq := hUq.keep kpu
  replace hUr := hUr.keep kpu
  replace hkb := hkb.trans' kpu
  have hsx4 := kpu.size
  clear kpu hk3
  generalize hbu : w3.heap.size = bu at *
  generalize w3.alloc (.cells #[.bool b41, .slice ao41 n41 c41, .bool b42, .slice ao42 n42 c42, .bool b43, .slice ao43 n43 c43, .int .i64 U.d] 48) = w4 at *
  go_cut [14] from 115 to 129 (fun p' wx => ∃ (bg : Nat) (bb : Bool) (aa : Option Addr) (nn cc : Nat), p' = .pointer (some ⟨bg, 0, none⟩) ∧ Blk wx bg #[.bool bb, .slice aa nn cc] 46 ∧ IN wx (.agg #[.bool bb, .slice aa nn cc]) ((b.p * b.p) - ((b.q * b.q) * b.d)) ∧ Kp w4 wx ∧ w4.heap.size ≤ bg)
  case first =>
   refine wp_region_l (S := fun w' => Kp w4 w') (by kernel_rfl) (Kp.drew' (Below.refl _ _)) (fun hS0 => ?_)
   generalize w4.drew = wd at *
   refine wpAnyL_tk (i := 0) (k := 1) (v := .pointer (some ⟨w.heap.size + 1, 0, none⟩)) rfl ?_ hS0 ?_
   ·intro w' hw'; go_simp
   simp only [sq]
   refine wpAnyL_tk (i := 1) (k := 4) (v := .agg #[.bool b4, .slice ao4 n4 c4]) rfl ?_ hS0 ?_
   ·intro w' hw'; have hc := ((BB).keep hw').cell; go_simp
   simp only [sq]
   refine wpAnyL_tk (i := 2) (k := 3) (v := .pointer (some ⟨w.heap.size + 1, 0, none⟩)) rfl ?_ hS0 ?_
   ·intro w' hw'; go_simp
   simp only [sq]
   refine wpAnyL_tk (i := 3) (k := 4) (v := .agg #[.bool b4, .slice ao4 n4 c4]) rfl ?_ hS0 ?_
   ·intro w' hw'; have hc := ((BB).keep hw').cell; go_simp
   simp only [sq]
   refine wpAnyL_tk (i := 5) (k := 6) (v := .pointer (some ⟨w.heap.size + 1, 2, none⟩)) rfl ?_ hS0 ?_
   ·intro w' hw'; go_simp
   simp only [sq]
   refine wpAnyL_tk (i := 6) (k := 9) (v := .agg #[.bool b5, .slice ao5 n5 c5]) rfl ?_ hS0 ?_
   ·intro w' hw'; have hc := ((BB).keep hw').cell; go_simp
   simp only [sq]
   refine wpAnyL_tk (i := 7) (k := 8) (v := .pointer (some ⟨w.heap.size + 1, 2, none⟩)) rfl ?_ hS0 ?_
   ·intro w' hw'; go_simp
   simp only [sq]
   refine wpAnyL_tk (i := 8) (k := 9) (v := .agg #[.bool b5, .slice ao5 n5 c5]) rfl ?_ hS0 ?_
   ·intro w' hw'; have hc := ((BB).keep hw').cell; go_simp
   simp only [sq]
   refine wpAnyL_tk (i := 10) (k := 11) (v := .pointer (some ⟨w.heap.size + 1, 6, none⟩)) rfl ?_ hS0 ?_
   ·intro w' hw'; go_simp
   simp only [sq]
   refine wpAnyL_tk (i := 11) (k := 12) (v := .int .i64 b.d) rfl ?_ hS0 ?_
   ·intro w' hw'; have hc := ((BB).keep hw').cell; go_simp
   simp only [sq]
   refine wpAnyL_ready (rs := [4, 15]) (by kernel_rfl) (by simp) ?_
   refine AllReadyL.cons rfl (fun K hK => ?_) ?_
   ·go_simp
    refine (rtimes_any b.p b.p _ _ _ (hbp.keep hS0) (hbp.keep hS0) (Ft.fit fb.1 (by omega)) (Ft.fit fb.1 (by omega))).mono ?_
    rintro e w104 ⟨v104, rfl, hv104, hk104⟩
    obtain ⟨b104, ao104, n104, c104, rfl⟩ := hv104.shape'
    go_wp2_with fail
    refine hK.out _ _ (hS0.trans' hk104) (fun hS1 => ?_)
    clear hK K
    refine wpAnyL_ready (rs := [9, 15]) (by kernel_rfl) (by simp) ?_
    refine AllReadyL.cons rfl (fun K hK => ?_) ?_
    ·go_simp
     refine (rtimes_any b.q b.q _ _ _ (hbq.keep hS1) (hbq.keep hS1) (Ft.fit fb.2.1 (by omega)) (Ft.fit fb.2.1 (by omega))).mono ?_
     rintro e w109 ⟨v109, rfl, hv109, hk109⟩
     obtain ⟨b109, ao109, n109, c109, rfl⟩ := hv109.shape'
     replace hv104 := hv104.keep hk109
     go_wp2_with fail
     refine hK.out _ _ (hS1.trans' hk109) (fun hS2 => ?_)
     clear hK K
     refine wpAnyL_ready (rs := [12, 15]) (by kernel_rfl) (by simp) ?_
     refine AllReadyL.cons rfl (fun K hK => ?_) ?_
     ·go_simp
      refine (of_any b.d _ bd0 bd1).mono ?_
      rintro e w112 ⟨v112, rfl, hv112, hk112⟩
      obtain ⟨b112, ao112, n112, c112, rfl⟩ := hv112.shape'
      replace hv104 := hv104.keep hk112
      replace hv109 := hv109.keep hk112
      go_wp2_with fail
      refine hK.out _ _ (hS2.trans' hk112) (fun hS3 => ?_)
      clear hK K
      refine wpAnyL_ready (rs := [13, 15]) (by kernel_rfl) (by simp) ?_
      refine AllReadyL.cons rfl (fun K hK => ?_) ?_
      ·go_simp
       refine (rtimes_any (b.q * b.q) b.d _ _ _ hv109 hv112 (Ft.fit (Ft.mono (n := 2 * m + 0) (Ft.mul fb.2.1 fb.2.1) (by omega)) (by omega)) (Ft.fit fbd (by omega))).mono ?_
       rintro e w113 ⟨v113, rfl, hv113, hk113⟩
       obtain ⟨b113, ao113, n113, c113, rfl⟩ := hv113.shape'
       replace hv104 := hv104.keep hk113
       go_wp2_with fail
       refine hK.out _ _ (hS3.trans' hk113) (fun hS4 => ?_)
       clear hK K
       refine wpAnyL_ready (rs := [14, 15]) (by kernel_rfl) (by simp) ?_
       refine AllReadyL.cons rfl (fun K hK => ?_) ?_
       ·go_simp
        refine (rminus_any (b.p * b.p) ((b.q * b.q) * b.d) _ _ _ hv104 hv113 (Ft.fit (Ft.mono (n := 2 * m + 0) (Ft.mul fb.1 fb.1) (by omega)) (by omega)) (Ft.fit (Ft.mono (n := 2 * m + 7) (Ft.mul (Ft.mono (n := 2 * m + 0) (Ft.mul fb.2.1 fb.2.1) (by omega)) fbd) (by omega)) (by omega))).mono ?_
        rintro e w114 ⟨v114, rfl, hv114, hk114⟩
        obtain ⟨b114, ao114, n114, c114, rfl⟩ := hv114.shape'
        go_wp2_with fail
        refine hK.out _ _ (hS4.trans' hk114) (fun hS5 => ?_)
        clear hK K
        refine wpAnyL_on (i := 15) rfl (fun K hK => ?_)
        go_simp
        refine hK.out _ _ (Kp.alloc' hS5 (.cells #[.bool false, .slice none 0 0] 46)) (fun hS6 => ?_)
        clear hK K
        have NB15 := Blk.new w114 #[.bool false, .slice none 0 0] 46
        have ge15 : w4.heap.size ≤ w114.heap.size := hS5.size
        replace hv114 := hv114.keep (kp_alloc w114 (.cells #[.bool false, .slice none 0 0] 46))
        try simp only [sq]
        generalize hA15 : w114.heap.size = A15 at *
        generalize w114.alloc (.cells #[.bool false, .slice none 0 0] 46) = wn15 at *
        have st_c := NB15.cell
        have st_f := NB15.frozen
        have st_l := NB15.lt
        refine wpAnyL_last (i := 16) rfl (by kernel_rfl) (by kernel_rfl) (by kernel_rfl) (fun K hK => ?_)
        go_simp
        refine hK.out _ _ ?_
        clear hK K
        go_wp2_with fail
        go_meet
        case rel => exact ⟨A15, _, _, _, _, rfl, (bl2 (.bool b114) (.slice ao114 n114 c114) NB15), hv114.soft (sf2 (.bool b114) (.slice ao114 n114 c114) NB15 (by decide)), (kp2 (A := A15) (.bool b114) (.slice ao114 n114 c114) hS6 ge15), ge15⟩
       refine AllReadyL.cons rfl (fun K hK => ?_) ?_
       ·go_simp
        refine hK.out _ _ (Kp.alloc' hS4 (.cells #[.bool false, .slice none 0 0] 46)) (fun hS5 => ?_)
        clear hK K
        have NB15 := Blk.new w113 #[.bool false, .slice none 0 0] 46
        have ge15 : w4.heap.size ≤ w113.heap.size := hS4.size
        replace hv104 := hv104.keep (kp_alloc w113 (.cells #[.bool false, .slice none 0 0] 46))
        replace hv113 := hv113.keep (kp_alloc w113 (.cells #[.bool false, .slice none 0 0] 46))
        try simp only [sq]
        generalize hA15 : w113.heap.size = A15 at *
        generalize w113.alloc (.cells #[.bool false, .slice none 0 0] 46) = wn15 at *
        refine wpAnyL_on (i := 14) rfl (fun K hK => ?_)
        go_simp
        refine (rminus_any (b.p * b.p) ((b.q * b.q) * b.d) _ _ _ hv104 hv113 (Ft.fit (Ft.mono (n := 2 * m + 0) (Ft.mul fb.1 fb.1) (by omega)) (by omega)) (Ft.fit (Ft.mono (n := 2 * m + 7) (Ft.mul (Ft.mono (n := 2 * m + 0) (Ft.mul fb.2.1 fb.2.1) (by omega)) fbd) (by omega)) (by omega))).mono ?_
        rintro e w114 ⟨v114, rfl, hv114, hk114⟩
        obtain ⟨b114, ao114, n114, c114, rfl⟩ := hv114.shape'
        replace NB15 := NB15.keep hk114
        go_wp2_with fail
        refine hK.out _ _ (hS5.trans' hk114) (fun hS6 => ?_)
        clear hK K
        have st_c := NB15.cell
        have st_f := NB15.frozen
        have st_l := NB15.lt
        refine wpAnyL_last (i := 16) rfl (by kernel_rfl) (by kernel_rfl) (by kernel_rfl) (fun K hK => ?_)
        go_simp
        refine hK.out _ _ ?_
        clear hK K
        go_wp2_with fail
        go_meet
        case rel => exact ⟨A15, _, _, _, _, rfl, (bl2 (.bool b114) (.slice ao114 n114 c114) NB15), hv114.soft (sf2 (.bool b114) (.slice ao114 n114 c114) NB15 (by decide)), (kp2 (A := A15) (.bool b114) (.slice ao114 n114 c114) hS6 ge15), ge15⟩
       exact AllReadyL.nil
      refine AllReadyL.cons rfl (fun K hK => ?_) ?_
      ·go_simp
       refine hK.out _ _ (Kp.alloc' hS3 (.cells #[.bool false, .slice none 0 0] 46)) (fun hS4 => ?_)
       clear hK K
       have NB15 := Blk.new w112 #[.bool false, .slice none 0 0] 46
       have ge15 : w4.heap.size ≤ w112.heap.size := hS3.size
       replace hv104 := hv104.keep (kp_alloc w112 (.cells #[.bool false, .slice none 0 0] 46))
       replace hv109 := hv109.keep (kp_alloc w112 (.cells #[.bool false, .slice none 0 0] 46))
       replace hv112 := hv112.keep (kp_alloc w112 (.cells #[.bool false, .slice none 0 0] 46))
       try simp only [sq]
       generalize hA15 : w112.heap.size = A15 at *
       generalize w112.alloc (.cells #[.bool false, .slice none 0 0] 46) = wn15 at *
       refine wpAnyL_on (i := 13) rfl (fun K hK => ?_)
       go_simp
       refine (rtimes_any (b.q * b.q) b.d _ _ _ hv109 hv112 (Ft.fit (Ft.mono (n := 2 * m + 0) (Ft.mul fb.2.1 fb.2.1) (by omega)) (by omega)) (Ft.fit fbd (by omega))).mono ?_
       rintro e w113 ⟨v113, rfl, hv113, hk113⟩
       obtain ⟨b113, ao113, n113, c113, rfl⟩ := hv113.shape'
       replace hv104 := hv104.keep hk113
       replace NB15 := NB15.keep hk113
       go_wp2_with fail
       refine hK.out _ _ (hS4.trans' hk113) (fun hS5 => ?_)
       clear hK K
       refine wpAnyL_on (i := 14) rfl (fun K hK => ?_)
       go_simp
       refine (rminus_any (b.p * b.p) ((b.q * b.q) * b.d) _ _ _ hv104 hv113 (Ft.fit (Ft.mono (n := 2 * m + 0) (Ft.mul fb.1 fb.1) (by omega)) (by omega)) (Ft.fit (Ft.mono (n := 2 * m + 7) (Ft.mul (Ft.mono (n := 2 * m + 0) (Ft.mul fb.2.1 fb.2.1) (by omega)) fbd) (by omega)) (by omega))).mono ?_
       rintro e w114 ⟨v114, rfl, hv114, hk114⟩
       obtain ⟨b114, ao114, n114, c114, rfl⟩ := hv114.shape'
       replace NB15 := NB15.keep hk114
       go_wp2_with fail
       refine hK.out _ _ (hS5.trans' hk114) (fun hS6 => ?_)
       clear hK K
       have st_c := NB15.cell
       have st_f := NB15.frozen
       have st_l := NB15.lt
       refine wpAnyL_last (i := 16) rfl (by kernel_rfl) (by kernel_rfl) (by kernel_rfl) (fun K hK => ?_)
       go_simp
       refine hK.out _ _ ?_
       clear hK K
       go_wp2_with fail
       go_meet
       case rel => exact ⟨A15, _, _, _, _, rfl, (bl2 (.bool b114) (.slice ao114 n114 c114) NB15), hv114.soft (sf2 (.bool b114) (.slice ao114 n114 c114) NB15 (by decide)), (kp2 (A := A15) (.bool b114) (.slice ao114 n114 c114) hS6 ge15), ge15⟩
      exact AllReadyL.nil
     refine AllReadyL.cons rfl (fun K hK => ?_) ?_
     ·go_simp
      refine hK.out _ _ (Kp.alloc' hS2 (.cells #[.bool false, .slice none 0 0] 46)) (fun hS3 => ?_)
      clear hK K
      have NB15 := Blk.new w109 #[.bool false, .slice none 0 0] 46
      have ge15 : w4.heap.size ≤ w109.heap.size := hS2.size
      replace hv104 := hv104.keep (kp_alloc w109 (.cells #[.bool false, .slice none 0 0] 46))
      replace hv109 := hv109.keep (kp_alloc w109 (.cells #[.bool false, .slice none 0 0] 46))
      try simp only [sq]
      generalize hA15 : w109.heap.size = A15 at *
      generalize w109.alloc (.cells #[.bool false, .slice none 0 0] 46) = wn15 at *
      refine wpAnyL_on (i := 12) rfl (fun K hK => ?_)
      go_simp
      refine (of_any b.d _ bd0 bd1).mono ?_
      rintro e w112 ⟨v112, rfl, hv112, hk112⟩
      obtain ⟨b112, ao112, n112, c112, rfl⟩ := hv112.shape'
      replace hv104 := hv104.keep hk112
      replace hv109 := hv109.keep hk112
      replace NB15 := NB15.keep hk112
      go_wp2_with fail
      refine hK.out _ _ (hS3.trans' hk112) (fun hS4 => ?_)
      clear hK K
      refine wpAnyL_on (i := 13) rfl (fun K hK => ?_)
      go_simp
      refine (rtimes_any (b.q * b.q) b.d _ _ _ hv109 hv112 (Ft.fit (Ft.mono (n := 2 * m + 0) (Ft.mul fb.2.1 fb.2.1) (by omega)) (by omega)) (Ft.fit fbd (by omega))).mono ?_
      rintro e w113 ⟨v113, rfl, hv113, hk113⟩
      obtain ⟨b113, ao113, n113, c113, rfl⟩ := hv113.shape'
      replace hv104 := hv104.keep hk113
      replace NB15 := NB15.keep hk113
      go_wp2_with fail
      refine hK.out _ _ (hS4.trans' hk113) (fun hS5 => ?_)
      clear hK K
      refine wpAnyL_on (i := 14) rfl (fun K hK => ?_)
      go_simp
      refine (rminus_any (b.p * b.p) ((b.q * b.q) * b.d) _ _ _ hv104 hv113 (Ft.fit (Ft.mono (n := 2 * m + 0) (Ft.mul fb.1 fb.1) (by omega)) (by omega)) (Ft.fit (Ft.mono (n := 2 * m + 7) (Ft.mul (Ft.mono (n := 2 * m + 0) (Ft.mul fb.2.1 fb.2.1) (by omega)) fbd) (by omega)) (by omega))).mono ?_
      rintro e w114 ⟨v114, rfl, hv114, hk114⟩
      obtain ⟨b114, ao114, n114, c114, rfl⟩ := hv114.shape'
      replace NB15 := NB15.keep hk114
      go_wp2_with fail
      refine hK.out _ _ (hS5.trans' hk114) (fun hS6 => ?_)
      clear hK K
      have st_c := NB15.cell
      have st_f := NB15.frozen
      have st_l := NB15.lt
      refine wpAnyL_last (i := 16) rfl (by kernel_rfl) (by kernel_rfl) (by kernel_rfl) (fun K hK => ?_)
      go_simp
      refine hK.out _ _ ?_
      clear hK K
      go_wp2_with fail
      go_meet
      case rel => exact ⟨A15, _, _, _, _, rfl, (bl2 (.bool b114) (.slice ao114 n114 c114) NB15), hv114.soft (sf2 (.bool b114) (.slice ao114 n114 c114) NB15 (by decide)), (kp2 (A := A15) (.bool b114) (.slice ao114 n114 c114) hS6 ge15), ge15⟩
     exact AllReadyL.nil
    refine AllReadyL.cons rfl (fun K hK => ?_) ?_
    ·go_simp
     refine hK.out _ _ (Kp.alloc' hS1 (.cells #[.bool false, .slice none 0 0] 46)) (fun hS2 => ?_)
     clear hK K
     have NB15 := Blk.new w104 #[.bool false, .slice none 0 0] 46
     have ge15 : w4.heap.size ≤ w104.heap.size := hS1.size
     replace hv104 := hv104.keep (kp_alloc w104 (.cells #[.bool false, .slice none 0 0] 46))
     try simp only [sq]
     generalize hA15 : w104.heap.size = A15 at *
     generalize w104.alloc (.cells #[.bool false, .slice none 0 0] 46) = wn15 at *
     refine wpAnyL_on (i := 9) rfl (fun K hK => ?_)
     go_simp
     refine (rtimes_any b.q b.q _ _ _ (hbq.keep hS2) (hbq.keep hS2) (Ft.fit fb.2.1 (by omega)) (Ft.fit fb.2.1 (by omega))).mono ?_
     rintro e w109 ⟨v109, rfl, hv109, hk109⟩
     obtain ⟨b109, ao109, n109, c109, rfl⟩ := hv109.shape'
     replace hv104 := hv104.keep hk109
     replace NB15 := NB15.keep hk109
     go_wp2_with fail
     refine hK.out _ _ (hS2.trans' hk109) (fun hS3 => ?_)
     clear hK K
     refine wpAnyL_on (i := 12) rfl (fun K hK => ?_)
     go_simp
     refine (of_any b.d _ bd0 bd1).mono ?_
     rintro e w112 ⟨v112, rfl, hv112, hk112⟩
     obtain ⟨b112, ao112, n112, c112, rfl⟩ := hv112.shape'
     replace hv104 := hv104.keep hk112
     replace NB15 := NB15.keep hk112
     replace hv109 := hv109.keep hk112
     go_wp2_with fail
     refine hK.out _ _ (hS3.trans' hk112) (fun hS4 => ?_)
     clear hK K
     refine wpAnyL_on (i := 13) rfl (fun K hK => ?_)
     go_simp
     refine (rtimes_any (b.q * b.q) b.d _ _ _ hv109 hv112 (Ft.fit (Ft.mono (n := 2 * m + 0) (Ft.mul fb.2.1 fb.2.1) (by omega)) (by omega)) (Ft.fit fbd (by omega))).mono ?_
     rintro e w113 ⟨v113, rfl, hv113, hk113⟩
     obtain ⟨b113, ao113, n113, c113, rfl⟩ := hv113.shape'
     replace hv104 := hv104.keep hk113
     replace NB15 := NB15.keep hk113
     go_wp2_with fail
     refine hK.out _ _ (hS4.trans' hk113) (fun hS5 => ?_)
     clear hK K
     refine wpAnyL_on (i := 14) rfl (fun K hK => ?_)
     go_simp
     refine (rminus_any (b.p * b.p) ((b.q * b.q) * b.d) _ _ _ hv104 hv113 (Ft.fit (Ft.mono (n := 2 * m + 0) (Ft.mul fb.1 fb.1) (by omega)) (by omega)) (Ft.fit (Ft.mono (n := 2 * m + 7) (Ft.mul (Ft.mono (n := 2 * m + 0) (Ft.mul fb.2.1 fb.2.1) (by omega)) fbd) (by omega)) (by omega))).mono ?_
     rintro e w114 ⟨v114, rfl, hv114, hk114⟩
     obtain ⟨b114, ao114, n114, c114, rfl⟩ := hv114.shape'
     replace NB15 := NB15.keep hk114
     go_wp2_with fail
     refine hK.out _ _ (hS5.trans' hk114) (fun hS6 => ?_)
     clear hK K
     have st_c := NB15.cell
     have st_f := NB15.frozen
     have st_l := NB15.lt
     refine wpAnyL_last (i := 16) rfl (by kernel_rfl) (by kernel_rfl) (by kernel_rfl) (fun K hK => ?_)
     go_simp
     refine hK.out _ _ ?_
     clear hK K
     go_wp2_with fail
     go_meet
     case rel => exact ⟨A15, _, _, _, _, rfl, (bl2 (.bool b114) (.slice ao114 n114 c114) NB15), hv114.soft (sf2 (.bool b114) (.slice ao114 n114 c114) NB15 (by decide)), (kp2 (A := A15) (.bool b114) (.slice ao114 n114 c114) hS6 ge15), ge15⟩
    exact AllReadyL.nil
   refine AllReadyL.cons rfl (fun K hK => ?_) ?_
   ·go_simp
    refine hK.out _ _ (Kp.alloc' hS0 (.cells #[.bool false, .slice none 0 0] 46)) (fun hS1 => ?_)
    clear hK K
    have NB15 := Blk.new wd #[.bool false, .slice none 0 0] 46
    have ge15 : w4.heap.size ≤ wd.heap.size := hS0.size
    try simp only [sq]
    generalize hA15 : wd.heap.size = A15 at *
    generalize wd.alloc (.cells #[.bool false, .slice none 0 0] 46) = wn15 at *
    refine wpAnyL_on (i := 4) rfl (fun K hK => ?_)
    go_simp
    refine (rtimes_any b.p b.p _ _ _ (hbp.keep hS1) (hbp.keep hS1) (Ft.fit fb.1 (by omega)) (Ft.fit fb.1 (by omega))).mono ?_
    rintro e w104 ⟨v104, rfl, hv104, hk104⟩
    obtain ⟨b104, ao104, n104, c104, rfl⟩ := hv104.shape'
    replace NB15 := NB15.keep hk104
    go_wp2_with fail
    refine hK.out _ _ (hS1.trans' hk104) (fun hS2 => ?_)
    clear hK K
    refine wpAnyL_on (i := 9) rfl (fun K hK => ?_)
    go_simp
    refine (rtimes_any b.q b.q _ _ _ (hbq.keep hS2) (hbq.keep hS2) (Ft.fit fb.2.1 (by omega)) (Ft.fit fb.2.1 (by omega))).mono ?_
    rintro e w109 ⟨v109, rfl, hv109, hk109⟩
    obtain ⟨b109, ao109, n109, c109, rfl⟩ := hv109.shape'
    replace NB15 := NB15.keep hk109
    replace hv104 := hv104.keep hk109
    go_wp2_with fail
    refine hK.out _ _ (hS2.trans' hk109) (fun hS3 => ?_)
    clear hK K
    refine wpAnyL_on (i := 12) rfl (fun K hK => ?_)
    go_simp
    refine (of_any b.d _ bd0 bd1).mono ?_
    rintro e w112 ⟨v112, rfl, hv112, hk112⟩
    obtain ⟨b112, ao112, n112, c112, rfl⟩ := hv112.shape'
    replace NB15 := NB15.keep hk112
    replace hv104 := hv104.keep hk112
    replace hv109 := hv109.keep hk112
    go_wp2_with fail
    refine hK.out _ _ (hS3.trans' hk112) (fun hS4 => ?_)
    clear hK K
    refine wpAnyL_on (i := 13) rfl (fun K hK => ?_)
    go_simp
    refine (rtimes_any (b.q * b.q) b.d _ _ _ hv109 hv112 (Ft.fit (Ft.mono (n := 2 * m + 0) (Ft.mul fb.2.1 fb.2.1) (by omega)) (by omega)) (Ft.fit fbd (by omega))).mono ?_
    rintro e w113 ⟨v113, rfl, hv113, hk113⟩
    obtain ⟨b113, ao113, n113, c113, rfl⟩ := hv113.shape'
    replace NB15 := NB15.keep hk113
    replace hv104 := hv104.keep hk113
    go_wp2_with fail
    refine hK.out _ _ (hS4.trans' hk113) (fun hS5 => ?_)
    clear hK K
    refine wpAnyL_on (i := 14) rfl (fun K hK => ?_)
    go_simp
    refine (rminus_any (b.p * b.p) ((b.q * b.q) * b.d) _ _ _ hv104 hv113 (Ft.fit (Ft.mono (n := 2 * m + 0) (Ft.mul fb.1 fb.1) (by omega)) (by omega)) (Ft.fit (Ft.mono (n := 2 * m + 7) (Ft.mul (Ft.mono (n := 2 * m + 0) (Ft.mul fb.2.1 fb.2.1) (by omega)) fbd) (by omega)) (by omega))).mono ?_
    rintro e w114 ⟨v114, rfl, hv114, hk114⟩
    obtain ⟨b114, ao114, n114, c114, rfl⟩ := hv114.shape'
    replace NB15 := NB15.keep hk114
    go_wp2_with fail
    refine hK.out _ _ (hS5.trans' hk114) (fun hS6 => ?_)
    clear hK K
    have st_c := NB15.cell
    have st_f := NB15.frozen
    have st_l := NB15.lt
    refine wpAnyL_last (i := 16) rfl (by kernel_rfl) (by kernel_rfl) (by kernel_rfl) (fun K hK => ?_)
    go_simp
    refine hK.out _ _ ?_
    clear hK K
    go_wp2_with fail
    go_meet
    case rel => exact ⟨A15, _, _, _, _, rfl, (bl2 (.bool b114) (.slice ao114 n114 c114) NB15), hv114.soft (sf2 (.bool b114) (.slice ao114 n114 c114) NB15 (by decide)), (kp2 (A := A15) (.bool b114) (.slice ao114 n114 c114) hS6 ge15), ge15⟩
   exact AllReadyL.nil
  case rest =>
   obtain ⟨bg11, b11, ao11, n11, c11, rfl, BN, hN, hkc, ge11x⟩ := hcut
   replace hap := hap.keep hkc
   replace haq := haq.keep hkc
   replace har := har.keep hkc
   replace hbp := hbp.keep hkc
   replace hbq := hbq.keep hkc
   replace hbr := hbr.keep hkc
   replace BA := BA.keep hkc
   replace BB := BB.keep hkc
   replace BE := BE.keep hkc
   replace BU := BU.keep hkc
   replace hUp := hUp.keep hkc
   replace hUq := hUq.keep hkc
   replace hUr := hUr.keep hkc
   replace hkb := hkb.trans' hkc
   have hsx11 := hkc.size
   clear hkc
   generalize wc = w1 at *
   go_wp2_with fail
   refine wp_region_l (S := fun w' => Kp w1 w') (by kernel_rfl) (Kp.drew' (Below.refl _ _)) (fun hS0 => ?_)
   generalize w1.drew = wd at *
   refine wpAnyL_tk (i := 0) (k := 1) (v := .pointer (some ⟨bu, 0, none⟩)) rfl ?_ hS0 ?_
   ·intro w' hw'; go_simp
   simp only [sq]
   refine wpAnyL_tk (i := 1) (k := 4) (v := .agg #[.bool b41, .slice ao41 n41 c41]) rfl ?_ hS0 ?_
   ·intro w' hw'; have hc := ((BU).keep hw').cell; go_simp
   simp only [sq]
   refine wpAnyL_tk (i := 2) (k := 3) (v := .pointer (some ⟨w.heap.size + 1, 4, none⟩)) rfl ?_ hS0 ?_
   ·intro w' hw'; go_simp
   simp only [sq]
   refine wpAnyL_tk (i := 3) (k := 4) (v := .agg #[.bool b6, .slice ao6 n6 c6]) rfl ?_ hS0 ?_
   ·intro w' hw'; have hc := ((BB).keep hw').cell; go_simp
   simp only [sq]
   refine wpAnyL_tk (i := 5) (k := 6) (v := .pointer (some ⟨bu, 2, none⟩)) rfl ?_ hS0 ?_
   ·intro w' hw'; go_simp
   simp only [sq]
   refine wpAnyL_tk (i := 6) (k := 9) (v := .agg #[.bool b42, .slice ao42 n42 c42]) rfl ?_ hS0 ?_
   ·intro w' hw'; have hc := ((BU).keep hw').cell; go_simp
   simp only [sq]
   refine wpAnyL_tk (i := 7) (k := 8) (v := .pointer (some ⟨w.heap.size + 1, 4, none⟩)) rfl ?_ hS0 ?_
   ·intro w' hw'; go_simp
   simp only [sq]
   refine wpAnyL_tk (i := 8) (k := 9) (v := .agg #[.bool b6, .slice ao6 n6 c6]) rfl ?_ hS0 ?_
   ·intro w' hw'; have hc := ((BB).keep hw').cell; go_simp
   simp only [sq]
   refine wpAnyL_tk (i := 10) (k := 11) (v := .pointer (some ⟨bu, 4, none⟩)) rfl ?_ hS0 ?_
   ·intro w' hw'; go_simp
   simp only [sq]
   refine wpAnyL_tk (i := 11) (k := 13) (v := .agg #[.bool b43, .slice ao43 n43 c43]) rfl ?_ hS0 ?_
   ·intro w' hw'; have hc := ((BU).keep hw').cell; go_simp
   simp only [sq]
   refine wpAnyL_tk (i := 12) (k := 13) (v := .agg #[.bool b11, .slice ao11 n11 c11]) rfl ?_ hS0 ?_
   ·intro w' hw'; have hc := ((BN).keep hw').cell; go_simp
   simp only [sq]
   refine wpAnyL_tk (i := 14) (k := 15) (v := .int .i64 D) rfl ?_ hS0 ?_
   ·intro w' hw'; go_simp
   simp only [sq]
   refine wpAnyL_on (i := 4) rfl (fun K hK => ?_)
   go_simp
   refine (rtimes_any U.p b.r _ _ _ (hUp.keep hS0) (hbr.keep hS0) (Ft.fit fU.1 (by omega)) (Ft.fit fb.2.2 (by omega))).mono ?_
   rintro e w104 ⟨v104, rfl, hv104, hk104⟩
   obtain ⟨b104, ao104, n104, c104, rfl⟩ := hv104.shape'
   go_wp2_with fail
   refine hK.out _ _ (hS0.trans' hk104) (fun hS1 => ?_)
   clear hK K
   refine wpAnyL_on (i := 9) rfl (fun K hK => ?_)
   go_simp
   refine (rtimes_any U.q b.r _ _ _ (hUq.keep hS1) (hbr.keep hS1) (Ft.fit fU.2.1 (by omega)) (Ft.fit fb.2.2 (by omega))).mono ?_
   rintro e w109 ⟨v109, rfl, hv109, hk109⟩
   obtain ⟨b109, ao109, n109, c109, rfl⟩ := hv109.shape'
   replace hv104 := hv104.keep hk109
   go_wp2_with fail
   refine hK.out _ _ (hS1.trans' hk109) (fun hS2 => ?_)
   clear hK K
   refine wpAnyL_on (i := 13) rfl (fun K hK => ?_)
   go_simp
   refine (rtimes_any U.r ((b.p * b.p) - ((b.q * b.q) * b.d)) _ _ _ (hUr.keep hS2) (hN.keep hS2) (Ft.fit fU.2.2 (by omega)) (Ft.fit (Ft.mono (n := 2 * m + 8) (Int.sub_eq_add_neg ▸ Ft.add (Ft.mono (n := 2 * m + 7) (Ft.mono (n := 2 * m + 0) (Ft.mul fb.1 fb.1) (by omega)) (by omega)) (Ft.neg (Ft.mono (n := 2 * m + 7) (Ft.mono (n := 2 * m + 7) (Ft.mul (Ft.mono (n := 2 * m + 0) (Ft.mul fb.2.1 fb.2.1) (by omega)) fbd) (by omega)) (by omega)))) (by omega)) (by omega))).mono ?_
   rintro e w113 ⟨v113, rfl, hv113, hk113⟩
   obtain ⟨b113, ao113, n113, c113, rfl⟩ := hv113.shape'
   replace hv104 := hv104.keep hk113
   replace hv109 := hv109.keep hk113
   go_wp2_with fail
   refine hK.out _ _ (hS2.trans' hk113) (fun hS3 => ?_)
   clear hK K
   refine wpAnyL_on (i := 15) rfl (fun K hK => ?_)
   go_simp
   refine (formed_any (U.p * b.r) (U.q * b.r) (U.r * ((b.p * b.p) - ((b.q * b.q) * b.d))) D (4 * m + 17) _ _ _ _ hv104 hv109 hv113 hr0 (by omega) (Ft.mono (n := 4 * m + 17) (Ft.mono (n := 3 * m + 9) (Ft.mul fU.1 fb.2.2) (by omega)) (by omega)) (Ft.mono (n := 4 * m + 17) (Ft.mono (n := 3 * m + 9) (Ft.mul fU.2.1 fb.2.2) (by omega)) (by omega)) (Ft.mono (n := 4 * m + 17) (Ft.mono (n := 4 * m + 17) (Ft.mul fU.2.2 (Ft.mono (n := 2 * m + 8) (Int.sub_eq_add_neg ▸ Ft.add (Ft.mono (n := 2 * m + 7) (Ft.mono (n := 2 * m + 0) (Ft.mul fb.1 fb.1) (by omega)) (by omega)) (Ft.neg (Ft.mono (n := 2 * m + 7) (Ft.mono (n := 2 * m + 7) (Ft.mul (Ft.mono (n := 2 * m + 0) (Ft.mul fb.2.1 fb.2.1) (by omega)) fbd) (by omega)) (by omega)))) (by omega))) (by omega)) (by omega))).mono ?_
   rintro e w115 ⟨v115, rfl, hv115, hk115⟩
   obtain ⟨b115p, ao115p, n115p, c115p, b115q, ao115q, n115q, c115q, b115r, ao115r, n115r, c115r, rfl, hv115p, hv115q, hv115r⟩ := id hv115
   go_wp2_with fail
   refine hK.out _ _ (hS3.trans' hk115) (fun hS4 => ?_)
   clear hK K
   have TB := (BE).keep hS4
   have st_c := TB.cell
   have st_f := TB.frozen
   have st_l := TB.lt
   refine wpAnyL_last (i := 16) rfl (by kernel_rfl) (by kernel_rfl) (by kernel_rfl) (fun K hK => ?_)
   go_simp
   refine hK.out _ _ ?_
   clear hK K
   go_wp2_with fail
   refine bodyPost_ret (v := .agg #[.bool b115p, .slice ao115p n115p c115p, .bool b115q, .slice ao115q n115q c115q, .bool b115r, .slice ao115r n115r c115r, .int .i64 (qreduce (U.p * b.r) (U.q * b.r) (U.r * ((b.p * b.p) - ((b.q * b.q) * b.d))) D).d]) (by simp [results, Try.results30, go_sem, st_c]) rfl ?_
   exact ⟨_, rfl, hv115.soft (sf7 (.bool b115p) (.slice ao115p n115p c115p) (.bool b115q) (.slice ao115q n115q c115q) (.bool b115r) (.slice ao115r n115r c115r) (.int .i64 (qreduce (U.p * b.r) (U.q * b.r) (U.r * ((b.p * b.p) - ((b.q * b.q) * b.d))) D).d) TB (by decide)), (kp7 (A := w.heap.size + 1 + 1) (.bool b115p) (.slice ao115p n115p c115p) (.bool b115q) (.slice ao115q n115q c115q) (.bool b115r) (.slice ao115r n115r c115r) (.int .i64 (qreduce (U.p * b.r) (U.q * b.r) (U.r * ((b.p * b.p) - ((b.q * b.q) * b.d))) D).d) (hkb.trans' hS4) (by show w.heap.size ≤ w.heap.size + 1 + 1; omega))⟩
 
end Go.Proofs.Ytjahbjjekednfaa
