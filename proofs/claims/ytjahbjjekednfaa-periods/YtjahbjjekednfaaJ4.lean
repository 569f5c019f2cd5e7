import Derived.Test.YtjahbjjekednfaaJ3
import Derived.Test.YtjahbjjekednfaaR17
import Derived.Test.YtjahbjjekednfaaF8
namespace Go.Proofs.Ytjahbjjekednfaa
open Go.RowKit

theorem qok_one : Qok ⟨1, 0, 1, 1⟩ := ⟨by decide, by decide, by decide, by decide, sqfree_one⟩
theorem qf_one {m : Nat} : QF (m + m + 1) ⟨1, 0, 1, 1⟩ := ⟨Ft.mono (m := 1) (by unfold Ft; decide) (by omega), Ft.zero _, Ft.mono (m := 1) (by unfold Ft; decide) (by omega)⟩
/-- A call that returns a term, what the expansion goes on with, and whether it does. -/
def RetSt (w : World) (t : Int) (b : Qn) (more : Bool) (e : Ending) (w' : World) : Prop := ∃ v1 v2, e = .returned (.tuple #[v1, v2, .bool more]) ∧ IN w' v1 t ∧ NN w' v2 b ∧ Kp w w'

set_option maxHeartbeats 6400000 in
set_option maxRecDepth 100000 in
/-- surdref.step. -/
theorem step_core (a B : Qn) (more : Bool) (t : Int) (m : Nat) (u : Value) (w : World) (ha : NN w u a) (hm : m ≤ 3000000) (f : QF m a) (ft : Ft m t) (oa : Cn a) (hP : ∀ x, 0 ≤ ovr a x ↔ x ≤ t)
  (HB : Hid (((les a t).p = 0 ∧ (les a t).q = 0 → B = les a t ∧ more = false) ∧ (¬ ((les a t).p = 0 ∧ (les a t).q = 0) → B = nxa a t ∧ more = true))) : Calls Try.prog 19 #[u] w (RetSt w t B more) := by
 have HFL := Hid.mk (fun (W : World) (hk : Kp w W) => floor_ref a t m u W (ha.keep hk) (by omega) f ft (by have := oa.ok.d0; omega) (by have := oa.ok.d1; omega) hP)
 obtain ⟨b1, ao1, n1, c1, b2, ao2, n2, c2, b3, ao3, n3, c3, rfl, hp, hq, hr⟩ := ha
 have fT : Fit t := ft.fit (by omega)
 have fR : Fit a.r := f.2.2.fit (by omega)
 have fPp : Fit a.p := f.1.fit (by omega)
 have fTR : Fit (t * a.r) := (ft.mul f.2.2).fit (by omega)
 have HY : Hid (QF (m + m + 1) (les a t)) := by
  refine ⟨?_, f.2.1.mono (by omega), f.2.2.mono (by omega)⟩
  have := Ft.add (f.1.mono (show m ≤ m + m by omega)) (ft.mul f.2.2).neg
  rwa [← Int.sub_eq_add_neg] at this
 have HCN := Hid.mk (les_cn oa t)
 have HNX := Hid.mk (fun hz => nxa_ok oa (t := t) hz)
 clear oa hP f ft
 have kp0 : Kp w (((w.alloc (.cells #[.bool b1, .slice ao1 n1 c1, .bool b2, .slice ao2 n2 c2, .bool b3, .slice ao3 n3 c3, .int .i64 a.d] 48)).alloc (.cells #[.bool false, .slice none 0 0] 46)).alloc (.cells #[.bool false, .slice none 0 0, .bool false, .slice none 0 0, .bool false, .slice none 0 0, .int .i64 0] 48)) := Kp.alloc' (Kp.alloc' (kp_alloc w _) _) _
 have BX : Blk (((w.alloc (.cells #[.bool b1, .slice ao1 n1 c1, .bool b2, .slice ao2 n2 c2, .bool b3, .slice ao3 n3 c3, .int .i64 a.d] 48)).alloc (.cells #[.bool false, .slice none 0 0] 46)).alloc (.cells #[.bool false, .slice none 0 0, .bool false, .slice none 0 0, .bool false, .slice none 0 0, .int .i64 0] 48)) (w.heap.size) #[.bool b1, .slice ao1 n1 c1, .bool b2, .slice ao2 n2 c2, .bool b3, .slice ao3 n3 c3, .int .i64 a.d] 48 := Blk.alloc (Blk.alloc (Blk.new w _ _) _) _
 have BE : Blk (((w.alloc (.cells #[.bool b1, .slice ao1 n1 c1, .bool b2, .slice ao2 n2 c2, .bool b3, .slice ao3 n3 c3, .int .i64 a.d] 48)).alloc (.cells #[.bool false, .slice none 0 0] 46)).alloc (.cells #[.bool false, .slice none 0 0, .bool false, .slice none 0 0, .bool false, .slice none 0 0, .int .i64 0] 48)) (w.heap.size + 1) #[.bool false, .slice none 0 0] 46 := Blk.alloc (Blk.at (Blk.new (w.alloc (.cells #[.bool b1, .slice ao1 n1 c1, .bool b2, .slice ao2 n2 c2, .bool b3, .slice ao3 n3 c3, .int .i64 a.d] 48)) _ _) (by simp)) _
 have BN : Blk (((w.alloc (.cells #[.bool b1, .slice ao1 n1 c1, .bool b2, .slice ao2 n2 c2, .bool b3, .slice ao3 n3 c3, .int .i64 a.d] 48)).alloc (.cells #[.bool false, .slice none 0 0] 46)).alloc (.cells #[.bool false, .slice none 0 0, .bool false, .slice none 0 0, .bool false, .slice none 0 0, .int .i64 0] 48)) (w.heap.size + 1 + 1) #[.bool false, .slice none 0 0, .bool false, .slice none 0 0, .bool false, .slice none 0 0, .int .i64 0] 48 := Blk.at (Blk.new ((w.alloc (.cells #[.bool b1, .slice ao1 n1 c1, .bool b2, .slice ao2 n2 c2, .bool b3, .slice ao3 n3 c3, .int .i64 a.d] 48)).alloc (.cells #[.bool false, .slice none 0 0] 46)) _ _) (by simp)
 have bxc := BX.cell
 have hFl := HFL.out _ kp0
 go_enter Try.func19, Try.ntmps19
 go_wp2_with fail
 refine hFl.mono ?_
 rintro e w1 ⟨v4, rfl, hT, hk1⟩
 obtain ⟨b4, ao4, n4, c4, rfl⟩ := hT.shape'
 have hkw := (kp0.trans' hk1).alloc' (.cells #[.bool b4, .slice ao4 n4 c4] 46)
 replace hp := hp.keep hkw
 replace hq := hq.keep hkw
 replace hr := hr.keep hkw
 replace hT := hT.keep (kp_alloc w1 (.cells #[.bool b4, .slice ao4 n4 c4] 46))
 replace BX := (BX.keep hk1).alloc (.cells #[.bool b4, .slice ao4 n4 c4] 46)
 replace BE := (BE.keep hk1).alloc (.cells #[.bool b4, .slice ao4 n4 c4] 46)
 replace BN := (BN.keep hk1).alloc (.cells #[.bool b4, .slice ao4 n4 c4] 46)
 have BT : Blk (w1.alloc (.cells #[.bool b4, .slice ao4 n4 c4] 46)) (w1.heap.size) #[.bool b4, .slice ao4 n4 c4] 46 := Blk.new w1 _ _
 have hsz : w.heap.size + 3 ≤ w1.heap.size := by have := hk1.size; simp only [World.size_alloc] at this; omega
 clear hk1 kp0 bxc hFl HFL
 go_wp2_with fail
 generalize w1.alloc (.cells #[.bool b4, .slice ao4 n4 c4] 46) = wb at *
 generalize w1.heap.size = A5 at *
 go_cut [6] from 9 to 36 (fun p wx => ∃ (bp : Nat) (b5 : Bool) (ao5 : Option Addr) (n5 c5 : Nat), p = .pointer (some ⟨bp, 0, none⟩) ∧ Blk wx (bp) #[.bool b5, .slice ao5 n5 c5, .bool b2, .slice ao2 n2 c2, .bool b3, .slice ao3 n3 c3, .int .i64 a.d] 48 ∧ IN wx (.agg #[.bool b5, .slice ao5 n5 c5]) (a.p - t * a.r) ∧ IN wx (.agg #[.bool b2, .slice ao2 n2 c2]) a.q ∧ IN wx (.agg #[.bool b3, .slice ao3 n3 c3]) a.r ∧ Kp wb wx ∧ wb.heap.size ≤ bp)
 case first =>
  refine wp_region_l (S := fun w' => Kp wb w') (by kernel_rfl) (Kp.drew' (Below.refl _ _)) (fun hS0 => ?_)
  generalize wb.drew = wd at *
  refine wpAnyL_tk (i := 0) (k := 1) (v := .pointer (some ⟨w.heap.size, 0, none⟩)) rfl ?_ hS0 ?_
  ·intro w' hw'; go_simp
  simp only [sq]
  refine wpAnyL_tk (i := 1) (k := 6) (v := .agg #[.bool b1, .slice ao1 n1 c1]) rfl ?_ hS0 ?_
  ·intro w' hw'; have hc := ((BX).keep hw').cell; go_simp
  simp only [sq]
  refine wpAnyL_tk (i := 2) (k := 5) (v := .agg #[.bool b4, .slice ao4 n4 c4]) rfl ?_ hS0 ?_
  ·intro w' hw'; have hc := ((BT).keep hw').cell; go_simp
  simp only [sq]
  refine wpAnyL_tk (i := 3) (k := 4) (v := .pointer (some ⟨w.heap.size, 4, none⟩)) rfl ?_ hS0 ?_
  ·intro w' hw'; go_simp
  simp only [sq]
  refine wpAnyL_tk (i := 4) (k := 5) (v := .agg #[.bool b3, .slice ao3 n3 c3]) rfl ?_ hS0 ?_
  ·intro w' hw'; have hc := ((BX).keep hw').cell; go_simp
  simp only [sq]
  refine wpAnyL_tk (i := 7) (k := 8) (v := .pointer (some ⟨w.heap.size, 2, none⟩)) rfl ?_ hS0 ?_
  ·intro w' hw'; go_simp
  simp only [sq]
  refine wpAnyL_tk (i := 8) (k := 13) (v := .agg #[.bool b2, .slice ao2 n2 c2]) rfl ?_ hS0 ?_
  ·intro w' hw'; have hc := ((BX).keep hw').cell; go_simp
  simp only [sq]
  refine wpAnyL_tk (i := 9) (k := 10) (v := .pointer (some ⟨w.heap.size, 4, none⟩)) rfl ?_ hS0 ?_
  ·intro w' hw'; go_simp
  simp only [sq]
  refine wpAnyL_tk (i := 10) (k := 13) (v := .agg #[.bool b3, .slice ao3 n3 c3]) rfl ?_ hS0 ?_
  ·intro w' hw'; have hc := ((BX).keep hw').cell; go_simp
  simp only [sq]
  refine wpAnyL_tk (i := 11) (k := 12) (v := .pointer (some ⟨w.heap.size, 6, none⟩)) rfl ?_ hS0 ?_
  ·intro w' hw'; go_simp
  simp only [sq]
  refine wpAnyL_tk (i := 12) (k := 13) (v := .int .i64 a.d) rfl ?_ hS0 ?_
  ·intro w' hw'; have hc := ((BX).keep hw').cell; go_simp
  simp only [sq]
  refine wpAnyL_ready (rs := [5, 14]) (by kernel_rfl) (by simp) ?_
  refine AllReadyL.cons rfl (fun K hK => ?_) ?_
  ·go_simp
   refine (rtimes_any t a.r _ _ _ (hT.keep hS0) (hr.keep hS0) fT fR).mono ?_
   rintro e w105 ⟨v105, rfl, hv105, hk105⟩
   obtain ⟨b105, ao105, n105, c105, rfl⟩ := hv105.shape'
   go_wp2_with fail
   refine hK.out _ _ (hS0.trans' hk105) (fun hS1 => ?_)
   clear hK K
   refine wpAnyL_ready (rs := [6, 14]) (by kernel_rfl) (by simp) ?_
   refine AllReadyL.cons rfl (fun K hK => ?_) ?_
   ·go_simp
    refine (rminus_any a.p (t * a.r) _ _ _ (hp.keep hS1) hv105 fPp fTR).mono ?_
    rintro e w106 ⟨v106, rfl, hv106, hk106⟩
    obtain ⟨b106, ao106, n106, c106, rfl⟩ := hv106.shape'
    go_wp2_with fail
    refine hK.out _ _ (hS1.trans' hk106) (fun hS2 => ?_)
    clear hK K
    refine wpAnyL_tk (i := 13) (k := 15) (v := .agg #[.bool b106, .slice ao106 n106 c106, .bool b2, .slice ao2 n2 c2, .bool b3, .slice ao3 n3 c3, .int .i64 a.d]) rfl ?_ hS2 ?_
    ·intro w' hw'; go_simp
    simp only [sq]
    refine wpAnyL_on (i := 14) rfl (fun K hK => ?_)
    go_simp
    refine hK.out _ _ (Kp.alloc' hS2 (.cells #[.bool false, .slice none 0 0, .bool false, .slice none 0 0, .bool false, .slice none 0 0, .int .i64 0] 48)) (fun hS3 => ?_)
    clear hK K
    have NB14 := Blk.new w106 #[.bool false, .slice none 0 0, .bool false, .slice none 0 0, .bool false, .slice none 0 0, .int .i64 0] 48
    have ge14 : wb.heap.size ≤ w106.heap.size := hS2.size
    replace hv106 := hv106.keep (kp_alloc w106 (.cells #[.bool false, .slice none 0 0, .bool false, .slice none 0 0, .bool false, .slice none 0 0, .int .i64 0] 48))
    try simp only [sq]
    generalize hA14 : w106.heap.size = A14 at *
    generalize w106.alloc (.cells #[.bool false, .slice none 0 0, .bool false, .slice none 0 0, .bool false, .slice none 0 0, .int .i64 0] 48) = wn14 at *
    have st_c := NB14.cell
    have st_f := NB14.frozen
    have st_l := NB14.lt
    refine wpAnyL_last (i := 15) rfl (by kernel_rfl) (by kernel_rfl) (by kernel_rfl) (fun K hK => ?_)
    go_simp
    refine hK.out _ _ ?_
    clear hK K
    have sfE := (sf7 (E := 3) (.bool b106) (.slice ao106 n106 c106) (.bool b2) (.slice ao2 n2 c2) (.bool b3) (.slice ao3 n3 c3) (.int .i64 a.d) NB14 (by decide))
    go_wp2_with fail
    go_meet
    case rel => exact ⟨A14, _, _, _, _, rfl, (bl7 (.bool b106) (.slice ao106 n106 c106) (.bool b2) (.slice ao2 n2 c2) (.bool b3) (.slice ao3 n3 c3) (.int .i64 a.d) NB14), hv106.soft sfE, (hq.keep hS3).soft sfE, (hr.keep hS3).soft sfE, (kp7 (A := A14) (.bool b106) (.slice ao106 n106 c106) (.bool b2) (.slice ao2 n2 c2) (.bool b3) (.slice ao3 n3 c3) (.int .i64 a.d) hS3 ge14), ge14⟩
   refine AllReadyL.cons rfl (fun K hK => ?_) ?_
   ·go_simp
    refine hK.out _ _ (Kp.alloc' hS1 (.cells #[.bool false, .slice none 0 0, .bool false, .slice none 0 0, .bool false, .slice none 0 0, .int .i64 0] 48)) (fun hS2 => ?_)
    clear hK K
    have NB14 := Blk.new w105 #[.bool false, .slice none 0 0, .bool false, .slice none 0 0, .bool false, .slice none 0 0, .int .i64 0] 48
    have ge14 : wb.heap.size ≤ w105.heap.size := hS1.size
    replace hv105 := hv105.keep (kp_alloc w105 (.cells #[.bool false, .slice none 0 0, .bool false, .slice none 0 0, .bool false, .slice none 0 0, .int .i64 0] 48))
    try simp only [sq]
    generalize hA14 : w105.heap.size = A14 at *
    generalize w105.alloc (.cells #[.bool false, .slice none 0 0, .bool false, .slice none 0 0, .bool false, .slice none 0 0, .int .i64 0] 48) = wn14 at *
    refine wpAnyL_on (i := 6) rfl (fun K hK => ?_)
    go_simp
    refine (rminus_any a.p (t * a.r) _ _ _ (hp.keep hS2) hv105 fPp fTR).mono ?_
    rintro e w106 ⟨v106, rfl, hv106, hk106⟩
    obtain ⟨b106, ao106, n106, c106, rfl⟩ := hv106.shape'
    replace NB14 := NB14.keep hk106
    go_wp2_with fail
    refine hK.out _ _ (hS2.trans' hk106) (fun hS3 => ?_)
    clear hK K
    refine wpAnyL_tk (i := 13) (k := 15) (v := .agg #[.bool b106, .slice ao106 n106 c106, .bool b2, .slice ao2 n2 c2, .bool b3, .slice ao3 n3 c3, .int .i64 a.d]) rfl ?_ hS3 ?_
    ·intro w' hw'; go_simp
    simp only [sq]
    have st_c := NB14.cell
    have st_f := NB14.frozen
    have st_l := NB14.lt
    refine wpAnyL_last (i := 15) rfl (by kernel_rfl) (by kernel_rfl) (by kernel_rfl) (fun K hK => ?_)
    go_simp
    refine hK.out _ _ ?_
    clear hK K
    have sfE := (sf7 (E := 3) (.bool b106) (.slice ao106 n106 c106) (.bool b2) (.slice ao2 n2 c2) (.bool b3) (.slice ao3 n3 c3) (.int .i64 a.d) NB14 (by decide))
    go_wp2_with fail
    go_meet
    case rel => exact ⟨A14, _, _, _, _, rfl, (bl7 (.bool b106) (.slice ao106 n106 c106) (.bool b2) (.slice ao2 n2 c2) (.bool b3) (.slice ao3 n3 c3) (.int .i64 a.d) NB14), hv106.soft sfE, (hq.keep hS3).soft sfE, (hr.keep hS3).soft sfE, (kp7 (A := A14) (.bool b106) (.slice ao106 n106 c106) (.bool b2) (.slice ao2 n2 c2) (.bool b3) (.slice ao3 n3 c3) (.int .i64 a.d) hS3 ge14), ge14⟩
   exact AllReadyL.nil
  refine AllReadyL.cons rfl (fun K hK => ?_) ?_
  ·go_simp
   refine hK.out _ _ (Kp.alloc' hS0 (.cells #[.bool false, .slice none 0 0, .bool false, .slice none 0 0, .bool false, .slice none 0 0, .int .i64 0] 48)) (fun hS1 => ?_)
   clear hK K
   have NB14 := Blk.new wd #[.bool false, .slice none 0 0, .bool false, .slice none 0 0, .bool false, .slice none 0 0, .int .i64 0] 48
   have ge14 : wb.heap.size ≤ wd.heap.size := hS0.size
   try simp only [sq]
   generalize hA14 : wd.heap.size = A14 at *
   generalize wd.alloc (.cells #[.bool false, .slice none 0 0, .bool false, .slice none 0 0, .bool false, .slice none 0 0, .int .i64 0] 48) = wn14 at *
   refine wpAnyL_on (i := 5) rfl (fun K hK => ?_)
   go_simp
   refine (rtimes_any t a.r _ _ _ (hT.keep hS1) (hr.keep hS1) fT fR).mono ?_
   rintro e w105 ⟨v105, rfl, hv105, hk105⟩
   obtain ⟨b105, ao105, n105, c105, rfl⟩ := hv105.shape'
   replace NB14 := NB14.keep hk105
   go_wp2_with fail
   refine hK.out _ _ (hS1.trans' hk105) (fun hS2 => ?_)
   clear hK K
   refine wpAnyL_on (i := 6) rfl (fun K hK => ?_)
   go_simp
   refine (rminus_any a.p (t * a.r) _ _ _ (hp.keep hS2) hv105 fPp fTR).mono ?_
   rintro e w106 ⟨v106, rfl, hv106, hk106⟩
   obtain ⟨b106, ao106, n106, c106, rfl⟩ := hv106.shape'
   replace NB14 := NB14.keep hk106
   go_wp2_with fail
   refine hK.out _ _ (hS2.trans' hk106) (fun hS3 => ?_)
   clear hK K
   refine wpAnyL_tk (i := 13) (k := 15) (v := .agg #[.bool b106, .slice ao106 n106 c106, .bool b2, .slice ao2 n2 c2, .bool b3, .slice ao3 n3 c3, .int .i64 a.d]) rfl ?_ hS3 ?_
   ·intro w' hw'; go_simp
   simp only [sq]
   have st_c := NB14.cell
   have st_f := NB14.frozen
   have st_l := NB14.lt
   refine wpAnyL_last (i := 15) rfl (by kernel_rfl) (by kernel_rfl) (by kernel_rfl) (fun K hK => ?_)
   go_simp
   refine hK.out _ _ ?_
   clear hK K
   have sfE := (sf7 (E := 3) (.bool b106) (.slice ao106 n106 c106) (.bool b2) (.slice ao2 n2 c2) (.bool b3) (.slice ao3 n3 c3) (.int .i64 a.d) NB14 (by decide))
   go_wp2_with fail
   go_meet
   case rel => exact ⟨A14, _, _, _, _, rfl, (bl7 (.bool b106) (.slice ao106 n106 c106) (.bool b2) (.slice ao2 n2 c2) (.bool b3) (.slice ao3 n3 c3) (.int .i64 a.d) NB14), hv106.soft sfE, (hq.keep hS3).soft sfE, (hr.keep hS3).soft sfE, (kp7 (A := A14) (.bool b106) (.slice ao106 n106 c106) (.bool b2) (.slice ao2 n2 c2) (.bool b3) (.slice ao3 n3 c3) (.int .i64 a.d) hS3 ge14), ge14⟩
  exact AllReadyL.nil
 case rest =>
  obtain ⟨bp, b5, ao5, n5, c5, rfl, BY, hy1, hy2, hy3, hkc, hge⟩ := hcut
  have hY : NN wc (.agg #[.bool b5, .slice ao5 n5 c5, .bool b2, .slice ao2 n2 c2, .bool b3, .slice ao3 n3 c3, .int .i64 a.d]) (les a t) := ⟨_, _, _, _, _, _, _, _, _, _, _, _, rfl, hy1, hy2, hy3⟩
  have hbl := BT.lt
  replace BE := BE.keep hkc
  replace BN := BN.keep hkc
  replace BT := BT.keep hkc
  replace hT := hT.keep hkc
  replace hkw := hkw.trans' hkc
  clear hy1 hy2 hy3 BX hp hq hr hkc
  have byc := BY.cell
  go_wp2_with fail
  refine (zero_ref _ _ _ hY).mono ?_
  rintro e w2 ⟨rfl, hk2⟩
  replace BE := BE.keep hk2
  replace BN := BN.keep hk2
  replace BT := BT.keep hk2
  replace BY := BY.keep hk2
  replace hT := hT.keep hk2
  replace hY := hY.keep hk2
  replace hkw := hkw.trans' hk2
  clear byc hk2
  have btc := BT.cell
  have byc := BY.cell
  have bec := BE.cell
  have bef := BE.frozen
  have bel := BE.lt
  have bnc := BN.cell
  have bnf := BN.frozen
  have bnl := BN.lt
  by_cases hz : (les a t).p = 0 ∧ (les a t).q = 0
  ·obtain ⟨rfl, rfl⟩ := HB.out.1 hz
   rw [decide_eq_true hz]
   clear hz HB HNX
   go_wp2_with fail
   go_region
   have BE1 := (bl2 (.bool b4) (.slice ao4 n4 c4) BE)
   have BN1 := (ot2 (A := w.heap.size + 1) (.bool b4) (.slice ao4 n4 c4) BN (by omega))
   have sfA := (sf2 (E := 3) (.bool b4) (.slice ao4 n4 c4) BE (by decide)).trans (sf7 (.bool b5) (.slice ao5 n5 c5) (.bool b2) (.slice ao2 n2 c2) (.bool b3) (.slice ao3 n3 c3) (.int .i64 a.d) BN1 (by decide))
   have hkA := (kp7 (A := w.heap.size + 1 + 1) (.bool b5) (.slice ao5 n5 c5) (.bool b2) (.slice ao2 n2 c2) (.bool b3) (.slice ao3 n3 c3) (.int .i64 a.d) (kp2 (A := w.heap.size + 1) (.bool b4) (.slice ao4 n4 c4) hkw (by omega)) (by omega))
   have BE2 := (ot7 (A := w.heap.size + 1 + 1) (.bool b5) (.slice ao5 n5 c5) (.bool b2) (.slice ao2 n2 c2) (.bool b3) (.slice ao3 n3 c3) (.int .i64 a.d) BE1 (by omega))
   have BN2 := (bl7 (.bool b5) (.slice ao5 n5 c5) (.bool b2) (.slice ao2 n2 c2) (.bool b3) (.slice ao3 n3 c3) (.int .i64 a.d) BN1)
   have hT2 := hT.soft sfA
   have hY2 := hY.soft sfA
   clear BE1 BN1 sfA btc byc bec bef bel bnc bnf bnl BE BN BT BY hT hY hkw
   generalize (((((((((w2.setCell ⟨w.heap.size + 1, 0, none⟩ (.bool b4)).setCell ⟨w.heap.size + 1, 1, none⟩ (.slice ao4 n4 c4)).setCell ⟨w.heap.size + 1 + 1, 0, none⟩ (.bool b5)).setCell ⟨w.heap.size + 1 + 1, 1, none⟩ (.slice ao5 n5 c5)).setCell ⟨w.heap.size + 1 + 1, 2, none⟩ (.bool b2)).setCell ⟨w.heap.size + 1 + 1, 3, none⟩ (.slice ao2 n2 c2)).setCell ⟨w.heap.size + 1 + 1, 4, none⟩ (.bool b3)).setCell ⟨w.heap.size + 1 + 1, 5, none⟩ (.slice ao3 n3 c3)).setCell ⟨w.heap.size + 1 + 1, 6, none⟩ (.int .i64 a.d)) = wz at *
   have be2c := BE2.cell
   have bn2c := BN2.cell
   go_wp2_with fail
   refine bodyPost_ret (v := .tuple #[.agg #[.bool b4, .slice ao4 n4 c4], .agg #[.bool b5, .slice ao5 n5 c5, .bool b2, .slice ao2 n2 c2, .bool b3, .slice ao3 n3 c3, .int .i64 a.d], .bool false]) (by simp [results, Try.results19, go_sem, be2c, bn2c]) rfl ?_
   exact ⟨_, _, rfl, hT2.keep (Kp.drew' (Below.refl _ _)), hY2.keep (Kp.drew' (Below.refl _ _)), Kp.drew' hkA⟩
  ·obtain ⟨rfl, rfl⟩ := HB.out.2 hz
   rw [decide_eq_false hz]
   obtain ⟨hx1, hx2, _, _⟩ := HNX.out hz
   have HCB : Hid ((comb 47 ⟨1, 0, 1, 1⟩ (les a t)).2 = 0) := by unfold Hid; rw [hx1]
   have HCE : Hid ((comb 47 ⟨1, 0, 1, 1⟩ (les a t)).1 = nxa a t) := by unfold Hid; rw [hx1]
   have hyl0 := BY.lt
   clear hz hx1 hx2 HNX btc byc bec bef bnc bnf bnl bel HB
   go_wp2_with fail
   refine (of_any 1 _ (by decide) (by decide)).mono ?_
   rintro e w3 ⟨v7, rfl, h7, hk3⟩
   obtain ⟨b7, ao7, n7, c7, rfl⟩ := h7.shape'
   go_wp2_with fail
   refine (of_any 1 _ (by decide) (by decide)).mono ?_
   rintro e w4 ⟨v8, rfl, h8, hk4⟩
   obtain ⟨b8, ao8, n8, c8, rfl⟩ := h8.shape'
   have hk34 := (hk3.trans' hk4).alloc' (.cells #[.bool b7, .slice ao7 n7 c7, .bool false, .slice none 0 0, .bool b8, .slice ao8 n8 c8, .int .i64 1] 48)
   replace BE := BE.keep hk34
   replace BN := BN.keep hk34
   replace BT := BT.keep hk34
   replace BY := BY.keep hk34
   replace hT := hT.keep hk34
   replace hY := hY.keep hk34
   replace hkw := hkw.trans' hk34
   have ka := kp_alloc w4 (.cells #[.bool b7, .slice ao7 n7 c7, .bool false, .slice none 0 0, .bool b8, .slice ao8 n8 c8, .int .i64 1] 48)
   have BO : Blk (w4.alloc (.cells #[.bool b7, .slice ao7 n7 c7, .bool false, .slice none 0 0, .bool b8, .slice ao8 n8 c8, .int .i64 1] 48)) (w4.heap.size) #[.bool b7, .slice ao7 n7 c7, .bool false, .slice none 0 0, .bool b8, .slice ao8 n8 c8, .int .i64 1] 48 := Blk.new w4 _ _
   have hO : NN (w4.alloc (.cells #[.bool b7, .slice ao7 n7 c7, .bool false, .slice none 0 0, .bool b8, .slice ao8 n8 c8, .int .i64 1] 48)) (.agg #[.bool b7, .slice ao7 n7 c7, .bool false, .slice none 0 0, .bool b8, .slice ao8 n8 c8, .int .i64 1]) ⟨1, 0, 1, 1⟩ := ⟨_, _, _, _, _, _, _, _, _, _, _, _, rfl, (h7.keep hk4).keep ka, in_zero _, h8.keep ka⟩
   have hs4 : w2.heap.size ≤ w4.heap.size := (hk3.trans' hk4).size
   have hyl : bp < w2.heap.size := hyl0
   clear h7 h8 hk3 hk4 hk34 ka
   go_wp2_with fail
   generalize w4.alloc (.cells #[.bool b7, .slice ao7 n7 c7, .bool false, .slice none 0 0, .bool b8, .slice ao8 n8 c8, .int .i64 1] 48) = wo at *
   generalize w4.heap.size = A8 at *
   have kd : Kp wo wo.drew := Kp.drew' (Below.refl _ _)
   refine wp_region_l (S := fun w' => Blk w' (A5) #[.bool b4, .slice ao4 n4 c4] 46 ∧ Blk w' (A8) #[.bool b7, .slice ao7 n7 c7, .bool false, .slice none 0 0, .bool b8, .slice ao8 n8 c8, .int .i64 1] 48 ∧ Blk w' (bp) #[.bool b5, .slice ao5 n5 c5, .bool b2, .slice ao2 n2 c2, .bool b3, .slice ao3 n3 c3, .int .i64 a.d] 48 ∧ Kp w w') (by kernel_rfl) ⟨BT.keep kd, BO.keep kd, BY.keep kd, hkw.trans' kd⟩ (fun hS0 => ?_)
   replace BE := BE.keep kd
   replace BN := BN.keep kd
   replace hT := hT.keep kd
   replace hY := hY.keep kd
   replace hO := hO.keep kd
   clear hkw BT BO BY kd
   generalize wo.drew = wd at *
   refine wpAnyL_tk (i := 0) (k := 4) (v := .agg #[.bool b4, .slice ao4 n4 c4]) rfl ?_ hS0 ?_
   ·intro w' hw'; have hc := hw'.1.cell; go_simp
   simp only [sq]
   refine wpAnyL_tk (i := 1) (k := 3) (v := .agg #[.bool b7, .slice ao7 n7 c7, .bool false, .slice none 0 0, .bool b8, .slice ao8 n8 c8, .int .i64 1]) rfl ?_ hS0 ?_
   ·intro w' hw'; have hc := hw'.2.1.cell; go_simp
   simp only [sq]
   refine wpAnyL_tk (i := 2) (k := 3) (v := .agg #[.bool b5, .slice ao5 n5 c5, .bool b2, .slice ao2 n2 c2, .bool b3, .slice ao3 n3 c3, .int .i64 a.d]) rfl ?_ hS0 ?_
   ·intro w' hw'; have hc := hw'.2.2.1.cell; go_simp
   simp only [sq]
   refine wpAnyL_on (i := 3) rfl (fun K hK => ?_)
   go_simp
   refine (worked_any 47 ⟨1, 0, 1, 1⟩ (les a t) (m + m + 1) _ _ _ hO hY qok_one HCN.out.ok (by omega) qf_one HY.out (by omega) HCB.out).mono ?_
   rw [HCE.out]
   rintro e w5 ⟨v9, rfl, hB, hk5⟩
   generalize nxa a t = B at *
   obtain ⟨b9, ao9, n9, c9, b10, ao10, n10, c10, b11, ao11, n11, c11, rfl, _, _, _⟩ := id hB
   replace BE := BE.keep hk5
   replace BN := BN.keep hk5
   replace hT := hT.keep hk5
   go_wp2_with fail
   refine hK.out _ _ ⟨hS0.1.keep hk5, hS0.2.1.keep hk5, hS0.2.2.1.keep hk5, hS0.2.2.2.trans' hk5⟩ (fun hS1 => ?_)
   clear hK K hS0 hk5
   refine wpAnyL_on (i := 4) rfl (fun K hK => ?_)
   have bec := BE.cell
   have bef := BE.frozen
   have bel := BE.lt
   go_simp
   refine hK.out _ _ ⟨(ot2 (A := w.heap.size + 1) (.bool b4) (.slice ao4 n4 c4) hS1.1 (by omega)), (ot2 (A := w.heap.size + 1) (.bool b4) (.slice ao4 n4 c4) hS1.2.1 (by omega)), (ot2 (A := w.heap.size + 1) (.bool b4) (.slice ao4 n4 c4) hS1.2.2.1 (by omega)), (kp2 (A := w.heap.size + 1) (.bool b4) (.slice ao4 n4 c4) hS1.2.2.2 (by omega))⟩ (fun hS2 => ?_)
   clear hK K hS1
   have sf1 := (sf2 (E := 3) (.bool b4) (.slice ao4 n4 c4) BE (by decide))
   replace BN := (ot2 (A := w.heap.size + 1) (.bool b4) (.slice ao4 n4 c4) BN (by omega))
   replace BE := (bl2 (.bool b4) (.slice ao4 n4 c4) BE)
   replace hT := hT.soft sf1
   replace hB := hB.soft sf1
   clear bec bef bel sf1
   generalize ((w5.setCell ⟨w.heap.size + 1, 0, none⟩ (.bool b4)).setCell ⟨w.heap.size + 1, 1, none⟩ (.slice ao4 n4 c4)) = w6 at *
   refine wpAnyL_on (i := 5) rfl (fun K hK => ?_)
   have bnc := BN.cell
   have bnf := BN.frozen
   have bnl := BN.lt
   go_simp
   refine hK.out _ _ ⟨(ot7 (A := w.heap.size + 1 + 1) (.bool b9) (.slice ao9 n9 c9) (.bool b10) (.slice ao10 n10 c10) (.bool b11) (.slice ao11 n11 c11) (.int .i64 B.d) hS2.1 (by omega)), (ot7 (A := w.heap.size + 1 + 1) (.bool b9) (.slice ao9 n9 c9) (.bool b10) (.slice ao10 n10 c10) (.bool b11) (.slice ao11 n11 c11) (.int .i64 B.d) hS2.2.1 (by omega)), (ot7 (A := w.heap.size + 1 + 1) (.bool b9) (.slice ao9 n9 c9) (.bool b10) (.slice ao10 n10 c10) (.bool b11) (.slice ao11 n11 c11) (.int .i64 B.d) hS2.2.2.1 (by omega)), (kp7 (A := w.heap.size + 1 + 1) (.bool b9) (.slice ao9 n9 c9) (.bool b10) (.slice ao10 n10 c10) (.bool b11) (.slice ao11 n11 c11) (.int .i64 B.d) hS2.2.2.2 (by omega))⟩ (fun hS3 => ?_)
   clear hK K hS2
   have sf1 := (sf7 (E := 3) (.bool b9) (.slice ao9 n9 c9) (.bool b10) (.slice ao10 n10 c10) (.bool b11) (.slice ao11 n11 c11) (.int .i64 B.d) BN (by decide))
   replace BE := (ot7 (A := w.heap.size + 1 + 1) (.bool b9) (.slice ao9 n9 c9) (.bool b10) (.slice ao10 n10 c10) (.bool b11) (.slice ao11 n11 c11) (.int .i64 B.d) BE (by omega))
   replace BN := (bl7 (.bool b9) (.slice ao9 n9 c9) (.bool b10) (.slice ao10 n10 c10) (.bool b11) (.slice ao11 n11 c11) (.int .i64 B.d) BN)
   replace hT := hT.soft sf1
   replace hB := hB.soft sf1
   clear bnc bnf bnl sf1
   generalize (((((((w6.setCell ⟨w.heap.size + 1 + 1, 0, none⟩ (.bool b9)).setCell ⟨w.heap.size + 1 + 1, 1, none⟩ (.slice ao9 n9 c9)).setCell ⟨w.heap.size + 1 + 1, 2, none⟩ (.bool b10)).setCell ⟨w.heap.size + 1 + 1, 3, none⟩ (.slice ao10 n10 c10)).setCell ⟨w.heap.size + 1 + 1, 4, none⟩ (.bool b11)).setCell ⟨w.heap.size + 1 + 1, 5, none⟩ (.slice ao11 n11 c11)).setCell ⟨w.heap.size + 1 + 1, 6, none⟩ (.int .i64 B.d)) = w7 at *
   refine wpAnyL_last (i := 6) rfl (by kernel_rfl) (by kernel_rfl) (by kernel_rfl) (fun K hK => ?_)
   go_simp
   refine hK.out _ _ ?_
   clear hK K
   have be2c := BE.cell
   have bn2c := BN.cell
   go_wp2_with fail
   refine bodyPost_ret (v := .tuple #[.agg #[.bool b4, .slice ao4 n4 c4], .agg #[.bool b9, .slice ao9 n9 c9, .bool b10, .slice ao10 n10 c10, .bool b11, .slice ao11 n11 c11, .int .i64 B.d], .bool true]) (by simp [results, Try.results19, go_sem, be2c, bn2c]) rfl ?_
   exact ⟨_, _, rfl, hT, hB, hS3.2.2.2⟩

theorem step_ref (a : Qn) (t : Int) (m : Nat) (u : Value) (w : World) (ha : NN w u a) (hm : m ≤ 3000000) (f : QF m a) (ft : Ft m t) (oa : Cn a) (hP : ∀ x, 0 ≤ ovr a x ↔ x ≤ t) :
  Calls Try.prog 19 #[u] w (if a.p - t * a.r = 0 ∧ a.q = 0 then RetSt w t (les a t) false else RetSt w t (nxa a t) true) := by
 by_cases hz : a.p - t * a.r = 0 ∧ a.q = 0
 ·rw [if_pos hz]
  exact step_core a _ _ t m u w ha hm f ft oa hP ⟨fun _ => ⟨rfl, rfl⟩, fun h => absurd hz h⟩
 ·rw [if_neg hz]
  exact step_core a _ _ t m u w ha hm f ft oa hP ⟨fun h => absurd h hz, fun _ => ⟨rfl, rfl⟩⟩

end Go.Proofs.Ytjahbjjekednfaa
