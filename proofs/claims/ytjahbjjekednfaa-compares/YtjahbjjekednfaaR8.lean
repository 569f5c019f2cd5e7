import Derived.Test.YtjahbjjekednfaaR5
import Derived.Test.YtjahbjjekednfaaSt
import Derived.Test.YtjahbjjekednfaaMath6
namespace Go.Proofs.Ytjahbjjekednfaa
open Go.RowKit

def RetI2 (w : World) (x y : Int) (e : Ending) (w' : World) : Prop := ∃ u v, e = .returned (.tuple #[u, v]) ∧ IN w' u x ∧ IN w' v y ∧ Kp w w'

set_option maxHeartbeats 6400000 in
set_option maxRecDepth 100000 in
theorem div_rb (b1 b2 : Bool) (x y : Int) (d : Nat) (ao ao' : Option Addr) (n c n' c' : Nat) (w : World) (hx : Rb w (.slice ao n c) x) (hy : IN w (.agg #[.bool b2, .slice ao' n' c']) y) (y0 : 0 < y) (hd : d ≤ 100000000) (fx : Ft d x) (fy : Ft d y) :
  Calls Try.prog 71 #[.agg #[.bool b1, .slice ao n c], .agg #[.bool b2, .slice ao' n' c']] w (RetI2 w (x / y) (x % y)) := by
 obtain ⟨m, hm, cm, hmv⟩ := hx
 have hPx : preV m.reverse m.reverse.length = x := by rw [List.length_reverse, preV_all, hmv]
 have hDl := dig_rev cm.1
 unfold RowR at hm
 generalize m.reverse = l at *
 obtain ⟨ao0, cap0, hsl, hcap, hcap2⟩ := hm.slice
 simp only [Value.slice.injEq] at hsl
 obtain ⟨rfl, rfl, rfl⟩ := hsl
 clear cm hmv
 have HD := Hid.mk hDl
 have HPX := Hid.mk hPx
 have f10000 : Fit 10000 := ⟨5, by decide, by decide⟩
 have HPB : Hid (∀ j, j ≤ l.length → 0 ≤ preV l j ∧ preV l j ≤ x) := by
  intro j hj
  have h1 := preV_le hDl j (l.length - j)
  rw [show j + (l.length - j) = l.length by omega, hPx] at h1
  exact ⟨preV_nn hDl j, h1⟩
 clear hDl hPx
 have hk0 : Kp w _ := (Kp.alloc' (Kp.alloc' (Kp.alloc' (Kp.alloc' (Kp.alloc' (Kp.alloc' (Below.refl w.heap.size w) (.cells #[.bool b1, .slice ao l.length c] 46)) (.cells #[.bool b2, .slice ao' n' c'] 46)) (.cells #[.bool false, .slice none 0 0] 46)) (.cells #[.bool false, .slice none 0 0] 46)) (.cells #[.bool false, .slice none 0 0] 46)) (.cells #[.bool false, .slice none 0 0] 46))
 have BX0 : Blk _ (w.heap.size) #[.bool b1, .slice ao l.length c] 46 := (Blk.alloc (Blk.alloc (Blk.alloc (Blk.alloc (Blk.alloc (Blk.new w _ _) (.cells #[.bool b2, .slice ao' n' c'] 46)) (.cells #[.bool false, .slice none 0 0] 46)) (.cells #[.bool false, .slice none 0 0] 46)) (.cells #[.bool false, .slice none 0 0] 46)) (.cells #[.bool false, .slice none 0 0] 46))
 have BY0 : Blk _ (w.heap.size + 1) #[.bool b2, .slice ao' n' c'] 46 := (Blk.alloc (Blk.alloc (Blk.alloc (Blk.alloc (Blk.at (Blk.new (w.alloc (.cells #[.bool b1, .slice ao l.length c] 46)) _ _) (by simp)) (.cells #[.bool false, .slice none 0 0] 46)) (.cells #[.bool false, .slice none 0 0] 46)) (.cells #[.bool false, .slice none 0 0] 46)) (.cells #[.bool false, .slice none 0 0] 46))
 have B10 : Blk _ (w.heap.size + 1 + 1) #[.bool false, .slice none 0 0] 46 := (Blk.alloc (Blk.alloc (Blk.alloc (Blk.at (Blk.new ((w.alloc (.cells #[.bool b1, .slice ao l.length c] 46)).alloc (.cells #[.bool b2, .slice ao' n' c'] 46)) _ _) (by simp)) (.cells #[.bool false, .slice none 0 0] 46)) (.cells #[.bool false, .slice none 0 0] 46)) (.cells #[.bool false, .slice none 0 0] 46))
 have B20 : Blk _ (w.heap.size + 1 + 1 + 1) #[.bool false, .slice none 0 0] 46 := (Blk.alloc (Blk.alloc (Blk.at (Blk.new (((w.alloc (.cells #[.bool b1, .slice ao l.length c] 46)).alloc (.cells #[.bool b2, .slice ao' n' c'] 46)).alloc (.cells #[.bool false, .slice none 0 0] 46)) _ _) (by simp)) (.cells #[.bool false, .slice none 0 0] 46)) (.cells #[.bool false, .slice none 0 0] 46))
 have BQ0 : Blk _ (w.heap.size + 1 + 1 + 1 + 1) #[.bool false, .slice none 0 0] 46 := (Blk.alloc (Blk.at (Blk.new ((((w.alloc (.cells #[.bool b1, .slice ao l.length c] 46)).alloc (.cells #[.bool b2, .slice ao' n' c'] 46)).alloc (.cells #[.bool false, .slice none 0 0] 46)).alloc (.cells #[.bool false, .slice none 0 0] 46)) _ _) (by simp)) (.cells #[.bool false, .slice none 0 0] 46))
 have BR0 : Blk _ (w.heap.size + 1 + 1 + 1 + 1 + 1) #[.bool false, .slice none 0 0] 46 := (Blk.at (Blk.new (((((w.alloc (.cells #[.bool b1, .slice ao l.length c] 46)).alloc (.cells #[.bool b2, .slice ao' n' c'] 46)).alloc (.cells #[.bool false, .slice none 0 0] 46)).alloc (.cells #[.bool false, .slice none 0 0] 46)).alloc (.cells #[.bool false, .slice none 0 0] 46)) _ _) (by simp))
 go_enter Try.func71, Try.ntmps71
 go_wp2_with fail
 go_loopw [8, 9, 10, 11, 12] (fun i _ _ _ _ wr => ∃ (j : Nat) (bq : Bool) (aoq : Option Addr) (nq cq : Nat) (br : Bool) (aor : Option Addr) (nr cr : Nat), j ≤ l.length ∧ i = .int .i64 j ∧
   Blk wr (w.heap.size) #[.bool b1, .slice ao l.length c] 46 ∧ Blk wr (w.heap.size + 1) #[.bool b2, .slice ao' n' c'] 46 ∧ Blk wr (w.heap.size + 1 + 1) #[.bool false, .slice none 0 0] 46 ∧ Blk wr (w.heap.size + 1 + 1 + 1) #[.bool false, .slice none 0 0] 46 ∧
   Blk wr (w.heap.size + 1 + 1 + 1 + 1) #[.bool bq, .slice aoq nq cq] 46 ∧ Blk wr (w.heap.size + 1 + 1 + 1 + 1 + 1) #[.bool br, .slice aor nr cr] 46 ∧
   IN wr (.agg #[.bool bq, .slice aoq nq cq]) (preV l j / y) ∧ IN wr (.agg #[.bool br, .slice aor nr cr]) (preV l j % y) ∧ Kp w wr)
  (fun i _ _ _ _ _ => l.length - (intOf i).toNat)
 case atStart => exact ⟨0, false, none, 0, 0, false, none, 0, 0, by omega, rfl, BX0, BY0, B10, B20, BQ0, BR0, by simp only [preV, Int.zero_ediv]; exact in_zero _, by simp only [preV, Int.zero_emod]; exact in_zero _, hk0⟩
 case round =>
  clear BX0 BY0 B10 B20 BQ0 BR0 hk0
  obtain ⟨j, bq, aoq, nq, cq, br, aor, nr, cr, hj, rfl, BX, BY, B1, B2, BQ, BR, HQr, HRr, hkr⟩ := hrel
  have bxc := BX.cell
  have bxl := BX.lt
  obtain ⟨hP0, hP1⟩ := HPB.out j hj
  have hRn : 0 ≤ preV l j % y := Int.emod_nonneg _ (by omega)
  have hRy : preV l j % y < y := Int.emod_lt_of_pos _ y0
  have fR : Ft d (preV l j % y) := fy.le (by omega)
  have fR0 : Fit (preV l j % y) := fR.fit (by omega)
  have hcr := bxc
  by_cases h1 : j < l.length
  ·obtain ⟨hd0, hd1'⟩ := HD.out j
   have hd1 : at0 l j ≤ 9223372036854775807 := by omega
   have fd : Fit (at0 l j) := ⟨4, by decide, by omega⟩
   have f5 : Ft 5 10000 := by unfold Ft; decide
   have fR1t : Ft (d + 5) (preV l j % y * 10000) := fR.mul f5
   have fR1 : Fit (preV l j % y * 10000) := fR1t.fit (by omega)
   obtain ⟨ao1, cap1, bb, off, hsl, _, _, _, hh5, hh6⟩ := id hm
   simp only [Value.slice.injEq] at hsl
   obtain ⟨rfl, _, rfl⟩ := hsl
   have ha := (hh5 (by omega)).1
   have hel := (hh5 (by omega)).2
   subst ha
   have hcell0 := hh6 j h1
   have hcell : ∀ w', Kp wr w' → w'.cell? ⟨bb, off + j, none⟩ = some (.int .i64 (at0 l j)) := by
    intro w' hk'
    rw [World.cell?_of_block (w := w) ((hkr.trans' hk').block bb (elemOf_lt hel))]
    exact hcell0
   have hji : (j : Int) < (l.length : Int) := by omega
   have hj0 : (0 : Int) ≤ (j : Int) := by omega
   clear hh5 hh6 hcell0 HD HPB
   go_wp2_with fail
   refine wp_region_l (S := fun w' => Kp wr w') (by kernel_rfl) (Kp.drew' (Below.refl _ _)) (fun hS0 => ?_)
   refine wpAnyL_take (i := 0) (k := 2) (oi := _) (v := .agg #[.bool br, .slice aor nr cr]) rfl (by kernel_rfl) (by kernel_rfl) (by kernel_rfl) (by kernel_rfl) (fun _ _ _ h => h) (Or.inl ⟨by rfl, ?_⟩) hS0 ?_
   ·intro w' hw'; have hc := ((BR).keep hw').cell; go_simp
   simp only [sq]
   refine wpAnyL_take (i := 3) (k := 4) (oi := _) (v := .pointer (some ⟨w.heap.size, 1, none⟩)) rfl (by kernel_rfl) (by kernel_rfl) (by kernel_rfl) (by kernel_rfl) (fun _ _ _ h => h) (Or.inl ⟨by rfl, ?_⟩) hS0 ?_
   ·intro w' hw'; go_simp
   simp only [sq]
   refine wpAnyL_take (i := 4) (k := 6) (oi := _) (v := .slice (some ⟨bb, off, none⟩) l.length c) rfl (by kernel_rfl) (by kernel_rfl) (by kernel_rfl) (by kernel_rfl) (fun _ _ _ h => h) (Or.inl ⟨by rfl, ?_⟩) hS0 ?_
   ·intro w' hw'; have hc := ((BX).keep hw').cell; go_simp
   simp only [sq]
   refine wpAnyL_take (i := 5) (k := 6) (oi := _) (v := .int .i64 j) rfl (by kernel_rfl) (by kernel_rfl) (by kernel_rfl) (by kernel_rfl) (fun _ _ _ h => h) (Or.inl ⟨by rfl, ?_⟩) hS0 ?_
   ·intro w' hw'; go_simp
   simp only [sq]
   refine wpAnyL_take (i := 6) (k := 7) (oi := _) (v := .pointer (some ⟨bb, off + j, none⟩)) rfl (by kernel_rfl) (by kernel_rfl) (by kernel_rfl) (by kernel_rfl) (fun _ _ _ h => h) (Or.inl ⟨by rfl, ?_⟩) hS0 ?_
   ·intro w' hw'; go_simp
   simp only [sq]
   refine wpAnyL_take (i := 7) (k := 8) (oi := _) (v := .int .i64 (at0 l j)) rfl (by kernel_rfl) (by kernel_rfl) (by kernel_rfl) (by kernel_rfl) (fun _ _ _ h => h) (Or.inl ⟨by rfl, ?_⟩) hS0 ?_
   ·intro w' hw'; have hcx := hcell w' hw'; go_simp
   simp only [sq]
   refine wpAnyL_one (i := 1) (o := _) rfl (by kernel_rfl) (fun K hK => ?_)
   go_simp
   refine (of_any 10000 _ (by decide) (by decide)).mono ?_
   rintro e w11 ⟨v11, rfl, hv11, hk11⟩
   obtain ⟨b11, ao11, n11, c11, rfl⟩ := hv11.shape'
   go_wp2_with fail
   refine hK.out _ _ (hS0.trans' hk11) (fun hS1 => ?_)
   clear hK K
   try simp only [sq]
   refine wpAnyL_one (i := 2) (o := _) rfl (by kernel_rfl) (fun K hK => ?_)
   go_simp
   refine (rtimes_any (preV l j % y) 10000 _ _ _ (HRr.keep hS1) hv11 fR0 f10000).mono ?_
   rintro e w12 ⟨v12, rfl, hv12, hk12⟩
   obtain ⟨b12, ao12, n12, c12, rfl⟩ := hv12.shape'
   go_wp2_with fail
   refine hK.out _ _ (hS1.trans' hk12) (fun hS2 => ?_)
   clear hK K
   try simp only [sq]
   refine wpAnyL_one (i := 8) (o := _) rfl (by kernel_rfl) (fun K hK => ?_)
   go_simp
   refine (of_any (at0 l j) _ hd0 hd1).mono ?_
   rintro e w13 ⟨v13, rfl, hv13, hk13⟩
   obtain ⟨b13, ao13, n13, c13, rfl⟩ := hv13.shape'
   go_wp2_with fail
   refine hK.out _ _ (hS2.trans' hk13) (fun hS3 => ?_)
   clear hK K
   try simp only [sq]
   refine wpAnyL_one (i := 9) (o := _) rfl (by kernel_rfl) (fun K hK => ?_)
   go_simp
   refine (rplus_any (preV l j % y * 10000) (at0 l j) _ _ _ (hv12.keep hk13) hv13 fR1 fd).mono ?_
   rintro e w14 ⟨v14, rfl, hv14, hk14⟩
   obtain ⟨b14, ao14, n14, c14, rfl⟩ := hv14.shape'
   go_wp2_with fail
   refine hK.out _ _ (hS3.trans' hk14) (fun hS4 => ?_)
   clear hK K
   try simp only [sq]
   have BR4 := BR.keep hS4
   have br4c := BR4.cell
   have br4f := BR4.frozen
   have br4l := BR4.lt
   refine wpAnyL_last (i := 10) (o := _) rfl (by kernel_rfl) (by kernel_rfl) (by kernel_rfl) (fun K hK => ?_)
   go_simp
   refine hK.out _ _ ?_
   clear hK K
   have T0 := BR.keep hS4
   have sfS : Sf 3 w14 ((w14.setCell ⟨w.heap.size + 1 + 1 + 1 + 1 + 1, 0, none⟩ (.bool b14)).setCell ⟨w.heap.size + 1 + 1 + 1 + 1 + 1, 1, none⟩ (.slice ao14 n14 c14)) := Sf.set (t := 46) (Sf.set (t := 46) (Sf.refl _ w14) T0.elem (by decide)) (by simp only [elemOf_setCell]; exact T0.elem) (by decide)
   replace BX := Blk.other (c := w.heap.size + 1 + 1 + 1 + 1 + 1) (o := 1) (y := .slice ao14 n14 c14) (Blk.other (c := w.heap.size + 1 + 1 + 1 + 1 + 1) (o := 0) (y := .bool b14) (BX.keep hS4) (by omega)) (by omega)
   replace BY := Blk.other (c := w.heap.size + 1 + 1 + 1 + 1 + 1) (o := 1) (y := .slice ao14 n14 c14) (Blk.other (c := w.heap.size + 1 + 1 + 1 + 1 + 1) (o := 0) (y := .bool b14) (BY.keep hS4) (by omega)) (by omega)
   replace B1 := Blk.other (c := w.heap.size + 1 + 1 + 1 + 1 + 1) (o := 1) (y := .slice ao14 n14 c14) (Blk.other (c := w.heap.size + 1 + 1 + 1 + 1 + 1) (o := 0) (y := .bool b14) (B1.keep hS4) (by omega)) (by omega)
   replace B2 := Blk.other (c := w.heap.size + 1 + 1 + 1 + 1 + 1) (o := 1) (y := .slice ao14 n14 c14) (Blk.other (c := w.heap.size + 1 + 1 + 1 + 1 + 1) (o := 0) (y := .bool b14) (B2.keep hS4) (by omega)) (by omega)
   replace BQ := Blk.other (c := w.heap.size + 1 + 1 + 1 + 1 + 1) (o := 1) (y := .slice ao14 n14 c14) (Blk.other (c := w.heap.size + 1 + 1 + 1 + 1 + 1) (o := 0) (y := .bool b14) (BQ.keep hS4) (by omega)) (by omega)
   replace BR := Blk.set (o := 1) (y := .slice ao14 n14 c14) (Blk.set (o := 0) (y := .bool b14) T0)
   replace HQr := (HQr.keep hS4).soft sfS
   replace hv14 := hv14.soft sfS
   replace hkr : Kp w ((w14.setCell ⟨w.heap.size + 1 + 1 + 1 + 1 + 1, 0, none⟩ (.bool b14)).setCell ⟨w.heap.size + 1 + 1 + 1 + 1 + 1, 1, none⟩ (.slice ao14 n14 c14)) := Below.setCell (Below.setCell (hkr.trans' hS4) (p := ⟨w.heap.size + 1 + 1 + 1 + 1 + 1, 0, none⟩) (by show w.heap.size ≤ w.heap.size + 1 + 1 + 1 + 1 + 1; omega) (.bool b14)) (p := ⟨w.heap.size + 1 + 1 + 1 + 1 + 1, 1, none⟩) (by show w.heap.size ≤ w.heap.size + 1 + 1 + 1 + 1 + 1; omega) (.slice ao14 n14 c14)
   clear hS0 hS1 hS2 hS3 hS4 BR4 br4c br4f br4l hv11 hv12 hv13 hk11 hk12 hk13 hk14 HRr hcell bxc bxl hcr hm hel
   generalize ((w14.setCell ⟨w.heap.size + 1 + 1 + 1 + 1 + 1, 0, none⟩ (.bool b14)).setCell ⟨w.heap.size + 1 + 1 + 1 + 1 + 1, 1, none⟩ (.slice ao14 n14 c14)) = w5 at *
   simp only [List.setIfInBounds_toArray, List.set_cons_zero, List.set_cons_succ] at BR
   generalize hRR : preV l j % y * 10000 + at0 l j = R at *
   have hyR0 : 0 ≤ R := by omega
   have hyR1 : R < y * 10000 := by omega
   have fRR : Fit R := by rw [← hRR]; exact (Ft.add fR1t (show Ft (d + 5) (at0 l j) from (show Ft 4 (at0 l j) by unfold Ft; omega).mono (by omega))).fit (by omega)
   have HYw : IN w5 (.agg #[.bool b2, .slice ao' n' c']) y := hy.keep hkr
   have fY : Fit y := fy.fit (by omega)
   have HX := Hid.mk hyR0
   clear T0 sfS
   go_wp2_with fail
   go_loopw [9, 10, 11, 12] (fun lo hi _ _ wq => ∃ a b : Int, lo = .int .i64 a ∧ hi = .int .i64 b ∧ 0 ≤ a ∧ a < b ∧ b ≤ 10000 ∧ Hid (y * a ≤ R ∧ R < y * b) ∧ Kp w5 wq)
    (fun lo hi _ _ _ => (intOf hi - intOf lo).toNat)
   case atStart => exact ⟨0, 10000, rfl, rfl, by decide, by decide, by decide, ⟨by rw [Int.mul_zero]; exact HX.out, hyR1⟩, Below.refl _ _⟩
   case round =>
    obtain ⟨a, b, rfl, rfl, ha0, hab, hb0, hin, hkq⟩ := hrel
    have hkw := hkr.trans' hkq
    replace BX := BX.keep hkq
    replace BY := BY.keep hkq
    replace B1 := B1.keep hkq
    replace B2 := B2.keep hkq
    replace BQ := BQ.keep hkq
    replace BR := BR.keep hkq
    replace hv14 := hv14.keep hkq
    replace HQr := HQr.keep hkq
    have HYq := HYw.keep hkq
    have fa : Fit a := ⟨5, by decide, by omega⟩
    clear hkr HYw hyR0 hyR1
    have hkr := hkw
    clear hkw
    by_cases h2 : 1 < b - a
    ·have hm0 : 0 ≤ (a + b) / 2 := by omega
     have htd : (a + b).tdiv 2 = (a + b) / 2 := by rw [Int.tdiv_eq_ediv_of_nonneg (by omega)]
     have hm1 : a < (a + b) / 2 := by omega
     have hm2 : (a + b) / 2 < b := by omega
     generalize hmm : (a + b) / 2 = m at *
     have fm : Fit m := ⟨5, by decide, by omega⟩
     have fYm : Fit (y * m) := (fy.mul (show Ft 5 m by unfold Ft; omega)).fit (by omega)
     clear hmm
     go_wp2_with fail
     refine wp_region_l (S := fun w' => Kp wr w') (by kernel_rfl) (Kp.drew' (Below.refl _ _)) (fun hS0 => ?_)
     refine wpAnyL_take (i := 0) (k := 3) (oi := _) (v := .agg #[.bool b2, .slice ao' n' c']) rfl (by kernel_rfl) (by kernel_rfl) (by kernel_rfl) (by kernel_rfl) (fun _ _ _ h => h) (Or.inl ⟨by rfl, ?_⟩) hS0 ?_
     ·intro w' hw'; have hc := ((BY).keep hw').cell; go_simp
     simp only [sq]
     refine wpAnyL_take (i := 1) (k := 2) (oi := _) (v := .int .i64 m) rfl (by kernel_rfl) (by kernel_rfl) (by kernel_rfl) (by kernel_rfl) (fun _ _ _ h => h) (Or.inl ⟨by rfl, ?_⟩) hS0 ?_
     ·intro w' hw'; go_simp
     simp only [sq]
     refine wpAnyL_take (i := 4) (k := 5) (oi := _) (v := .agg #[.bool b14, .slice ao14 n14 c14]) rfl (by kernel_rfl) (by kernel_rfl) (by kernel_rfl) (by kernel_rfl) (fun _ _ _ h => h) (Or.inl ⟨by rfl, ?_⟩) hS0 ?_
     ·intro w' hw'; have hc := ((BR).keep hw').cell; go_simp
     simp only [sq]
     refine wpAnyL_one (i := 2) (o := _) rfl (by kernel_rfl) (fun K hK => ?_)
     go_simp
     refine (of_any m _ (by omega) (by omega)).mono ?_
     rintro e w21 ⟨v21, rfl, hv21, hk21⟩
     obtain ⟨b21, ao21, n21, c21, rfl⟩ := hv21.shape'
     go_wp2_with fail
     refine hK.out _ _ (hS0.trans' hk21) (fun hS1 => ?_)
     clear hK K
     try simp only [sq]
     refine wpAnyL_one (i := 3) (o := _) rfl (by kernel_rfl) (fun K hK => ?_)
     go_simp
     refine (rtimes_any y m _ _ _ (HYq.keep hS1) hv21 fY fm).mono ?_
     rintro e w22 ⟨v22, rfl, hv22, hk22⟩
     obtain ⟨b22, ao22, n22, c22, rfl⟩ := hv22.shape'
     go_wp2_with fail
     refine hK.out _ _ (hS1.trans' hk22) (fun hS2 => ?_)
     clear hK K
     try simp only [sq]
     refine wpAnyL_one (i := 5) (o := _) rfl (by kernel_rfl) (fun K hK => ?_)
     go_simp
     refine (rcmp_any (y * m) R _ _ _ hv22 (hv14.keep hS2) fYm fRR).mono ?_
     rintro e w23 ⟨rfl, hk23⟩
     go_wp2_with fail
     refine hK.out _ _ (hS2.trans' hk23) (fun hS3 => ?_)
     clear hK K
     try simp only [sq]
     refine wpAnyL_last (i := 6) (o := _) rfl (by kernel_rfl) (by kernel_rfl) (by kernel_rfl) (fun K hK => ?_)
     go_simp
     refine hK.out _ _ ?_
     clear hK K
     have HIN := hin.out
     by_cases h3 : y * m ≤ R
     ·have hsg : (y * m - R).sign ≤ 0 := by
       rcases Int.lt_trichotomy (y * m - R) 0 with h5 | h5 | h5
       ·rw [Int.sign_eq_neg_one_of_neg h5]; decide
       ·rw [h5]; decide
       ·omega
      have HNX : Hid (y * m ≤ R ∧ R < y * b) := ⟨h3, HIN.2⟩
      clear h3 HIN hin
      generalize (y * m - R).sign = sg at *
      go_wp2_with fail
      go_roundw
      case rel => exact ⟨m, b, rfl, rfl, by omega, by omega, by omega, HNX, hkq.trans' hS3⟩
      case measure => simp [intOf]; omega
     ·have hsg : ¬ (y * m - R).sign ≤ 0 := by
       rw [Int.sign_eq_one_of_pos (by omega)]; decide
      have HNX : Hid (y * a ≤ R ∧ R < y * m) := ⟨HIN.1, by omega⟩
      clear h3 HIN hin
      generalize (y * m - R).sign = sg at *
      go_wp2_with fail
      go_roundw
      case rel => exact ⟨a, m, rfl, rfl, by omega, by omega, by omega, HNX, hkq.trans' hS3⟩
      case measure => simp [intOf]; omega
    ·have hb1 : b = a + 1 := by omega
     subst hb1
     have HIN := hin.out
     rw [← hRR] at HIN
     have HDN := Hid.mk (div_next y0 HIN.1 HIN.2)
     rw [hRR] at HDN
     have fYa : Fit (y * a) := (fy.mul (show Ft 5 a by unfold Ft; omega)).fit (by omega)
     have hQ0 : 0 ≤ preV l j / y := Int.ediv_nonneg hP0 (by omega)
     have hQ1 : preV l j / y ≤ preV l j := Int.ediv_le_self _ hP0
     have fQt : Ft d (preV l j / y) := fx.le (by omega)
     have fQ : Fit (preV l j / y) := fQt.fit (by omega)
     have fQ1 : Fit (preV l j / y * 10000) := (fQt.mul f5).fit (by omega)
     clear HIN hin hkq
     go_wp2_with fail
     refine wp_region_l (S := fun w' => Kp wr w') (by kernel_rfl) (Kp.drew' (Below.refl _ _)) (fun hS0 => ?_)
     refine wpAnyL_take (i := 0) (k := 5) (oi := _) (v := .agg #[.bool b14, .slice ao14 n14 c14]) rfl (by kernel_rfl) (by kernel_rfl) (by kernel_rfl) (by kernel_rfl) (fun _ _ _ h => h) (Or.inl ⟨by rfl, ?_⟩) hS0 ?_
     ·intro w' hw'; have hc := ((BR).keep hw').cell; go_simp
     simp only [sq]
     refine wpAnyL_take (i := 1) (k := 4) (oi := _) (v := .agg #[.bool b2, .slice ao' n' c']) rfl (by kernel_rfl) (by kernel_rfl) (by kernel_rfl) (by kernel_rfl) (fun _ _ _ h => h) (Or.inl ⟨by rfl, ?_⟩) hS0 ?_
     ·intro w' hw'; have hc := ((BY).keep hw').cell; go_simp
     simp only [sq]
     refine wpAnyL_take (i := 2) (k := 3) (oi := _) (v := .int .i64 a) rfl (by kernel_rfl) (by kernel_rfl) (by kernel_rfl) (by kernel_rfl) (fun _ _ _ h => h) (Or.inl ⟨by rfl, ?_⟩) hS0 ?_
     ·intro w' hw'; go_simp
     simp only [sq]
     refine wpAnyL_one (i := 3) (o := _) rfl (by kernel_rfl) (fun K hK => ?_)
     go_simp
     refine (of_any a _ (by omega) (by omega)).mono ?_
     rintro e w31 ⟨v31, rfl, hv31, hk31⟩
     obtain ⟨b31, ao31, n31, c31, rfl⟩ := hv31.shape'
     go_wp2_with fail
     refine hK.out _ _ (hS0.trans' hk31) (fun hS1 => ?_)
     clear hK K
     try simp only [sq]
     refine wpAnyL_one (i := 4) (o := _) rfl (by kernel_rfl) (fun K hK => ?_)
     go_simp
     refine (rtimes_any y a _ _ _ (HYq.keep hS1) hv31 fY fa).mono ?_
     rintro e w32 ⟨v32, rfl, hv32, hk32⟩
     obtain ⟨b32, ao32, n32, c32, rfl⟩ := hv32.shape'
     go_wp2_with fail
     refine hK.out _ _ (hS1.trans' hk32) (fun hS2 => ?_)
     clear hK K
     try simp only [sq]
     refine wpAnyL_one (i := 5) (o := _) rfl (by kernel_rfl) (fun K hK => ?_)
     go_simp
     refine (rminus_any R (y * a) _ _ _ (hv14.keep hS2) hv32 fRR fYa).mono ?_
     rintro e w33 ⟨v33, rfl, hv33, hk33⟩
     obtain ⟨b33, ao33, n33, c33, rfl⟩ := hv33.shape'
     go_wp2_with fail
     refine hK.out _ _ (hS2.trans' hk33) (fun hS3 => ?_)
     clear hK K
     try simp only [sq]
     have BR4 := BR.keep hS3
     have br4c := BR4.cell
     have br4f := BR4.frozen
     have br4l := BR4.lt
     refine wpAnyL_last (i := 6) (o := _) rfl (by kernel_rfl) (by kernel_rfl) (by kernel_rfl) (fun K hK => ?_)
     go_simp
     refine hK.out _ _ ?_
     clear hK K
     have T0 := BR.keep hS3
     have sfS : Sf 3 w33 ((w33.setCell ⟨w.heap.size + 1 + 1 + 1 + 1 + 1, 0, none⟩ (.bool b33)).setCell ⟨w.heap.size + 1 + 1 + 1 + 1 + 1, 1, none⟩ (.slice ao33 n33 c33)) := Sf.set (t := 46) (Sf.set (t := 46) (Sf.refl _ w33) T0.elem (by decide)) (by simp only [elemOf_setCell]; exact T0.elem) (by decide)
     replace BX := Blk.other (c := w.heap.size + 1 + 1 + 1 + 1 + 1) (o := 1) (y := .slice ao33 n33 c33) (Blk.other (c := w.heap.size + 1 + 1 + 1 + 1 + 1) (o := 0) (y := .bool b33) (BX.keep hS3) (by omega)) (by omega)
     replace BY := Blk.other (c := w.heap.size + 1 + 1 + 1 + 1 + 1) (o := 1) (y := .slice ao33 n33 c33) (Blk.other (c := w.heap.size + 1 + 1 + 1 + 1 + 1) (o := 0) (y := .bool b33) (BY.keep hS3) (by omega)) (by omega)
     replace B1 := Blk.other (c := w.heap.size + 1 + 1 + 1 + 1 + 1) (o := 1) (y := .slice ao33 n33 c33) (Blk.other (c := w.heap.size + 1 + 1 + 1 + 1 + 1) (o := 0) (y := .bool b33) (B1.keep hS3) (by omega)) (by omega)
     replace B2 := Blk.other (c := w.heap.size + 1 + 1 + 1 + 1 + 1) (o := 1) (y := .slice ao33 n33 c33) (Blk.other (c := w.heap.size + 1 + 1 + 1 + 1 + 1) (o := 0) (y := .bool b33) (B2.keep hS3) (by omega)) (by omega)
     replace BQ := Blk.other (c := w.heap.size + 1 + 1 + 1 + 1 + 1) (o := 1) (y := .slice ao33 n33 c33) (Blk.other (c := w.heap.size + 1 + 1 + 1 + 1 + 1) (o := 0) (y := .bool b33) (BQ.keep hS3) (by omega)) (by omega)
     replace BR := Blk.set (o := 1) (y := .slice ao33 n33 c33) (Blk.set (o := 0) (y := .bool b33) T0)
     replace HQr := (HQr.keep hS3).soft sfS
     replace hv33 := hv33.soft sfS
     replace hkr : Kp w ((w33.setCell ⟨w.heap.size + 1 + 1 + 1 + 1 + 1, 0, none⟩ (.bool b33)).setCell ⟨w.heap.size + 1 + 1 + 1 + 1 + 1, 1, none⟩ (.slice ao33 n33 c33)) := Below.setCell (Below.setCell (hkr.trans' hS3) (p := ⟨w.heap.size + 1 + 1 + 1 + 1 + 1, 0, none⟩) (by show w.heap.size ≤ w.heap.size + 1 + 1 + 1 + 1 + 1; omega) (.bool b33)) (p := ⟨w.heap.size + 1 + 1 + 1 + 1 + 1, 1, none⟩) (by show w.heap.size ≤ w.heap.size + 1 + 1 + 1 + 1 + 1; omega) (.slice ao33 n33 c33)
     clear hS0 hS1 hS2 hS3 BR4 br4c br4f br4l hv31 hv32 hk31 hk32 hk33 hv14 HYq
     generalize ((w33.setCell ⟨w.heap.size + 1 + 1 + 1 + 1 + 1, 0, none⟩ (.bool b33)).setCell ⟨w.heap.size + 1 + 1 + 1 + 1 + 1, 1, none⟩ (.slice ao33 n33 c33)) = w6 at *
     simp only [List.setIfInBounds_toArray, List.set_cons_zero, List.set_cons_succ] at BR
     clear T0 sfS
     go_wp2_with fail
     refine wp_region_l (S := fun w' => Kp w6 w') (by kernel_rfl) (Kp.drew' (Below.refl _ _)) (fun hS0 => ?_)
     refine wpAnyL_take (i := 0) (k := 2) (oi := _) (v := .agg #[.bool bq, .slice aoq nq cq]) rfl (by kernel_rfl) (by kernel_rfl) (by kernel_rfl) (by kernel_rfl) (fun _ _ _ h => h) (Or.inl ⟨by rfl, ?_⟩) hS0 ?_
     ·intro w' hw'; have hc := ((BQ).keep hw').cell; go_simp
     simp only [sq]
     refine wpAnyL_take (i := 3) (k := 4) (oi := _) (v := .int .i64 a) rfl (by kernel_rfl) (by kernel_rfl) (by kernel_rfl) (by kernel_rfl) (fun _ _ _ h => h) (Or.inl ⟨by rfl, ?_⟩) hS0 ?_
     ·intro w' hw'; go_simp
     simp only [sq]
     refine wpAnyL_one (i := 1) (o := _) rfl (by kernel_rfl) (fun K hK => ?_)
     go_simp
     refine (of_any 10000 _ (by decide) (by decide)).mono ?_
     rintro e w41 ⟨v41, rfl, hv41, hk41⟩
     obtain ⟨b41, ao41, n41, c41, rfl⟩ := hv41.shape'
     go_wp2_with fail
     refine hK.out _ _ (hS0.trans' hk41) (fun hS1 => ?_)
     clear hK K
     try simp only [sq]
     refine wpAnyL_one (i := 2) (o := _) rfl (by kernel_rfl) (fun K hK => ?_)
     go_simp
     refine (rtimes_any (preV l j / y) 10000 _ _ _ (HQr.keep hS1) hv41 fQ f10000).mono ?_
     rintro e w42 ⟨v42, rfl, hv42, hk42⟩
     obtain ⟨b42, ao42, n42, c42, rfl⟩ := hv42.shape'
     go_wp2_with fail
     refine hK.out _ _ (hS1.trans' hk42) (fun hS2 => ?_)
     clear hK K
     try simp only [sq]
     refine wpAnyL_one (i := 4) (o := _) rfl (by kernel_rfl) (fun K hK => ?_)
     go_simp
     refine (of_any a _ (by omega) (by omega)).mono ?_
     rintro e w43 ⟨v43, rfl, hv43, hk43⟩
     obtain ⟨b43, ao43, n43, c43, rfl⟩ := hv43.shape'
     go_wp2_with fail
     refine hK.out _ _ (hS2.trans' hk43) (fun hS3 => ?_)
     clear hK K
     try simp only [sq]
     refine wpAnyL_one (i := 5) (o := _) rfl (by kernel_rfl) (fun K hK => ?_)
     go_simp
     refine (rplus_any (preV l j / y * 10000) a _ _ _ (hv42.keep hk43) hv43 fQ1 fa).mono ?_
     rintro e w44 ⟨v44, rfl, hv44, hk44⟩
     obtain ⟨b44, ao44, n44, c44, rfl⟩ := hv44.shape'
     go_wp2_with fail
     refine hK.out _ _ (hS3.trans' hk44) (fun hS4 => ?_)
     clear hK K
     try simp only [sq]
     have BQ4 := BQ.keep hS4
     have bq4c := BQ4.cell
     have bq4f := BQ4.frozen
     have bq4l := BQ4.lt
     refine wpAnyL_last (i := 6) (o := _) rfl (by kernel_rfl) (by kernel_rfl) (by kernel_rfl) (fun K hK => ?_)
     go_simp
     refine hK.out _ _ ?_
     clear hK K
     have T0 := BQ.keep hS4
     have sfS : Sf 3 w44 ((w44.setCell ⟨w.heap.size + 1 + 1 + 1 + 1, 0, none⟩ (.bool b44)).setCell ⟨w.heap.size + 1 + 1 + 1 + 1, 1, none⟩ (.slice ao44 n44 c44)) := Sf.set (t := 46) (Sf.set (t := 46) (Sf.refl _ w44) T0.elem (by decide)) (by simp only [elemOf_setCell]; exact T0.elem) (by decide)
     replace BX := Blk.other (c := w.heap.size + 1 + 1 + 1 + 1) (o := 1) (y := .slice ao44 n44 c44) (Blk.other (c := w.heap.size + 1 + 1 + 1 + 1) (o := 0) (y := .bool b44) (BX.keep hS4) (by omega)) (by omega)
     replace BY := Blk.other (c := w.heap.size + 1 + 1 + 1 + 1) (o := 1) (y := .slice ao44 n44 c44) (Blk.other (c := w.heap.size + 1 + 1 + 1 + 1) (o := 0) (y := .bool b44) (BY.keep hS4) (by omega)) (by omega)
     replace B1 := Blk.other (c := w.heap.size + 1 + 1 + 1 + 1) (o := 1) (y := .slice ao44 n44 c44) (Blk.other (c := w.heap.size + 1 + 1 + 1 + 1) (o := 0) (y := .bool b44) (B1.keep hS4) (by omega)) (by omega)
     replace B2 := Blk.other (c := w.heap.size + 1 + 1 + 1 + 1) (o := 1) (y := .slice ao44 n44 c44) (Blk.other (c := w.heap.size + 1 + 1 + 1 + 1) (o := 0) (y := .bool b44) (B2.keep hS4) (by omega)) (by omega)
     replace BQ := Blk.set (o := 1) (y := .slice ao44 n44 c44) (Blk.set (o := 0) (y := .bool b44) T0)
     replace BR := Blk.other (c := w.heap.size + 1 + 1 + 1 + 1) (o := 1) (y := .slice ao44 n44 c44) (Blk.other (c := w.heap.size + 1 + 1 + 1 + 1) (o := 0) (y := .bool b44) (BR.keep hS4) (by omega)) (by omega)
     replace hv33 := (hv33.keep hS4).soft sfS
     replace hv44 := hv44.soft sfS
     replace hkr : Kp w ((w44.setCell ⟨w.heap.size + 1 + 1 + 1 + 1, 0, none⟩ (.bool b44)).setCell ⟨w.heap.size + 1 + 1 + 1 + 1, 1, none⟩ (.slice ao44 n44 c44)) := Below.setCell (Below.setCell (hkr.trans' hS4) (p := ⟨w.heap.size + 1 + 1 + 1 + 1, 0, none⟩) (by show w.heap.size ≤ w.heap.size + 1 + 1 + 1 + 1; omega) (.bool b44)) (p := ⟨w.heap.size + 1 + 1 + 1 + 1, 1, none⟩) (by show w.heap.size ≤ w.heap.size + 1 + 1 + 1 + 1; omega) (.slice ao44 n44 c44)
     clear hS0 hS1 hS2 hS3 hS4 BQ4 bq4c bq4f bq4l hv41 hv42 hv43 hk41 hk42 hk43 hk44 HQr
     generalize ((w44.setCell ⟨w.heap.size + 1 + 1 + 1 + 1, 0, none⟩ (.bool b44)).setCell ⟨w.heap.size + 1 + 1 + 1 + 1, 1, none⟩ (.slice ao44 n44 c44)) = w7 at *
     simp only [List.setIfInBounds_toArray, List.set_cons_zero, List.set_cons_succ] at BQ
     clear T0 sfS
     have HP : Hid (preV l (j + 1) = preV l j * 10000 + at0 l j) := rfl
     go_wp2_with fail
     go_roundw
     case rel =>
      refine ⟨j + 1, b44, ao44, n44, c44, b33, ao33, n33, c33, by omega, by go_num, BX, BY, B1, B2, BQ, BR, ?_, ?_, hkr⟩
      ·rw [HP.out, HDN.out.1]; exact hv44
      ·rw [HP.out, HDN.out.2]; exact hv33
     case measure => simp [intOf]; omega
  ·have hje : j = l.length := by omega
   subst hje
   have hb1c := B1.cell
   have hb1f := B1.frozen
   have hb1l := B1.lt
   have hb2c := B2.cell
   have hb2f := B2.frozen
   have hb2l := B2.lt
   have bqc := BQ.cell
   have brc := BR.cell
   have bql := BQ.lt
   have brl := BR.lt
   rw [HPX.out] at HQr HRr
   go_wp2_with fail
   go_region
   all_goals go_wp2_with fail
   all_goals
    refine bodyPost_ret (v := .tuple #[.agg #[.bool bq, .slice aoq nq cq], .agg #[.bool br, .slice aor nr cr]]) (by simp [results, Try.results71, go_sem, hb1c, hb2c]) rfl ?_
    have sfE : Sf 3 wr _ := Sf.drew (Sf.set (t := 46) (c := w.heap.size + 1 + 1 + 1) (o := 1) (y := .slice aor nr cr) (Sf.set (t := 46) (c := w.heap.size + 1 + 1 + 1) (o := 0) (y := .bool br) (Sf.set (t := 46) (c := w.heap.size + 1 + 1) (o := 1) (y := .slice aoq nq cq) (Sf.set (t := 46) (c := w.heap.size + 1 + 1) (o := 0) (y := .bool bq) (Sf.refl _ wr) B1.elem (by decide)) (by simp only [elemOf_setCell]; exact B1.elem) (by decide)) (by simp only [elemOf_setCell]; exact B2.elem) (by decide)) (by simp only [elemOf_setCell]; exact B2.elem) (by decide))
    have kpE : Kp w _ := Kp.drew' (stK2 (A := w.heap.size + 1 + 1 + 1) (.bool br) (.slice aor nr cr) (stK2 (A := w.heap.size + 1 + 1) (.bool bq) (.slice aoq nq cq) hkr (by show w.heap.size ≤ w.heap.size + 1 + 1; omega)) (by show w.heap.size ≤ w.heap.size + 1 + 1 + 1; omega))
    exact ⟨_, _, rfl, HQr.soft sfE, HRr.soft sfE, kpE⟩

theorem rdiv_any (x y : Int) (d : Nat) (u v : Value) (w : World) (hx : IN w u x) (hy : IN w v y) (x0 : 0 ≤ x) (y0 : 0 < y) (hd : d ≤ 100000000) (fx : Ft d x) (fy : Ft d y) : Calls Try.prog 71 #[u, v] w (RetI2 w (x / y) (x % y)) := by
 obtain ⟨ao, n, c, rfl, hs⟩ := hx
 obtain ⟨b2, ao', n', c', rfl⟩ := hy.shape'
 rw [show (x.natAbs : Int) = x by omega] at hs
 exact div_rb _ b2 x y d ao ao' n c n' c' w hs hy y0 hd fx fy

end Go.Proofs.Ytjahbjjekednfaa
