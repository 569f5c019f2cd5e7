import Derived.Test.YtjahbjjekednfaaR9g
import Derived.Test.YtjahbjjekednfaaSt
import Derived.Deep.CutRange
namespace Go.Proofs.Ytjahbjjekednfaa
open Go.RowKit

set_option maxHeartbeats 3200000 in
set_option maxRecDepth 100000 in
theorem rexact_any (x y : Int) (m : Nat) (u v : Value) (w : World) (hx : IN w u x) (hy : IN w v y) (y0 : 0 < y) (hm : m ≤ 100000000) (fx : Ft m x) (fy : Ft m y) : Calls Try.prog 86 #[u, v] w (RetI w (x.tdiv y)) := by
 obtain ⟨b1, ao1, n1, c1, rfl⟩ := hx.shape'
 obtain ⟨b2, ao2, n2, c2, rfl⟩ := hy.shape'
 have HNEG := Hid.mk hx.neg
 have hkb : Kp w (((w.alloc (.cells #[.bool b1, .slice ao1 n1 c1] 46)).alloc (.cells #[.bool b2, .slice ao2 n2 c2] 46)).alloc (.cells #[.bool false, .slice none 0 0] 46)) := (Kp.alloc' (Kp.alloc' (Kp.alloc' (Below.refl w.heap.size w) (.cells #[.bool b1, .slice ao1 n1 c1] 46)) (.cells #[.bool b2, .slice ao2 n2 c2] 46)) (.cells #[.bool false, .slice none 0 0] 46))
 have BX : Blk (((w.alloc (.cells #[.bool b1, .slice ao1 n1 c1] 46)).alloc (.cells #[.bool b2, .slice ao2 n2 c2] 46)).alloc (.cells #[.bool false, .slice none 0 0] 46)) (w.heap.size) #[.bool b1, .slice ao1 n1 c1] 46 := (Blk.alloc (Blk.alloc (Blk.new w _ _) (.cells #[.bool b2, .slice ao2 n2 c2] 46)) (.cells #[.bool false, .slice none 0 0] 46))
 have BY : Blk (((w.alloc (.cells #[.bool b1, .slice ao1 n1 c1] 46)).alloc (.cells #[.bool b2, .slice ao2 n2 c2] 46)).alloc (.cells #[.bool false, .slice none 0 0] 46)) (w.heap.size + 1) #[.bool b2, .slice ao2 n2 c2] 46 := (Blk.alloc (Blk.at (Blk.new (w.alloc (.cells #[.bool b1, .slice ao1 n1 c1] 46)) _ _) (by simp)) (.cells #[.bool false, .slice none 0 0] 46))
 have BE : Blk (((w.alloc (.cells #[.bool b1, .slice ao1 n1 c1] 46)).alloc (.cells #[.bool b2, .slice ao2 n2 c2] 46)).alloc (.cells #[.bool false, .slice none 0 0] 46)) (w.heap.size + 1 + 1) #[.bool false, .slice none 0 0] 46 := (Blk.at (Blk.new ((w.alloc (.cells #[.bool b1, .slice ao1 n1 c1] 46)).alloc (.cells #[.bool b2, .slice ao2 n2 c2] 46)) _ _) (by simp))
 
 replace hx := hx.keep hkb
 replace hy := hy.keep hkb
 have bel := BE.lt
 have bxl := BX.lt
 have byl := BY.lt
 go_enter Try.func86, Try.ntmps86
 go_wp2_with fail
 generalize (((w.alloc (.cells #[.bool b1, .slice ao1 n1 c1] 46)).alloc (.cells #[.bool b2, .slice ao2 n2 c2] 46)).alloc (.cells #[.bool false, .slice none 0 0] 46)) = wb at *
 go_cut [5, 6] from 7 to 13 (fun p _ wx => ∃ (bp : Nat) (bb : Bool) (aa : Option Addr) (nn cc : Nat), p = .pointer (some ⟨bp, 0, none⟩) ∧ Blk wx bp #[.bool bb, .slice aa nn cc] 46 ∧ IN wx (.agg #[.bool bb, .slice aa nn cc]) ((x.natAbs : Int) / y) ∧ Kp wb wx ∧ wb.heap.size ≤ bp)
 case first =>
  refine wp_region_l (S := fun w' => Kp wb w') (by kernel_rfl) (Kp.drew' (Below.refl _ _)) (fun hS0 => ?_)
  generalize wb.drew = wd at *
  refine wpAnyL_tk (i := 0) (k := 1) (v := .agg #[.bool b1, .slice ao1 n1 c1]) rfl ?_ hS0 ?_
  ·intro w' hw'; have hc := ((BX).keep hw').cell; go_simp
  simp only [sq]
  refine wpAnyL_tk (i := 2) (k := 3) (v := .agg #[.bool b2, .slice ao2 n2 c2]) rfl ?_ hS0 ?_
  ·intro w' hw'; have hc := ((BY).keep hw').cell; go_simp
  simp only [sq]
  refine wpAnyL_ready (rs := [1, 7, 8]) (by kernel_rfl) (by simp) ?_
  refine AllReadyL.cons rfl (fun K hK => ?_) ?_
  ·go_simp
   refine (size_any x _ _ (hx.keep hS0)).mono ?_
   rintro e w101 ⟨v101, rfl, hv101, hk101⟩
   obtain ⟨b101, ao101, n101, c101, rfl⟩ := hv101.shape'
   go_wp2_with fail
   refine hK.out _ _ (hS0.trans' hk101) (fun hS1 => ?_)
   clear hK K
   refine wpAnyL_ready (rs := [3, 7, 8]) (by kernel_rfl) (by simp) ?_
   refine AllReadyL.cons rfl (fun K hK => ?_) ?_
   ·go_simp
    refine (rdiv_any (x.natAbs : Int) y m _ _ _ hv101 (hy.keep hS1) (by omega) y0 hm fx.abs fy).mono ?_
    rintro e w103 ⟨v103, u103x, rfl, hv103, hu103, hk103⟩
    obtain ⟨b103, ao103, n103, c103, rfl⟩ := hv103.shape'
    obtain ⟨b103x, ao103x, n103x, c103x, rfl⟩ := hu103.shape'
    go_wp2_with fail
    refine hK.out _ _ (hS1.trans' hk103) (fun hS2 => ?_)
    clear hK K
    refine wpAnyL_tk (i := 4) (k := 5) (v := .tuple #[.agg #[.bool b103, .slice ao103 n103 c103], .agg #[.bool b103x, .slice ao103x n103x c103x]]) rfl ?_ hS2 ?_
    ·intro w' hw'; go_simp
    simp only [sq]
    refine wpAnyL_tk (i := 5) (k := 9) (v := .agg #[.bool b103, .slice ao103 n103 c103]) rfl ?_ hS2 ?_
    ·intro w' hw'; go_simp
    simp only [sq]
    refine wpAnyL_tk (i := 6) (k := 10) (v := .agg #[.bool b103x, .slice ao103x n103x c103x]) rfl ?_ hS2 ?_
    ·intro w' hw'; go_simp
    simp only [sq]
    refine wpAnyL_ready (rs := [7, 8]) (by kernel_rfl) (by simp) ?_
    refine AllReadyL.cons rfl (fun K hK => ?_) ?_
    ·go_simp
     refine hK.out _ _ (Kp.alloc' hS2 (.cells #[.bool false, .slice none 0 0] 46)) (fun hS3 => ?_)
     clear hK K
     have NB7 := Blk.new w103 #[.bool false, .slice none 0 0] 46
     have ge7 : wb.heap.size ≤ w103.heap.size := hS2.size
     replace hv103 := hv103.keep (kp_alloc w103 (.cells #[.bool false, .slice none 0 0] 46))
     replace hu103 := hu103.keep (kp_alloc w103 (.cells #[.bool false, .slice none 0 0] 46))
     try simp only [sq]
     generalize hA7 : w103.heap.size = A7 at *
     generalize w103.alloc (.cells #[.bool false, .slice none 0 0] 46) = wn7 at *
     refine wpAnyL_on (i := 8) rfl (fun K hK => ?_)
     go_simp
     refine hK.out _ _ (Kp.alloc' hS3 (.cells #[.bool false, .slice none 0 0] 46)) (fun hS4 => ?_)
     clear hK K
     have NB8 := Blk.new wn7 #[.bool false, .slice none 0 0] 46
     have ge8 : wb.heap.size ≤ wn7.heap.size := hS3.size
     have ne7x8 : A7 ≠ wn7.heap.size := by have := NB7.lt; omega
     replace hv103 := hv103.keep (kp_alloc wn7 (.cells #[.bool false, .slice none 0 0] 46))
     replace hu103 := hu103.keep (kp_alloc wn7 (.cells #[.bool false, .slice none 0 0] 46))
     replace NB7 := NB7.keep (kp_alloc wn7 (.cells #[.bool false, .slice none 0 0] 46))
     try simp only [sq]
     generalize hA8 : wn7.heap.size = A8 at *
     generalize wn7.alloc (.cells #[.bool false, .slice none 0 0] 46) = wn8 at *
     refine wpAnyL_on (i := 9) rfl (fun K hK => ?_)
     have st_c := NB7.cell
     have st_f := NB7.frozen
     have st_l := NB7.lt
     go_simp
     refine hK.out _ _ (stK2 (A := A7) (.bool b103) (.slice ao103 n103 c103) hS4 ge7) (fun hS5 => ?_)
     clear hK K
     have sfS := (stS2 (E := 3) (.bool b103) (.slice ao103 n103 c103) NB7 (by decide))
     replace hv103 := hv103.soft sfS
     replace hu103 := hu103.soft sfS
     replace NB8 := (Blk.other (c := A7) (o := 1) (y := .slice ao103 n103 c103) (Blk.other (c := A7) (o := 0) (y := .bool b103) NB8 (by omega)) (by omega))
     replace NB7 := (Blk.set (o := 1) (y := .slice ao103 n103 c103) (Blk.set (o := 0) (y := .bool b103) NB7))
     clear sfS st_c st_f st_l
     try simp only [sq]
     generalize ((wn8.setCell ⟨A7, 0, none⟩ (.bool b103)).setCell ⟨A7, 1, none⟩ (.slice ao103 n103 c103)) = wt9 at *
     simp only [List.setIfInBounds_toArray, List.set_cons_zero, List.set_cons_succ] at NB7
     have st_c := NB8.cell
     have st_f := NB8.frozen
     have st_l := NB8.lt
     refine wpAnyL_last (i := 10) rfl (by kernel_rfl) (by kernel_rfl) (by kernel_rfl) (fun K hK => ?_)
     go_simp
     refine hK.out _ _ ?_
     clear hK K
     go_wp2_with fail
     go_meet
     case rel => exact ⟨A7, _, _, _, _, rfl, (ot2 (A := A8) (.bool b103x) (.slice ao103x n103x c103x) NB7 (by omega)), hv103.soft (sf2 (.bool b103x) (.slice ao103x n103x c103x) NB8 (by decide)), (kp2 (A := A8) (.bool b103x) (.slice ao103x n103x c103x) hS5 ge8), ge7⟩
    refine AllReadyL.cons rfl (fun K hK => ?_) ?_
    ·go_simp
     refine hK.out _ _ (Kp.alloc' hS2 (.cells #[.bool false, .slice none 0 0] 46)) (fun hS3 => ?_)
     clear hK K
     have NB8 := Blk.new w103 #[.bool false, .slice none 0 0] 46
     have ge8 : wb.heap.size ≤ w103.heap.size := hS2.size
     replace hv103 := hv103.keep (kp_alloc w103 (.cells #[.bool false, .slice none 0 0] 46))
     replace hu103 := hu103.keep (kp_alloc w103 (.cells #[.bool false, .slice none 0 0] 46))
     try simp only [sq]
     generalize hA8 : w103.heap.size = A8 at *
     generalize w103.alloc (.cells #[.bool false, .slice none 0 0] 46) = wn8 at *
     refine wpAnyL_on (i := 7) rfl (fun K hK => ?_)
     go_simp
     refine hK.out _ _ (Kp.alloc' hS3 (.cells #[.bool false, .slice none 0 0] 46)) (fun hS4 => ?_)
     clear hK K
     have NB7 := Blk.new wn8 #[.bool false, .slice none 0 0] 46
     have ge7 : wb.heap.size ≤ wn8.heap.size := hS3.size
     have ne8x7 : A8 ≠ wn8.heap.size := by have := NB8.lt; omega
     replace hv103 := hv103.keep (kp_alloc wn8 (.cells #[.bool false, .slice none 0 0] 46))
     replace hu103 := hu103.keep (kp_alloc wn8 (.cells #[.bool false, .slice none 0 0] 46))
     replace NB8 := NB8.keep (kp_alloc wn8 (.cells #[.bool false, .slice none 0 0] 46))
     try simp only [sq]
     generalize hA7 : wn8.heap.size = A7 at *
     generalize wn8.alloc (.cells #[.bool false, .slice none 0 0] 46) = wn7 at *
     refine wpAnyL_on (i := 9) rfl (fun K hK => ?_)
     have st_c := NB7.cell
     have st_f := NB7.frozen
     have st_l := NB7.lt
     go_simp
     refine hK.out _ _ (stK2 (A := A7) (.bool b103) (.slice ao103 n103 c103) hS4 ge7) (fun hS5 => ?_)
     clear hK K
     have sfS := (stS2 (E := 3) (.bool b103) (.slice ao103 n103 c103) NB7 (by decide))
     replace hv103 := hv103.soft sfS
     replace hu103 := hu103.soft sfS
     replace NB8 := (Blk.other (c := A7) (o := 1) (y := .slice ao103 n103 c103) (Blk.other (c := A7) (o := 0) (y := .bool b103) NB8 (by omega)) (by omega))
     replace NB7 := (Blk.set (o := 1) (y := .slice ao103 n103 c103) (Blk.set (o := 0) (y := .bool b103) NB7))
     clear sfS st_c st_f st_l
     try simp only [sq]
     generalize ((wn7.setCell ⟨A7, 0, none⟩ (.bool b103)).setCell ⟨A7, 1, none⟩ (.slice ao103 n103 c103)) = wt9 at *
     simp only [List.setIfInBounds_toArray, List.set_cons_zero, List.set_cons_succ] at NB7
     have st_c := NB8.cell
     have st_f := NB8.frozen
     have st_l := NB8.lt
     refine wpAnyL_last (i := 10) rfl (by kernel_rfl) (by kernel_rfl) (by kernel_rfl) (fun K hK => ?_)
     go_simp
     refine hK.out _ _ ?_
     clear hK K
     go_wp2_with fail
     go_meet
     case rel => exact ⟨A7, _, _, _, _, rfl, (ot2 (A := A8) (.bool b103x) (.slice ao103x n103x c103x) NB7 (by omega)), hv103.soft (sf2 (.bool b103x) (.slice ao103x n103x c103x) NB8 (by decide)), (kp2 (A := A8) (.bool b103x) (.slice ao103x n103x c103x) hS5 ge8), ge7⟩
    exact AllReadyL.nil
   refine AllReadyL.cons rfl (fun K hK => ?_) ?_
   ·go_simp
    refine hK.out _ _ (Kp.alloc' hS1 (.cells #[.bool false, .slice none 0 0] 46)) (fun hS2 => ?_)
    clear hK K
    have NB7 := Blk.new w101 #[.bool false, .slice none 0 0] 46
    have ge7 : wb.heap.size ≤ w101.heap.size := hS1.size
    replace hv101 := hv101.keep (kp_alloc w101 (.cells #[.bool false, .slice none 0 0] 46))
    try simp only [sq]
    generalize hA7 : w101.heap.size = A7 at *
    generalize w101.alloc (.cells #[.bool false, .slice none 0 0] 46) = wn7 at *
    refine wpAnyL_ready (rs := [3, 8]) (by kernel_rfl) (by simp) ?_
    refine AllReadyL.cons rfl (fun K hK => ?_) ?_
    ·go_simp
     refine (rdiv_any (x.natAbs : Int) y m _ _ _ hv101 (hy.keep hS2) (by omega) y0 hm fx.abs fy).mono ?_
     rintro e w103 ⟨v103, u103x, rfl, hv103, hu103, hk103⟩
     obtain ⟨b103, ao103, n103, c103, rfl⟩ := hv103.shape'
     obtain ⟨b103x, ao103x, n103x, c103x, rfl⟩ := hu103.shape'
     replace NB7 := NB7.keep hk103
     go_wp2_with fail
     refine hK.out _ _ (hS2.trans' hk103) (fun hS3 => ?_)
     clear hK K
     refine wpAnyL_tk (i := 4) (k := 5) (v := .tuple #[.agg #[.bool b103, .slice ao103 n103 c103], .agg #[.bool b103x, .slice ao103x n103x c103x]]) rfl ?_ hS3 ?_
     ·intro w' hw'; go_simp
     simp only [sq]
     refine wpAnyL_tk (i := 5) (k := 9) (v := .agg #[.bool b103, .slice ao103 n103 c103]) rfl ?_ hS3 ?_
     ·intro w' hw'; go_simp
     simp only [sq]
     refine wpAnyL_tk (i := 6) (k := 10) (v := .agg #[.bool b103x, .slice ao103x n103x c103x]) rfl ?_ hS3 ?_
     ·intro w' hw'; go_simp
     simp only [sq]
     refine wpAnyL_on (i := 8) rfl (fun K hK => ?_)
     go_simp
     refine hK.out _ _ (Kp.alloc' hS3 (.cells #[.bool false, .slice none 0 0] 46)) (fun hS4 => ?_)
     clear hK K
     have NB8 := Blk.new w103 #[.bool false, .slice none 0 0] 46
     have ge8 : wb.heap.size ≤ w103.heap.size := hS3.size
     have ne7x8 : A7 ≠ w103.heap.size := by have := NB7.lt; omega
     replace NB7 := NB7.keep (kp_alloc w103 (.cells #[.bool false, .slice none 0 0] 46))
     replace hv103 := hv103.keep (kp_alloc w103 (.cells #[.bool false, .slice none 0 0] 46))
     replace hu103 := hu103.keep (kp_alloc w103 (.cells #[.bool false, .slice none 0 0] 46))
     try simp only [sq]
     generalize hA8 : w103.heap.size = A8 at *
     generalize w103.alloc (.cells #[.bool false, .slice none 0 0] 46) = wn8 at *
     refine wpAnyL_on (i := 9) rfl (fun K hK => ?_)
     have st_c := NB7.cell
     have st_f := NB7.frozen
     have st_l := NB7.lt
     go_simp
     refine hK.out _ _ (stK2 (A := A7) (.bool b103) (.slice ao103 n103 c103) hS4 ge7) (fun hS5 => ?_)
     clear hK K
     have sfS := (stS2 (E := 3) (.bool b103) (.slice ao103 n103 c103) NB7 (by decide))
     replace hv103 := hv103.soft sfS
     replace hu103 := hu103.soft sfS
     replace NB8 := (Blk.other (c := A7) (o := 1) (y := .slice ao103 n103 c103) (Blk.other (c := A7) (o := 0) (y := .bool b103) NB8 (by omega)) (by omega))
     replace NB7 := (Blk.set (o := 1) (y := .slice ao103 n103 c103) (Blk.set (o := 0) (y := .bool b103) NB7))
     clear sfS st_c st_f st_l
     try simp only [sq]
     generalize ((wn8.setCell ⟨A7, 0, none⟩ (.bool b103)).setCell ⟨A7, 1, none⟩ (.slice ao103 n103 c103)) = wt9 at *
     simp only [List.setIfInBounds_toArray, List.set_cons_zero, List.set_cons_succ] at NB7
     have st_c := NB8.cell
     have st_f := NB8.frozen
     have st_l := NB8.lt
     refine wpAnyL_last (i := 10) rfl (by kernel_rfl) (by kernel_rfl) (by kernel_rfl) (fun K hK => ?_)
     go_simp
     refine hK.out _ _ ?_
     clear hK K
     go_wp2_with fail
     go_meet
     case rel => exact ⟨A7, _, _, _, _, rfl, (ot2 (A := A8) (.bool b103x) (.slice ao103x n103x c103x) NB7 (by omega)), hv103.soft (sf2 (.bool b103x) (.slice ao103x n103x c103x) NB8 (by decide)), (kp2 (A := A8) (.bool b103x) (.slice ao103x n103x c103x) hS5 ge8), ge7⟩
    refine AllReadyL.cons rfl (fun K hK => ?_) ?_
    ·go_simp
     refine hK.out _ _ (Kp.alloc' hS2 (.cells #[.bool false, .slice none 0 0] 46)) (fun hS3 => ?_)
     clear hK K
     have NB8 := Blk.new wn7 #[.bool false, .slice none 0 0] 46
     have ge8 : wb.heap.size ≤ wn7.heap.size := hS2.size
     have ne7x8 : A7 ≠ wn7.heap.size := by have := NB7.lt; omega
     replace hv101 := hv101.keep (kp_alloc wn7 (.cells #[.bool false, .slice none 0 0] 46))
     replace NB7 := NB7.keep (kp_alloc wn7 (.cells #[.bool false, .slice none 0 0] 46))
     try simp only [sq]
     generalize hA8 : wn7.heap.size = A8 at *
     generalize wn7.alloc (.cells #[.bool false, .slice none 0 0] 46) = wn8 at *
     refine wpAnyL_on (i := 3) rfl (fun K hK => ?_)
     go_simp
     refine (rdiv_any (x.natAbs : Int) y m _ _ _ hv101 (hy.keep hS3) (by omega) y0 hm fx.abs fy).mono ?_
     rintro e w103 ⟨v103, u103x, rfl, hv103, hu103, hk103⟩
     obtain ⟨b103, ao103, n103, c103, rfl⟩ := hv103.shape'
     obtain ⟨b103x, ao103x, n103x, c103x, rfl⟩ := hu103.shape'
     replace NB7 := NB7.keep hk103
     replace NB8 := NB8.keep hk103
     go_wp2_with fail
     refine hK.out _ _ (hS3.trans' hk103) (fun hS4 => ?_)
     clear hK K
     refine wpAnyL_tk (i := 4) (k := 5) (v := .tuple #[.agg #[.bool b103, .slice ao103 n103 c103], .agg #[.bool b103x, .slice ao103x n103x c103x]]) rfl ?_ hS4 ?_
     ·intro w' hw'; go_simp
     simp only [sq]
     refine wpAnyL_tk (i := 5) (k := 9) (v := .agg #[.bool b103, .slice ao103 n103 c103]) rfl ?_ hS4 ?_
     ·intro w' hw'; go_simp
     simp only [sq]
     refine wpAnyL_tk (i := 6) (k := 10) (v := .agg #[.bool b103x, .slice ao103x n103x c103x]) rfl ?_ hS4 ?_
     ·intro w' hw'; go_simp
     simp only [sq]
     refine wpAnyL_on (i := 9) rfl (fun K hK => ?_)
     have st_c := NB7.cell
     have st_f := NB7.frozen
     have st_l := NB7.lt
     go_simp
     refine hK.out _ _ (stK2 (A := A7) (.bool b103) (.slice ao103 n103 c103) hS4 ge7) (fun hS5 => ?_)
     clear hK K
     have sfS := (stS2 (E := 3) (.bool b103) (.slice ao103 n103 c103) NB7 (by decide))
     replace NB8 := (Blk.other (c := A7) (o := 1) (y := .slice ao103 n103 c103) (Blk.other (c := A7) (o := 0) (y := .bool b103) NB8 (by omega)) (by omega))
     replace hv103 := hv103.soft sfS
     replace hu103 := hu103.soft sfS
     replace NB7 := (Blk.set (o := 1) (y := .slice ao103 n103 c103) (Blk.set (o := 0) (y := .bool b103) NB7))
     clear sfS st_c st_f st_l
     try simp only [sq]
     generalize ((w103.setCell ⟨A7, 0, none⟩ (.bool b103)).setCell ⟨A7, 1, none⟩ (.slice ao103 n103 c103)) = wt9 at *
     simp only [List.setIfInBounds_toArray, List.set_cons_zero, List.set_cons_succ] at NB7
     have st_c := NB8.cell
     have st_f := NB8.frozen
     have st_l := NB8.lt
     refine wpAnyL_last (i := 10) rfl (by kernel_rfl) (by kernel_rfl) (by kernel_rfl) (fun K hK => ?_)
     go_simp
     refine hK.out _ _ ?_
     clear hK K
     go_wp2_with fail
     go_meet
     case rel => exact ⟨A7, _, _, _, _, rfl, (ot2 (A := A8) (.bool b103x) (.slice ao103x n103x c103x) NB7 (by omega)), hv103.soft (sf2 (.bool b103x) (.slice ao103x n103x c103x) NB8 (by decide)), (kp2 (A := A8) (.bool b103x) (.slice ao103x n103x c103x) hS5 ge8), ge7⟩
    exact AllReadyL.nil
   refine AllReadyL.cons rfl (fun K hK => ?_) ?_
   ·go_simp
    refine hK.out _ _ (Kp.alloc' hS1 (.cells #[.bool false, .slice none 0 0] 46)) (fun hS2 => ?_)
    clear hK K
    have NB8 := Blk.new w101 #[.bool false, .slice none 0 0] 46
    have ge8 : wb.heap.size ≤ w101.heap.size := hS1.size
    replace hv101 := hv101.keep (kp_alloc w101 (.cells #[.bool false, .slice none 0 0] 46))
    try simp only [sq]
    generalize hA8 : w101.heap.size = A8 at *
    generalize w101.alloc (.cells #[.bool false, .slice none 0 0] 46) = wn8 at *
    refine wpAnyL_ready (rs := [3, 7]) (by kernel_rfl) (by simp) ?_
    refine AllReadyL.cons rfl (fun K hK => ?_) ?_
    ·go_simp
     refine (rdiv_any (x.natAbs : Int) y m _ _ _ hv101 (hy.keep hS2) (by omega) y0 hm fx.abs fy).mono ?_
     rintro e w103 ⟨v103, u103x, rfl, hv103, hu103, hk103⟩
     obtain ⟨b103, ao103, n103, c103, rfl⟩ := hv103.shape'
     obtain ⟨b103x, ao103x, n103x, c103x, rfl⟩ := hu103.shape'
     replace NB8 := NB8.keep hk103
     go_wp2_with fail
     refine hK.out _ _ (hS2.trans' hk103) (fun hS3 => ?_)
     clear hK K
     refine wpAnyL_tk (i := 4) (k := 5) (v := .tuple #[.agg #[.bool b103, .slice ao103 n103 c103], .agg #[.bool b103x, .slice ao103x n103x c103x]]) rfl ?_ hS3 ?_
     ·intro w' hw'; go_simp
     simp only [sq]
     refine wpAnyL_tk (i := 5) (k := 9) (v := .agg #[.bool b103, .slice ao103 n103 c103]) rfl ?_ hS3 ?_
     ·intro w' hw'; go_simp
     simp only [sq]
     refine wpAnyL_tk (i := 6) (k := 10) (v := .agg #[.bool b103x, .slice ao103x n103x c103x]) rfl ?_ hS3 ?_
     ·intro w' hw'; go_simp
     simp only [sq]
     refine wpAnyL_on (i := 7) rfl (fun K hK => ?_)
     go_simp
     refine hK.out _ _ (Kp.alloc' hS3 (.cells #[.bool false, .slice none 0 0] 46)) (fun hS4 => ?_)
     clear hK K
     have NB7 := Blk.new w103 #[.bool false, .slice none 0 0] 46
     have ge7 : wb.heap.size ≤ w103.heap.size := hS3.size
     have ne8x7 : A8 ≠ w103.heap.size := by have := NB8.lt; omega
     replace NB8 := NB8.keep (kp_alloc w103 (.cells #[.bool false, .slice none 0 0] 46))
     replace hv103 := hv103.keep (kp_alloc w103 (.cells #[.bool false, .slice none 0 0] 46))
     replace hu103 := hu103.keep (kp_alloc w103 (.cells #[.bool false, .slice none 0 0] 46))
     try simp only [sq]
     generalize hA7 : w103.heap.size = A7 at *
     generalize w103.alloc (.cells #[.bool false, .slice none 0 0] 46) = wn7 at *
     refine wpAnyL_on (i := 9) rfl (fun K hK => ?_)
     have st_c := NB7.cell
     have st_f := NB7.frozen
     have st_l := NB7.lt
     go_simp
     refine hK.out _ _ (stK2 (A := A7) (.bool b103) (.slice ao103 n103 c103) hS4 ge7) (fun hS5 => ?_)
     clear hK K
     have sfS := (stS2 (E := 3) (.bool b103) (.slice ao103 n103 c103) NB7 (by decide))
     replace NB8 := (Blk.other (c := A7) (o := 1) (y := .slice ao103 n103 c103) (Blk.other (c := A7) (o := 0) (y := .bool b103) NB8 (by omega)) (by omega))
     replace hv103 := hv103.soft sfS
     replace hu103 := hu103.soft sfS
     replace NB7 := (Blk.set (o := 1) (y := .slice ao103 n103 c103) (Blk.set (o := 0) (y := .bool b103) NB7))
     clear sfS st_c st_f st_l
     try simp only [sq]
     generalize ((wn7.setCell ⟨A7, 0, none⟩ (.bool b103)).setCell ⟨A7, 1, none⟩ (.slice ao103 n103 c103)) = wt9 at *
     simp only [List.setIfInBounds_toArray, List.set_cons_zero, List.set_cons_succ] at NB7
     have st_c := NB8.cell
     have st_f := NB8.frozen
     have st_l := NB8.lt
     refine wpAnyL_last (i := 10) rfl (by kernel_rfl) (by kernel_rfl) (by kernel_rfl) (fun K hK => ?_)
     go_simp
     refine hK.out _ _ ?_
     clear hK K
     go_wp2_with fail
     go_meet
     case rel => exact ⟨A7, _, _, _, _, rfl, (ot2 (A := A8) (.bool b103x) (.slice ao103x n103x c103x) NB7 (by omega)), hv103.soft (sf2 (.bool b103x) (.slice ao103x n103x c103x) NB8 (by decide)), (kp2 (A := A8) (.bool b103x) (.slice ao103x n103x c103x) hS5 ge8), ge7⟩
    refine AllReadyL.cons rfl (fun K hK => ?_) ?_
    ·go_simp
     refine hK.out _ _ (Kp.alloc' hS2 (.cells #[.bool false, .slice none 0 0] 46)) (fun hS3 => ?_)
     clear hK K
     have NB7 := Blk.new wn8 #[.bool false, .slice none 0 0] 46
     have ge7 : wb.heap.size ≤ wn8.heap.size := hS2.size
     have ne8x7 : A8 ≠ wn8.heap.size := by have := NB8.lt; omega
     replace hv101 := hv101.keep (kp_alloc wn8 (.cells #[.bool false, .slice none 0 0] 46))
     replace NB8 := NB8.keep (kp_alloc wn8 (.cells #[.bool false, .slice none 0 0] 46))
     try simp only [sq]
     generalize hA7 : wn8.heap.size = A7 at *
     generalize wn8.alloc (.cells #[.bool false, .slice none 0 0] 46) = wn7 at *
     refine wpAnyL_on (i := 3) rfl (fun K hK => ?_)
     go_simp
     refine (rdiv_any (x.natAbs : Int) y m _ _ _ hv101 (hy.keep hS3) (by omega) y0 hm fx.abs fy).mono ?_
     rintro e w103 ⟨v103, u103x, rfl, hv103, hu103, hk103⟩
     obtain ⟨b103, ao103, n103, c103, rfl⟩ := hv103.shape'
     obtain ⟨b103x, ao103x, n103x, c103x, rfl⟩ := hu103.shape'
     replace NB8 := NB8.keep hk103
     replace NB7 := NB7.keep hk103
     go_wp2_with fail
     refine hK.out _ _ (hS3.trans' hk103) (fun hS4 => ?_)
     clear hK K
     refine wpAnyL_tk (i := 4) (k := 5) (v := .tuple #[.agg #[.bool b103, .slice ao103 n103 c103], .agg #[.bool b103x, .slice ao103x n103x c103x]]) rfl ?_ hS4 ?_
     ·intro w' hw'; go_simp
     simp only [sq]
     refine wpAnyL_tk (i := 5) (k := 9) (v := .agg #[.bool b103, .slice ao103 n103 c103]) rfl ?_ hS4 ?_
     ·intro w' hw'; go_simp
     simp only [sq]
     refine wpAnyL_tk (i := 6) (k := 10) (v := .agg #[.bool b103x, .slice ao103x n103x c103x]) rfl ?_ hS4 ?_
     ·intro w' hw'; go_simp
     simp only [sq]
     refine wpAnyL_on (i := 9) rfl (fun K hK => ?_)
     have st_c := NB7.cell
     have st_f := NB7.frozen
     have st_l := NB7.lt
     go_simp
     refine hK.out _ _ (stK2 (A := A7) (.bool b103) (.slice ao103 n103 c103) hS4 ge7) (fun hS5 => ?_)
     clear hK K
     have sfS := (stS2 (E := 3) (.bool b103) (.slice ao103 n103 c103) NB7 (by decide))
     replace NB8 := (Blk.other (c := A7) (o := 1) (y := .slice ao103 n103 c103) (Blk.other (c := A7) (o := 0) (y := .bool b103) NB8 (by omega)) (by omega))
     replace hv103 := hv103.soft sfS
     replace hu103 := hu103.soft sfS
     replace NB7 := (Blk.set (o := 1) (y := .slice ao103 n103 c103) (Blk.set (o := 0) (y := .bool b103) NB7))
     clear sfS st_c st_f st_l
     try simp only [sq]
     generalize ((w103.setCell ⟨A7, 0, none⟩ (.bool b103)).setCell ⟨A7, 1, none⟩ (.slice ao103 n103 c103)) = wt9 at *
     simp only [List.setIfInBounds_toArray, List.set_cons_zero, List.set_cons_succ] at NB7
     have st_c := NB8.cell
     have st_f := NB8.frozen
     have st_l := NB8.lt
     refine wpAnyL_last (i := 10) rfl (by kernel_rfl) (by kernel_rfl) (by kernel_rfl) (fun K hK => ?_)
     go_simp
     refine hK.out _ _ ?_
     clear hK K
     go_wp2_with fail
     go_meet
     case rel => exact ⟨A7, _, _, _, _, rfl, (ot2 (A := A8) (.bool b103x) (.slice ao103x n103x c103x) NB7 (by omega)), hv103.soft (sf2 (.bool b103x) (.slice ao103x n103x c103x) NB8 (by decide)), (kp2 (A := A8) (.bool b103x) (.slice ao103x n103x c103x) hS5 ge8), ge7⟩
    exact AllReadyL.nil
   exact AllReadyL.nil
  refine AllReadyL.cons rfl (fun K hK => ?_) ?_
  ·go_simp
   refine hK.out _ _ (Kp.alloc' hS0 (.cells #[.bool false, .slice none 0 0] 46)) (fun hS1 => ?_)
   clear hK K
   have NB7 := Blk.new wd #[.bool false, .slice none 0 0] 46
   have ge7 : wb.heap.size ≤ wd.heap.size := hS0.size
   try simp only [sq]
   generalize hA7 : wd.heap.size = A7 at *
   generalize wd.alloc (.cells #[.bool false, .slice none 0 0] 46) = wn7 at *
   refine wpAnyL_ready (rs := [1, 8]) (by kernel_rfl) (by simp) ?_
   refine AllReadyL.cons rfl (fun K hK => ?_) ?_
   ·go_simp
    refine (size_any x _ _ (hx.keep hS1)).mono ?_
    rintro e w101 ⟨v101, rfl, hv101, hk101⟩
    obtain ⟨b101, ao101, n101, c101, rfl⟩ := hv101.shape'
    replace NB7 := NB7.keep hk101
    go_wp2_with fail
    refine hK.out _ _ (hS1.trans' hk101) (fun hS2 => ?_)
    clear hK K
    refine wpAnyL_ready (rs := [3, 8]) (by kernel_rfl) (by simp) ?_
    refine AllReadyL.cons rfl (fun K hK => ?_) ?_
    ·go_simp
     refine (rdiv_any (x.natAbs : Int) y m _ _ _ hv101 (hy.keep hS2) (by omega) y0 hm fx.abs fy).mono ?_
     rintro e w103 ⟨v103, u103x, rfl, hv103, hu103, hk103⟩
     obtain ⟨b103, ao103, n103, c103, rfl⟩ := hv103.shape'
     obtain ⟨b103x, ao103x, n103x, c103x, rfl⟩ := hu103.shape'
     replace NB7 := NB7.keep hk103
     go_wp2_with fail
     refine hK.out _ _ (hS2.trans' hk103) (fun hS3 => ?_)
     clear hK K
     refine wpAnyL_tk (i := 4) (k := 5) (v := .tuple #[.agg #[.bool b103, .slice ao103 n103 c103], .agg #[.bool b103x, .slice ao103x n103x c103x]]) rfl ?_ hS3 ?_
     ·intro w' hw'; go_simp
     simp only [sq]
     refine wpAnyL_tk (i := 5) (k := 9) (v := .agg #[.bool b103, .slice ao103 n103 c103]) rfl ?_ hS3 ?_
     ·intro w' hw'; go_simp
     simp only [sq]
     refine wpAnyL_tk (i := 6) (k := 10) (v := .agg #[.bool b103x, .slice ao103x n103x c103x]) rfl ?_ hS3 ?_
     ·intro w' hw'; go_simp
     simp only [sq]
     refine wpAnyL_on (i := 8) rfl (fun K hK => ?_)
     go_simp
     refine hK.out _ _ (Kp.alloc' hS3 (.cells #[.bool false, .slice none 0 0] 46)) (fun hS4 => ?_)
     clear hK K
     have NB8 := Blk.new w103 #[.bool false, .slice none 0 0] 46
     have ge8 : wb.heap.size ≤ w103.heap.size := hS3.size
     have ne7x8 : A7 ≠ w103.heap.size := by have := NB7.lt; omega
     replace NB7 := NB7.keep (kp_alloc w103 (.cells #[.bool false, .slice none 0 0] 46))
     replace hv103 := hv103.keep (kp_alloc w103 (.cells #[.bool false, .slice none 0 0] 46))
     replace hu103 := hu103.keep (kp_alloc w103 (.cells #[.bool false, .slice none 0 0] 46))
     try simp only [sq]
     generalize hA8 : w103.heap.size = A8 at *
     generalize w103.alloc (.cells #[.bool false, .slice none 0 0] 46) = wn8 at *
     refine wpAnyL_on (i := 9) rfl (fun K hK => ?_)
     have st_c := NB7.cell
     have st_f := NB7.frozen
     have st_l := NB7.lt
     go_simp
     refine hK.out _ _ (stK2 (A := A7) (.bool b103) (.slice ao103 n103 c103) hS4 ge7) (fun hS5 => ?_)
     clear hK K
     have sfS := (stS2 (E := 3) (.bool b103) (.slice ao103 n103 c103) NB7 (by decide))
     replace hv103 := hv103.soft sfS
     replace hu103 := hu103.soft sfS
     replace NB8 := (Blk.other (c := A7) (o := 1) (y := .slice ao103 n103 c103) (Blk.other (c := A7) (o := 0) (y := .bool b103) NB8 (by omega)) (by omega))
     replace NB7 := (Blk.set (o := 1) (y := .slice ao103 n103 c103) (Blk.set (o := 0) (y := .bool b103) NB7))
     clear sfS st_c st_f st_l
     try simp only [sq]
     generalize ((wn8.setCell ⟨A7, 0, none⟩ (.bool b103)).setCell ⟨A7, 1, none⟩ (.slice ao103 n103 c103)) = wt9 at *
     simp only [List.setIfInBounds_toArray, List.set_cons_zero, List.set_cons_succ] at NB7
     have st_c := NB8.cell
     have st_f := NB8.frozen
     have st_l := NB8.lt
     refine wpAnyL_last (i := 10) rfl (by kernel_rfl) (by kernel_rfl) (by kernel_rfl) (fun K hK => ?_)
     go_simp
     refine hK.out _ _ ?_
     clear hK K
     go_wp2_with fail
     go_meet
     case rel => exact ⟨A7, _, _, _, _, rfl, (ot2 (A := A8) (.bool b103x) (.slice ao103x n103x c103x) NB7 (by omega)), hv103.soft (sf2 (.bool b103x) (.slice ao103x n103x c103x) NB8 (by decide)), (kp2 (A := A8) (.bool b103x) (.slice ao103x n103x c103x) hS5 ge8), ge7⟩
    refine AllReadyL.cons rfl (fun K hK => ?_) ?_
    ·go_simp
     refine hK.out _ _ (Kp.alloc' hS2 (.cells #[.bool false, .slice none 0 0] 46)) (fun hS3 => ?_)
     clear hK K
     have NB8 := Blk.new w101 #[.bool false, .slice none 0 0] 46
     have ge8 : wb.heap.size ≤ w101.heap.size := hS2.size
     have ne7x8 : A7 ≠ w101.heap.size := by have := NB7.lt; omega
     replace NB7 := NB7.keep (kp_alloc w101 (.cells #[.bool false, .slice none 0 0] 46))
     replace hv101 := hv101.keep (kp_alloc w101 (.cells #[.bool false, .slice none 0 0] 46))
     try simp only [sq]
     generalize hA8 : w101.heap.size = A8 at *
     generalize w101.alloc (.cells #[.bool false, .slice none 0 0] 46) = wn8 at *
     refine wpAnyL_on (i := 3) rfl (fun K hK => ?_)
     go_simp
     refine (rdiv_any (x.natAbs : Int) y m _ _ _ hv101 (hy.keep hS3) (by omega) y0 hm fx.abs fy).mono ?_
     rintro e w103 ⟨v103, u103x, rfl, hv103, hu103, hk103⟩
     obtain ⟨b103, ao103, n103, c103, rfl⟩ := hv103.shape'
     obtain ⟨b103x, ao103x, n103x, c103x, rfl⟩ := hu103.shape'
     replace NB7 := NB7.keep hk103
     replace NB8 := NB8.keep hk103
     go_wp2_with fail
     refine hK.out _ _ (hS3.trans' hk103) (fun hS4 => ?_)
     clear hK K
     refine wpAnyL_tk (i := 4) (k := 5) (v := .tuple #[.agg #[.bool b103, .slice ao103 n103 c103], .agg #[.bool b103x, .slice ao103x n103x c103x]]) rfl ?_ hS4 ?_
     ·intro w' hw'; go_simp
     simp only [sq]
     refine wpAnyL_tk (i := 5) (k := 9) (v := .agg #[.bool b103, .slice ao103 n103 c103]) rfl ?_ hS4 ?_
     ·intro w' hw'; go_simp
     simp only [sq]
     refine wpAnyL_tk (i := 6) (k := 10) (v := .agg #[.bool b103x, .slice ao103x n103x c103x]) rfl ?_ hS4 ?_
     ·intro w' hw'; go_simp
     simp only [sq]
     refine wpAnyL_on (i := 9) rfl (fun K hK => ?_)
     have st_c := NB7.cell
     have st_f := NB7.frozen
     have st_l := NB7.lt
     go_simp
     refine hK.out _ _ (stK2 (A := A7) (.bool b103) (.slice ao103 n103 c103) hS4 ge7) (fun hS5 => ?_)
     clear hK K
     have sfS := (stS2 (E := 3) (.bool b103) (.slice ao103 n103 c103) NB7 (by decide))
     replace NB8 := (Blk.other (c := A7) (o := 1) (y := .slice ao103 n103 c103) (Blk.other (c := A7) (o := 0) (y := .bool b103) NB8 (by omega)) (by omega))
     replace hv103 := hv103.soft sfS
     replace hu103 := hu103.soft sfS
     replace NB7 := (Blk.set (o := 1) (y := .slice ao103 n103 c103) (Blk.set (o := 0) (y := .bool b103) NB7))
     clear sfS st_c st_f st_l
     try simp only [sq]
     generalize ((w103.setCell ⟨A7, 0, none⟩ (.bool b103)).setCell ⟨A7, 1, none⟩ (.slice ao103 n103 c103)) = wt9 at *
     simp only [List.setIfInBounds_toArray, List.set_cons_zero, List.set_cons_succ] at NB7
     have st_c := NB8.cell
     have st_f := NB8.frozen
     have st_l := NB8.lt
     refine wpAnyL_last (i := 10) rfl (by kernel_rfl) (by kernel_rfl) (by kernel_rfl) (fun K hK => ?_)
     go_simp
     refine hK.out _ _ ?_
     clear hK K
     go_wp2_with fail
     go_meet
     case rel => exact ⟨A7, _, _, _, _, rfl, (ot2 (A := A8) (.bool b103x) (.slice ao103x n103x c103x) NB7 (by omega)), hv103.soft (sf2 (.bool b103x) (.slice ao103x n103x c103x) NB8 (by decide)), (kp2 (A := A8) (.bool b103x) (.slice ao103x n103x c103x) hS5 ge8), ge7⟩
    exact AllReadyL.nil
   refine AllReadyL.cons rfl (fun K hK => ?_) ?_
   ·go_simp
    refine hK.out _ _ (Kp.alloc' hS1 (.cells #[.bool false, .slice none 0 0] 46)) (fun hS2 => ?_)
    clear hK K
    have NB8 := Blk.new wn7 #[.bool false, .slice none 0 0] 46
    have ge8 : wb.heap.size ≤ wn7.heap.size := hS1.size
    have ne7x8 : A7 ≠ wn7.heap.size := by have := NB7.lt; omega
    replace NB7 := NB7.keep (kp_alloc wn7 (.cells #[.bool false, .slice none 0 0] 46))
    try simp only [sq]
    generalize hA8 : wn7.heap.size = A8 at *
    generalize wn7.alloc (.cells #[.bool false, .slice none 0 0] 46) = wn8 at *
    refine wpAnyL_on (i := 1) rfl (fun K hK => ?_)
    go_simp
    refine (size_any x _ _ (hx.keep hS2)).mono ?_
    rintro e w101 ⟨v101, rfl, hv101, hk101⟩
    obtain ⟨b101, ao101, n101, c101, rfl⟩ := hv101.shape'
    replace NB7 := NB7.keep hk101
    replace NB8 := NB8.keep hk101
    go_wp2_with fail
    refine hK.out _ _ (hS2.trans' hk101) (fun hS3 => ?_)
    clear hK K
    refine wpAnyL_on (i := 3) rfl (fun K hK => ?_)
    go_simp
    refine (rdiv_any (x.natAbs : Int) y m _ _ _ hv101 (hy.keep hS3) (by omega) y0 hm fx.abs fy).mono ?_
    rintro e w103 ⟨v103, u103x, rfl, hv103, hu103, hk103⟩
    obtain ⟨b103, ao103, n103, c103, rfl⟩ := hv103.shape'
    obtain ⟨b103x, ao103x, n103x, c103x, rfl⟩ := hu103.shape'
    replace NB7 := NB7.keep hk103
    replace NB8 := NB8.keep hk103
    go_wp2_with fail
    refine hK.out _ _ (hS3.trans' hk103) (fun hS4 => ?_)
    clear hK K
    refine wpAnyL_tk (i := 4) (k := 5) (v := .tuple #[.agg #[.bool b103, .slice ao103 n103 c103], .agg #[.bool b103x, .slice ao103x n103x c103x]]) rfl ?_ hS4 ?_
    ·intro w' hw'; go_simp
    simp only [sq]
    refine wpAnyL_tk (i := 5) (k := 9) (v := .agg #[.bool b103, .slice ao103 n103 c103]) rfl ?_ hS4 ?_
    ·intro w' hw'; go_simp
    simp only [sq]
    refine wpAnyL_tk (i := 6) (k := 10) (v := .agg #[.bool b103x, .slice ao103x n103x c103x]) rfl ?_ hS4 ?_
    ·intro w' hw'; go_simp
    simp only [sq]
    refine wpAnyL_on (i := 9) rfl (fun K hK => ?_)
    have st_c := NB7.cell
    have st_f := NB7.frozen
    have st_l := NB7.lt
    go_simp
    refine hK.out _ _ (stK2 (A := A7) (.bool b103) (.slice ao103 n103 c103) hS4 ge7) (fun hS5 => ?_)
    clear hK K
    have sfS := (stS2 (E := 3) (.bool b103) (.slice ao103 n103 c103) NB7 (by decide))
    replace NB8 := (Blk.other (c := A7) (o := 1) (y := .slice ao103 n103 c103) (Blk.other (c := A7) (o := 0) (y := .bool b103) NB8 (by omega)) (by omega))
    replace hv103 := hv103.soft sfS
    replace hu103 := hu103.soft sfS
    replace NB7 := (Blk.set (o := 1) (y := .slice ao103 n103 c103) (Blk.set (o := 0) (y := .bool b103) NB7))
    clear sfS st_c st_f st_l
    try simp only [sq]
    generalize ((w103.setCell ⟨A7, 0, none⟩ (.bool b103)).setCell ⟨A7, 1, none⟩ (.slice ao103 n103 c103)) = wt9 at *
    simp only [List.setIfInBounds_toArray, List.set_cons_zero, List.set_cons_succ] at NB7
    have st_c := NB8.cell
    have st_f := NB8.frozen
    have st_l := NB8.lt
    refine wpAnyL_last (i := 10) rfl (by kernel_rfl) (by kernel_rfl) (by kernel_rfl) (fun K hK => ?_)
    go_simp
    refine hK.out _ _ ?_
    clear hK K
    go_wp2_with fail
    go_meet
    case rel => exact ⟨A7, _, _, _, _, rfl, (ot2 (A := A8) (.bool b103x) (.slice ao103x n103x c103x) NB7 (by omega)), hv103.soft (sf2 (.bool b103x) (.slice ao103x n103x c103x) NB8 (by decide)), (kp2 (A := A8) (.bool b103x) (.slice ao103x n103x c103x) hS5 ge8), ge7⟩
   exact AllReadyL.nil
  refine AllReadyL.cons rfl (fun K hK => ?_) ?_
  ·go_simp
   refine hK.out _ _ (Kp.alloc' hS0 (.cells #[.bool false, .slice none 0 0] 46)) (fun hS1 => ?_)
   clear hK K
   have NB8 := Blk.new wd #[.bool false, .slice none 0 0] 46
   have ge8 : wb.heap.size ≤ wd.heap.size := hS0.size
   try simp only [sq]
   generalize hA8 : wd.heap.size = A8 at *
   generalize wd.alloc (.cells #[.bool false, .slice none 0 0] 46) = wn8 at *
   refine wpAnyL_ready (rs := [1, 7]) (by kernel_rfl) (by simp) ?_
   refine AllReadyL.cons rfl (fun K hK => ?_) ?_
   ·go_simp
    refine (size_any x _ _ (hx.keep hS1)).mono ?_
    rintro e w101 ⟨v101, rfl, hv101, hk101⟩
    obtain ⟨b101, ao101, n101, c101, rfl⟩ := hv101.shape'
    replace NB8 := NB8.keep hk101
    go_wp2_with fail
    refine hK.out _ _ (hS1.trans' hk101) (fun hS2 => ?_)
    clear hK K
    refine wpAnyL_ready (rs := [3, 7]) (by kernel_rfl) (by simp) ?_
    refine AllReadyL.cons rfl (fun K hK => ?_) ?_
    ·go_simp
     refine (rdiv_any (x.natAbs : Int) y m _ _ _ hv101 (hy.keep hS2) (by omega) y0 hm fx.abs fy).mono ?_
     rintro e w103 ⟨v103, u103x, rfl, hv103, hu103, hk103⟩
     obtain ⟨b103, ao103, n103, c103, rfl⟩ := hv103.shape'
     obtain ⟨b103x, ao103x, n103x, c103x, rfl⟩ := hu103.shape'
     replace NB8 := NB8.keep hk103
     go_wp2_with fail
     refine hK.out _ _ (hS2.trans' hk103) (fun hS3 => ?_)
     clear hK K
     refine wpAnyL_tk (i := 4) (k := 5) (v := .tuple #[.agg #[.bool b103, .slice ao103 n103 c103], .agg #[.bool b103x, .slice ao103x n103x c103x]]) rfl ?_ hS3 ?_
     ·intro w' hw'; go_simp
     simp only [sq]
     refine wpAnyL_tk (i := 5) (k := 9) (v := .agg #[.bool b103, .slice ao103 n103 c103]) rfl ?_ hS3 ?_
     ·intro w' hw'; go_simp
     simp only [sq]
     refine wpAnyL_tk (i := 6) (k := 10) (v := .agg #[.bool b103x, .slice ao103x n103x c103x]) rfl ?_ hS3 ?_
     ·intro w' hw'; go_simp
     simp only [sq]
     refine wpAnyL_on (i := 7) rfl (fun K hK => ?_)
     go_simp
     refine hK.out _ _ (Kp.alloc' hS3 (.cells #[.bool false, .slice none 0 0] 46)) (fun hS4 => ?_)
     clear hK K
     have NB7 := Blk.new w103 #[.bool false, .slice none 0 0] 46
     have ge7 : wb.heap.size ≤ w103.heap.size := hS3.size
     have ne8x7 : A8 ≠ w103.heap.size := by have := NB8.lt; omega
     replace NB8 := NB8.keep (kp_alloc w103 (.cells #[.bool false, .slice none 0 0] 46))
     replace hv103 := hv103.keep (kp_alloc w103 (.cells #[.bool false, .slice none 0 0] 46))
     replace hu103 := hu103.keep (kp_alloc w103 (.cells #[.bool false, .slice none 0 0] 46))
     try simp only [sq]
     generalize hA7 : w103.heap.size = A7 at *
     generalize w103.alloc (.cells #[.bool false, .slice none 0 0] 46) = wn7 at *
     refine wpAnyL_on (i := 9) rfl (fun K hK => ?_)
     have st_c := NB7.cell
     have st_f := NB7.frozen
     have st_l := NB7.lt
     go_simp
     refine hK.out _ _ (stK2 (A := A7) (.bool b103) (.slice ao103 n103 c103) hS4 ge7) (fun hS5 => ?_)
     clear hK K
     have sfS := (stS2 (E := 3) (.bool b103) (.slice ao103 n103 c103) NB7 (by decide))
     replace NB8 := (Blk.other (c := A7) (o := 1) (y := .slice ao103 n103 c103) (Blk.other (c := A7) (o := 0) (y := .bool b103) NB8 (by omega)) (by omega))
     replace hv103 := hv103.soft sfS
     replace hu103 := hu103.soft sfS
     replace NB7 := (Blk.set (o := 1) (y := .slice ao103 n103 c103) (Blk.set (o := 0) (y := .bool b103) NB7))
     clear sfS st_c st_f st_l
     try simp only [sq]
     generalize ((wn7.setCell ⟨A7, 0, none⟩ (.bool b103)).setCell ⟨A7, 1, none⟩ (.slice ao103 n103 c103)) = wt9 at *
     simp only [List.setIfInBounds_toArray, List.set_cons_zero, List.set_cons_succ] at NB7
     have st_c := NB8.cell
     have st_f := NB8.frozen
     have st_l := NB8.lt
     refine wpAnyL_last (i := 10) rfl (by kernel_rfl) (by kernel_rfl) (by kernel_rfl) (fun K hK => ?_)
     go_simp
     refine hK.out _ _ ?_
     clear hK K
     go_wp2_with fail
     go_meet
     case rel => exact ⟨A7, _, _, _, _, rfl, (ot2 (A := A8) (.bool b103x) (.slice ao103x n103x c103x) NB7 (by omega)), hv103.soft (sf2 (.bool b103x) (.slice ao103x n103x c103x) NB8 (by decide)), (kp2 (A := A8) (.bool b103x) (.slice ao103x n103x c103x) hS5 ge8), ge7⟩
    refine AllReadyL.cons rfl (fun K hK => ?_) ?_
    ·go_simp
     refine hK.out _ _ (Kp.alloc' hS2 (.cells #[.bool false, .slice none 0 0] 46)) (fun hS3 => ?_)
     clear hK K
     have NB7 := Blk.new w101 #[.bool false, .slice none 0 0] 46
     have ge7 : wb.heap.size ≤ w101.heap.size := hS2.size
     have ne8x7 : A8 ≠ w101.heap.size := by have := NB8.lt; omega
     replace NB8 := NB8.keep (kp_alloc w101 (.cells #[.bool false, .slice none 0 0] 46))
     replace hv101 := hv101.keep (kp_alloc w101 (.cells #[.bool false, .slice none 0 0] 46))
     try simp only [sq]
     generalize hA7 : w101.heap.size = A7 at *
     generalize w101.alloc (.cells #[.bool false, .slice none 0 0] 46) = wn7 at *
     refine wpAnyL_on (i := 3) rfl (fun K hK => ?_)
     go_simp
     refine (rdiv_any (x.natAbs : Int) y m _ _ _ hv101 (hy.keep hS3) (by omega) y0 hm fx.abs fy).mono ?_
     rintro e w103 ⟨v103, u103x, rfl, hv103, hu103, hk103⟩
     obtain ⟨b103, ao103, n103, c103, rfl⟩ := hv103.shape'
     obtain ⟨b103x, ao103x, n103x, c103x, rfl⟩ := hu103.shape'
     replace NB8 := NB8.keep hk103
     replace NB7 := NB7.keep hk103
     go_wp2_with fail
     refine hK.out _ _ (hS3.trans' hk103) (fun hS4 => ?_)
     clear hK K
     refine wpAnyL_tk (i := 4) (k := 5) (v := .tuple #[.agg #[.bool b103, .slice ao103 n103 c103], .agg #[.bool b103x, .slice ao103x n103x c103x]]) rfl ?_ hS4 ?_
     ·intro w' hw'; go_simp
     simp only [sq]
     refine wpAnyL_tk (i := 5) (k := 9) (v := .agg #[.bool b103, .slice ao103 n103 c103]) rfl ?_ hS4 ?_
     ·intro w' hw'; go_simp
     simp only [sq]
     refine wpAnyL_tk (i := 6) (k := 10) (v := .agg #[.bool b103x, .slice ao103x n103x c103x]) rfl ?_ hS4 ?_
     ·intro w' hw'; go_simp
     simp only [sq]
     refine wpAnyL_on (i := 9) rfl (fun K hK => ?_)
     have st_c := NB7.cell
     have st_f := NB7.frozen
     have st_l := NB7.lt
     go_simp
     refine hK.out _ _ (stK2 (A := A7) (.bool b103) (.slice ao103 n103 c103) hS4 ge7) (fun hS5 => ?_)
     clear hK K
     have sfS := (stS2 (E := 3) (.bool b103) (.slice ao103 n103 c103) NB7 (by decide))
     replace NB8 := (Blk.other (c := A7) (o := 1) (y := .slice ao103 n103 c103) (Blk.other (c := A7) (o := 0) (y := .bool b103) NB8 (by omega)) (by omega))
     replace hv103 := hv103.soft sfS
     replace hu103 := hu103.soft sfS
     replace NB7 := (Blk.set (o := 1) (y := .slice ao103 n103 c103) (Blk.set (o := 0) (y := .bool b103) NB7))
     clear sfS st_c st_f st_l
     try simp only [sq]
     generalize ((w103.setCell ⟨A7, 0, none⟩ (.bool b103)).setCell ⟨A7, 1, none⟩ (.slice ao103 n103 c103)) = wt9 at *
     simp only [List.setIfInBounds_toArray, List.set_cons_zero, List.set_cons_succ] at NB7
     have st_c := NB8.cell
     have st_f := NB8.frozen
     have st_l := NB8.lt
     refine wpAnyL_last (i := 10) rfl (by kernel_rfl) (by kernel_rfl) (by kernel_rfl) (fun K hK => ?_)
     go_simp
     refine hK.out _ _ ?_
     clear hK K
     go_wp2_with fail
     go_meet
     case rel => exact ⟨A7, _, _, _, _, rfl, (ot2 (A := A8) (.bool b103x) (.slice ao103x n103x c103x) NB7 (by omega)), hv103.soft (sf2 (.bool b103x) (.slice ao103x n103x c103x) NB8 (by decide)), (kp2 (A := A8) (.bool b103x) (.slice ao103x n103x c103x) hS5 ge8), ge7⟩
    exact AllReadyL.nil
   refine AllReadyL.cons rfl (fun K hK => ?_) ?_
   ·go_simp
    refine hK.out _ _ (Kp.alloc' hS1 (.cells #[.bool false, .slice none 0 0] 46)) (fun hS2 => ?_)
    clear hK K
    have NB7 := Blk.new wn8 #[.bool false, .slice none 0 0] 46
    have ge7 : wb.heap.size ≤ wn8.heap.size := hS1.size
    have ne8x7 : A8 ≠ wn8.heap.size := by have := NB8.lt; omega
    replace NB8 := NB8.keep (kp_alloc wn8 (.cells #[.bool false, .slice none 0 0] 46))
    try simp only [sq]
    generalize hA7 : wn8.heap.size = A7 at *
    generalize wn8.alloc (.cells #[.bool false, .slice none 0 0] 46) = wn7 at *
    refine wpAnyL_on (i := 1) rfl (fun K hK => ?_)
    go_simp
    refine (size_any x _ _ (hx.keep hS2)).mono ?_
    rintro e w101 ⟨v101, rfl, hv101, hk101⟩
    obtain ⟨b101, ao101, n101, c101, rfl⟩ := hv101.shape'
    replace NB8 := NB8.keep hk101
    replace NB7 := NB7.keep hk101
    go_wp2_with fail
    refine hK.out _ _ (hS2.trans' hk101) (fun hS3 => ?_)
    clear hK K
    refine wpAnyL_on (i := 3) rfl (fun K hK => ?_)
    go_simp
    refine (rdiv_any (x.natAbs : Int) y m _ _ _ hv101 (hy.keep hS3) (by omega) y0 hm fx.abs fy).mono ?_
    rintro e w103 ⟨v103, u103x, rfl, hv103, hu103, hk103⟩
    obtain ⟨b103, ao103, n103, c103, rfl⟩ := hv103.shape'
    obtain ⟨b103x, ao103x, n103x, c103x, rfl⟩ := hu103.shape'
    replace NB8 := NB8.keep hk103
    replace NB7 := NB7.keep hk103
    go_wp2_with fail
    refine hK.out _ _ (hS3.trans' hk103) (fun hS4 => ?_)
    clear hK K
    refine wpAnyL_tk (i := 4) (k := 5) (v := .tuple #[.agg #[.bool b103, .slice ao103 n103 c103], .agg #[.bool b103x, .slice ao103x n103x c103x]]) rfl ?_ hS4 ?_
    ·intro w' hw'; go_simp
    simp only [sq]
    refine wpAnyL_tk (i := 5) (k := 9) (v := .agg #[.bool b103, .slice ao103 n103 c103]) rfl ?_ hS4 ?_
    ·intro w' hw'; go_simp
    simp only [sq]
    refine wpAnyL_tk (i := 6) (k := 10) (v := .agg #[.bool b103x, .slice ao103x n103x c103x]) rfl ?_ hS4 ?_
    ·intro w' hw'; go_simp
    simp only [sq]
    refine wpAnyL_on (i := 9) rfl (fun K hK => ?_)
    have st_c := NB7.cell
    have st_f := NB7.frozen
    have st_l := NB7.lt
    go_simp
    refine hK.out _ _ (stK2 (A := A7) (.bool b103) (.slice ao103 n103 c103) hS4 ge7) (fun hS5 => ?_)
    clear hK K
    have sfS := (stS2 (E := 3) (.bool b103) (.slice ao103 n103 c103) NB7 (by decide))
    replace NB8 := (Blk.other (c := A7) (o := 1) (y := .slice ao103 n103 c103) (Blk.other (c := A7) (o := 0) (y := .bool b103) NB8 (by omega)) (by omega))
    replace hv103 := hv103.soft sfS
    replace hu103 := hu103.soft sfS
    replace NB7 := (Blk.set (o := 1) (y := .slice ao103 n103 c103) (Blk.set (o := 0) (y := .bool b103) NB7))
    clear sfS st_c st_f st_l
    try simp only [sq]
    generalize ((w103.setCell ⟨A7, 0, none⟩ (.bool b103)).setCell ⟨A7, 1, none⟩ (.slice ao103 n103 c103)) = wt9 at *
    simp only [List.setIfInBounds_toArray, List.set_cons_zero, List.set_cons_succ] at NB7
    have st_c := NB8.cell
    have st_f := NB8.frozen
    have st_l := NB8.lt
    refine wpAnyL_last (i := 10) rfl (by kernel_rfl) (by kernel_rfl) (by kernel_rfl) (fun K hK => ?_)
    go_simp
    refine hK.out _ _ ?_
    clear hK K
    go_wp2_with fail
    go_meet
    case rel => exact ⟨A7, _, _, _, _, rfl, (ot2 (A := A8) (.bool b103x) (.slice ao103x n103x c103x) NB7 (by omega)), hv103.soft (sf2 (.bool b103x) (.slice ao103x n103x c103x) NB8 (by decide)), (kp2 (A := A8) (.bool b103x) (.slice ao103x n103x c103x) hS5 ge8), ge7⟩
   exact AllReadyL.nil
  exact AllReadyL.nil
 case rest =>
  obtain ⟨bp, b5, ao5, n5, c5, rfl, BP, hq, hkc, hge⟩ := hcut
  replace BX := BX.keep hkc
  replace BE := BE.keep hkc
  have bxc := BX.cell
  have bpc := BP.cell
  have bpl := BP.lt
  have bec := BE.cell
  have bef := BE.frozen
  have bel2 := BE.lt
  have hkw := hkb.trans' hkc
  by_cases h : x < 0
  ·have hneg := HNEG.out
   rw [decide_eq_true h] at hneg
   subst hneg
   go_wp2_with fail
   refine (less_any _ _ _ hq).mono ?_
   rintro e w6 ⟨v6, rfl, hv6, hk6⟩
   obtain ⟨b6, ao6, n6, c6, rfl⟩ := hv6.shape'
   replace BE := BE.keep hk6
   clear bec bef bel2 bxc bpc bpl
   have bec := BE.cell
   have bef := BE.frozen
   have bel2 := BE.lt
   have e : -((x.natAbs : Int) / y) = x.tdiv y := by
    rw [show (x.natAbs : Int) = -x by omega, ← Int.tdiv_eq_ediv_of_nonneg (by omega), Int.neg_tdiv, Int.neg_neg]
   rw [e] at hv6
   go_wp2_with fail
   refine bodyPost_ret (v := .agg #[.bool b6, .slice ao6 n6 c6]) (by simp [results, Try.results86, go_sem, bec]) rfl ?_
   exact retI_mk hv6 (sf2 (.bool b6) (.slice ao6 n6 c6) BE (by decide)) (kp2 (A := w.heap.size + 1 + 1) (.bool b6) (.slice ao6 n6 c6) (hkw.trans' hk6) (by show w.heap.size ≤ w.heap.size + 1 + 1; omega))
  ·have hneg := HNEG.out
   rw [decide_eq_false h] at hneg
   subst hneg
   have e : (x.natAbs : Int) / y = x.tdiv y := by
    rw [show (x.natAbs : Int) = x by omega, ← Int.tdiv_eq_ediv_of_nonneg (by omega)]
   rw [e] at hq
   go_wp2_with fail
   refine bodyPost_ret (v := .agg #[.bool b5, .slice ao5 n5 c5]) (by simp [results, Try.results86, go_sem, bec]) rfl ?_
   exact retI_mk hq (sf2 (.bool b5) (.slice ao5 n5 c5) BE (by decide)) (kp2 (A := w.heap.size + 1 + 1) (.bool b5) (.slice ao5 n5 c5) hkw (by show w.heap.size ≤ w.heap.size + 1 + 1; omega))


end Go.Proofs.Ytjahbjjekednfaa
