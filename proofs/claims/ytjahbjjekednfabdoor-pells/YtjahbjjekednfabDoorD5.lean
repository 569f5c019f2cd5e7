import Derived.Test.YtjahbjjekednfabDoorR10
import Derived.Test.YtjahbjjekednfabDoorD0
import Derived.Deep.Cut
namespace Go.Proofs.YtjahbjjekednfabDoor
open Go.RowKit

set_option maxHeartbeats 800000 in
theorem gapTo_any (m d : Nat) (w : World) (hm : m ≤ 10000) (hd : d ≤ 10000) : Calls Tryd.prog 40 #[.int .i64 (m : Int), .int .i64 (d : Int)] w (RetV w (.int .i64 (gapN m d : Nat))) := by
 have hmm : m * m ≤ 100000000 := Nat.mul_le_mul hm hm
 have e1 : ((m : Int) * (m : Int)) = ((m * m : Nat) : Int) := by rw [Int.natCast_mul]
 have h1 : (m : Int) * (m : Int) ≤ 100000000 := by rw [e1]; omega
 have h0 : 0 ≤ (m : Int) * (m : Int) := by rw [e1]; omega
 by_cases h : m * m < d
 ·have hs : (m : Int) * (m : Int) - (d : Int) < 0 := by rw [e1]; omega
  have HE : Hid (-((m : Int) * (m : Int) - (d : Int)) = ((gapN m d : Nat) : Int)) := by
   unfold Hid gapN
   rw [e1]
   omega
  clear e1
  generalize ((gapN m d : Nat) : Int) = R at *
  go_enter Tryd.func40, Tryd.ntmps40
  go_wp2_with fail
  go_ret
  exact ⟨by rw [← HE.out]; rfl, Below.refl _ _⟩
 ·have hs : ¬ (m : Int) * (m : Int) - (d : Int) < 0 := by rw [e1]; omega
  have HE : Hid ((m : Int) * (m : Int) - (d : Int) = ((gapN m d : Nat) : Int)) := by
   unfold Hid gapN
   rw [e1]
   omega
  clear e1
  generalize ((gapN m d : Nat) : Int) = R at *
  go_enter Tryd.func40, Tryd.ntmps40
  go_wp2_with fail
  go_ret
  exact ⟨by rw [← HE.out]; rfl, Below.refl _ _⟩
theorem rb_one {w : World} {ao : Option Addr} {n c : Nat} {z : Int} (h : Rb w (.slice ao n c) z) (h0 : 0 < z) (h1 : z < 10000) : n = 1 ∧ 1 ≤ c ∧ ∃ b off, ao = some ⟨b, off, none⟩ ∧ b < w.heap.size ∧ w.cell? ⟨b, off, none⟩ = some (.int .i64 z) := by
 obtain ⟨m, hr, hc, hv⟩ := h
 have hl : m.length ≤ 1 := hc.len_le (by decide) (by rw [hv]; exact h1)
 match m, hl, hv, hr with
 | [], _, hv, _ => simp [val] at hv; omega
 | [x], _, hv, hr =>
  have hx : x = z := by simp [val] at hv; omega
  subst hx
  obtain ⟨ao', cap, b, off, e, e2, _, _, e5, e6⟩ := hr
  simp only [List.reverse_cons, List.reverse_nil, List.nil_append, List.length_cons, List.length_nil, Value.slice.injEq] at e e2 e5 e6
  obtain ⟨rfl, rfl, rfl⟩ := e
  have e7 := e6 0 (by omega)
  refine ⟨by omega, by omega, b, off, (e5 (by omega)).1, elemOf_lt (e5 (by omega)).2, ?_⟩
  simpa [at0] using e7

set_option maxHeartbeats 3200000 in
set_option maxRecDepth 100000 in
theorem rest_any (x k : Int) (u : Value) (w : World) (hx : IN w u x) (x0 : 0 ≤ x) (fx : Ft 200 x) (k0 : 0 < k) (k1 : k ≤ 9000) : Calls Tryd.prog 42 #[u, .int .i64 k] w (RetV w (.int .i64 (x % k))) := by
 obtain ⟨b1, ao1, n1, c1, rfl⟩ := hx.shape'
 have fk : Ft 200 k := Ft.mono (m := 5) (by unfold Ft; omega) (by decide)
 have r0 := Int.emod_nonneg x (show k ≠ 0 by omega)
 have r1 := Int.emod_lt_of_pos x k0
 have hkb : Kp w (w.alloc (.cells #[.bool b1, .slice ao1 n1 c1] 81)) := kp_alloc w _
 have BX : Blk (w.alloc (.cells #[.bool b1, .slice ao1 n1 c1] 81)) w.heap.size #[.bool b1, .slice ao1 n1 c1] 81 := Blk.new w _ _
 replace hx := hx.keep hkb
 have bxl := BX.lt
 go_enter Tryd.func42, Tryd.ntmps42
 go_wp2_with fail
 generalize w.alloc (.cells #[.bool b1, .slice ao1 n1 c1] 81) = wb at *
 go_cut [5, 6] from 9 (fun _ p wx => ∃ (bp : Nat) (b2 : Bool) (ao2 : Option Addr) (n2 c2 : Nat), p = .pointer (some ⟨bp, 0, none⟩) ∧ Blk wx bp #[.bool b2, .slice ao2 n2 c2] 81 ∧ IN wx (.agg #[.bool b2, .slice ao2 n2 c2]) (x % k) ∧ Kp wb wx)
 case first =>
  refine wp_region_l (S := fun w' => Kp wb w') (by kernel_rfl) (Kp.drew' (Below.refl _ _)) (fun hS0 => ?_)
  generalize wb.drew = wd at *
  refine wpAnyL_tk (i := 0) (k := 3) (v := .agg #[.bool b1, .slice ao1 n1 c1]) rfl ?_ hS0 ?_
  ·intro w' hw'; have hc := ((BX).keep hw').cell; go_simp
  simp only [sq]
  refine wpAnyL_tk (i := 1) (k := 2) (v := .int .i64 k) rfl ?_ hS0 ?_
  ·intro w' hw'; go_simp
  simp only [sq]
  refine wpAnyL_ready (rs := [2, 7, 8]) (by kernel_rfl) (by simp) ?_
  refine AllReadyL.cons rfl (fun K hK => ?_) ?_
  ·go_simp
   refine (of_any k _ (by omega) (by omega)).mono ?_
   rintro e w102 ⟨v102, rfl, hv102, hk102⟩
   obtain ⟨b102, ao102, n102, c102, rfl⟩ := hv102.shape'
   go_wp2_with fail
   refine hK.out _ _ (hS0.trans' hk102) (fun hS1 => ?_)
   clear hK K
   refine wpAnyL_ready (rs := [3, 7, 8]) (by kernel_rfl) (by simp) ?_
   refine AllReadyL.cons rfl (fun K hK => ?_) ?_
   ·go_simp
    refine (rdiv_any x k 200 _ _ _ (hx.keep hS1) hv102 x0 k0 (by decide) fx fk).mono ?_
    rintro e w103 ⟨v103, u103x, rfl, hv103, hu103, hk103⟩
    obtain ⟨b103, ao103, n103, c103, rfl⟩ := hv103.shape'
    obtain ⟨b103x, ao103x, n103x, c103x, rfl⟩ := hu103.shape'
    go_wp2_with fail
    refine hK.out _ _ (hS1.trans' hk103) (fun hS2 => ?_)
    clear hK K
    refine wpAnyL_tk (i := 4) (k := 5) (v := .tuple #[.agg #[.bool b103, .slice ao103 n103 c103], .agg #[.bool b103x, .slice ao103x n103x c103x]]) rfl ?_ hS2 ?_
    ·intro w' hw'; go_simp
    simp only [sq]
    refine wpAnyL_tk (i := 5) (k := 9) (v := .agg #[.bool b103, .slice ao103 n103 c103]) rfl ?_ hS2 ?_
    ·intro w' hw'; go_simp
    simp only [sq]
    refine wpAnyL_tk (i := 6) (k := 10) (v := .agg #[.bool b103x, .slice ao103x n103x c103x]) rfl ?_ hS2 ?_
    ·intro w' hw'; go_simp
    simp only [sq]
    refine wpAnyL_ready (rs := [7, 8]) (by kernel_rfl) (by simp) ?_
    refine AllReadyL.cons rfl (fun K hK => ?_) ?_
    ·go_simp
     refine hK.out _ _ (Kp.alloc' hS2 (.cells #[.bool false, .slice none 0 0] 81)) (fun hS3 => ?_)
     clear hK K
     have NB7 : Blk (w103.alloc (.cells #[.bool false, .slice none 0 0] 81)) w103.heap.size #[.bool false, .slice none 0 0] 81 := Blk.new w103 _ _
     have ge7 : wb.heap.size ≤ w103.heap.size := hS2.size
     replace hv103 := hv103.keep (kp_alloc w103 (.cells #[.bool false, .slice none 0 0] 81))
     replace hu103 := hu103.keep (kp_alloc w103 (.cells #[.bool false, .slice none 0 0] 81))
     try simp only [sq]
     generalize hA7 : w103.heap.size = A7 at *
     generalize w103.alloc (.cells #[.bool false, .slice none 0 0] 81) = wn7 at *
     refine wpAnyL_on (i := 8) rfl (fun K hK => ?_)
     go_simp
     refine hK.out _ _ (Kp.alloc' hS3 (.cells #[.bool false, .slice none 0 0] 81)) (fun hS4 => ?_)
     clear hK K
     have NB8 : Blk (wn7.alloc (.cells #[.bool false, .slice none 0 0] 81)) wn7.heap.size #[.bool false, .slice none 0 0] 81 := Blk.new wn7 _ _
     have ge8 : wb.heap.size ≤ wn7.heap.size := hS3.size
     have ne7x8 : A7 ≠ wn7.heap.size := by have := NB7.lt; omega
     replace hv103 := hv103.keep (kp_alloc wn7 (.cells #[.bool false, .slice none 0 0] 81))
     replace hu103 := hu103.keep (kp_alloc wn7 (.cells #[.bool false, .slice none 0 0] 81))
     replace NB7 := NB7.keep (kp_alloc wn7 (.cells #[.bool false, .slice none 0 0] 81))
     try simp only [sq]
     generalize hA8 : wn7.heap.size = A8 at *
     generalize wn7.alloc (.cells #[.bool false, .slice none 0 0] 81) = wn8 at *
     refine wpAnyL_on (i := 9) rfl (fun K hK => ?_)
     have st_c := NB7.cell
     have st_f := NB7.frozen
     have st_l := NB7.lt
     go_simp
     refine hK.out _ _ (stK2 (A := A7) (.bool b103) (.slice ao103 n103 c103) hS4 ge7) (fun hS5 => ?_)
     clear hK K
     have sfS : Sf 3 wn8 ((wn8.setCell ⟨A7, 0, none⟩ (.bool b103)).setCell ⟨A7, 1, none⟩ (.slice ao103 n103 c103)) := (stS2 (E := 3) (.bool b103) (.slice ao103 n103 c103) NB7 (by decide))
     replace hv103 := hv103.soft sfS
     replace hu103 := hu103.soft sfS
     replace NB8 := (Blk.other (c := A7) (o := 1) (y := .slice ao103 n103 c103) (Blk.other (c := A7) (o := 0) (y := .bool b103) NB8 (by omega)) (by omega))
     replace NB7 := (Blk.set (o := 1) (y := .slice ao103 n103 c103) (Blk.set (o := 0) (y := .bool b103) NB7))
     clear sfS st_c st_f st_l
     try simp only [sq]
     generalize ((wn8.setCell ⟨A7, 0, none⟩ (.bool b103)).setCell ⟨A7, 1, none⟩ (.slice ao103 n103 c103)) = wt9 at *
     simp only [List.setIfInBounds_toArray, List.set_cons_zero, List.set_cons_succ] at NB7
     have st_c := NB8.cell
     have st_f := NB8.frozen
     have st_l := NB8.lt
     refine wpAnyL_last (i := 10) rfl (by kernel_rfl) (by kernel_rfl) (by kernel_rfl) (fun K hK => ?_)
     go_simp
     refine hK.out _ _ ?_
     clear hK K
     go_wp2_with fail
     go_meet
     case rel => exact ⟨A8, _, _, _, _, rfl, (bl2 (.bool b103x) (.slice ao103x n103x c103x) NB8), hu103.soft (sf2 (E := 3) (.bool b103x) (.slice ao103x n103x c103x) NB8 (by decide)), (kp2 (A := A8) (.bool b103x) (.slice ao103x n103x c103x) hS5 (by omega))⟩
    refine AllReadyL.cons rfl (fun K hK => ?_) ?_
    ·go_simp
     refine hK.out _ _ (Kp.alloc' hS2 (.cells #[.bool false, .slice none 0 0] 81)) (fun hS3 => ?_)
     clear hK K
     have NB8 : Blk (w103.alloc (.cells #[.bool false, .slice none 0 0] 81)) w103.heap.size #[.bool false, .slice none 0 0] 81 := Blk.new w103 _ _
     have ge8 : wb.heap.size ≤ w103.heap.size := hS2.size
     replace hv103 := hv103.keep (kp_alloc w103 (.cells #[.bool false, .slice none 0 0] 81))
     replace hu103 := hu103.keep (kp_alloc w103 (.cells #[.bool false, .slice none 0 0] 81))
     try simp only [sq]
     generalize hA8 : w103.heap.size = A8 at *
     generalize w103.alloc (.cells #[.bool false, .slice none 0 0] 81) = wn8 at *
     refine wpAnyL_on (i := 7) rfl (fun K hK => ?_)
     go_simp
     refine hK.out _ _ (Kp.alloc' hS3 (.cells #[.bool false, .slice none 0 0] 81)) (fun hS4 => ?_)
     clear hK K
     have NB7 : Blk (wn8.alloc (.cells #[.bool false, .slice none 0 0] 81)) wn8.heap.size #[.bool false, .slice none 0 0] 81 := Blk.new wn8 _ _
     have ge7 : wb.heap.size ≤ wn8.heap.size := hS3.size
     have ne8x7 : A8 ≠ wn8.heap.size := by have := NB8.lt; omega
     replace hv103 := hv103.keep (kp_alloc wn8 (.cells #[.bool false, .slice none 0 0] 81))
     replace hu103 := hu103.keep (kp_alloc wn8 (.cells #[.bool false, .slice none 0 0] 81))
     replace NB8 := NB8.keep (kp_alloc wn8 (.cells #[.bool false, .slice none 0 0] 81))
     try simp only [sq]
     generalize hA7 : wn8.heap.size = A7 at *
     generalize wn8.alloc (.cells #[.bool false, .slice none 0 0] 81) = wn7 at *
     refine wpAnyL_on (i := 9) rfl (fun K hK => ?_)
     have st_c := NB7.cell
     have st_f := NB7.frozen
     have st_l := NB7.lt
     go_simp
     refine hK.out _ _ (stK2 (A := A7) (.bool b103) (.slice ao103 n103 c103) hS4 ge7) (fun hS5 => ?_)
     clear hK K
     have sfS : Sf 3 wn7 ((wn7.setCell ⟨A7, 0, none⟩ (.bool b103)).setCell ⟨A7, 1, none⟩ (.slice ao103 n103 c103)) := (stS2 (E := 3) (.bool b103) (.slice ao103 n103 c103) NB7 (by decide))
     replace hv103 := hv103.soft sfS
     replace hu103 := hu103.soft sfS
     replace NB8 := (Blk.other (c := A7) (o := 1) (y := .slice ao103 n103 c103) (Blk.other (c := A7) (o := 0) (y := .bool b103) NB8 (by omega)) (by omega))
     replace NB7 := (Blk.set (o := 1) (y := .slice ao103 n103 c103) (Blk.set (o := 0) (y := .bool b103) NB7))
     clear sfS st_c st_f st_l
     try simp only [sq]
     generalize ((wn7.setCell ⟨A7, 0, none⟩ (.bool b103)).setCell ⟨A7, 1, none⟩ (.slice ao103 n103 c103)) = wt9 at *
     simp only [List.setIfInBounds_toArray, List.set_cons_zero, List.set_cons_succ] at NB7
     have st_c := NB8.cell
     have st_f := NB8.frozen
     have st_l := NB8.lt
     refine wpAnyL_last (i := 10) rfl (by kernel_rfl) (by kernel_rfl) (by kernel_rfl) (fun K hK => ?_)
     go_simp
     refine hK.out _ _ ?_
     clear hK K
     go_wp2_with fail
     go_meet
     case rel => exact ⟨A8, _, _, _, _, rfl, (bl2 (.bool b103x) (.slice ao103x n103x c103x) NB8), hu103.soft (sf2 (E := 3) (.bool b103x) (.slice ao103x n103x c103x) NB8 (by decide)), (kp2 (A := A8) (.bool b103x) (.slice ao103x n103x c103x) hS5 (by omega))⟩
    exact AllReadyL.nil
   refine AllReadyL.cons rfl (fun K hK => ?_) ?_
   ·go_simp
    refine hK.out _ _ (Kp.alloc' hS1 (.cells #[.bool false, .slice none 0 0] 81)) (fun hS2 => ?_)
    clear hK K
    have NB7 : Blk (w102.alloc (.cells #[.bool false, .slice none 0 0] 81)) w102.heap.size #[.bool false, .slice none 0 0] 81 := Blk.new w102 _ _
    have ge7 : wb.heap.size ≤ w102.heap.size := hS1.size
    replace hv102 := hv102.keep (kp_alloc w102 (.cells #[.bool false, .slice none 0 0] 81))
    try simp only [sq]
    generalize hA7 : w102.heap.size = A7 at *
    generalize w102.alloc (.cells #[.bool false, .slice none 0 0] 81) = wn7 at *
    refine wpAnyL_ready (rs := [3, 8]) (by kernel_rfl) (by simp) ?_
    refine AllReadyL.cons rfl (fun K hK => ?_) ?_
    ·go_simp
     refine (rdiv_any x k 200 _ _ _ (hx.keep hS2) hv102 x0 k0 (by decide) fx fk).mono ?_
     rintro e w103 ⟨v103, u103x, rfl, hv103, hu103, hk103⟩
     obtain ⟨b103, ao103, n103, c103, rfl⟩ := hv103.shape'
     obtain ⟨b103x, ao103x, n103x, c103x, rfl⟩ := hu103.shape'
     replace NB7 := NB7.keep hk103
     go_wp2_with fail
     refine hK.out _ _ (hS2.trans' hk103) (fun hS3 => ?_)
     clear hK K
     refine wpAnyL_tk (i := 4) (k := 5) (v := .tuple #[.agg #[.bool b103, .slice ao103 n103 c103], .agg #[.bool b103x, .slice ao103x n103x c103x]]) rfl ?_ hS3 ?_
     ·intro w' hw'; go_simp
     simp only [sq]
     refine wpAnyL_tk (i := 5) (k := 9) (v := .agg #[.bool b103, .slice ao103 n103 c103]) rfl ?_ hS3 ?_
     ·intro w' hw'; go_simp
     simp only [sq]
     refine wpAnyL_tk (i := 6) (k := 10) (v := .agg #[.bool b103x, .slice ao103x n103x c103x]) rfl ?_ hS3 ?_
     ·intro w' hw'; go_simp
     simp only [sq]
     refine wpAnyL_on (i := 8) rfl (fun K hK => ?_)
     go_simp
     refine hK.out _ _ (Kp.alloc' hS3 (.cells #[.bool false, .slice none 0 0] 81)) (fun hS4 => ?_)
     clear hK K
     have NB8 : Blk (w103.alloc (.cells #[.bool false, .slice none 0 0] 81)) w103.heap.size #[.bool false, .slice none 0 0] 81 := Blk.new w103 _ _
     have ge8 : wb.heap.size ≤ w103.heap.size := hS3.size
     have ne7x8 : A7 ≠ w103.heap.size := by have := NB7.lt; omega
     replace NB7 := NB7.keep (kp_alloc w103 (.cells #[.bool false, .slice none 0 0] 81))
     replace hv103 := hv103.keep (kp_alloc w103 (.cells #[.bool false, .slice none 0 0] 81))
     replace hu103 := hu103.keep (kp_alloc w103 (.cells #[.bool false, .slice none 0 0] 81))
     try simp only [sq]
     generalize hA8 : w103.heap.size = A8 at *
     generalize w103.alloc (.cells #[.bool false, .slice none 0 0] 81) = wn8 at *
     refine wpAnyL_on (i := 9) rfl (fun K hK => ?_)
     have st_c := NB7.cell
     have st_f := NB7.frozen
     have st_l := NB7.lt
     go_simp
     refine hK.out _ _ (stK2 (A := A7) (.bool b103) (.slice ao103 n103 c103) hS4 ge7) (fun hS5 => ?_)
     clear hK K
     have sfS : Sf 3 wn8 ((wn8.setCell ⟨A7, 0, none⟩ (.bool b103)).setCell ⟨A7, 1, none⟩ (.slice ao103 n103 c103)) := (stS2 (E := 3) (.bool b103) (.slice ao103 n103 c103) NB7 (by decide))
     replace hv103 := hv103.soft sfS
     replace hu103 := hu103.soft sfS
     replace NB8 := (Blk.other (c := A7) (o := 1) (y := .slice ao103 n103 c103) (Blk.other (c := A7) (o := 0) (y := .bool b103) NB8 (by omega)) (by omega))
     replace NB7 := (Blk.set (o := 1) (y := .slice ao103 n103 c103) (Blk.set (o := 0) (y := .bool b103) NB7))
     clear sfS st_c st_f st_l
     try simp only [sq]
     generalize ((wn8.setCell ⟨A7, 0, none⟩ (.bool b103)).setCell ⟨A7, 1, none⟩ (.slice ao103 n103 c103)) = wt9 at *
     simp only [List.setIfInBounds_toArray, List.set_cons_zero, List.set_cons_succ] at NB7
     have st_c := NB8.cell
     have st_f := NB8.frozen
     have st_l := NB8.lt
     refine wpAnyL_last (i := 10) rfl (by kernel_rfl) (by kernel_rfl) (by kernel_rfl) (fun K hK => ?_)
     go_simp
     refine hK.out _ _ ?_
     clear hK K
     go_wp2_with fail
     go_meet
     case rel => exact ⟨A8, _, _, _, _, rfl, (bl2 (.bool b103x) (.slice ao103x n103x c103x) NB8), hu103.soft (sf2 (E := 3) (.bool b103x) (.slice ao103x n103x c103x) NB8 (by decide)), (kp2 (A := A8) (.bool b103x) (.slice ao103x n103x c103x) hS5 (by omega))⟩
    refine AllReadyL.cons rfl (fun K hK => ?_) ?_
    ·go_simp
     refine hK.out _ _ (Kp.alloc' hS2 (.cells #[.bool false, .slice none 0 0] 81)) (fun hS3 => ?_)
     clear hK K
     have NB8 : Blk (wn7.alloc (.cells #[.bool false, .slice none 0 0] 81)) wn7.heap.size #[.bool false, .slice none 0 0] 81 := Blk.new wn7 _ _
     have ge8 : wb.heap.size ≤ wn7.heap.size := hS2.size
     have ne7x8 : A7 ≠ wn7.heap.size := by have := NB7.lt; omega
     replace hv102 := hv102.keep (kp_alloc wn7 (.cells #[.bool false, .slice none 0 0] 81))
     replace NB7 := NB7.keep (kp_alloc wn7 (.cells #[.bool false, .slice none 0 0] 81))
     try simp only [sq]
     generalize hA8 : wn7.heap.size = A8 at *
     generalize wn7.alloc (.cells #[.bool false, .slice none 0 0] 81) = wn8 at *
     refine wpAnyL_on (i := 3) rfl (fun K hK => ?_)
     go_simp
     refine (rdiv_any x k 200 _ _ _ (hx.keep hS3) hv102 x0 k0 (by decide) fx fk).mono ?_
     rintro e w103 ⟨v103, u103x, rfl, hv103, hu103, hk103⟩
     obtain ⟨b103, ao103, n103, c103, rfl⟩ := hv103.shape'
     obtain ⟨b103x, ao103x, n103x, c103x, rfl⟩ := hu103.shape'
     replace NB7 := NB7.keep hk103
     replace NB8 := NB8.keep hk103
     go_wp2_with fail
     refine hK.out _ _ (hS3.trans' hk103) (fun hS4 => ?_)
     clear hK K
     refine wpAnyL_tk (i := 4) (k := 5) (v := .tuple #[.agg #[.bool b103, .slice ao103 n103 c103], .agg #[.bool b103x, .slice ao103x n103x c103x]]) rfl ?_ hS4 ?_
     ·intro w' hw'; go_simp
     simp only [sq]
     refine wpAnyL_tk (i := 5) (k := 9) (v := .agg #[.bool b103, .slice ao103 n103 c103]) rfl ?_ hS4 ?_
     ·intro w' hw'; go_simp
     simp only [sq]
     refine wpAnyL_tk (i := 6) (k := 10) (v := .agg #[.bool b103x, .slice ao103x n103x c103x]) rfl ?_ hS4 ?_
     ·intro w' hw'; go_simp
     simp only [sq]
     refine wpAnyL_on (i := 9) rfl (fun K hK => ?_)
     have st_c := NB7.cell
     have st_f := NB7.frozen
     have st_l := NB7.lt
     go_simp
     refine hK.out _ _ (stK2 (A := A7) (.bool b103) (.slice ao103 n103 c103) hS4 ge7) (fun hS5 => ?_)
     clear hK K
     have sfS : Sf 3 w103 ((w103.setCell ⟨A7, 0, none⟩ (.bool b103)).setCell ⟨A7, 1, none⟩ (.slice ao103 n103 c103)) := (stS2 (E := 3) (.bool b103) (.slice ao103 n103 c103) NB7 (by decide))
     replace NB8 := (Blk.other (c := A7) (o := 1) (y := .slice ao103 n103 c103) (Blk.other (c := A7) (o := 0) (y := .bool b103) NB8 (by omega)) (by omega))
     replace hv103 := hv103.soft sfS
     replace hu103 := hu103.soft sfS
     replace NB7 := (Blk.set (o := 1) (y := .slice ao103 n103 c103) (Blk.set (o := 0) (y := .bool b103) NB7))
     clear sfS st_c st_f st_l
     try simp only [sq]
     generalize ((w103.setCell ⟨A7, 0, none⟩ (.bool b103)).setCell ⟨A7, 1, none⟩ (.slice ao103 n103 c103)) = wt9 at *
     simp only [List.setIfInBounds_toArray, List.set_cons_zero, List.set_cons_succ] at NB7
     have st_c := NB8.cell
     have st_f := NB8.frozen
     have st_l := NB8.lt
     refine wpAnyL_last (i := 10) rfl (by kernel_rfl) (by kernel_rfl) (by kernel_rfl) (fun K hK => ?_)
     go_simp
     refine hK.out _ _ ?_
     clear hK K
     go_wp2_with fail
     go_meet
     case rel => exact ⟨A8, _, _, _, _, rfl, (bl2 (.bool b103x) (.slice ao103x n103x c103x) NB8), hu103.soft (sf2 (E := 3) (.bool b103x) (.slice ao103x n103x c103x) NB8 (by decide)), (kp2 (A := A8) (.bool b103x) (.slice ao103x n103x c103x) hS5 (by omega))⟩
    exact AllReadyL.nil
   refine AllReadyL.cons rfl (fun K hK => ?_) ?_
   ·go_simp
    refine hK.out _ _ (Kp.alloc' hS1 (.cells #[.bool false, .slice none 0 0] 81)) (fun hS2 => ?_)
    clear hK K
    have NB8 : Blk (w102.alloc (.cells #[.bool false, .slice none 0 0] 81)) w102.heap.size #[.bool false, .slice none 0 0] 81 := Blk.new w102 _ _
    have ge8 : wb.heap.size ≤ w102.heap.size := hS1.size
    replace hv102 := hv102.keep (kp_alloc w102 (.cells #[.bool false, .slice none 0 0] 81))
    try simp only [sq]
    generalize hA8 : w102.heap.size = A8 at *
    generalize w102.alloc (.cells #[.bool false, .slice none 0 0] 81) = wn8 at *
    refine wpAnyL_ready (rs := [3, 7]) (by kernel_rfl) (by simp) ?_
    refine AllReadyL.cons rfl (fun K hK => ?_) ?_
    ·go_simp
     refine (rdiv_any x k 200 _ _ _ (hx.keep hS2) hv102 x0 k0 (by decide) fx fk).mono ?_
     rintro e w103 ⟨v103, u103x, rfl, hv103, hu103, hk103⟩
     obtain ⟨b103, ao103, n103, c103, rfl⟩ := hv103.shape'
     obtain ⟨b103x, ao103x, n103x, c103x, rfl⟩ := hu103.shape'
     replace NB8 := NB8.keep hk103
     go_wp2_with fail
     refine hK.out _ _ (hS2.trans' hk103) (fun hS3 => ?_)
     clear hK K
     refine wpAnyL_tk (i := 4) (k := 5) (v := .tuple #[.agg #[.bool b103, .slice ao103 n103 c103], .agg #[.bool b103x, .slice ao103x n103x c103x]]) rfl ?_ hS3 ?_
     ·intro w' hw'; go_simp
     simp only [sq]
     refine wpAnyL_tk (i := 5) (k := 9) (v := .agg #[.bool b103, .slice ao103 n103 c103]) rfl ?_ hS3 ?_
     ·intro w' hw'; go_simp
     simp only [sq]
     refine wpAnyL_tk (i := 6) (k := 10) (v := .agg #[.bool b103x, .slice ao103x n103x c103x]) rfl ?_ hS3 ?_
     ·intro w' hw'; go_simp
     simp only [sq]
     refine wpAnyL_on (i := 7) rfl (fun K hK => ?_)
     go_simp
     refine hK.out _ _ (Kp.alloc' hS3 (.cells #[.bool false, .slice none 0 0] 81)) (fun hS4 => ?_)
     clear hK K
     have NB7 : Blk (w103.alloc (.cells #[.bool false, .slice none 0 0] 81)) w103.heap.size #[.bool false, .slice none 0 0] 81 := Blk.new w103 _ _
     have ge7 : wb.heap.size ≤ w103.heap.size := hS3.size
     have ne8x7 : A8 ≠ w103.heap.size := by have := NB8.lt; omega
     replace NB8 := NB8.keep (kp_alloc w103 (.cells #[.bool false, .slice none 0 0] 81))
     replace hv103 := hv103.keep (kp_alloc w103 (.cells #[.bool false, .slice none 0 0] 81))
     replace hu103 := hu103.keep (kp_alloc w103 (.cells #[.bool false, .slice none 0 0] 81))
     try simp only [sq]
     generalize hA7 : w103.heap.size = A7 at *
     generalize w103.alloc (.cells #[.bool false, .slice none 0 0] 81) = wn7 at *
     refine wpAnyL_on (i := 9) rfl (fun K hK => ?_)
     have st_c := NB7.cell
     have st_f := NB7.frozen
     have st_l := NB7.lt
     go_simp
     refine hK.out _ _ (stK2 (A := A7) (.bool b103) (.slice ao103 n103 c103) hS4 ge7) (fun hS5 => ?_)
     clear hK K
     have sfS : Sf 3 wn7 ((wn7.setCell ⟨A7, 0, none⟩ (.bool b103)).setCell ⟨A7, 1, none⟩ (.slice ao103 n103 c103)) := (stS2 (E := 3) (.bool b103) (.slice ao103 n103 c103) NB7 (by decide))
     replace NB8 := (Blk.other (c := A7) (o := 1) (y := .slice ao103 n103 c103) (Blk.other (c := A7) (o := 0) (y := .bool b103) NB8 (by omega)) (by omega))
     replace hv103 := hv103.soft sfS
     replace hu103 := hu103.soft sfS
     replace NB7 := (Blk.set (o := 1) (y := .slice ao103 n103 c103) (Blk.set (o := 0) (y := .bool b103) NB7))
     clear sfS st_c st_f st_l
     try simp only [sq]
     generalize ((wn7.setCell ⟨A7, 0, none⟩ (.bool b103)).setCell ⟨A7, 1, none⟩ (.slice ao103 n103 c103)) = wt9 at *
     simp only [List.setIfInBounds_toArray, List.set_cons_zero, List.set_cons_succ] at NB7
     have st_c := NB8.cell
     have st_f := NB8.frozen
     have st_l := NB8.lt
     refine wpAnyL_last (i := 10) rfl (by kernel_rfl) (by kernel_rfl) (by kernel_rfl) (fun K hK => ?_)
     go_simp
     refine hK.out _ _ ?_
     clear hK K
     go_wp2_with fail
     go_meet
     case rel => exact ⟨A8, _, _, _, _, rfl, (bl2 (.bool b103x) (.slice ao103x n103x c103x) NB8), hu103.soft (sf2 (E := 3) (.bool b103x) (.slice ao103x n103x c103x) NB8 (by decide)), (kp2 (A := A8) (.bool b103x) (.slice ao103x n103x c103x) hS5 (by omega))⟩
    refine AllReadyL.cons rfl (fun K hK => ?_) ?_
    ·go_simp
     refine hK.out _ _ (Kp.alloc' hS2 (.cells #[.bool false, .slice none 0 0] 81)) (fun hS3 => ?_)
     clear hK K
     have NB7 : Blk (wn8.alloc (.cells #[.bool false, .slice none 0 0] 81)) wn8.heap.size #[.bool false, .slice none 0 0] 81 := Blk.new wn8 _ _
     have ge7 : wb.heap.size ≤ wn8.heap.size := hS2.size
     have ne8x7 : A8 ≠ wn8.heap.size := by have := NB8.lt; omega
     replace hv102 := hv102.keep (kp_alloc wn8 (.cells #[.bool false, .slice none 0 0] 81))
     replace NB8 := NB8.keep (kp_alloc wn8 (.cells #[.bool false, .slice none 0 0] 81))
     try simp only [sq]
     generalize hA7 : wn8.heap.size = A7 at *
     generalize wn8.alloc (.cells #[.bool false, .slice none 0 0] 81) = wn7 at *
     refine wpAnyL_on (i := 3) rfl (fun K hK => ?_)
     go_simp
     refine (rdiv_any x k 200 _ _ _ (hx.keep hS3) hv102 x0 k0 (by decide) fx fk).mono ?_
     rintro e w103 ⟨v103, u103x, rfl, hv103, hu103, hk103⟩
     obtain ⟨b103, ao103, n103, c103, rfl⟩ := hv103.shape'
     obtain ⟨b103x, ao103x, n103x, c103x, rfl⟩ := hu103.shape'
     replace NB8 := NB8.keep hk103
     replace NB7 := NB7.keep hk103
     go_wp2_with fail
     refine hK.out _ _ (hS3.trans' hk103) (fun hS4 => ?_)
     clear hK K
     refine wpAnyL_tk (i := 4) (k := 5) (v := .tuple #[.agg #[.bool b103, .slice ao103 n103 c103], .agg #[.bool b103x, .slice ao103x n103x c103x]]) rfl ?_ hS4 ?_
     ·intro w' hw'; go_simp
     simp only [sq]
     refine wpAnyL_tk (i := 5) (k := 9) (v := .agg #[.bool b103, .slice ao103 n103 c103]) rfl ?_ hS4 ?_
     ·intro w' hw'; go_simp
     simp only [sq]
     refine wpAnyL_tk (i := 6) (k := 10) (v := .agg #[.bool b103x, .slice ao103x n103x c103x]) rfl ?_ hS4 ?_
     ·intro w' hw'; go_simp
     simp only [sq]
     refine wpAnyL_on (i := 9) rfl (fun K hK => ?_)
     have st_c := NB7.cell
     have st_f := NB7.frozen
     have st_l := NB7.lt
     go_simp
     refine hK.out _ _ (stK2 (A := A7) (.bool b103) (.slice ao103 n103 c103) hS4 ge7) (fun hS5 => ?_)
     clear hK K
     have sfS : Sf 3 w103 ((w103.setCell ⟨A7, 0, none⟩ (.bool b103)).setCell ⟨A7, 1, none⟩ (.slice ao103 n103 c103)) := (stS2 (E := 3) (.bool b103) (.slice ao103 n103 c103) NB7 (by decide))
     replace NB8 := (Blk.other (c := A7) (o := 1) (y := .slice ao103 n103 c103) (Blk.other (c := A7) (o := 0) (y := .bool b103) NB8 (by omega)) (by omega))
     replace hv103 := hv103.soft sfS
     replace hu103 := hu103.soft sfS
     replace NB7 := (Blk.set (o := 1) (y := .slice ao103 n103 c103) (Blk.set (o := 0) (y := .bool b103) NB7))
     clear sfS st_c st_f st_l
     try simp only [sq]
     generalize ((w103.setCell ⟨A7, 0, none⟩ (.bool b103)).setCell ⟨A7, 1, none⟩ (.slice ao103 n103 c103)) = wt9 at *
     simp only [List.setIfInBounds_toArray, List.set_cons_zero, List.set_cons_succ] at NB7
     have st_c := NB8.cell
     have st_f := NB8.frozen
     have st_l := NB8.lt
     refine wpAnyL_last (i := 10) rfl (by kernel_rfl) (by kernel_rfl) (by kernel_rfl) (fun K hK => ?_)
     go_simp
     refine hK.out _ _ ?_
     clear hK K
     go_wp2_with fail
     go_meet
     case rel => exact ⟨A8, _, _, _, _, rfl, (bl2 (.bool b103x) (.slice ao103x n103x c103x) NB8), hu103.soft (sf2 (E := 3) (.bool b103x) (.slice ao103x n103x c103x) NB8 (by decide)), (kp2 (A := A8) (.bool b103x) (.slice ao103x n103x c103x) hS5 (by omega))⟩
    exact AllReadyL.nil
   exact AllReadyL.nil
  refine AllReadyL.cons rfl (fun K hK => ?_) ?_
  ·go_simp
   refine hK.out _ _ (Kp.alloc' hS0 (.cells #[.bool false, .slice none 0 0] 81)) (fun hS1 => ?_)
   clear hK K
   have NB7 : Blk (wd.alloc (.cells #[.bool false, .slice none 0 0] 81)) wd.heap.size #[.bool false, .slice none 0 0] 81 := Blk.new wd _ _
   have ge7 : wb.heap.size ≤ wd.heap.size := hS0.size
   try simp only [sq]
   generalize hA7 : wd.heap.size = A7 at *
   generalize wd.alloc (.cells #[.bool false, .slice none 0 0] 81) = wn7 at *
   refine wpAnyL_ready (rs := [2, 8]) (by kernel_rfl) (by simp) ?_
   refine AllReadyL.cons rfl (fun K hK => ?_) ?_
   ·go_simp
    refine (of_any k _ (by omega) (by omega)).mono ?_
    rintro e w102 ⟨v102, rfl, hv102, hk102⟩
    obtain ⟨b102, ao102, n102, c102, rfl⟩ := hv102.shape'
    replace NB7 := NB7.keep hk102
    go_wp2_with fail
    refine hK.out _ _ (hS1.trans' hk102) (fun hS2 => ?_)
    clear hK K
    refine wpAnyL_ready (rs := [3, 8]) (by kernel_rfl) (by simp) ?_
    refine AllReadyL.cons rfl (fun K hK => ?_) ?_
    ·go_simp
     refine (rdiv_any x k 200 _ _ _ (hx.keep hS2) hv102 x0 k0 (by decide) fx fk).mono ?_
     rintro e w103 ⟨v103, u103x, rfl, hv103, hu103, hk103⟩
     obtain ⟨b103, ao103, n103, c103, rfl⟩ := hv103.shape'
     obtain ⟨b103x, ao103x, n103x, c103x, rfl⟩ := hu103.shape'
     replace NB7 := NB7.keep hk103
     go_wp2_with fail
     refine hK.out _ _ (hS2.trans' hk103) (fun hS3 => ?_)
     clear hK K
     refine wpAnyL_tk (i := 4) (k := 5) (v := .tuple #[.agg #[.bool b103, .slice ao103 n103 c103], .agg #[.bool b103x, .slice ao103x n103x c103x]]) rfl ?_ hS3 ?_
     ·intro w' hw'; go_simp
     simp only [sq]
     refine wpAnyL_tk (i := 5) (k := 9) (v := .agg #[.bool b103, .slice ao103 n103 c103]) rfl ?_ hS3 ?_
     ·intro w' hw'; go_simp
     simp only [sq]
     refine wpAnyL_tk (i := 6) (k := 10) (v := .agg #[.bool b103x, .slice ao103x n103x c103x]) rfl ?_ hS3 ?_
     ·intro w' hw'; go_simp
     simp only [sq]
     refine wpAnyL_on (i := 8) rfl (fun K hK => ?_)
     go_simp
     refine hK.out _ _ (Kp.alloc' hS3 (.cells #[.bool false, .slice none 0 0] 81)) (fun hS4 => ?_)
     clear hK K
     have NB8 : Blk (w103.alloc (.cells #[.bool false, .slice none 0 0] 81)) w103.heap.size #[.bool false, .slice none 0 0] 81 := Blk.new w103 _ _
     have ge8 : wb.heap.size ≤ w103.heap.size := hS3.size
     have ne7x8 : A7 ≠ w103.heap.size := by have := NB7.lt; omega
     replace NB7 := NB7.keep (kp_alloc w103 (.cells #[.bool false, .slice none 0 0] 81))
     replace hv103 := hv103.keep (kp_alloc w103 (.cells #[.bool false, .slice none 0 0] 81))
     replace hu103 := hu103.keep (kp_alloc w103 (.cells #[.bool false, .slice none 0 0] 81))
     try simp only [sq]
     generalize hA8 : w103.heap.size = A8 at *
     generalize w103.alloc (.cells #[.bool false, .slice none 0 0] 81) = wn8 at *
     refine wpAnyL_on (i := 9) rfl (fun K hK => ?_)
     have st_c := NB7.cell
     have st_f := NB7.frozen
     have st_l := NB7.lt
     go_simp
     refine hK.out _ _ (stK2 (A := A7) (.bool b103) (.slice ao103 n103 c103) hS4 ge7) (fun hS5 => ?_)
     clear hK K
     have sfS : Sf 3 wn8 ((wn8.setCell ⟨A7, 0, none⟩ (.bool b103)).setCell ⟨A7, 1, none⟩ (.slice ao103 n103 c103)) := (stS2 (E := 3) (.bool b103) (.slice ao103 n103 c103) NB7 (by decide))
     replace hv103 := hv103.soft sfS
     replace hu103 := hu103.soft sfS
     replace NB8 := (Blk.other (c := A7) (o := 1) (y := .slice ao103 n103 c103) (Blk.other (c := A7) (o := 0) (y := .bool b103) NB8 (by omega)) (by omega))
     replace NB7 := (Blk.set (o := 1) (y := .slice ao103 n103 c103) (Blk.set (o := 0) (y := .bool b103) NB7))
     clear sfS st_c st_f st_l
     try simp only [sq]
     generalize ((wn8.setCell ⟨A7, 0, none⟩ (.bool b103)).setCell ⟨A7, 1, none⟩ (.slice ao103 n103 c103)) = wt9 at *
     simp only [List.setIfInBounds_toArray, List.set_cons_zero, List.set_cons_succ] at NB7
     have st_c := NB8.cell
     have st_f := NB8.frozen
     have st_l := NB8.lt
     refine wpAnyL_last (i := 10) rfl (by kernel_rfl) (by kernel_rfl) (by kernel_rfl) (fun K hK => ?_)
     go_simp
     refine hK.out _ _ ?_
     clear hK K
     go_wp2_with fail
     go_meet
     case rel => exact ⟨A8, _, _, _, _, rfl, (bl2 (.bool b103x) (.slice ao103x n103x c103x) NB8), hu103.soft (sf2 (E := 3) (.bool b103x) (.slice ao103x n103x c103x) NB8 (by decide)), (kp2 (A := A8) (.bool b103x) (.slice ao103x n103x c103x) hS5 (by omega))⟩
    refine AllReadyL.cons rfl (fun K hK => ?_) ?_
    ·go_simp
     refine hK.out _ _ (Kp.alloc' hS2 (.cells #[.bool false, .slice none 0 0] 81)) (fun hS3 => ?_)
     clear hK K
     have NB8 : Blk (w102.alloc (.cells #[.bool false, .slice none 0 0] 81)) w102.heap.size #[.bool false, .slice none 0 0] 81 := Blk.new w102 _ _
     have ge8 : wb.heap.size ≤ w102.heap.size := hS2.size
     have ne7x8 : A7 ≠ w102.heap.size := by have := NB7.lt; omega
     replace NB7 := NB7.keep (kp_alloc w102 (.cells #[.bool false, .slice none 0 0] 81))
     replace hv102 := hv102.keep (kp_alloc w102 (.cells #[.bool false, .slice none 0 0] 81))
     try simp only [sq]
     generalize hA8 : w102.heap.size = A8 at *
     generalize w102.alloc (.cells #[.bool false, .slice none 0 0] 81) = wn8 at *
     refine wpAnyL_on (i := 3) rfl (fun K hK => ?_)
     go_simp
     refine (rdiv_any x k 200 _ _ _ (hx.keep hS3) hv102 x0 k0 (by decide) fx fk).mono ?_
     rintro e w103 ⟨v103, u103x, rfl, hv103, hu103, hk103⟩
     obtain ⟨b103, ao103, n103, c103, rfl⟩ := hv103.shape'
     obtain ⟨b103x, ao103x, n103x, c103x, rfl⟩ := hu103.shape'
     replace NB7 := NB7.keep hk103
     replace NB8 := NB8.keep hk103
     go_wp2_with fail
     refine hK.out _ _ (hS3.trans' hk103) (fun hS4 => ?_)
     clear hK K
     refine wpAnyL_tk (i := 4) (k := 5) (v := .tuple #[.agg #[.bool b103, .slice ao103 n103 c103], .agg #[.bool b103x, .slice ao103x n103x c103x]]) rfl ?_ hS4 ?_
     ·intro w' hw'; go_simp
     simp only [sq]
     refine wpAnyL_tk (i := 5) (k := 9) (v := .agg #[.bool b103, .slice ao103 n103 c103]) rfl ?_ hS4 ?_
     ·intro w' hw'; go_simp
     simp only [sq]
     refine wpAnyL_tk (i := 6) (k := 10) (v := .agg #[.bool b103x, .slice ao103x n103x c103x]) rfl ?_ hS4 ?_
     ·intro w' hw'; go_simp
     simp only [sq]
     refine wpAnyL_on (i := 9) rfl (fun K hK => ?_)
     have st_c := NB7.cell
     have st_f := NB7.frozen
     have st_l := NB7.lt
     go_simp
     refine hK.out _ _ (stK2 (A := A7) (.bool b103) (.slice ao103 n103 c103) hS4 ge7) (fun hS5 => ?_)
     clear hK K
     have sfS : Sf 3 w103 ((w103.setCell ⟨A7, 0, none⟩ (.bool b103)).setCell ⟨A7, 1, none⟩ (.slice ao103 n103 c103)) := (stS2 (E := 3) (.bool b103) (.slice ao103 n103 c103) NB7 (by decide))
     replace NB8 := (Blk.other (c := A7) (o := 1) (y := .slice ao103 n103 c103) (Blk.other (c := A7) (o := 0) (y := .bool b103) NB8 (by omega)) (by omega))
     replace hv103 := hv103.soft sfS
     replace hu103 := hu103.soft sfS
     replace NB7 := (Blk.set (o := 1) (y := .slice ao103 n103 c103) (Blk.set (o := 0) (y := .bool b103) NB7))
     clear sfS st_c st_f st_l
     try simp only [sq]
     generalize ((w103.setCell ⟨A7, 0, none⟩ (.bool b103)).setCell ⟨A7, 1, none⟩ (.slice ao103 n103 c103)) = wt9 at *
     simp only [List.setIfInBounds_toArray, List.set_cons_zero, List.set_cons_succ] at NB7
     have st_c := NB8.cell
     have st_f := NB8.frozen
     have st_l := NB8.lt
     refine wpAnyL_last (i := 10) rfl (by kernel_rfl) (by kernel_rfl) (by kernel_rfl) (fun K hK => ?_)
     go_simp
     refine hK.out _ _ ?_
     clear hK K
     go_wp2_with fail
     go_meet
     case rel => exact ⟨A8, _, _, _, _, rfl, (bl2 (.bool b103x) (.slice ao103x n103x c103x) NB8), hu103.soft (sf2 (E := 3) (.bool b103x) (.slice ao103x n103x c103x) NB8 (by decide)), (kp2 (A := A8) (.bool b103x) (.slice ao103x n103x c103x) hS5 (by omega))⟩
    exact AllReadyL.nil
   refine AllReadyL.cons rfl (fun K hK => ?_) ?_
   ·go_simp
    refine hK.out _ _ (Kp.alloc' hS1 (.cells #[.bool false, .slice none 0 0] 81)) (fun hS2 => ?_)
    clear hK K
    have NB8 : Blk (wn7.alloc (.cells #[.bool false, .slice none 0 0] 81)) wn7.heap.size #[.bool false, .slice none 0 0] 81 := Blk.new wn7 _ _
    have ge8 : wb.heap.size ≤ wn7.heap.size := hS1.size
    have ne7x8 : A7 ≠ wn7.heap.size := by have := NB7.lt; omega
    replace NB7 := NB7.keep (kp_alloc wn7 (.cells #[.bool false, .slice none 0 0] 81))
    try simp only [sq]
    generalize hA8 : wn7.heap.size = A8 at *
    generalize wn7.alloc (.cells #[.bool false, .slice none 0 0] 81) = wn8 at *
    refine wpAnyL_on (i := 2) rfl (fun K hK => ?_)
    go_simp
    refine (of_any k _ (by omega) (by omega)).mono ?_
    rintro e w102 ⟨v102, rfl, hv102, hk102⟩
    obtain ⟨b102, ao102, n102, c102, rfl⟩ := hv102.shape'
    replace NB7 := NB7.keep hk102
    replace NB8 := NB8.keep hk102
    go_wp2_with fail
    refine hK.out _ _ (hS2.trans' hk102) (fun hS3 => ?_)
    clear hK K
    refine wpAnyL_on (i := 3) rfl (fun K hK => ?_)
    go_simp
    refine (rdiv_any x k 200 _ _ _ (hx.keep hS3) hv102 x0 k0 (by decide) fx fk).mono ?_
    rintro e w103 ⟨v103, u103x, rfl, hv103, hu103, hk103⟩
    obtain ⟨b103, ao103, n103, c103, rfl⟩ := hv103.shape'
    obtain ⟨b103x, ao103x, n103x, c103x, rfl⟩ := hu103.shape'
    replace NB7 := NB7.keep hk103
    replace NB8 := NB8.keep hk103
    go_wp2_with fail
    refine hK.out _ _ (hS3.trans' hk103) (fun hS4 => ?_)
    clear hK K
    refine wpAnyL_tk (i := 4) (k := 5) (v := .tuple #[.agg #[.bool b103, .slice ao103 n103 c103], .agg #[.bool b103x, .slice ao103x n103x c103x]]) rfl ?_ hS4 ?_
    ·intro w' hw'; go_simp
    simp only [sq]
    refine wpAnyL_tk (i := 5) (k := 9) (v := .agg #[.bool b103, .slice ao103 n103 c103]) rfl ?_ hS4 ?_
    ·intro w' hw'; go_simp
    simp only [sq]
    refine wpAnyL_tk (i := 6) (k := 10) (v := .agg #[.bool b103x, .slice ao103x n103x c103x]) rfl ?_ hS4 ?_
    ·intro w' hw'; go_simp
    simp only [sq]
    refine wpAnyL_on (i := 9) rfl (fun K hK => ?_)
    have st_c := NB7.cell
    have st_f := NB7.frozen
    have st_l := NB7.lt
    go_simp
    refine hK.out _ _ (stK2 (A := A7) (.bool b103) (.slice ao103 n103 c103) hS4 ge7) (fun hS5 => ?_)
    clear hK K
    have sfS : Sf 3 w103 ((w103.setCell ⟨A7, 0, none⟩ (.bool b103)).setCell ⟨A7, 1, none⟩ (.slice ao103 n103 c103)) := (stS2 (E := 3) (.bool b103) (.slice ao103 n103 c103) NB7 (by decide))
    replace NB8 := (Blk.other (c := A7) (o := 1) (y := .slice ao103 n103 c103) (Blk.other (c := A7) (o := 0) (y := .bool b103) NB8 (by omega)) (by omega))
    replace hv103 := hv103.soft sfS
    replace hu103 := hu103.soft sfS
    replace NB7 := (Blk.set (o := 1) (y := .slice ao103 n103 c103) (Blk.set (o := 0) (y := .bool b103) NB7))
    clear sfS st_c st_f st_l
    try simp only [sq]
    generalize ((w103.setCell ⟨A7, 0, none⟩ (.bool b103)).setCell ⟨A7, 1, none⟩ (.slice ao103 n103 c103)) = wt9 at *
    simp only [List.setIfInBounds_toArray, List.set_cons_zero, List.set_cons_succ] at NB7
    have st_c := NB8.cell
    have st_f := NB8.frozen
    have st_l := NB8.lt
    refine wpAnyL_last (i := 10) rfl (by kernel_rfl) (by kernel_rfl) (by kernel_rfl) (fun K hK => ?_)
    go_simp
    refine hK.out _ _ ?_
    clear hK K
    go_wp2_with fail
    go_meet
    case rel => exact ⟨A8, _, _, _, _, rfl, (bl2 (.bool b103x) (.slice ao103x n103x c103x) NB8), hu103.soft (sf2 (E := 3) (.bool b103x) (.slice ao103x n103x c103x) NB8 (by decide)), (kp2 (A := A8) (.bool b103x) (.slice ao103x n103x c103x) hS5 (by omega))⟩
   exact AllReadyL.nil
  refine AllReadyL.cons rfl (fun K hK => ?_) ?_
  ·go_simp
   refine hK.out _ _ (Kp.alloc' hS0 (.cells #[.bool false, .slice none 0 0] 81)) (fun hS1 => ?_)
   clear hK K
   have NB8 : Blk (wd.alloc (.cells #[.bool false, .slice none 0 0] 81)) wd.heap.size #[.bool false, .slice none 0 0] 81 := Blk.new wd _ _
   have ge8 : wb.heap.size ≤ wd.heap.size := hS0.size
   try simp only [sq]
   generalize hA8 : wd.heap.size = A8 at *
   generalize wd.alloc (.cells #[.bool false, .slice none 0 0] 81) = wn8 at *
   refine wpAnyL_ready (rs := [2, 7]) (by kernel_rfl) (by simp) ?_
   refine AllReadyL.cons rfl (fun K hK => ?_) ?_
   ·go_simp
    refine (of_any k _ (by omega) (by omega)).mono ?_
    rintro e w102 ⟨v102, rfl, hv102, hk102⟩
    obtain ⟨b102, ao102, n102, c102, rfl⟩ := hv102.shape'
    replace NB8 := NB8.keep hk102
    go_wp2_with fail
    refine hK.out _ _ (hS1.trans' hk102) (fun hS2 => ?_)
    clear hK K
    refine wpAnyL_ready (rs := [3, 7]) (by kernel_rfl) (by simp) ?_
    refine AllReadyL.cons rfl (fun K hK => ?_) ?_
    ·go_simp
     refine (rdiv_any x k 200 _ _ _ (hx.keep hS2) hv102 x0 k0 (by decide) fx fk).mono ?_
     rintro e w103 ⟨v103, u103x, rfl, hv103, hu103, hk103⟩
     obtain ⟨b103, ao103, n103, c103, rfl⟩ := hv103.shape'
     obtain ⟨b103x, ao103x, n103x, c103x, rfl⟩ := hu103.shape'
     replace NB8 := NB8.keep hk103
     go_wp2_with fail
     refine hK.out _ _ (hS2.trans' hk103) (fun hS3 => ?_)
     clear hK K
     refine wpAnyL_tk (i := 4) (k := 5) (v := .tuple #[.agg #[.bool b103, .slice ao103 n103 c103], .agg #[.bool b103x, .slice ao103x n103x c103x]]) rfl ?_ hS3 ?_
     ·intro w' hw'; go_simp
     simp only [sq]
     refine wpAnyL_tk (i := 5) (k := 9) (v := .agg #[.bool b103, .slice ao103 n103 c103]) rfl ?_ hS3 ?_
     ·intro w' hw'; go_simp
     simp only [sq]
     refine wpAnyL_tk (i := 6) (k := 10) (v := .agg #[.bool b103x, .slice ao103x n103x c103x]) rfl ?_ hS3 ?_
     ·intro w' hw'; go_simp
     simp only [sq]
     refine wpAnyL_on (i := 7) rfl (fun K hK => ?_)
     go_simp
     refine hK.out _ _ (Kp.alloc' hS3 (.cells #[.bool false, .slice none 0 0] 81)) (fun hS4 => ?_)
     clear hK K
     have NB7 : Blk (w103.alloc (.cells #[.bool false, .slice none 0 0] 81)) w103.heap.size #[.bool false, .slice none 0 0] 81 := Blk.new w103 _ _
     have ge7 : wb.heap.size ≤ w103.heap.size := hS3.size
     have ne8x7 : A8 ≠ w103.heap.size := by have := NB8.lt; omega
     replace NB8 := NB8.keep (kp_alloc w103 (.cells #[.bool false, .slice none 0 0] 81))
     replace hv103 := hv103.keep (kp_alloc w103 (.cells #[.bool false, .slice none 0 0] 81))
     replace hu103 := hu103.keep (kp_alloc w103 (.cells #[.bool false, .slice none 0 0] 81))
     try simp only [sq]
     generalize hA7 : w103.heap.size = A7 at *
     generalize w103.alloc (.cells #[.bool false, .slice none 0 0] 81) = wn7 at *
     refine wpAnyL_on (i := 9) rfl (fun K hK => ?_)
     have st_c := NB7.cell
     have st_f := NB7.frozen
     have st_l := NB7.lt
     go_simp
     refine hK.out _ _ (stK2 (A := A7) (.bool b103) (.slice ao103 n103 c103) hS4 ge7) (fun hS5 => ?_)
     clear hK K
     have sfS : Sf 3 wn7 ((wn7.setCell ⟨A7, 0, none⟩ (.bool b103)).setCell ⟨A7, 1, none⟩ (.slice ao103 n103 c103)) := (stS2 (E := 3) (.bool b103) (.slice ao103 n103 c103) NB7 (by decide))
     replace NB8 := (Blk.other (c := A7) (o := 1) (y := .slice ao103 n103 c103) (Blk.other (c := A7) (o := 0) (y := .bool b103) NB8 (by omega)) (by omega))
     replace hv103 := hv103.soft sfS
     replace hu103 := hu103.soft sfS
     replace NB7 := (Blk.set (o := 1) (y := .slice ao103 n103 c103) (Blk.set (o := 0) (y := .bool b103) NB7))
     clear sfS st_c st_f st_l
     try simp only [sq]
     generalize ((wn7.setCell ⟨A7, 0, none⟩ (.bool b103)).setCell ⟨A7, 1, none⟩ (.slice ao103 n103 c103)) = wt9 at *
     simp only [List.setIfInBounds_toArray, List.set_cons_zero, List.set_cons_succ] at NB7
     have st_c := NB8.cell
     have st_f := NB8.frozen
     have st_l := NB8.lt
     refine wpAnyL_last (i := 10) rfl (by kernel_rfl) (by kernel_rfl) (by kernel_rfl) (fun K hK => ?_)
     go_simp
     refine hK.out _ _ ?_
     clear hK K
     go_wp2_with fail
     go_meet
     case rel => exact ⟨A8, _, _, _, _, rfl, (bl2 (.bool b103x) (.slice ao103x n103x c103x) NB8), hu103.soft (sf2 (E := 3) (.bool b103x) (.slice ao103x n103x c103x) NB8 (by decide)), (kp2 (A := A8) (.bool b103x) (.slice ao103x n103x c103x) hS5 (by omega))⟩
    refine AllReadyL.cons rfl (fun K hK => ?_) ?_
    ·go_simp
     refine hK.out _ _ (Kp.alloc' hS2 (.cells #[.bool false, .slice none 0 0] 81)) (fun hS3 => ?_)
     clear hK K
     have NB7 : Blk (w102.alloc (.cells #[.bool false, .slice none 0 0] 81)) w102.heap.size #[.bool false, .slice none 0 0] 81 := Blk.new w102 _ _
     have ge7 : wb.heap.size ≤ w102.heap.size := hS2.size
     have ne8x7 : A8 ≠ w102.heap.size := by have := NB8.lt; omega
     replace NB8 := NB8.keep (kp_alloc w102 (.cells #[.bool false, .slice none 0 0] 81))
     replace hv102 := hv102.keep (kp_alloc w102 (.cells #[.bool false, .slice none 0 0] 81))
     try simp only [sq]
     generalize hA7 : w102.heap.size = A7 at *
     generalize w102.alloc (.cells #[.bool false, .slice none 0 0] 81) = wn7 at *
     refine wpAnyL_on (i := 3) rfl (fun K hK => ?_)
     go_simp
     refine (rdiv_any x k 200 _ _ _ (hx.keep hS3) hv102 x0 k0 (by decide) fx fk).mono ?_
     rintro e w103 ⟨v103, u103x, rfl, hv103, hu103, hk103⟩
     obtain ⟨b103, ao103, n103, c103, rfl⟩ := hv103.shape'
     obtain ⟨b103x, ao103x, n103x, c103x, rfl⟩ := hu103.shape'
     replace NB8 := NB8.keep hk103
     replace NB7 := NB7.keep hk103
     go_wp2_with fail
     refine hK.out _ _ (hS3.trans' hk103) (fun hS4 => ?_)
     clear hK K
     refine wpAnyL_tk (i := 4) (k := 5) (v := .tuple #[.agg #[.bool b103, .slice ao103 n103 c103], .agg #[.bool b103x, .slice ao103x n103x c103x]]) rfl ?_ hS4 ?_
     ·intro w' hw'; go_simp
     simp only [sq]
     refine wpAnyL_tk (i := 5) (k := 9) (v := .agg #[.bool b103, .slice ao103 n103 c103]) rfl ?_ hS4 ?_
     ·intro w' hw'; go_simp
     simp only [sq]
     refine wpAnyL_tk (i := 6) (k := 10) (v := .agg #[.bool b103x, .slice ao103x n103x c103x]) rfl ?_ hS4 ?_
     ·intro w' hw'; go_simp
     simp only [sq]
     refine wpAnyL_on (i := 9) rfl (fun K hK => ?_)
     have st_c := NB7.cell
     have st_f := NB7.frozen
     have st_l := NB7.lt
     go_simp
     refine hK.out _ _ (stK2 (A := A7) (.bool b103) (.slice ao103 n103 c103) hS4 ge7) (fun hS5 => ?_)
     clear hK K
     have sfS : Sf 3 w103 ((w103.setCell ⟨A7, 0, none⟩ (.bool b103)).setCell ⟨A7, 1, none⟩ (.slice ao103 n103 c103)) := (stS2 (E := 3) (.bool b103) (.slice ao103 n103 c103) NB7 (by decide))
     replace NB8 := (Blk.other (c := A7) (o := 1) (y := .slice ao103 n103 c103) (Blk.other (c := A7) (o := 0) (y := .bool b103) NB8 (by omega)) (by omega))
     replace hv103 := hv103.soft sfS
     replace hu103 := hu103.soft sfS
     replace NB7 := (Blk.set (o := 1) (y := .slice ao103 n103 c103) (Blk.set (o := 0) (y := .bool b103) NB7))
     clear sfS st_c st_f st_l
     try simp only [sq]
     generalize ((w103.setCell ⟨A7, 0, none⟩ (.bool b103)).setCell ⟨A7, 1, none⟩ (.slice ao103 n103 c103)) = wt9 at *
     simp only [List.setIfInBounds_toArray, List.set_cons_zero, List.set_cons_succ] at NB7
     have st_c := NB8.cell
     have st_f := NB8.frozen
     have st_l := NB8.lt
     refine wpAnyL_last (i := 10) rfl (by kernel_rfl) (by kernel_rfl) (by kernel_rfl) (fun K hK => ?_)
     go_simp
     refine hK.out _ _ ?_
     clear hK K
     go_wp2_with fail
     go_meet
     case rel => exact ⟨A8, _, _, _, _, rfl, (bl2 (.bool b103x) (.slice ao103x n103x c103x) NB8), hu103.soft (sf2 (E := 3) (.bool b103x) (.slice ao103x n103x c103x) NB8 (by decide)), (kp2 (A := A8) (.bool b103x) (.slice ao103x n103x c103x) hS5 (by omega))⟩
    exact AllReadyL.nil
   refine AllReadyL.cons rfl (fun K hK => ?_) ?_
   ·go_simp
    refine hK.out _ _ (Kp.alloc' hS1 (.cells #[.bool false, .slice none 0 0] 81)) (fun hS2 => ?_)
    clear hK K
    have NB7 : Blk (wn8.alloc (.cells #[.bool false, .slice none 0 0] 81)) wn8.heap.size #[.bool false, .slice none 0 0] 81 := Blk.new wn8 _ _
    have ge7 : wb.heap.size ≤ wn8.heap.size := hS1.size
    have ne8x7 : A8 ≠ wn8.heap.size := by have := NB8.lt; omega
    replace NB8 := NB8.keep (kp_alloc wn8 (.cells #[.bool false, .slice none 0 0] 81))
    try simp only [sq]
    generalize hA7 : wn8.heap.size = A7 at *
    generalize wn8.alloc (.cells #[.bool false, .slice none 0 0] 81) = wn7 at *
    refine wpAnyL_on (i := 2) rfl (fun K hK => ?_)
    go_simp
    refine (of_any k _ (by omega) (by omega)).mono ?_
    rintro e w102 ⟨v102, rfl, hv102, hk102⟩
    obtain ⟨b102, ao102, n102, c102, rfl⟩ := hv102.shape'
    replace NB8 := NB8.keep hk102
    replace NB7 := NB7.keep hk102
    go_wp2_with fail
    refine hK.out _ _ (hS2.trans' hk102) (fun hS3 => ?_)
    clear hK K
    refine wpAnyL_on (i := 3) rfl (fun K hK => ?_)
    go_simp
    refine (rdiv_any x k 200 _ _ _ (hx.keep hS3) hv102 x0 k0 (by decide) fx fk).mono ?_
    rintro e w103 ⟨v103, u103x, rfl, hv103, hu103, hk103⟩
    obtain ⟨b103, ao103, n103, c103, rfl⟩ := hv103.shape'
    obtain ⟨b103x, ao103x, n103x, c103x, rfl⟩ := hu103.shape'
    replace NB8 := NB8.keep hk103
    replace NB7 := NB7.keep hk103
    go_wp2_with fail
    refine hK.out _ _ (hS3.trans' hk103) (fun hS4 => ?_)
    clear hK K
    refine wpAnyL_tk (i := 4) (k := 5) (v := .tuple #[.agg #[.bool b103, .slice ao103 n103 c103], .agg #[.bool b103x, .slice ao103x n103x c103x]]) rfl ?_ hS4 ?_
    ·intro w' hw'; go_simp
    simp only [sq]
    refine wpAnyL_tk (i := 5) (k := 9) (v := .agg #[.bool b103, .slice ao103 n103 c103]) rfl ?_ hS4 ?_
    ·intro w' hw'; go_simp
    simp only [sq]
    refine wpAnyL_tk (i := 6) (k := 10) (v := .agg #[.bool b103x, .slice ao103x n103x c103x]) rfl ?_ hS4 ?_
    ·intro w' hw'; go_simp
    simp only [sq]
    refine wpAnyL_on (i := 9) rfl (fun K hK => ?_)
    have st_c := NB7.cell
    have st_f := NB7.frozen
    have st_l := NB7.lt
    go_simp
    refine hK.out _ _ (stK2 (A := A7) (.bool b103) (.slice ao103 n103 c103) hS4 ge7) (fun hS5 => ?_)
    clear hK K
    have sfS : Sf 3 w103 ((w103.setCell ⟨A7, 0, none⟩ (.bool b103)).setCell ⟨A7, 1, none⟩ (.slice ao103 n103 c103)) := (stS2 (E := 3) (.bool b103) (.slice ao103 n103 c103) NB7 (by decide))
    replace NB8 := (Blk.other (c := A7) (o := 1) (y := .slice ao103 n103 c103) (Blk.other (c := A7) (o := 0) (y := .bool b103) NB8 (by omega)) (by omega))
    replace hv103 := hv103.soft sfS
    replace hu103 := hu103.soft sfS
    replace NB7 := (Blk.set (o := 1) (y := .slice ao103 n103 c103) (Blk.set (o := 0) (y := .bool b103) NB7))
    clear sfS st_c st_f st_l
    try simp only [sq]
    generalize ((w103.setCell ⟨A7, 0, none⟩ (.bool b103)).setCell ⟨A7, 1, none⟩ (.slice ao103 n103 c103)) = wt9 at *
    simp only [List.setIfInBounds_toArray, List.set_cons_zero, List.set_cons_succ] at NB7
    have st_c := NB8.cell
    have st_f := NB8.frozen
    have st_l := NB8.lt
    refine wpAnyL_last (i := 10) rfl (by kernel_rfl) (by kernel_rfl) (by kernel_rfl) (fun K hK => ?_)
    go_simp
    refine hK.out _ _ ?_
    clear hK K
    go_wp2_with fail
    go_meet
    case rel => exact ⟨A8, _, _, _, _, rfl, (bl2 (.bool b103x) (.slice ao103x n103x c103x) NB8), hu103.soft (sf2 (E := 3) (.bool b103x) (.slice ao103x n103x c103x) NB8 (by decide)), (kp2 (A := A8) (.bool b103x) (.slice ao103x n103x c103x) hS5 (by omega))⟩
   exact AllReadyL.nil
  exact AllReadyL.nil
 case rest =>
  obtain ⟨bp, b2, ao2, n2, c2, rfl, BP, hr, hkc⟩ := hcut
  have hkw := hkb.trans' hkc
  have hrb := hr.rb
  have hln := hr.len
  clear hkb hkc BX bxl hx fx fk x0 hr
  generalize wc = wq at *
  generalize x % k = z at *
  have ez : (z.natAbs : Int) = z := by omega
  rw [ez] at hrb
  clear ez
  by_cases hz : z = 0
  ·have hn : n2 = 0 := hln.1.2 hz
   subst hn hz
   clear hrb hln
   have bpc := BP.cell
   have bpl := BP.lt
   go_wp2_with fail
   go_loopg [7, 8] 1 (fun _ n i wr => n = .int .i64 0 ∧ i = .int .i64 0 ∧ Kp wq wr)
   case atStart => exact ⟨rfl, rfl, Below.refl _ _⟩
   case round =>
    obtain ⟨rfl, rfl, hkr⟩ := hrel
    replace BP := BP.keep hkr
    have bpc2 := BP.cell
    have bpl2 := BP.lt
    go_wp2_with fail
    go_ret
    exact ⟨rfl, hkw.trans' hkr⟩
  ·obtain ⟨rfl, hc1, b, off, rfl, hbl, hcell⟩ := rb_one hrb (by omega) (by omega)
   clear hrb hln
   have bpc := BP.cell
   have bpl := BP.lt
   go_wp2_with fail
   go_loopg [7, 8] 1 (fun g n i wr => ((n = .int .i64 0 ∧ i = .int .i64 0 ∧ g = 1) ∨ (n = .int .i64 z ∧ i = .int .i64 1)) ∧ Kp wq wr)
   case atStart => exact ⟨Or.inl ⟨rfl, rfl, rfl⟩, Below.refl _ _⟩
   case round =>
    obtain ⟨hc, hkr⟩ := hrel
    replace BP := BP.keep hkr
    have bpc2 := BP.cell
    have bpl2 := BP.lt
    have hcw := (World.cell?_of_block (w := wq) (a := ⟨b, off, none⟩) (hkr.block b hbl)).trans hcell
    rcases hc with ⟨rfl, rfl, rfl⟩ | ⟨rfl, rfl⟩
    ·go_wp2_with fail
     go_roundg 0
     case rel => exact ⟨Or.inr ⟨by go_num, by go_num⟩, hkr⟩
     case measure => omega
    ·go_wp2_with fail
     go_ret
     exact ⟨rfl, hkw.trans' hkr⟩

end Go.Proofs.YtjahbjjekednfabDoor
