import Derived.Test.YtjahbjjekednfaaR10
import Derived.Test.YtjahbjjekednfaaQ1
namespace Go.Proofs.Ytjahbjjekednfaa
open Go.RowKit

set_option maxHeartbeats 3200000 in
set_option maxRecDepth 100000 in
theorem read_ref (s : ByteArray) (w : World) (hd : Digs (bl s)) (hl : s.size ≤ 18) : Calls Try.prog 79 #[.string s] w (RetI w (decN (bl s))) := by
 have f10 : Fit 10 := ⟨2, by decide, by decide⟩
 have hlen := bl_len s
 have kp0 : Kp w _ := Kp.alloc' (kp_alloc w (.cells #[.bool false, .slice none 0 0] 46)) (.cells #[.bool false, .slice none 0 0] 46)
 have BE0 : Blk ((w.alloc (.cells #[.bool false, .slice none 0 0] 46)).alloc (.cells #[.bool false, .slice none 0 0] 46)) (w.heap.size) #[.bool false, .slice none 0 0] 46 := Blk.alloc (Blk.new w _ _) (.cells #[.bool false, .slice none 0 0] 46)
 have BX0 : Blk ((w.alloc (.cells #[.bool false, .slice none 0 0] 46)).alloc (.cells #[.bool false, .slice none 0 0] 46)) (w.heap.size + 1) #[.bool false, .slice none 0 0] 46 := Blk.at (Blk.new (w.alloc (.cells #[.bool false, .slice none 0 0] 46)) _ _) (by simp)
 go_enter Try.func79, Try.ntmps79
 go_wp2_with fail
 go_loopw [4] (fun i wr => ∃ (j : Nat) (b1 : Bool) (ao1 : Option Addr) (n1 c1 : Nat), j ≤ s.size ∧ i = .int .i64 j ∧ Blk wr (w.heap.size + 1) #[.bool b1, .slice ao1 n1 c1] 46 ∧ Blk wr (w.heap.size) #[.bool false, .slice none 0 0] 46 ∧ IN wr (.agg #[.bool b1, .slice ao1 n1 c1]) (decN ((bl s).take j)) ∧ Kp w wr)
  (fun i _ => s.size - (intOf i).toNat)
 case atStart => exact ⟨0, false, none, 0, 0, by omega, rfl, BX0, BE0, in_zero _, kp0⟩
 case round =>
  clear BE0 BX0 kp0
  obtain ⟨j, b1, ao1, n1, c1, hj, rfl, BX, BE, hN, hkr⟩ := hrel
  have bxl := BX.lt
  have bel := BE.lt
  by_cases h1 : j < s.size
  ·have hb := byteAt_eq s j h1
   have hjl : j < (bl s).length := by omega
   have HD : Hid (decN ((bl s).take (j + 1)) = decN ((bl s).take j) * 10 + (byteAt s j - 48)) := by
    unfold Hid
    rw [take_snoc hjl, decN_snoc, byteAt_bl]
   have hbd : 48 ≤ byteAt s j ∧ byteAt s j ≤ 57 := by
    rw [byteAt_bl]; exact isDig_bd (digs_at hd hjl)
   have hn := decN_bd (digs_take hd j)
   have hlt : ((bl s).take j).length = j := by rw [List.length_take]; omega
   rw [hlt] at hn
   have hn0 := hn.1
   have hn1 : decN ((bl s).take j) < 1000000000000000000 := Int.lt_of_lt_of_le hn.2 (show (10 : Int) ^ j ≤ 10 ^ 18 by exact_mod_cast Nat.pow_le_pow_right (show 0 < 10 by decide) (show j ≤ 18 by omega))
   have hji : (j : Int) < (s.size : Int) := by omega
   have hj0 : (0 : Int) ≤ (j : Int) := by omega
   clear hn
   generalize decN ((bl s).take j) = N at *
   generalize byteAt s j = C at *
   have fN : Fit N := ⟨19, by decide, by omega⟩
   have fT : Fit (N * 10) := ⟨20, by decide, by omega⟩
   have hc0 : 0 ≤ C - 48 := by omega
   have fC : Fit (C - 48) := ⟨2, by decide, by omega⟩
   have hw1 : IntKind.i64.wrap C = C := IntWalk.i64_in _ (by omega)
   have hw2 : IntKind.i64.wrap (C - 48) = C - 48 := IntWalk.i64_in _ (by omega)
   go_wp2_with fail
   refine wp_region_l (S := fun w' => Kp wr w') (by kernel_rfl) (Kp.drew' (Below.refl _ _)) (fun hS0 => ?_)
   generalize wr.drew = wd at *
   refine wpAnyL_tk (i := 0) (k := 2) (v := .agg #[.bool b1, .slice ao1 n1 c1]) rfl ?_ hS0 ?_
   ·intro w' hw'; have hc := ((BX).keep hw').cell; go_simp
   simp only [sq]
   refine wpAnyL_tk (i := 3) (k := 5) (v := .string s) rfl ?_ hS0 ?_
   ·intro w' hw'; go_simp
   simp only [sq]
   refine wpAnyL_tk (i := 4) (k := 5) (v := .int .i64 j) rfl ?_ hS0 ?_
   ·intro w' hw'; go_simp
   simp only [sq]
   refine wpAnyL_tk (i := 5) (k := 6) (v := .int .u8 C) rfl ?_ hS0 ?_
   ·intro w' hw'; go_simp
   simp only [sq]
   refine wpAnyL_tk (i := 6) (k := 7) (v := .int .i64 C) rfl ?_ hS0 ?_
   ·intro w' hw'; go_simp
   simp only [sq]
   refine wpAnyL_tk (i := 7) (k := 8) (v := .int .i64 (C - 48)) rfl ?_ hS0 ?_
   ·intro w' hw'; go_simp
   simp only [sq]
   refine wpAnyL_on (i := 1) rfl (fun K hK => ?_)
   go_simp
   refine (of_any 10 _ (by decide) (by decide)).mono ?_
   rintro e w101 ⟨v101, rfl, hv101, hk101⟩
   obtain ⟨b101, ao101, n101, c101, rfl⟩ := hv101.shape'
   go_wp2_with fail
   refine hK.out _ _ (hS0.trans' hk101) (fun hS1 => ?_)
   clear hK K
   refine wpAnyL_on (i := 2) rfl (fun K hK => ?_)
   go_simp
   refine (rtimes_any N 10 _ _ _ (hN.keep hS1) hv101 fN f10).mono ?_
   rintro e w102 ⟨v102, rfl, hv102, hk102⟩
   obtain ⟨b102, ao102, n102, c102, rfl⟩ := hv102.shape'
   go_wp2_with fail
   refine hK.out _ _ (hS1.trans' hk102) (fun hS2 => ?_)
   clear hK K
   refine wpAnyL_on (i := 8) rfl (fun K hK => ?_)
   go_simp
   refine (of_any (C - 48) _ hc0 (by omega)).mono ?_
   rintro e w108 ⟨v108, rfl, hv108, hk108⟩
   obtain ⟨b108, ao108, n108, c108, rfl⟩ := hv108.shape'
   replace hv102 := hv102.keep hk108
   go_wp2_with fail
   refine hK.out _ _ (hS2.trans' hk108) (fun hS3 => ?_)
   clear hK K
   refine wpAnyL_on (i := 9) rfl (fun K hK => ?_)
   go_simp
   refine (rplus_any (N * 10) (C - 48) _ _ _ hv102 hv108 fT fC).mono ?_
   rintro e w109 ⟨v109, rfl, hv109, hk109⟩
   obtain ⟨b109, ao109, n109, c109, rfl⟩ := hv109.shape'
   go_wp2_with fail
   refine hK.out _ _ (hS3.trans' hk109) (fun hS4 => ?_)
   clear hK K
   have TB := (BX).keep hS4
   have st_c := TB.cell
   have st_f := TB.frozen
   have st_l := TB.lt
   refine wpAnyL_last (i := 10) rfl (by kernel_rfl) (by kernel_rfl) (by kernel_rfl) (fun K hK => ?_)
   go_simp
   refine hK.out _ _ ?_
   clear hK K
   have sfS := (sf2 (E := 3) (.bool b109) (.slice ao109 n109 c109) TB (by decide))
   have BXn := (bl2 (.bool b109) (.slice ao109 n109 c109) TB)
   have BEn := (ot2 (A := w.heap.size + 1) (.bool b109) (.slice ao109 n109 c109) (BE.keep hS4) (by omega))
   have hNn := hv109.soft sfS
   have hkn := (kp2 (A := w.heap.size + 1) (.bool b109) (.slice ao109 n109 c109) (hkr.trans' hS4) (by show w.heap.size ≤ w.heap.size + 1; omega))
   clear sfS st_c st_f st_l TB
   generalize ((w109.setCell ⟨w.heap.size + 1, 0, none⟩ (.bool b109)).setCell ⟨w.heap.size + 1, 1, none⟩ (.slice ao109 n109 c109)) = wk at *
   go_wp2_with fail
   go_roundw
   case rel => exact ⟨j + 1, b109, ao109, n109, c109, by omega, by go_num, BXn, BEn, by rw [HD.out]; exact hNn, hkn⟩
   case measure => simp [intOf]; omega
  ·have hje : j = s.size := by omega
   subst hje
   rw [← hlen, List.take_length] at hN
   have bxc := BX.cell
   have bec := BE.cell
   have bef := BE.frozen
   go_wp2_with fail
   refine bodyPost_ret (v := .agg #[.bool b1, .slice ao1 n1 c1]) (by simp [results, Try.results79, go_sem, bec]) rfl ?_
   exact retI_mk hN (sf2 (.bool b1) (.slice ao1 n1 c1) BE (by decide)) (kp2 (A := w.heap.size) (.bool b1) (.slice ao1 n1 c1) hkr (Nat.le_refl _))

end Go.Proofs.Ytjahbjjekednfaa
