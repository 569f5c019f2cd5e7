import Derived.Test.YtjahbjjekednfabDoorD5
import Derived.Test.YtjahbjjekednfabDoorV1
import Derived.Deep.DeepCutAuto
import Derived.Deep.LoopGhost
namespace Go.Proofs.YtjahbjjekednfabDoor
open Go.RowKit

theorem crun_step {d g a b x y : Nat} {K : Int} (h : crun d (g + 1) a b K = some (x, y)) (hK : K ≠ 1) : cfine d a b K.natAbs = true ∧
 crun d g ((a * cbest d a b K.natAbs + b * d) / K.natAbs) ((a + b * cbest d a b K.natAbs) / K.natAbs) (((cbest d a b K.natAbs : Int) * (cbest d a b K.natAbs : Int) - (d : Int)).tdiv K) = some (x, y) := by
 rw [crun_succ, decide_eq_false hK, cond_false] at h
 cases hf : cfine d a b K.natAbs with
 | false => rw [hf] at h; cases h
 | true => rw [hf, cond_true] at h; exact ⟨rfl, h⟩
theorem crun_end {d g a b x y : Nat} (h : crun d (g + 1) a b 1 = some (x, y)) : a = x ∧ b = y := by
 rw [crun_succ] at h
 simpa using h
theorem gap_grow {d m : Nat} (h : d ≤ m * m) : ¬ gapN (m + 1) d < gapN m d := by
 unfold gapN
 have : (m + 1) * (m + 1) = m * m + m + m + 1 := by grind
 omega
theorem bst1_le {d s x y t b : Nat} : bst1 d s x y t b = t ∨ bst1 d s x y t b = b := by
 unfold bst1
 cases Nat.beq ((x + y * t) % s) 0 <;> cases Nat.beq b 0 <;> cases Nat.blt (gapN t d) (gapN b d) <;> simp
theorem nat_beq {a b : Nat} (h : a ≠ b) : Nat.beq a b = false := by
 cases e : Nat.beq a b with
 | false => rfl
 | true => exact absurd (Nat.eq_of_beq_eq_true e) h

set_option maxHeartbeats 3200000 in
set_option maxRecDepth 100000 in
theorem rpell_bad (d : Int) (w : World) (h0 : -9223372036854775808 ≤ d) (h1 : d ≤ 9223372036854775807) (hd : d < 2 ∨ 2000 < d) : Calls Tryd.prog 18 #[.int .i64 d] w (RetV w (.tuple #[.string ⟨#[]⟩, .string ⟨#[]⟩, .int .i64 5])) := by
 go_enter Tryd.func18, Tryd.ntmps18
 go_wp2_with fail
 go_loopw [5, 6] (fun q m wr => ∃ (j : Nat) (b : Bool), j ≤ 46 ∧ m = .int .i64 j ∧ q = .bool b ∧ Kp w wr) (fun _ m _ => 46 - (intOf m).toNat)
 case atStart => exact ⟨0, false, by omega, rfl, rfl, Below.refl _ _⟩
 case round =>
  obtain ⟨j, b, hj, rfl, rfl, hkr⟩ := hrel
  have hjj : (j : Int) * (j : Int) ≤ 2116 := by
   have : j * j ≤ 46 * 46 := Nat.mul_le_mul hj hj
   rw [← Int.natCast_mul]; omega
  have hj0 : 0 ≤ (j : Int) * (j : Int) := by rw [← Int.natCast_mul]; omega
  by_cases hc : (j : Int) * (j : Int) ≤ d
  ·by_cases hk : j ≤ 45
   ·have hki : (j : Int) ≤ 45 := by omega
    cases b with
    | true =>
     go_wp2_with fail
     go_roundw
     case rel => exact ⟨j + 1, true, by omega, by go_num, rfl, hkr⟩
     case measure => simp [intOf]; omega
    | false =>
     go_wp2_with fail
     go_roundw
     case rel => exact ⟨j + 1, _, by omega, by go_num, rfl, hkr⟩
     case measure => simp [intOf]; omega
   ·have hki : ¬ (j : Int) ≤ 45 := by omega
    rcases hd with hd | hd
    ·go_wp2_with fail
     refine bodyPost_ret (v := .tuple #[.string ⟨#[]⟩, .string ⟨#[]⟩, .int .i64 5]) (by simp [results, Tryd.results18, go_sem]) rfl ?_
     exact ⟨rfl, hkr⟩
    ·have hd2 : ¬ d < 2 := by omega
     go_wp2_with fail
     refine bodyPost_ret (v := .tuple #[.string ⟨#[]⟩, .string ⟨#[]⟩, .int .i64 5]) (by simp [results, Tryd.results18, go_sem]) rfl ?_
     exact ⟨rfl, hkr⟩
  ·rcases hd with hd | hd
   ·go_wp2_with fail
    refine bodyPost_ret (v := .tuple #[.string ⟨#[]⟩, .string ⟨#[]⟩, .int .i64 5]) (by simp [results, Tryd.results18, go_sem]) rfl ?_
    exact ⟨rfl, hkr⟩
   ·have hd2 : ¬ d < 2 := by omega
    go_wp2_with fail
    refine bodyPost_ret (v := .tuple #[.string ⟨#[]⟩, .string ⟨#[]⟩, .int .i64 5]) (by simp [results, Tryd.results18, go_sem]) rfl ?_
    exact ⟨rfl, hkr⟩

set_option maxHeartbeats 3200000 in
set_option maxRecDepth 100000 in
theorem rpell_sq (d r : Nat) (w : World) (h2 : 2 ≤ d) (hd : d ≤ 2000) (hr : r * r = d) : Calls Tryd.prog 18 #[.int .i64 (d : Int)] w (RetV w (.tuple #[.string ⟨#[]⟩, .string ⟨#[]⟩, .int .i64 5])) := by
 have hr45 : r ≤ 45 := by
  refine Nat.not_lt.1 fun h => ?_
  have : 46 * 46 ≤ r * r := Nat.mul_le_mul h h
  omega
 have HR := Hid.mk hr
 clear hr
 go_enter Tryd.func18, Tryd.ntmps18
 go_wp2_with fail
 go_loopw [5, 6] (fun q m wr => ∃ (j : Nat) (b : Bool), j ≤ 46 ∧ m = .int .i64 j ∧ q = .bool b ∧ Hid (b = decide (r < j)) ∧ Kp w wr) (fun _ m _ => 46 - (intOf m).toNat)
 case atStart => exact ⟨0, false, by omega, rfl, rfl, rfl, Below.refl _ _⟩
 case round =>
  obtain ⟨j, b, hj, rfl, rfl, HB, hkr⟩ := hrel
  have hjj : (j : Int) * (j : Int) ≤ 2116 := by
   have : j * j ≤ 46 * 46 := Nat.mul_le_mul hj hj
   rw [← Int.natCast_mul]; omega
  have hj0 : 0 ≤ (j : Int) * (j : Int) := by rw [← Int.natCast_mul]; omega
  by_cases hc : (j : Int) * (j : Int) ≤ (d : Int) ∧ j ≤ 45
  ·have hk := hc.2
   have hki : (j : Int) ≤ 45 := by omega
   replace hc := hc.1
   by_cases hrj : r < j
   ·have hb : b = true := by rw [HB.out]; exact decide_eq_true hrj
    have HB2 : Hid (true = decide (r < j + 1)) := (decide_eq_true (show r < j + 1 by omega)).symm
    subst hb
    clear HB hrj
    go_wp2_with fail
    go_roundw
    case rel => exact ⟨j + 1, true, by omega, by go_num, rfl, HB2, hkr⟩
    case measure => simp [intOf]; omega
   ·have hb : b = false := by rw [HB.out]; exact decide_eq_false hrj
    by_cases hre : r = j
    ·have he : ((j : Int) * (j : Int) == (d : Int)) = true := by
      rw [beq_iff_eq, ← Int.natCast_mul, ← hre, HR.out]
     have HB2 : Hid (true = decide (r < j + 1)) := (decide_eq_true (show r < j + 1 by omega)).symm
     subst hb
     clear HB hrj hre
     go_wp2_with fail
     go_roundw
     case rel => exact ⟨j + 1, true, by omega, by go_num, by first | rfl | simp [he], HB2, hkr⟩
     case measure => simp [intOf]; omega
    ·have he : ((j : Int) * (j : Int) == (d : Int)) = false := by
      rw [beq_eq_false_iff_ne, ← Int.natCast_mul]
      intro k
      have h3 : j * j = d := by omega
      have h4 : j * j < r * r := Nat.mul_lt_mul_of_lt_of_lt (by omega) (by omega)
      have := HR.out
      omega
     have HB2 : Hid (false = decide (r < j + 1)) := (decide_eq_false (show ¬ r < j + 1 by omega)).symm
     subst hb
     clear HB hrj hre
     go_wp2_with fail
     go_roundw
     case rel => exact ⟨j + 1, false, by omega, by go_num, by first | rfl | simp [he], HB2, hkr⟩
     case measure => simp [intOf]; omega
  ·have hrj : r < j := by
    refine Nat.not_le.1 fun k => hc ⟨?_, by omega⟩
    have h3 : j * j ≤ r * r := Nat.mul_le_mul k k
    have := HR.out
    rw [← Int.natCast_mul]; omega
   have hb : b = true := by rw [HB.out]; exact decide_eq_true hrj
   have hd1 : ¬ (d : Int) < 2 := by omega
   have hd2 : ¬ 2000 < (d : Int) := by omega
   subst hb
   clear HB hrj
   by_cases hc1 : (j : Int) * (j : Int) ≤ (d : Int)
   ·have hki : ¬ (j : Int) ≤ 45 := fun k => hc ⟨hc1, by omega⟩
    clear hc
    go_wp2_with fail
    refine bodyPost_ret (v := .tuple #[.string ⟨#[]⟩, .string ⟨#[]⟩, .int .i64 5]) (by simp [results, Tryd.results18, go_sem]) rfl ?_
    exact ⟨rfl, hkr⟩
   ·clear hc
    go_wp2_with fail
    refine bodyPost_ret (v := .tuple #[.string ⟨#[]⟩, .string ⟨#[]⟩, .int .i64 5]) (by simp [results, Tryd.results18, go_sem]) rfl ?_
    exact ⟨rfl, hkr⟩

set_option maxHeartbeats 12800000 in
set_option maxRecDepth 100000 in
theorem rpell_ok (n x y : Nat) (w : World) (h2 : 2 ≤ n) (hn : n ≤ 2000) (hs : ∀ m, m * m ≠ n) (hfin : Ft 230 (x : Int) ∧ Ft 230 (y : Int)) (hr : crun n 300 (m0 n 50 1) 1 (((m0 n 50 1 : Nat) : Int) * ((m0 n 50 1 : Nat) : Int) - (n : Int)) = some (x, y)) :
 Calls Tryd.prog 18 #[.int .i64 (n : Int)] w (RetV w (.tuple #[.string (strOf (Go.Lib.itoa (x : Int))), .string (strOf (Go.Lib.itoa (y : Int))), .int .i64 0])) := by
 have HS := Hid.mk hs
 have HFIN := Hid.mk hfin
 have HR := Hid.mk hr
 clear hs hr hfin
 generalize hS1 : strOf (Go.Lib.itoa (x : Int)) = S1
 generalize hS2 : strOf (Go.Lib.itoa (y : Int)) = S2
 replace hS1 := Hid.mk hS1
 replace hS2 := Hid.mk hS2
 have hd1 : ¬ (n : Int) < 2 := by omega
 have hd2 : ¬ 2000 < (n : Int) := by omega
 go_enter Tryd.func18, Tryd.ntmps18
 go_wp2_with fail
 go_loopg [5, 6] 46 (fun g q m wr => ∃ (j : Nat), j + g = 46 ∧ m = .int .i64 j ∧ q = .bool false ∧ Kp w wr)
 case atStart => exact ⟨0, rfl, rfl, rfl, Below.refl _ _⟩
 case round =>
  obtain ⟨j, hjg, rfl, rfl, hkr⟩ := hrel
  have hj : j ≤ 46 := by omega
  have hjj : (j : Int) * (j : Int) ≤ 2116 := by
   have : j * j ≤ 46 * 46 := Nat.mul_le_mul hj hj
   rw [← Int.natCast_mul]; omega
  have hj0 : 0 ≤ (j : Int) * (j : Int) := by rw [← Int.natCast_mul]; omega
  have he : ((j : Int) * (j : Int) == (n : Int)) = false := by
   rw [beq_eq_false_iff_ne, ← Int.natCast_mul]
   intro k
   exact HS.out j (by omega)
  by_cases hc : (j : Int) * (j : Int) ≤ (n : Int)
  ·have hk : j ≤ 45 := by
    refine Nat.not_lt.1 fun k => ?_
    have : 46 * 46 ≤ j * j := Nat.mul_le_mul k k
    rw [← Int.natCast_mul] at hc
    omega
   have hki : (j : Int) ≤ 45 := by omega
   go_wp2_with fail
   go_roundg (46 - (j + 1))
   case rel => exact ⟨j + 1, by omega, by go_num, by first | rfl | simp [he], hkr⟩
   case measure => omega
  ·clear he
   go_wp2_with fail
   go_loopg [7] 50 (fun g m wr => ∃ (i : Nat), 1 ≤ i ∧ i ≤ 46 ∧ i + g = 51 ∧ m = .int .i64 i ∧ Hid (m0 n (51 - i) i = m0 n 50 1) ∧ Kp w wr)
   case atStart => exact ⟨1, by omega, by omega, rfl, rfl, rfl, hkr⟩
   case round =>
    obtain ⟨i, hi1, hi2, hig, rfl, HM, hk1⟩ := hrel
    have HG1 := fun W => gapTo_any (i + 1) n W (by omega) (by omega)
    have HG2 := fun W => gapTo_any i n W (by omega) (by omega)
    have ec : ((i + 1 : Nat) : Int) = (i : Int) + 1 := by omega
    rw [ec] at HG1
    clear ec
    by_cases hg : gapN (i + 1) n < gapN i n
    ·have hi3 : i + 1 ≤ 46 := by
      refine Nat.not_lt.1 fun k => gap_grow (d := n) (m := i) ?_ hg
      have : 46 * 46 ≤ i * i := Nat.mul_le_mul (by omega) (by omega)
      omega
     have HM2 : Hid (m0 n (51 - (i + 1)) (i + 1) = m0 n 50 1) := by
      unfold Hid
      rw [← HM.out, show 51 - i = (51 - (i + 1)) + 1 by omega]
      conv => rhs; unfold m0
      rw [if_pos hg]
     have hgi : ((gapN (i + 1) n : Nat) : Int) < ((gapN i n : Nat) : Int) := by omega
     clear HM hg
     generalize ((gapN (i + 1) n : Nat) : Int) = G1 at *
     generalize ((gapN i n : Nat) : Int) = G2 at *
     go_wp2_with fail
     refine (HG1 _).mono ?_
     rintro e w1 ⟨rfl, hk2⟩
     go_wp2_with fail
     refine (HG2 _).mono ?_
     rintro e w2 ⟨rfl, hk3⟩
     replace hk1 := (hk1.trans' hk2).trans' hk3
     clear HG1 HG2 hk2 hk3
     go_wp2_with fail
     go_roundg (51 - (i + 1))
     case rel => exact ⟨i + 1, by omega, by omega, by omega, by go_num, HM2, hk1⟩
     case measure => omega
    ·have HM2 : Hid (i = m0 n 50 1) := by
      unfold Hid
      rw [← HM.out, show 51 - i = (51 - (i + 1)) + 1 by omega]
      conv => rhs; unfold m0
      rw [if_neg hg]
     have hgi : ¬ ((gapN (i + 1) n : Nat) : Int) < ((gapN i n : Nat) : Int) := by omega
     rw [← HM2.out] at HR
     clear HM hg HM2
     generalize ((gapN (i + 1) n : Nat) : Int) = G1 at *
     generalize ((gapN i n : Nat) : Int) = G2 at *
     go_wp2_with fail
     refine (HG1 _).mono ?_
     rintro e w1 ⟨rfl, hk2⟩
     go_wp2_with fail
     refine (HG2 _).mono ?_
     rintro e w2 ⟨rfl, hk3⟩
     replace hk1 := (hk1.trans' hk2).trans' hk3
     clear HG1 HG2 hk2 hk3
     go_wp2_with fail
     refine (of_any (i : Int) _ (by omega) (by omega)).mono ?_
     rintro e w3 ⟨v1, rfl, ha, hk4⟩
     obtain ⟨b1, ao1, n1, c1, rfl⟩ := ha.shape'
     have BA := Blk.new w3 #[.bool b1, .slice ao1 n1 c1] 81
     have g8 := (hk1.trans' hk4).size
     replace hk1 := (hk1.trans' hk4).alloc' (.cells #[.bool b1, .slice ao1 n1 c1] 81)
     replace ha := ha.keep (kp_alloc w3 (.cells #[.bool b1, .slice ao1 n1 c1] 81))
     clear hk4
     go_wp2_with fail
     generalize w3.alloc (.cells #[.bool b1, .slice ao1 n1 c1] 81) = w4 at *
     generalize w3.heap.size = A8 at *
     refine (of_any 1 _ (by decide) (by decide)).mono ?_
     rintro e w5 ⟨v2, rfl, hb, hk5⟩
     obtain ⟨b2, ao2, n2, c2, rfl⟩ := hb.shape'
     have BB := Blk.new w5 #[.bool b2, .slice ao2 n2 c2] 81
     have l89 := (BA.keep hk5).lt
     replace BA := (BA.keep hk5).alloc (.cells #[.bool b2, .slice ao2 n2 c2] 81)
     replace ha := (ha.keep hk5).keep (kp_alloc w5 (.cells #[.bool b2, .slice ao2 n2 c2] 81))
     replace hb := hb.keep (kp_alloc w5 (.cells #[.bool b2, .slice ao2 n2 c2] 81))
     replace hk1 := (hk1.trans' hk5).alloc' (.cells #[.bool b2, .slice ao2 n2 c2] 81)
     clear hk5
     have hii : (i : Int) * (i : Int) ≤ 2116 := by
      have : i * i ≤ 46 * 46 := Nat.mul_le_mul hi2 hi2
      rw [← Int.natCast_mul]; omega
     have hii0 : 0 ≤ (i : Int) * (i : Int) := by rw [← Int.natCast_mul]; omega
     have hk0 : ((i : Int) * (i : Int) - (n : Int)).natAbs ≤ 9000 := by omega
     go_wp2_with fail
     generalize w5.alloc (.cells #[.bool b2, .slice ao2 n2 c2] 81) = w6 at *
     generalize w5.heap.size = A9 at *
     generalize (i : Int) * (i : Int) - (n : Int) = K0 at *
     clear hii hii0 hgi hjj hj0 hc hj
     have ha0 : IN w6 (.agg #[.bool b1, .slice ao1 n1 c1]) ((i : Nat) : Int) := ha
     have hb0 : IN w6 (.agg #[.bool b2, .slice ao2 n2 c2]) ((1 : Nat) : Int) := hb
     have BA0 := BA
     have BB0 := BB
     have hkw0 := hk1
     clear ha hb BA BB hk1
     go_loopg [10, 11] 300 (fun g k i wr => ∃ (a b : Nat) (K : Int) (I : Nat) (b1 : Bool) (ao1 : Option Addr) (n1 c1 : Nat) (b2 : Bool) (ao2 : Option Addr) (n2 c2 : Nat), k = .int .i64 K ∧ i = .int .i64 I ∧ Blk wr A8 #[.bool b1, .slice ao1 n1 c1] 81 ∧ IN wr (.agg #[.bool b1, .slice ao1 n1 c1]) (a : Int) ∧ Blk wr A9 #[.bool b2, .slice ao2 n2 c2] 81 ∧ IN wr (.agg #[.bool b2, .slice ao2 n2 c2]) (b : Int) ∧ Hid (crun n g a b K = some (x, y)) ∧ I + g = 300 ∧ K.natAbs ≤ 81002000 ∧ Kp w wr)
     case atStart => exact ⟨i, 1, K0, 0, _, _, _, _, _, _, _, _, rfl, rfl, BA0, ha0, BB0, hb0, HR, by omega, by omega, hkw0⟩
     case round =>
      clear ha0 hb0 BA0 BB0 hkw0 HR
      obtain ⟨a, b, K, I, b1, ao1, n1, c1, b2, ao2, n2, c2, rfl, rfl, BA, ha, BB, hb, HC, hIg, hK9, hkw⟩ := hrel
      by_cases hK : K = 1
      ·subst hK
       have hg1 : 1 ≤ gk := by
        cases gk with
        | zero => exact absurd HC.out (by rw [crun_zero]; simp)
        | succ g => omega
       obtain ⟨g, rfl⟩ : ∃ g', gk = g' + 1 := ⟨gk - 1, by omega⟩
       obtain ⟨rfl, rfl⟩ := crun_end HC.out
       have fxx : Ft 230 (a : Int) := by
        have := HFIN.out
        exact this.1
       have fyy : Ft 230 (b : Int) := HFIN.out.2
       have hT1 := Hid.mk (fun (W : World) (hk : Kp wr W) => text_ref (a : Int) _ W (ha.keep hk) (fxx.fit (by decide)))
       have hT2 := Hid.mk (fun (W : World) (hk : Kp wr W) => text_ref (b : Int) _ W (hb.keep hk) (fyy.fit (by decide)))
       rw [hS1.out] at hT1
       rw [hS2.out] at hT2
       clear HC
       go_wp2_with fail
       refine wp_region_l (S := fun w' => Kp wr w') (by kernel_rfl) (Kp.drew' (Below.refl _ _)) (fun hS0 => ?_)
       generalize wr.drew = wd at *
       refine wpAnyL_tk (i := 0) (k := 1) (v := .agg #[.bool b1, .slice ao1 n1 c1]) rfl ?_ hS0 ?_
       ·intro w' hw'; have hc := ((BA).keep hw').cell; go_simp
       simp only [sq]
       refine wpAnyL_tk (i := 2) (k := 3) (v := .agg #[.bool b2, .slice ao2 n2 c2]) rfl ?_ hS0 ?_
       ·intro w' hw'; have hc := ((BB).keep hw').cell; go_simp
       simp only [sq]
       refine wpAnyL_on (i := 1) rfl (fun K hK => ?_)
       go_simp
       refine (hT1.out _ hS0).mono ?_
       rintro e w101 ⟨rfl, hk101⟩
       go_wp2_with fail
       refine hK.out _ _ (hS0.trans' hk101) (fun hS1 => ?_)
       clear hK K
       refine wpAnyL_on (i := 3) rfl (fun K hK => ?_)
       go_simp
       refine (hT2.out _ hS1).mono ?_
       rintro e w103 ⟨rfl, hk103⟩
       go_wp2_with fail
       refine hK.out _ _ (hS1.trans' hk103) (fun hS2 => ?_)
       clear hK K
       refine wpAnyL_tk (i := 4) (k := 5) (v := .string S1) rfl ?_ hS2 ?_
       ·intro w' hw'; go_simp
       simp only [sq]
       refine wpAnyL_tk (i := 5) (k := 6) (v := .string S2) rfl ?_ hS2 ?_
       ·intro w' hw'; go_simp
       simp only [sq]
       refine wpAnyL_last (i := 6) rfl (by kernel_rfl) (by kernel_rfl) (by kernel_rfl) (fun K hK => ?_)
       go_simp
       refine hK.out _ _ ?_
       clear hK K
       go_wp2_with fail
       refine bodyPost_ret (v := .tuple #[.string S1, .string S2, .int .i64 0]) (by simp [results, Tryd.results18, go_sem]) rfl ?_
       exact ⟨rfl, hkw.trans' hS2⟩
      ·have hKb : (K != 1) = true := by simpa using hK
       have hg1 : 1 ≤ gk := by
        cases gk with
        | zero => exact absurd HC.out (by rw [crun_zero]; simp)
        | succ g => omega
       obtain ⟨g, rfl⟩ : ∃ g', gk = g' + 1 := ⟨gk - 1, by omega⟩
       obtain ⟨hf, hC2⟩ := crun_step HC.out hK
       have HC2 := Hid.mk hC2
       simp only [cfine, Bool.and_eq_true] at hf
       obtain ⟨f1, f2, f3, f4, f5⟩ := hf
       replace f1 := Nat.le_of_ble_eq_true f1
       replace f2 := Nat.le_of_ble_eq_true f2
       replace f3 := Nat.le_of_ble_eq_true f3
       replace f4 := Nat.le_of_ble_eq_true f4
       replace f5 := Nat.le_of_ble_eq_true f5
       have hI : (I : Int) < 1000 := by omega
       obtain ⟨S, hSK⟩ : ∃ S : Nat, S = K.natAbs := ⟨_, rfl⟩
       rw [← hSK] at HC2 f1 f2 f5
       have hK0 : K ≠ 0 := by omega
       replace hSK := Hid.mk hSK
       clear HC hC2 hK
       go_upto_if 75 with fail
       go_cut [12] (fun s wx => s = .int .i64 (S : Int) ∧ wx = wr)
       case first =>
        by_cases hn0 : K < 0
        ·go_wp2_with fail
         go_meet
         case rel => exact ⟨by rw [show (S : Int) = -K by have := hSK.out; omega]; try rfl, rfl⟩
        ·go_wp2_with fail
         go_meet
         case rel => exact ⟨by rw [show (S : Int) = K by have := hSK.out; omega]; try rfl, rfl⟩
       case rest =>
        obtain ⟨rfl, rfl⟩ := hcut
        clear hSK
        have fA : Ft 200 (a : Int) := by
         unfold Ft
         rw [Int.natAbs_natCast]
         exact Nat.lt_of_le_of_lt f3 (by decide)
        have fB : Ft 200 (b : Int) := by
         unfold Ft
         rw [Int.natAbs_natCast]
         exact Nat.lt_of_le_of_lt f4 (by decide)
        have HX := fun W (h : IN W (.agg #[.bool b1, .slice ao1 n1 c1]) (a : Int)) => rest_any (a : Int) (S : Int) _ W h (by omega) fA (by omega) (by omega)
        have HY := fun W (h : IN W (.agg #[.bool b2, .slice ao2 n2 c2]) (b : Int)) => rest_any (b : Int) (S : Int) _ W h (by omega) fB (by omega) (by omega)
        have HBB : Hid (bst n S (a % S) (b % S) (50 + S) 1 0 = cbest n a b S) := rfl
        have ex : ((a : Int) % (S : Int)) = ((a % S : Nat) : Int) := by omega
        have ey : ((b : Int) % (S : Int)) = ((b % S : Nat) : Int) := by omega
        rw [ex] at HX
        rw [ey] at HY
        have xl : a % S < S := Nat.mod_lt _ (by omega)
        have yl : b % S < S := Nat.mod_lt _ (by omega)
        clear ex ey
        generalize a % S = X at *
        generalize b % S = Y at *
        generalize cbest n a b S = T at *
        have bac := BA.cell
        have bal := BA.lt
        go_wp2_with fail
        refine (HX _ ha).mono ?_
        rintro e w11 ⟨rfl, hk11⟩
        replace BA := BA.keep hk11
        replace BB := BB.keep hk11
        replace ha := ha.keep hk11
        replace hb := hb.keep hk11
        replace hkw := hkw.trans' hk11
        clear bac bal hk11
        have bbc := BB.cell
        have bbl := BB.lt
        go_wp2_with fail
        refine (HY _ hb).mono ?_
        rintro e w12 ⟨rfl, hk12⟩
        replace BA := BA.keep hk12
        replace BB := BB.keep hk12
        replace ha := ha.keep hk12
        replace hb := hb.keep hk12
        replace hkw := hkw.trans' hk12
        clear bbc bbl hk12 HX HY
        go_wp2_with fail
        have BA0 := BA
        have BB0 := BB
        have ha0 := ha
        have hb0 := hb
        have hkw0 := hkw
        clear BA BB ha hb hkw
        go_loopg [13, 16] (50 + S) (fun g bb tt wr => ∃ (B t : Nat), bb = .int .i64 B ∧ tt = .int .i64 t ∧ t + g = 51 + S ∧ 1 ≤ t ∧ B ≤ 50 + S ∧ Hid (bst n S X Y g t B = T) ∧ Kp w12 wr)
        case atStart => exact ⟨0, 1, rfl, rfl, by omega, by omega, by omega, HBB, Below.refl _ _⟩
        case round =>
         obtain ⟨B, t, rfl, rfl, htg, ht1, hB, HT, hkq⟩ := hrel
         by_cases htS : t ≤ 50 + S
         ·have hti : (t : Int) ≤ 50 + (S : Int) := by omega
          obtain ⟨G, hG⟩ : ∃ g', gk = g' + 1 := ⟨gk - 1, by omega⟩
          subst hG
          have HT2 : Hid (bst n S X Y G (t + 1) (bst1 n S X Y t B) = T) := HT.out
          have htn : t ≤ 9050 := by omega
          have hYt : (Y : Int) * (t : Int) ≤ 81450000 := by
           have : Y * t ≤ 9000 * 9050 := Nat.mul_le_mul (by omega) htn
           rw [← Int.natCast_mul]; omega
          have hYt0 : 0 ≤ (Y : Int) * (t : Int) := by rw [← Int.natCast_mul]; omega
          have hSz : ((S : Int) == 0) = false := by simp; omega
          have em : ((X : Int) + (Y : Int) * (t : Int)).tmod (S : Int) = (((X + Y * t) % S : Nat) : Int) := by
           rw [← Int.natCast_mul, ← Int.natCast_add, Int.tmod_eq_emod_of_nonneg (by omega)]
           omega
          have em2 : ((X : Int) + (Y : Int) * (t : Int)) % (S : Int) = (((X + Y * t) % S : Nat) : Int) := by
           rw [← Int.natCast_mul, ← Int.natCast_add]
           omega
          have HG1 := fun W => gapTo_any t n W (by omega) (by omega)
          have HG2 := fun W => gapTo_any B n W (by omega) (by omega)
          clear HT
          by_cases c1 : (X + Y * t) % S = 0
          ·have cb1 : ((((X : Int) + (Y : Int) * (t : Int)).tmod (S : Int)) == 0) = true := by rw [em, c1]; rfl
           have cb1' : ((((X : Int) + (Y : Int) * (t : Int)) % (S : Int)) == 0) = true := by rw [em2, c1]; rfl
           by_cases c2 : B = 0
           ·have e1 : bst1 n S X Y t B = t := by
             unfold bst1
             rw [c1, c2]
             rfl
            rw [e1] at HT2
            subst c2
            clear e1 c1 em em2 HG1 HG2
            go_wp2_with fail
            go_roundg G
            case rel => exact ⟨t, t + 1, rfl, by go_num, by omega, by omega, by omega, HT2, hkq⟩
            case measure => omega
           ·have cb2 : ((B : Int) == 0) = false := by simp; omega
            by_cases c3 : gapN t n < gapN B n
            ·have e1 : bst1 n S X Y t B = t := by
              unfold bst1
              rw [c1, nat_beq c2, show Nat.blt (gapN t n) (gapN B n) = true from Nat.ble_eq_true_of_le c3]
              rfl
             rw [e1] at HT2
             have hgi : ((gapN t n : Nat) : Int) < ((gapN B n : Nat) : Int) := by omega
             clear e1 c1 em em2 c2 c3
             generalize ((gapN t n : Nat) : Int) = G1 at *
             generalize ((gapN B n : Nat) : Int) = G2 at *
             go_wp2_with fail
             refine (HG1 _).mono ?_
             rintro e w13 ⟨rfl, hk13⟩
             go_wp2_with fail
             refine (HG2 _).mono ?_
             rintro e w14 ⟨rfl, hk14⟩
             go_wp2_with fail
             go_roundg G
             case rel => exact ⟨t, t + 1, rfl, by go_num, by omega, by omega, by omega, HT2, (hkq.trans' hk13).trans' hk14⟩
             case measure => omega
            ·have e1 : bst1 n S X Y t B = B := by
              unfold bst1
              rw [c1, nat_beq c2, show Nat.blt (gapN t n) (gapN B n) = false from by cases e : Nat.blt (gapN t n) (gapN B n) with | false => rfl | true => exact absurd (Nat.le_of_ble_eq_true e) c3]
              rfl
             rw [e1] at HT2
             have hgi : ¬ ((gapN t n : Nat) : Int) < ((gapN B n : Nat) : Int) := by omega
             clear e1 c1 em em2 c2 c3
             generalize ((gapN t n : Nat) : Int) = G1 at *
             generalize ((gapN B n : Nat) : Int) = G2 at *
             go_wp2_with fail
             refine (HG1 _).mono ?_
             rintro e w13 ⟨rfl, hk13⟩
             go_wp2_with fail
             refine (HG2 _).mono ?_
             rintro e w14 ⟨rfl, hk14⟩
             go_wp2_with fail
             go_roundg G
             case rel => exact ⟨B, t + 1, rfl, by go_num, by omega, by omega, by omega, HT2, (hkq.trans' hk13).trans' hk14⟩
             case measure => omega
          ·have cb1 : ((((X : Int) + (Y : Int) * (t : Int)).tmod (S : Int)) == 0) = false := by rw [em]; simp; omega
           have cb1' : ((((X : Int) + (Y : Int) * (t : Int)) % (S : Int)) == 0) = false := by rw [em2]; simp; omega
           have e1 : bst1 n S X Y t B = B := by
            unfold bst1
            rw [nat_beq c1]
            rfl
           rw [e1] at HT2
           clear e1 c1 em em2 HG1 HG2
           go_wp2_with fail
           go_roundg G
           case rel => exact ⟨B, t + 1, rfl, by go_num, by omega, by omega, by omega, HT2, hkq⟩
           case measure => omega
         ·have hg0 : gk = 0 := by omega
          subst hg0
          have hBT : B = T := HT.out
          subst hBT
          have BA := BA0.keep hkq
          have BB := BB0.keep hkq
          have ha := ha0.keep hkq
          have hb := hb0.keep hkq
          have hkw := hkw0.trans' hkq
          have hti : ¬ (t : Int) ≤ 50 + (S : Int) := by omega
          clear HT HBB BA0 BB0 ha0 hb0 hkw0 hkq xl yl
          go_wp2_with fail
          have fTt : Ft 10 (B : Int) := by unfold Ft; rw [Int.natAbs_natCast]; exact Nat.lt_of_le_of_lt f5 (by decide)
          have fnn : Ft 10 (n : Int) := by unfold Ft; rw [Int.natAbs_natCast]; exact Nat.lt_of_le_of_lt hn (by decide)
          have fT : Fit (B : Int) := fTt.fit (by decide)
          have fd : Fit (n : Int) := fnn.fit (by decide)
          have fa : Fit (a : Int) ∧ Fit ((a : Int) * (B : Int)) := ⟨fA.fit (by decide), (fA.mul fTt).fit (by decide)⟩
          have fb : Fit (b : Int) ∧ Fit ((b : Int) * (n : Int)) := ⟨fB.fit (by decide), (fB.mul fnn).fit (by decide)⟩
          have fbT : Fit ((b : Int) * (B : Int)) := (fB.mul fTt).fit (by decide)
          have fP : Ft 230 ((a : Int) * (B : Int) + (b : Int) * (n : Int)) := Ft.mono (Ft.add (fA.mul fTt) (fB.mul fnn)) (by decide)
          have fQ : Ft 230 ((a : Int) + (b : Int) * (B : Int)) := Ft.mono (Ft.add (fA.mono (show 200 ≤ 210 by decide)) (fB.mul fTt)) (by decide)
          have fS : Ft 230 (S : Int) := Ft.mono (m := 5) (by unfold Ft; rw [Int.natAbs_natCast]; exact Nat.lt_of_le_of_lt f2 (by decide)) (by decide)
          have s0 : 0 < (S : Int) := by omega
          have EQ1 : Hid (((a : Int) * (B : Int) + (b : Int) * (n : Int)).tdiv (S : Int) = (((a * B + b * n) / S : Nat) : Int)) := by
           unfold Hid
           rw [← Int.natCast_mul, ← Int.natCast_mul, ← Int.natCast_add, Int.tdiv_eq_ediv_of_nonneg (Int.natCast_nonneg _), ← Int.natCast_ediv]
          have EQ2 : Hid (((a : Int) + (b : Int) * (B : Int)).tdiv (S : Int) = (((a + b * B) / S : Nat) : Int)) := by
           unfold Hid
           rw [← Int.natCast_mul, ← Int.natCast_add, Int.tdiv_eq_ediv_of_nonneg (Int.natCast_nonneg _), ← Int.natCast_ediv]
          have hBB2 : (B : Int) * (B : Int) ≤ 81000000 := by
           have : B * B ≤ 9000 * 9000 := Nat.mul_le_mul f5 f5
           rw [← Int.natCast_mul]; omega
          have hBB0 : 0 ≤ (B : Int) * (B : Int) := by rw [← Int.natCast_mul]; omega
          have hKz : (K == 0) = false := by simp; omega
          have hK8 : (((B : Int) * (B : Int) - (n : Int)).tdiv K).natAbs ≤ 81002000 := by
           rw [Int.natAbs_tdiv]
           exact Nat.le_trans (Nat.div_le_self _ _) (by omega)
          generalize w12 = w12 at *
          have l8 := BA.lt
          have l9 := BB.lt
          generalize hy1 : wr = y1 at *
          clear hy1
          go_cut [17] (fun p wx => ∃ (q : Nat) (b3 : Bool) (ao3 : Option Addr) (n3 c3 : Nat), p = .pointer (some ⟨q, 0, none⟩) ∧ Blk wx q #[.bool b3, .slice ao3 n3 c3] 81 ∧ IN wx (.agg #[.bool b3, .slice ao3 n3 c3]) ((a : Int) * (B : Int) + (b : Int) * (n : Int)) ∧ Kp y1 wx ∧ y1.heap.size ≤ q)
          case first =>
           as_aux_lemma =>
            refine wp_region_l (S := fun w' => Kp y1 w') (by kernel_rfl) (Kp.drew' (Below.refl _ _)) (fun hS0 => ?_)
            generalize y1.drew = wd at *
            refine wpAnyL_tk (i := 0) (k := 3) (v := .agg #[.bool b1, .slice ao1 n1 c1]) rfl ?_ hS0 ?_
            ·intro w' hw'; have hc := ((BA).keep hw').cell; go_simp
            simp only [sq]
            refine wpAnyL_tk (i := 1) (k := 2) (v := .int .i64 (B : Int)) rfl ?_ hS0 ?_
            ·intro w' hw'; go_simp
            simp only [sq]
            refine wpAnyL_tk (i := 4) (k := 7) (v := .agg #[.bool b2, .slice ao2 n2 c2]) rfl ?_ hS0 ?_
            ·intro w' hw'; have hc := ((BB).keep hw').cell; go_simp
            simp only [sq]
            refine wpAnyL_tk (i := 5) (k := 6) (v := .int .i64 (n : Int)) rfl ?_ hS0 ?_
            ·intro w' hw'; go_simp
            simp only [sq]
            refine wpAnyL_ready (rs := [2, 9]) (by kernel_rfl) (by simp) ?_
            refine AllReadyL.cons rfl (fun K hK => ?_) ?_
            ·go_simp
             refine (of_any (B : Int) _ (by omega) (by omega)).mono ?_
             rintro e w102 ⟨v102, rfl, hv102, hk102⟩
             obtain ⟨b102, ao102, n102, c102, rfl⟩ := hv102.shape'
             go_wp2_with fail
             refine hK.out _ _ (hS0.trans' hk102) (fun hS1 => ?_)
             clear hK K
             refine wpAnyL_ready (rs := [3, 9]) (by kernel_rfl) (by simp) ?_
             refine AllReadyL.cons rfl (fun K hK => ?_) ?_
             ·go_simp
              refine (rtimes_any (a : Int) (B : Int) _ _ _ (ha.keep hS1) hv102 fa.1 fT).mono ?_
              rintro e w103 ⟨v103, rfl, hv103, hk103⟩
              obtain ⟨b103, ao103, n103, c103, rfl⟩ := hv103.shape'
              go_wp2_with fail
              refine hK.out _ _ (hS1.trans' hk103) (fun hS2 => ?_)
              clear hK K
              refine wpAnyL_ready (rs := [6, 9]) (by kernel_rfl) (by simp) ?_
              refine AllReadyL.cons rfl (fun K hK => ?_) ?_
              ·go_simp
               refine (of_any (n : Int) _ (by omega) (by omega)).mono ?_
               rintro e w106 ⟨v106, rfl, hv106, hk106⟩
               obtain ⟨b106, ao106, n106, c106, rfl⟩ := hv106.shape'
               replace hv103 := hv103.keep hk106
               go_wp2_with fail
               refine hK.out _ _ (hS2.trans' hk106) (fun hS3 => ?_)
               clear hK K
               refine wpAnyL_ready (rs := [7, 9]) (by kernel_rfl) (by simp) ?_
               refine AllReadyL.cons rfl (fun K hK => ?_) ?_
               ·go_simp
                refine (rtimes_any (b : Int) (n : Int) _ _ _ (hb.keep hS3) hv106 fb.1 fd).mono ?_
                rintro e w107 ⟨v107, rfl, hv107, hk107⟩
                obtain ⟨b107, ao107, n107, c107, rfl⟩ := hv107.shape'
                replace hv103 := hv103.keep hk107
                go_wp2_with fail
                refine hK.out _ _ (hS3.trans' hk107) (fun hS4 => ?_)
                clear hK K
                refine wpAnyL_ready (rs := [8, 9]) (by kernel_rfl) (by simp) ?_
                refine AllReadyL.cons rfl (fun K hK => ?_) ?_
                ·go_simp
                 refine (rplus_any ((a : Int) * (B : Int)) ((b : Int) * (n : Int)) _ _ _ hv103 hv107 fa.2 fb.2).mono ?_
                 rintro e w108 ⟨v108, rfl, hv108, hk108⟩
                 obtain ⟨b108, ao108, n108, c108, rfl⟩ := hv108.shape'
                 go_wp2_with fail
                 refine hK.out _ _ (hS4.trans' hk108) (fun hS5 => ?_)
                 clear hK K
                 refine wpAnyL_on (i := 9) rfl (fun K hK => ?_)
                 go_simp
                 refine hK.out _ _ (Kp.alloc' hS5 (.cells #[.bool false, .slice none 0 0] 81)) (fun hS6 => ?_)
                 clear hK K
                 have NB9 : Blk (w108.alloc (.cells #[.bool false, .slice none 0 0] 81)) w108.heap.size #[.bool false, .slice none 0 0] 81 := Blk.new w108 _ _
                 have ge9 : y1.heap.size ≤ w108.heap.size := hS5.size
                 replace hv108 := hv108.keep (kp_alloc w108 (.cells #[.bool false, .slice none 0 0] 81))
                 try simp only [sq]
                 generalize hA9 : w108.heap.size = A9 at *
                 generalize w108.alloc (.cells #[.bool false, .slice none 0 0] 81) = wn9 at *
                 have st_c := NB9.cell
                 have st_f := NB9.frozen
                 have st_l := NB9.lt
                 refine wpAnyL_last (i := 10) rfl (by kernel_rfl) (by kernel_rfl) (by kernel_rfl) (fun K hK => ?_)
                 go_simp
                 refine hK.out _ _ ?_
                 clear hK K
                 go_wp2_with fail
                 go_meet
                 case rel => exact ⟨A9, b108, ao108, n108, c108, rfl, (bl2 (.bool b108) (.slice ao108 n108 c108) NB9), hv108.soft (sf2 (E := 3) (.bool b108) (.slice ao108 n108 c108) NB9 (by decide)), (kp2 (A := A9) (.bool b108) (.slice ao108 n108 c108) hS6 (by omega)), (by omega)⟩
                refine AllReadyL.cons rfl (fun K hK => ?_) ?_
                ·go_simp
                 refine hK.out _ _ (Kp.alloc' hS4 (.cells #[.bool false, .slice none 0 0] 81)) (fun hS5 => ?_)
                 clear hK K
                 have NB9 : Blk (w107.alloc (.cells #[.bool false, .slice none 0 0] 81)) w107.heap.size #[.bool false, .slice none 0 0] 81 := Blk.new w107 _ _
                 have ge9 : y1.heap.size ≤ w107.heap.size := hS4.size
                 replace hv103 := hv103.keep (kp_alloc w107 (.cells #[.bool false, .slice none 0 0] 81))
                 replace hv107 := hv107.keep (kp_alloc w107 (.cells #[.bool false, .slice none 0 0] 81))
                 try simp only [sq]
                 generalize hA9 : w107.heap.size = A9 at *
                 generalize w107.alloc (.cells #[.bool false, .slice none 0 0] 81) = wn9 at *
                 refine wpAnyL_on (i := 8) rfl (fun K hK => ?_)
                 go_simp
                 refine (rplus_any ((a : Int) * (B : Int)) ((b : Int) * (n : Int)) _ _ _ hv103 hv107 fa.2 fb.2).mono ?_
                 rintro e w108 ⟨v108, rfl, hv108, hk108⟩
                 obtain ⟨b108, ao108, n108, c108, rfl⟩ := hv108.shape'
                 replace NB9 := NB9.keep hk108
                 go_wp2_with fail
                 refine hK.out _ _ (hS5.trans' hk108) (fun hS6 => ?_)
                 clear hK K
                 have st_c := NB9.cell
                 have st_f := NB9.frozen
                 have st_l := NB9.lt
                 refine wpAnyL_last (i := 10) rfl (by kernel_rfl) (by kernel_rfl) (by kernel_rfl) (fun K hK => ?_)
                 go_simp
                 refine hK.out _ _ ?_
                 clear hK K
                 go_wp2_with fail
                 go_meet
                 case rel => exact ⟨A9, b108, ao108, n108, c108, rfl, (bl2 (.bool b108) (.slice ao108 n108 c108) NB9), hv108.soft (sf2 (E := 3) (.bool b108) (.slice ao108 n108 c108) NB9 (by decide)), (kp2 (A := A9) (.bool b108) (.slice ao108 n108 c108) hS6 (by omega)), (by omega)⟩
                exact AllReadyL.nil
               refine AllReadyL.cons rfl (fun K hK => ?_) ?_
               ·go_simp
                refine hK.out _ _ (Kp.alloc' hS3 (.cells #[.bool false, .slice none 0 0] 81)) (fun hS4 => ?_)
                clear hK K
                have NB9 : Blk (w106.alloc (.cells #[.bool false, .slice none 0 0] 81)) w106.heap.size #[.bool false, .slice none 0 0] 81 := Blk.new w106 _ _
                have ge9 : y1.heap.size ≤ w106.heap.size := hS3.size
                replace hv103 := hv103.keep (kp_alloc w106 (.cells #[.bool false, .slice none 0 0] 81))
                replace hv106 := hv106.keep (kp_alloc w106 (.cells #[.bool false, .slice none 0 0] 81))
                try simp only [sq]
                generalize hA9 : w106.heap.size = A9 at *
                generalize w106.alloc (.cells #[.bool false, .slice none 0 0] 81) = wn9 at *
                refine wpAnyL_on (i := 7) rfl (fun K hK => ?_)
                go_simp
                refine (rtimes_any (b : Int) (n : Int) _ _ _ (hb.keep hS4) hv106 fb.1 fd).mono ?_
                rintro e w107 ⟨v107, rfl, hv107, hk107⟩
                obtain ⟨b107, ao107, n107, c107, rfl⟩ := hv107.shape'
                replace hv103 := hv103.keep hk107
                replace NB9 := NB9.keep hk107
                go_wp2_with fail
                refine hK.out _ _ (hS4.trans' hk107) (fun hS5 => ?_)
                clear hK K
                refine wpAnyL_on (i := 8) rfl (fun K hK => ?_)
                go_simp
                refine (rplus_any ((a : Int) * (B : Int)) ((b : Int) * (n : Int)) _ _ _ hv103 hv107 fa.2 fb.2).mono ?_
                rintro e w108 ⟨v108, rfl, hv108, hk108⟩
                obtain ⟨b108, ao108, n108, c108, rfl⟩ := hv108.shape'
                replace NB9 := NB9.keep hk108
                go_wp2_with fail
                refine hK.out _ _ (hS5.trans' hk108) (fun hS6 => ?_)
                clear hK K
                have st_c := NB9.cell
                have st_f := NB9.frozen
                have st_l := NB9.lt
                refine wpAnyL_last (i := 10) rfl (by kernel_rfl) (by kernel_rfl) (by kernel_rfl) (fun K hK => ?_)
                go_simp
                refine hK.out _ _ ?_
                clear hK K
                go_wp2_with fail
                go_meet
                case rel => exact ⟨A9, b108, ao108, n108, c108, rfl, (bl2 (.bool b108) (.slice ao108 n108 c108) NB9), hv108.soft (sf2 (E := 3) (.bool b108) (.slice ao108 n108 c108) NB9 (by decide)), (kp2 (A := A9) (.bool b108) (.slice ao108 n108 c108) hS6 (by omega)), (by omega)⟩
               exact AllReadyL.nil
              refine AllReadyL.cons rfl (fun K hK => ?_) ?_
              ·go_simp
               refine hK.out _ _ (Kp.alloc' hS2 (.cells #[.bool false, .slice none 0 0] 81)) (fun hS3 => ?_)
               clear hK K
               have NB9 : Blk (w103.alloc (.cells #[.bool false, .slice none 0 0] 81)) w103.heap.size #[.bool false, .slice none 0 0] 81 := Blk.new w103 _ _
               have ge9 : y1.heap.size ≤ w103.heap.size := hS2.size
               replace hv103 := hv103.keep (kp_alloc w103 (.cells #[.bool false, .slice none 0 0] 81))
               try simp only [sq]
               generalize hA9 : w103.heap.size = A9 at *
               generalize w103.alloc (.cells #[.bool false, .slice none 0 0] 81) = wn9 at *
               refine wpAnyL_on (i := 6) rfl (fun K hK => ?_)
               go_simp
               refine (of_any (n : Int) _ (by omega) (by omega)).mono ?_
               rintro e w106 ⟨v106, rfl, hv106, hk106⟩
               obtain ⟨b106, ao106, n106, c106, rfl⟩ := hv106.shape'
               replace hv103 := hv103.keep hk106
               replace NB9 := NB9.keep hk106
               go_wp2_with fail
               refine hK.out _ _ (hS3.trans' hk106) (fun hS4 => ?_)
               clear hK K
               refine wpAnyL_on (i := 7) rfl (fun K hK => ?_)
               go_simp
               refine (rtimes_any (b : Int) (n : Int) _ _ _ (hb.keep hS4) hv106 fb.1 fd).mono ?_
               rintro e w107 ⟨v107, rfl, hv107, hk107⟩
               obtain ⟨b107, ao107, n107, c107, rfl⟩ := hv107.shape'
               replace hv103 := hv103.keep hk107
               replace NB9 := NB9.keep hk107
               go_wp2_with fail
               refine hK.out _ _ (hS4.trans' hk107) (fun hS5 => ?_)
               clear hK K
               refine wpAnyL_on (i := 8) rfl (fun K hK => ?_)
               go_simp
               refine (rplus_any ((a : Int) * (B : Int)) ((b : Int) * (n : Int)) _ _ _ hv103 hv107 fa.2 fb.2).mono ?_
               rintro e w108 ⟨v108, rfl, hv108, hk108⟩
               obtain ⟨b108, ao108, n108, c108, rfl⟩ := hv108.shape'
               replace NB9 := NB9.keep hk108
               go_wp2_with fail
               refine hK.out _ _ (hS5.trans' hk108) (fun hS6 => ?_)
               clear hK K
               have st_c := NB9.cell
               have st_f := NB9.frozen
               have st_l := NB9.lt
               refine wpAnyL_last (i := 10) rfl (by kernel_rfl) (by kernel_rfl) (by kernel_rfl) (fun K hK => ?_)
               go_simp
               refine hK.out _ _ ?_
               clear hK K
               go_wp2_with fail
               go_meet
               case rel => exact ⟨A9, b108, ao108, n108, c108, rfl, (bl2 (.bool b108) (.slice ao108 n108 c108) NB9), hv108.soft (sf2 (E := 3) (.bool b108) (.slice ao108 n108 c108) NB9 (by decide)), (kp2 (A := A9) (.bool b108) (.slice ao108 n108 c108) hS6 (by omega)), (by omega)⟩
              exact AllReadyL.nil
             refine AllReadyL.cons rfl (fun K hK => ?_) ?_
             ·go_simp
              refine hK.out _ _ (Kp.alloc' hS1 (.cells #[.bool false, .slice none 0 0] 81)) (fun hS2 => ?_)
              clear hK K
              have NB9 : Blk (w102.alloc (.cells #[.bool false, .slice none 0 0] 81)) w102.heap.size #[.bool false, .slice none 0 0] 81 := Blk.new w102 _ _
              have ge9 : y1.heap.size ≤ w102.heap.size := hS1.size
              replace hv102 := hv102.keep (kp_alloc w102 (.cells #[.bool false, .slice none 0 0] 81))
              try simp only [sq]
              generalize hA9 : w102.heap.size = A9 at *
              generalize w102.alloc (.cells #[.bool false, .slice none 0 0] 81) = wn9 at *
              refine wpAnyL_on (i := 3) rfl (fun K hK => ?_)
              go_simp
              refine (rtimes_any (a : Int) (B : Int) _ _ _ (ha.keep hS2) hv102 fa.1 fT).mono ?_
              rintro e w103 ⟨v103, rfl, hv103, hk103⟩
              obtain ⟨b103, ao103, n103, c103, rfl⟩ := hv103.shape'
              replace NB9 := NB9.keep hk103
              go_wp2_with fail
              refine hK.out _ _ (hS2.trans' hk103) (fun hS3 => ?_)
              clear hK K
              refine wpAnyL_on (i := 6) rfl (fun K hK => ?_)
              go_simp
              refine (of_any (n : Int) _ (by omega) (by omega)).mono ?_
              rintro e w106 ⟨v106, rfl, hv106, hk106⟩
              obtain ⟨b106, ao106, n106, c106, rfl⟩ := hv106.shape'
              replace NB9 := NB9.keep hk106
              replace hv103 := hv103.keep hk106
              go_wp2_with fail
              refine hK.out _ _ (hS3.trans' hk106) (fun hS4 => ?_)
              clear hK K
              refine wpAnyL_on (i := 7) rfl (fun K hK => ?_)
              go_simp
              refine (rtimes_any (b : Int) (n : Int) _ _ _ (hb.keep hS4) hv106 fb.1 fd).mono ?_
              rintro e w107 ⟨v107, rfl, hv107, hk107⟩
              obtain ⟨b107, ao107, n107, c107, rfl⟩ := hv107.shape'
              replace NB9 := NB9.keep hk107
              replace hv103 := hv103.keep hk107
              go_wp2_with fail
              refine hK.out _ _ (hS4.trans' hk107) (fun hS5 => ?_)
              clear hK K
              refine wpAnyL_on (i := 8) rfl (fun K hK => ?_)
              go_simp
              refine (rplus_any ((a : Int) * (B : Int)) ((b : Int) * (n : Int)) _ _ _ hv103 hv107 fa.2 fb.2).mono ?_
              rintro e w108 ⟨v108, rfl, hv108, hk108⟩
              obtain ⟨b108, ao108, n108, c108, rfl⟩ := hv108.shape'
              replace NB9 := NB9.keep hk108
              go_wp2_with fail
              refine hK.out _ _ (hS5.trans' hk108) (fun hS6 => ?_)
              clear hK K
              have st_c := NB9.cell
              have st_f := NB9.frozen
              have st_l := NB9.lt
              refine wpAnyL_last (i := 10) rfl (by kernel_rfl) (by kernel_rfl) (by kernel_rfl) (fun K hK => ?_)
              go_simp
              refine hK.out _ _ ?_
              clear hK K
              go_wp2_with fail
              go_meet
              case rel => exact ⟨A9, b108, ao108, n108, c108, rfl, (bl2 (.bool b108) (.slice ao108 n108 c108) NB9), hv108.soft (sf2 (E := 3) (.bool b108) (.slice ao108 n108 c108) NB9 (by decide)), (kp2 (A := A9) (.bool b108) (.slice ao108 n108 c108) hS6 (by omega)), (by omega)⟩
             exact AllReadyL.nil
            refine AllReadyL.cons rfl (fun K hK => ?_) ?_
            ·go_simp
             refine hK.out _ _ (Kp.alloc' hS0 (.cells #[.bool false, .slice none 0 0] 81)) (fun hS1 => ?_)
             clear hK K
             have NB9 : Blk (wd.alloc (.cells #[.bool false, .slice none 0 0] 81)) wd.heap.size #[.bool false, .slice none 0 0] 81 := Blk.new wd _ _
             have ge9 : y1.heap.size ≤ wd.heap.size := hS0.size
             try simp only [sq]
             generalize hA9 : wd.heap.size = A9 at *
             generalize wd.alloc (.cells #[.bool false, .slice none 0 0] 81) = wn9 at *
             refine wpAnyL_on (i := 2) rfl (fun K hK => ?_)
             go_simp
             refine (of_any (B : Int) _ (by omega) (by omega)).mono ?_
             rintro e w102 ⟨v102, rfl, hv102, hk102⟩
             obtain ⟨b102, ao102, n102, c102, rfl⟩ := hv102.shape'
             replace NB9 := NB9.keep hk102
             go_wp2_with fail
             refine hK.out _ _ (hS1.trans' hk102) (fun hS2 => ?_)
             clear hK K
             refine wpAnyL_on (i := 3) rfl (fun K hK => ?_)
             go_simp
             refine (rtimes_any (a : Int) (B : Int) _ _ _ (ha.keep hS2) hv102 fa.1 fT).mono ?_
             rintro e w103 ⟨v103, rfl, hv103, hk103⟩
             obtain ⟨b103, ao103, n103, c103, rfl⟩ := hv103.shape'
             replace NB9 := NB9.keep hk103
             go_wp2_with fail
             refine hK.out _ _ (hS2.trans' hk103) (fun hS3 => ?_)
             clear hK K
             refine wpAnyL_on (i := 6) rfl (fun K hK => ?_)
             go_simp
             refine (of_any (n : Int) _ (by omega) (by omega)).mono ?_
             rintro e w106 ⟨v106, rfl, hv106, hk106⟩
             obtain ⟨b106, ao106, n106, c106, rfl⟩ := hv106.shape'
             replace NB9 := NB9.keep hk106
             replace hv103 := hv103.keep hk106
             go_wp2_with fail
             refine hK.out _ _ (hS3.trans' hk106) (fun hS4 => ?_)
             clear hK K
             refine wpAnyL_on (i := 7) rfl (fun K hK => ?_)
             go_simp
             refine (rtimes_any (b : Int) (n : Int) _ _ _ (hb.keep hS4) hv106 fb.1 fd).mono ?_
             rintro e w107 ⟨v107, rfl, hv107, hk107⟩
             obtain ⟨b107, ao107, n107, c107, rfl⟩ := hv107.shape'
             replace NB9 := NB9.keep hk107
             replace hv103 := hv103.keep hk107
             go_wp2_with fail
             refine hK.out _ _ (hS4.trans' hk107) (fun hS5 => ?_)
             clear hK K
             refine wpAnyL_on (i := 8) rfl (fun K hK => ?_)
             go_simp
             refine (rplus_any ((a : Int) * (B : Int)) ((b : Int) * (n : Int)) _ _ _ hv103 hv107 fa.2 fb.2).mono ?_
             rintro e w108 ⟨v108, rfl, hv108, hk108⟩
             obtain ⟨b108, ao108, n108, c108, rfl⟩ := hv108.shape'
             replace NB9 := NB9.keep hk108
             go_wp2_with fail
             refine hK.out _ _ (hS5.trans' hk108) (fun hS6 => ?_)
             clear hK K
             have st_c := NB9.cell
             have st_f := NB9.frozen
             have st_l := NB9.lt
             refine wpAnyL_last (i := 10) rfl (by kernel_rfl) (by kernel_rfl) (by kernel_rfl) (fun K hK => ?_)
             go_simp
             refine hK.out _ _ ?_
             clear hK K
             go_wp2_with fail
             go_meet
             case rel => exact ⟨A9, b108, ao108, n108, c108, rfl, (bl2 (.bool b108) (.slice ao108 n108 c108) NB9), hv108.soft (sf2 (E := 3) (.bool b108) (.slice ao108 n108 c108) NB9 (by decide)), (kp2 (A := A9) (.bool b108) (.slice ao108 n108 c108) hS6 (by omega)), (by omega)⟩
            exact AllReadyL.nil
          case rest =>
           obtain ⟨A17, b3, ao3, n3, c3, rfl, BP, hp, hkc, g17⟩ := hcut
           have ne817 : A8 ≠ A17 := by omega
           have ne917 : A9 ≠ A17 := by omega
           replace BA := BA.keep hkc
           replace BB := BB.keep hkc
           replace ha := ha.keep hkc
           replace hb := hb.keep hkc
           replace hkw := hkw.trans' hkc
           clear hkc g17
           generalize wc = y2 at *
           go_wp2_with fail
           have l82 := BA.lt
           have l92 := BB.lt
           have l17 := BP.lt
           go_cut [18] (fun p wx => ∃ (q : Nat) (b4 : Bool) (ao4 : Option Addr) (n4 c4 : Nat), p = .pointer (some ⟨q, 0, none⟩) ∧ Blk wx q #[.bool b4, .slice ao4 n4 c4] 81 ∧ IN wx (.agg #[.bool b4, .slice ao4 n4 c4]) ((a : Int) + (b : Int) * (B : Int)) ∧ Kp y2 wx ∧ y2.heap.size ≤ q)
           case first =>
            as_aux_lemma =>
             refine wp_region_l (S := fun w' => Kp y2 w') (by kernel_rfl) (Kp.drew' (Below.refl _ _)) (fun hS0 => ?_)
             generalize y2.drew = wd at *
             refine wpAnyL_tk (i := 0) (k := 5) (v := .agg #[.bool b1, .slice ao1 n1 c1]) rfl ?_ hS0 ?_
             ·intro w' hw'; have hc := ((BA).keep hw').cell; go_simp
             simp only [sq]
             refine wpAnyL_tk (i := 1) (k := 4) (v := .agg #[.bool b2, .slice ao2 n2 c2]) rfl ?_ hS0 ?_
             ·intro w' hw'; have hc := ((BB).keep hw').cell; go_simp
             simp only [sq]
             refine wpAnyL_tk (i := 2) (k := 3) (v := .int .i64 (B : Int)) rfl ?_ hS0 ?_
             ·intro w' hw'; go_simp
             simp only [sq]
             refine wpAnyL_ready (rs := [3, 6]) (by kernel_rfl) (by simp) ?_
             refine AllReadyL.cons rfl (fun K hK => ?_) ?_
             ·go_simp
              refine (of_any (B : Int) _ (by omega) (by omega)).mono ?_
              rintro e w103 ⟨v103, rfl, hv103, hk103⟩
              obtain ⟨b103, ao103, n103, c103, rfl⟩ := hv103.shape'
              go_wp2_with fail
              refine hK.out _ _ (hS0.trans' hk103) (fun hS1 => ?_)
              clear hK K
              refine wpAnyL_ready (rs := [4, 6]) (by kernel_rfl) (by simp) ?_
              refine AllReadyL.cons rfl (fun K hK => ?_) ?_
              ·go_simp
               refine (rtimes_any (b : Int) (B : Int) _ _ _ (hb.keep hS1) hv103 fb.1 fT).mono ?_
               rintro e w104 ⟨v104, rfl, hv104, hk104⟩
               obtain ⟨b104, ao104, n104, c104, rfl⟩ := hv104.shape'
               go_wp2_with fail
               refine hK.out _ _ (hS1.trans' hk104) (fun hS2 => ?_)
               clear hK K
               refine wpAnyL_ready (rs := [5, 6]) (by kernel_rfl) (by simp) ?_
               refine AllReadyL.cons rfl (fun K hK => ?_) ?_
               ·go_simp
                refine (rplus_any (a : Int) ((b : Int) * (B : Int)) _ _ _ (ha.keep hS2) hv104 fa.1 fbT).mono ?_
                rintro e w105 ⟨v105, rfl, hv105, hk105⟩
                obtain ⟨b105, ao105, n105, c105, rfl⟩ := hv105.shape'
                go_wp2_with fail
                refine hK.out _ _ (hS2.trans' hk105) (fun hS3 => ?_)
                clear hK K
                refine wpAnyL_on (i := 6) rfl (fun K hK => ?_)
                go_simp
                refine hK.out _ _ (Kp.alloc' hS3 (.cells #[.bool false, .slice none 0 0] 81)) (fun hS4 => ?_)
                clear hK K
                have NB6 : Blk (w105.alloc (.cells #[.bool false, .slice none 0 0] 81)) w105.heap.size #[.bool false, .slice none 0 0] 81 := Blk.new w105 _ _
                have ge6 : y2.heap.size ≤ w105.heap.size := hS3.size
                replace hv105 := hv105.keep (kp_alloc w105 (.cells #[.bool false, .slice none 0 0] 81))
                try simp only [sq]
                generalize hA6 : w105.heap.size = A6 at *
                generalize w105.alloc (.cells #[.bool false, .slice none 0 0] 81) = wn6 at *
                have st_c := NB6.cell
                have st_f := NB6.frozen
                have st_l := NB6.lt
                refine wpAnyL_last (i := 7) rfl (by kernel_rfl) (by kernel_rfl) (by kernel_rfl) (fun K hK => ?_)
                go_simp
                refine hK.out _ _ ?_
                clear hK K
                go_wp2_with fail
                go_meet
                case rel => exact ⟨A6, b105, ao105, n105, c105, rfl, (bl2 (.bool b105) (.slice ao105 n105 c105) NB6), hv105.soft (sf2 (E := 3) (.bool b105) (.slice ao105 n105 c105) NB6 (by decide)), (kp2 (A := A6) (.bool b105) (.slice ao105 n105 c105) hS4 (by omega)), (by omega)⟩
               refine AllReadyL.cons rfl (fun K hK => ?_) ?_
               ·go_simp
                refine hK.out _ _ (Kp.alloc' hS2 (.cells #[.bool false, .slice none 0 0] 81)) (fun hS3 => ?_)
                clear hK K
                have NB6 : Blk (w104.alloc (.cells #[.bool false, .slice none 0 0] 81)) w104.heap.size #[.bool false, .slice none 0 0] 81 := Blk.new w104 _ _
                have ge6 : y2.heap.size ≤ w104.heap.size := hS2.size
                replace hv104 := hv104.keep (kp_alloc w104 (.cells #[.bool false, .slice none 0 0] 81))
                try simp only [sq]
                generalize hA6 : w104.heap.size = A6 at *
                generalize w104.alloc (.cells #[.bool false, .slice none 0 0] 81) = wn6 at *
                refine wpAnyL_on (i := 5) rfl (fun K hK => ?_)
                go_simp
                refine (rplus_any (a : Int) ((b : Int) * (B : Int)) _ _ _ (ha.keep hS3) hv104 fa.1 fbT).mono ?_
                rintro e w105 ⟨v105, rfl, hv105, hk105⟩
                obtain ⟨b105, ao105, n105, c105, rfl⟩ := hv105.shape'
                replace NB6 := NB6.keep hk105
                go_wp2_with fail
                refine hK.out _ _ (hS3.trans' hk105) (fun hS4 => ?_)
                clear hK K
                have st_c := NB6.cell
                have st_f := NB6.frozen
                have st_l := NB6.lt
                refine wpAnyL_last (i := 7) rfl (by kernel_rfl) (by kernel_rfl) (by kernel_rfl) (fun K hK => ?_)
                go_simp
                refine hK.out _ _ ?_
                clear hK K
                go_wp2_with fail
                go_meet
                case rel => exact ⟨A6, b105, ao105, n105, c105, rfl, (bl2 (.bool b105) (.slice ao105 n105 c105) NB6), hv105.soft (sf2 (E := 3) (.bool b105) (.slice ao105 n105 c105) NB6 (by decide)), (kp2 (A := A6) (.bool b105) (.slice ao105 n105 c105) hS4 (by omega)), (by omega)⟩
               exact AllReadyL.nil
              refine AllReadyL.cons rfl (fun K hK => ?_) ?_
              ·go_simp
               refine hK.out _ _ (Kp.alloc' hS1 (.cells #[.bool false, .slice none 0 0] 81)) (fun hS2 => ?_)
               clear hK K
               have NB6 : Blk (w103.alloc (.cells #[.bool false, .slice none 0 0] 81)) w103.heap.size #[.bool false, .slice none 0 0] 81 := Blk.new w103 _ _
               have ge6 : y2.heap.size ≤ w103.heap.size := hS1.size
               replace hv103 := hv103.keep (kp_alloc w103 (.cells #[.bool false, .slice none 0 0] 81))
               try simp only [sq]
               generalize hA6 : w103.heap.size = A6 at *
               generalize w103.alloc (.cells #[.bool false, .slice none 0 0] 81) = wn6 at *
               refine wpAnyL_on (i := 4) rfl (fun K hK => ?_)
               go_simp
               refine (rtimes_any (b : Int) (B : Int) _ _ _ (hb.keep hS2) hv103 fb.1 fT).mono ?_
               rintro e w104 ⟨v104, rfl, hv104, hk104⟩
               obtain ⟨b104, ao104, n104, c104, rfl⟩ := hv104.shape'
               replace NB6 := NB6.keep hk104
               go_wp2_with fail
               refine hK.out _ _ (hS2.trans' hk104) (fun hS3 => ?_)
               clear hK K
               refine wpAnyL_on (i := 5) rfl (fun K hK => ?_)
               go_simp
               refine (rplus_any (a : Int) ((b : Int) * (B : Int)) _ _ _ (ha.keep hS3) hv104 fa.1 fbT).mono ?_
               rintro e w105 ⟨v105, rfl, hv105, hk105⟩
               obtain ⟨b105, ao105, n105, c105, rfl⟩ := hv105.shape'
               replace NB6 := NB6.keep hk105
               go_wp2_with fail
               refine hK.out _ _ (hS3.trans' hk105) (fun hS4 => ?_)
               clear hK K
               have st_c := NB6.cell
               have st_f := NB6.frozen
               have st_l := NB6.lt
               refine wpAnyL_last (i := 7) rfl (by kernel_rfl) (by kernel_rfl) (by kernel_rfl) (fun K hK => ?_)
               go_simp
               refine hK.out _ _ ?_
               clear hK K
               go_wp2_with fail
               go_meet
               case rel => exact ⟨A6, b105, ao105, n105, c105, rfl, (bl2 (.bool b105) (.slice ao105 n105 c105) NB6), hv105.soft (sf2 (E := 3) (.bool b105) (.slice ao105 n105 c105) NB6 (by decide)), (kp2 (A := A6) (.bool b105) (.slice ao105 n105 c105) hS4 (by omega)), (by omega)⟩
              exact AllReadyL.nil
             refine AllReadyL.cons rfl (fun K hK => ?_) ?_
             ·go_simp
              refine hK.out _ _ (Kp.alloc' hS0 (.cells #[.bool false, .slice none 0 0] 81)) (fun hS1 => ?_)
              clear hK K
              have NB6 : Blk (wd.alloc (.cells #[.bool false, .slice none 0 0] 81)) wd.heap.size #[.bool false, .slice none 0 0] 81 := Blk.new wd _ _
              have ge6 : y2.heap.size ≤ wd.heap.size := hS0.size
              try simp only [sq]
              generalize hA6 : wd.heap.size = A6 at *
              generalize wd.alloc (.cells #[.bool false, .slice none 0 0] 81) = wn6 at *
              refine wpAnyL_on (i := 3) rfl (fun K hK => ?_)
              go_simp
              refine (of_any (B : Int) _ (by omega) (by omega)).mono ?_
              rintro e w103 ⟨v103, rfl, hv103, hk103⟩
              obtain ⟨b103, ao103, n103, c103, rfl⟩ := hv103.shape'
              replace NB6 := NB6.keep hk103
              go_wp2_with fail
              refine hK.out _ _ (hS1.trans' hk103) (fun hS2 => ?_)
              clear hK K
              refine wpAnyL_on (i := 4) rfl (fun K hK => ?_)
              go_simp
              refine (rtimes_any (b : Int) (B : Int) _ _ _ (hb.keep hS2) hv103 fb.1 fT).mono ?_
              rintro e w104 ⟨v104, rfl, hv104, hk104⟩
              obtain ⟨b104, ao104, n104, c104, rfl⟩ := hv104.shape'
              replace NB6 := NB6.keep hk104
              go_wp2_with fail
              refine hK.out _ _ (hS2.trans' hk104) (fun hS3 => ?_)
              clear hK K
              refine wpAnyL_on (i := 5) rfl (fun K hK => ?_)
              go_simp
              refine (rplus_any (a : Int) ((b : Int) * (B : Int)) _ _ _ (ha.keep hS3) hv104 fa.1 fbT).mono ?_
              rintro e w105 ⟨v105, rfl, hv105, hk105⟩
              obtain ⟨b105, ao105, n105, c105, rfl⟩ := hv105.shape'
              replace NB6 := NB6.keep hk105
              go_wp2_with fail
              refine hK.out _ _ (hS3.trans' hk105) (fun hS4 => ?_)
              clear hK K
              have st_c := NB6.cell
              have st_f := NB6.frozen
              have st_l := NB6.lt
              refine wpAnyL_last (i := 7) rfl (by kernel_rfl) (by kernel_rfl) (by kernel_rfl) (fun K hK => ?_)
              go_simp
              refine hK.out _ _ ?_
              clear hK K
              go_wp2_with fail
              go_meet
              case rel => exact ⟨A6, b105, ao105, n105, c105, rfl, (bl2 (.bool b105) (.slice ao105 n105 c105) NB6), hv105.soft (sf2 (E := 3) (.bool b105) (.slice ao105 n105 c105) NB6 (by decide)), (kp2 (A := A6) (.bool b105) (.slice ao105 n105 c105) hS4 (by omega)), (by omega)⟩
             exact AllReadyL.nil
           case rest =>
            obtain ⟨A18, b4, ao4, n4, c4, rfl, BQ, hq, hkc, g18⟩ := hcut
            have ne818 : A8 ≠ A18 := by omega
            have ne918 : A9 ≠ A18 := by omega
            replace BA := BA.keep hkc
            replace BB := BB.keep hkc
            replace BP := BP.keep hkc
            replace hp := hp.keep hkc
            replace ha := ha.keep hkc
            replace hb := hb.keep hkc
            replace hkw := hkw.trans' hkc
            clear hkc g18 l8 l9 l82 l92 l17
            generalize wc = y4 at *
            go_wp2_with fail
            clear fa fb fbT fT fd fA fB
            refine wp_region_l (S := fun w' => Kp y4 w') (by kernel_rfl) (Kp.drew' (Below.refl _ _)) (fun hS0 => ?_)
            generalize y4.drew = wd at *
            refine wpAnyL_tk (i := 0) (k := 3) (v := .agg #[.bool b3, .slice ao3 n3 c3]) rfl ?_ hS0 ?_
            ·intro w' hw'; have hc := ((BP).keep hw').cell; go_simp
            simp only [sq]
            refine wpAnyL_tk (i := 1) (k := 2) (v := .int .i64 (S : Int)) rfl ?_ hS0 ?_
            ·intro w' hw'; go_simp
            simp only [sq]
            refine wpAnyL_on (i := 2) rfl (fun K hK => ?_)
            go_simp
            refine (of_any (S : Int) _ (by omega) (by omega)).mono ?_
            rintro e w102 ⟨v102, rfl, hv102, hk102⟩
            obtain ⟨b102, ao102, n102, c102, rfl⟩ := hv102.shape'
            go_wp2_with fail
            refine hK.out _ _ (hS0.trans' hk102) (fun hS1 => ?_)
            clear hK K
            refine wpAnyL_on (i := 3) rfl (fun K hK => ?_)
            go_simp
            refine (rexact_any ((a : Int) * (B : Int) + (b : Int) * (n : Int)) (S : Int) 230 _ _ _ (hp.keep hS1) hv102 s0 (by decide) fP fS).mono ?_
            rintro e w103 ⟨v103, rfl, hv103, hk103⟩
            obtain ⟨b103, ao103, n103, c103, rfl⟩ := hv103.shape'
            go_wp2_with fail
            refine hK.out _ _ (hS1.trans' hk103) (fun hS2 => ?_)
            clear hK K
            have TB := (BA).keep hS2
            have st_c := TB.cell
            have st_f := TB.frozen
            have st_l := TB.lt
            refine wpAnyL_last (i := 4) rfl (by kernel_rfl) (by kernel_rfl) (by kernel_rfl) (fun K hK => ?_)
            go_simp
            refine hK.out _ _ ?_
            clear hK K
            have sfS := (sf2 (E := 3) (.bool b103) (.slice ao103 n103 c103) TB (by decide))
            replace BB := (ot2 (A := A8) (.bool b103) (.slice ao103 n103 c103) (BB.keep hS2) (by omega))
            replace BQ := (ot2 (A := A8) (.bool b103) (.slice ao103 n103 c103) (BQ.keep hS2) (by omega))
            replace hb := (hb.keep hS2).soft sfS
            replace hq := (hq.keep hS2).soft sfS
            have BAn := (bl2 (.bool b103) (.slice ao103 n103 c103) TB)
            have hA2 := hv103.soft sfS
            replace hkw := (kp2 (A := A8) (.bool b103) (.slice ao103 n103 c103) (hkw.trans' hS2) (by omega))
            clear sfS st_c st_f st_l TB BA hS2
            generalize ((w103.setCell ⟨A8, 0, none⟩ (.bool b103)).setCell ⟨A8, 1, none⟩ (.slice ao103 n103 c103)) = y5 at *
            go_wp2_with fail
            rw [EQ1.out] at hA2
            obtain ⟨b20, ao20, n20, c20, e20⟩ : ∃ (b20 : Bool) (ao20 : Option Addr) (n20 c20 : Nat), (#[.bool b103, .slice ao103 n103 c103] : Array Value) = #[.bool b20, .slice ao20 n20 c20] := ⟨_, _, _, _, rfl⟩
            rw [e20] at BAn hA2
            clear e20
            refine wp_region_l (S := fun w' => Kp y5 w') (by kernel_rfl) (Kp.drew' (Below.refl _ _)) (fun hS0 => ?_)
            generalize y5.drew = wd at *
            refine wpAnyL_tk (i := 0) (k := 3) (v := .agg #[.bool b4, .slice ao4 n4 c4]) rfl ?_ hS0 ?_
            ·intro w' hw'; have hc := ((BQ).keep hw').cell; go_simp
            simp only [sq]
            refine wpAnyL_tk (i := 1) (k := 2) (v := .int .i64 (S : Int)) rfl ?_ hS0 ?_
            ·intro w' hw'; go_simp
            simp only [sq]
            refine wpAnyL_on (i := 2) rfl (fun K hK => ?_)
            go_simp
            refine (of_any (S : Int) _ (by omega) (by omega)).mono ?_
            rintro e w102 ⟨v102, rfl, hv102, hk102⟩
            obtain ⟨b102, ao102, n102, c102, rfl⟩ := hv102.shape'
            go_wp2_with fail
            refine hK.out _ _ (hS0.trans' hk102) (fun hS1 => ?_)
            clear hK K
            refine wpAnyL_on (i := 3) rfl (fun K hK => ?_)
            go_simp
            refine (rexact_any ((a : Int) + (b : Int) * (B : Int)) (S : Int) 230 _ _ _ (hq.keep hS1) hv102 s0 (by decide) fQ fS).mono ?_
            rintro e w103 ⟨v103, rfl, hv103, hk103⟩
            obtain ⟨b103, ao103, n103, c103, rfl⟩ := hv103.shape'
            go_wp2_with fail
            refine hK.out _ _ (hS1.trans' hk103) (fun hS2 => ?_)
            clear hK K
            have TB := (BB).keep hS2
            have st_c := TB.cell
            have st_f := TB.frozen
            have st_l := TB.lt
            refine wpAnyL_last (i := 4) rfl (by kernel_rfl) (by kernel_rfl) (by kernel_rfl) (fun K hK => ?_)
            go_simp
            refine hK.out _ _ ?_
            clear hK K
            have sfS := (sf2 (E := 3) (.bool b103) (.slice ao103 n103 c103) TB (by decide))
            replace BAn := (ot2 (A := A9) (.bool b103) (.slice ao103 n103 c103) (BAn.keep hS2) (by omega))
            replace hA2 := (hA2.keep hS2).soft sfS
            have BBn := (bl2 (.bool b103) (.slice ao103 n103 c103) TB)
            have hB2 := hv103.soft sfS
            replace hkw := (kp2 (A := A9) (.bool b103) (.slice ao103 n103 c103) (hkw.trans' hS2) (by omega))
            clear sfS st_c st_f st_l TB BB hS2
            generalize ((w103.setCell ⟨A9, 0, none⟩ (.bool b103)).setCell ⟨A9, 1, none⟩ (.slice ao103 n103 c103)) = y6 at *
            go_wp2_with fail
            rw [EQ2.out] at hB2
            go_roundg g
            case rel => exact ⟨(a * B + b * n) / S, (a + b * B) / S, _, I + 1, b20, ao20, n20, c20, b103, ao103, n103, c103, by go_num, by go_num, BAn, hA2, BBn, hB2, HC2, by omega, hK8, hkw⟩
            case measure => omega

end Go.Proofs.YtjahbjjekednfabDoor
