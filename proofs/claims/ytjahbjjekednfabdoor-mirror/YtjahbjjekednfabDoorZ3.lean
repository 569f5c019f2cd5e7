import Derived.Test.YtjahbjjekednfabDoorZ1
import Derived.Test.YtjahbjjekednfabDoorS2
import Derived.Test.YtjahbjjekednfabDoorSt
import Derived.Deep.DeepCutAuto
namespace Go.Proofs.YtjahbjjekednfabDoor
open Go.RowKit

theorem RowS.at100 {w : World} {g cap : Nat} {ss : List ByteArray} (h : RowS w (.slice (some ⟨g, 0, none⟩) 100 cap) ss) (hl : ss.length = 100) (i : Nat) (hi : i < 100) : w.cell? ⟨g, i, none⟩ = some (.string (ss.getD i ByteArray.empty)) := by
 obtain ⟨ao, cap', g', e, h2, h3, h4, h5⟩ := h
 simp only [Value.slice.injEq] at e
 obtain ⟨e1, _, _⟩ := e
 have e2 := (h4 (by omega)).1
 rw [← e1] at e2
 simp only [Option.some.injEq, Addr.mk.injEq] at e2
 obtain ⟨rfl, _⟩ := e2
 exact h5 i (by omega)

set_option maxHeartbeats 6400000 in
set_option maxRecDepth 100000 in
/-- surdkeep.Mirror. -/
theorem mirror_any (c : Int) (w : World) (h0 : -9223372036854775808 ≤ c) (h1 : c ≤ 9223372036854775807) (ht : Tens w) : Calls Tryd.prog 4 #[.int .i64 c] w (RetV w (.bool true)) := by
 have HP := fun (W : World) => pick_any c 1000000 W h0 h1 (by decide) (by decide)
 have hb := pk_bd c (n := 1000000) (by decide)
 obtain ⟨n, hn⟩ : ∃ n : Nat, pk c 1000000 = n := ⟨(pk c 1000000).toNat, by omega⟩
 rw [hn] at HP hb
 clear hn
 have hn : n < 1000000 := by omega
 obtain ⟨r, hr⟩ := rk_all (⟨#[114]⟩ ++ strOf (Go.Lib.itoa n))
 obtain ⟨he, hv⟩ := root_rk hn hr
 have hcn := rk_cn hr he
 obtain ⟨m0, m1⟩ := isq_ok n
 generalize isq n = m at *
 have HI := Hid.mk (fun (W : World) (hT : Tens W) => itoa_at n (by omega) (by omega) W hT)
 have hm : m ≤ 1000 := by
  refine Nat.not_lt.1 fun h => ?_
  have : 1001 * 1001 ≤ m * m := Nat.mul_le_mul h h
  omega
 have HIT := Hid.mk (fun (W : World) (hT : Tens W) => itoa_at m (by omega) (by omega) W hT)
 have HW := Hid.mk (fun (W : World) => whole_any n m W (by omega) m0 m1)
 have hmm : (m : Int) * (m : Int) = ((m * m : Nat) : Int) := by rw [Int.natCast_mul]
 have hSN : (strOf (Go.Lib.itoa n)).size ≤ 6 := by
  rw [strOf_size]
  unfold Go.Lib.itoa
  rw [if_neg (by omega)]
  exact dec_le (k := 5) (by omega)
 by_cases hsq : m * m = n
 ·obtain ⟨hOT, hOD⟩ := mir_sq he (by rw [hv, hsq]) (by omega)
  have HT : Hid (∀ (W : World), Tens W → Calls Tryd.prog 12 #[.string (⟨#[114]⟩ ++ strOf (Go.Lib.itoa n)), .int .i64 100] W (fun e w' => ∃ v, e = .returned (.tuple #[v, .bool true, .int .i64 0]) ∧ Hid (RowS w' v [strOf (Go.Lib.itoa m)]) ∧ Kp W w')) := fun W hT => (sterms_any _ 100 r _ _ _ W hr (by decide) (by decide) hOT hT).mono fun e w' ⟨v, k1, k2, k3⟩ => ⟨v, k1, RowS.of_owns k2, k3⟩
  have HD := Hid.mk (fun (W : World) => speriod_any _ r _ _ _ W hr hOD)
  generalize strOf (Go.Lib.itoa n) = SN at *
  generalize strOf (Go.Lib.itoa m) = S0 at *
  have hlen : [S0].length = 1 := rfl
  have HF : Hid ([S0].getD 0 ByteArray.empty = S0) := rfl
  have heq : ((m : Int) * (m : Int) == (n : Int)) = true := by rw [hmm, hsq]; simp
  have hb1 : (m : Int) * (m : Int) ≤ 1000000 := by rw [hmm]; omega
  have hb2 : 0 ≤ (m : Int) * (m : Int) := by rw [hmm]; omega
  clear hOT hOD hr he hv hcn m0 m1 hsq hmm
  go_enter Tryd.func4, Tryd.ntmps4
  go_wp2_with fail
  refine (HP w).mono ?_
  rintro e w1 ⟨rfl, hk1⟩
  go_wp2_with fail
  refine (HI.out w1 (ht.keep hk1)).mono ?_
  rintro e w2 ⟨rfl, hk2⟩
  go_wp2_with fail
  refine (HW.out w2).mono ?_
  rintro e w3 ⟨rfl, hk3⟩
  have hk := (hk1.trans' hk2).trans' hk3
  clear hk1 hk2 hk3
  go_wp2_with fail
  refine (HT.out w3 (ht.keep hk)).mono ?_
  rintro e w4 ⟨v4, rfl, hRS, hk4⟩
  replace hk := hk.trans' hk4
  obtain ⟨ao, cap, g, rfl, hc1, hc2, hc3, hc4⟩ := id hRS.out
  rw [hlen] at hc1 hc3 hc4
  obtain ⟨rfl, hg⟩ := hc3 (by decide)
  rw [hlen] at hRS
  have HC0 := Hid.mk (hc4 0 (by decide))
  rw [HF.out] at HC0
  clear hc3 hc4 hk4
  rw [hlen]
  go_wp2_with fail
  go_cut [39] (fun c wx => c = .bool false ∧ Kp w4 wx)
  case first =>
   refine wp_region_l (S := fun w' => Kp w4 w') (by kernel_rfl) (Kp.drew' (Below.refl _ _)) (fun hS0 => ?_)
   have hT5 := ht.keep (hk.trans' hS0)
   generalize w4.drew = wd at *
   refine wpAnyL_tk (i := 0) (k := 1) (v := .int .i64 0) rfl ?_ hS0 ?_
   ·intro w' hw'; go_simp
   simp only [sq]
   refine wpAnyL_tk (i := 1) (k := 2) (v := .bool false) rfl ?_ hS0 ?_
   ·intro w' hw'; go_simp
   simp only [sq]
   refine wpAnyL_tk (i := 2) (k := 3) (v := .bool false) rfl ?_ hS0 ?_
   ·intro w' hw'; go_simp
   simp only [sq]
   refine wpAnyL_tk (i := 3) (k := 4) (v := .slice (some ⟨g, 0, none⟩) 1 cap) rfl ?_ hS0 ?_
   ·intro w' hw'; go_simp
   simp only [sq]
   refine wpAnyL_tk (i := 4) (k := 5) (v := .int .i64 1) rfl ?_ hS0 ?_
   ·intro w' hw'; go_simp
   simp only [sq]
   refine wpAnyL_tk (i := 5) (k := 6) (v := .bool false) rfl ?_ hS0 ?_
   ·intro w' hw'; go_simp
   simp only [sq]
   refine wpAnyL_tk (i := 6) (k := 7) (v := .bool false) rfl ?_ hS0 ?_
   ·intro w' hw'; go_simp
   simp only [sq]
   refine wpAnyL_tk (i := 7) (k := 8) (v := .bool false) rfl ?_ hS0 ?_
   ·intro w' hw'; go_simp
   simp only [sq]
   refine wpAnyL_tk (i := 8) (k := 9) (v := .slice (some ⟨g, 0, none⟩) 1 cap) rfl ?_ hS0 ?_
   ·intro w' hw'; go_simp
   simp only [sq]
   refine wpAnyL_tk (i := 9) (k := 10) (v := .pointer (some ⟨g, 0, none⟩)) rfl ?_ hS0 ?_
   ·intro w' hw'; go_simp
   simp only [sq]
   refine wpAnyL_tk (i := 10) (k := 13) (v := .string S0) rfl ?_ hS0 ?_
   ·intro w' hw'; have hc := (World.cell?_of_block (w := w4) (a := ⟨g, 0, none⟩) (hw'.block g hg)).trans HC0.out; go_simp
   simp only [sq]
   refine wpAnyL_tk (i := 11) (k := 12) (v := .int .i64 (m : Int)) rfl ?_ hS0 ?_
   ·intro w' hw'; go_simp
   simp only [sq]
   refine wpAnyL_on (i := 12) rfl (fun K hK => ?_)
   go_simp
   refine (HIT.out _ hT5).mono ?_
   rintro e w5 ⟨rfl, hk5⟩
   go_wp2_with fail
   refine hK.out _ _ (hS0.trans' hk5) (fun hS1 => ?_)
   clear hK K hS0 hk5 hT5
   refine wpAnyL_tk (i := 13) (k := 14) (v := .bool false) rfl ?_ hS1 ?_
   ·intro w' hw'; go_simp
   simp only [sq]
   refine wpAnyL_last (i := 14) rfl (by kernel_rfl) (by kernel_rfl) (by kernel_rfl) (fun K hK => ?_)
   go_simp
   refine hK.out _ _ ?_
   clear hK K
   go_wp2_with fail
   go_meet
   case rel => exact ⟨rfl, hS1⟩
  case rest =>
   obtain ⟨rfl, hkc⟩ := hcut
   replace hk := hk.trans' hkc
   clear hRS HC0 hg hkc
   go_wp2_with fail
   refine (HD.out _).mono ?_
   rintro e w5 ⟨rfl, hk5⟩
   go_wp2_with fail
   go_ret
   exact ⟨rfl, hk.trans' hk5⟩
 ·have hlt : m * m < n := by omega
  have hm1 : 1 ≤ m := by
   refine Nat.not_lt.1 fun k => ?_
   have : m = 0 := by omega
   subst this
   omega
  have hs : ∀ k, k * k ≠ n := fun k hk => by
   by_cases c : k ≤ m
   ·have := Nat.mul_le_mul c c
    omega
   ·have := Nat.mul_le_mul (show m + 1 ≤ k by omega) (show m + 1 ≤ k by omega)
    omega
  obtain ⟨hOT, hd⟩ := mir_ns he hv hcn (by omega) hn hs
  have hg : ∀ i, i < 100 → ((List.range 100).map (fun i => strOf (Go.Lib.itoa (tm 0 1 n i)))).getD i ByteArray.empty = strOf (Go.Lib.itoa (tm 0 1 n i)) := fun i hi => by
   simp [List.getD_eq_getElem?_getD, hi]
  have hss : strsV (tms 0 1 n 100) = ((List.range 100).map (fun i => strOf (Go.Lib.itoa (tm 0 1 n i)))).map Value.string := by simp [strsV, tms, Function.comp_def]
  have HT : Hid (∀ (W : World), Tens W → Calls Tryd.prog 12 #[.string (⟨#[114]⟩ ++ strOf (Go.Lib.itoa n)), .int .i64 100] W (fun e w' => ∃ v, e = .returned (.tuple #[v, .bool false, .int .i64 0]) ∧ Hid (RowS w' v ((List.range 100).map (fun i => strOf (Go.Lib.itoa (tm 0 1 n i))))) ∧ Kp W w')) := fun W hT => (sterms_any _ 100 r _ _ _ W hr (by decide) (by decide) hOT hT).mono fun e w' ⟨v, k1, k2, k3⟩ => ⟨v, k1, RowS.of_owns (by rw [← hss]; exact k2), k3⟩
  have HG := Hid.mk hg
  have HF : Hid (((List.range 100).map (fun i => strOf (Go.Lib.itoa (tm 0 1 n i)))).getD 0 ByteArray.empty = strOf (Go.Lib.itoa m)) := by
   unfold Hid
   rw [hg 0 (by decide), root_first m0 m1]
  have hlen : ((List.range 100).map (fun i => strOf (Go.Lib.itoa (tm 0 1 n i)))).length = 100 := by simp
  have heq : ((m : Int) * (m : Int) == (n : Int)) = false := by rw [hmm]; simp; omega
  have hb1 : (m : Int) * (m : Int) ≤ 1000000 := by rw [hmm]; omega
  have hb2 : 0 ≤ (m : Int) * (m : Int) := by rw [hmm]; omega
  obtain ⟨x, y, er, hOD⟩ := outD_ex r
  have HD := Hid.mk (fun (W : World) => speriod_any _ r _ _ _ W hr hOD)
  rcases hOD with ⟨k, _⟩ | ⟨_, k, _⟩ | ⟨_, _, _, rfl, rfl, rfl⟩ | ⟨_, _, b, J, hJ, hR, rfl, rfl, rfl⟩
  ·exact absurd he k
  ·exact absurd k hd
  ·clear hOT hr he hv hcn m0 m1 hsq hmm hlt hm1 hs hd hg hss HG
   generalize (List.range 100).map (fun i => strOf (Go.Lib.itoa (tm 0 1 n i))) = ss at *
   generalize strOf (Go.Lib.itoa n) = SN at *
   generalize strOf (Go.Lib.itoa m) = S0 at *
   go_enter Tryd.func4, Tryd.ntmps4
   go_wp2_with fail
   refine (HP w).mono ?_
   rintro e w1 ⟨rfl, hk1⟩
   go_wp2_with fail
   refine (HI.out w1 (ht.keep hk1)).mono ?_
   rintro e w2 ⟨rfl, hk2⟩
   go_wp2_with fail
   refine (HW.out w2).mono ?_
   rintro e w3 ⟨rfl, hk3⟩
   have hk := (hk1.trans' hk2).trans' hk3
   clear hk1 hk2 hk3
   go_wp2_with fail
   refine (HT.out w3 (ht.keep hk)).mono ?_
   rintro e w4 ⟨v4, rfl, hRS, hk4⟩
   replace hk := hk.trans' hk4
   obtain ⟨ao, cap, g, rfl, hc1, hc2, hc3, hc4⟩ := id hRS.out
   rw [hlen] at hc1 hc3 hc4
   obtain ⟨rfl, hg⟩ := hc3 (by decide)
   rw [hlen] at hRS
   have HC0 := Hid.mk (hc4 0 (by decide))
   rw [HF.out] at HC0
   clear hc3 hc4 hk4
   rw [hlen]
   go_wp2_with fail
   go_cut [39] (fun c wx => c = .bool false ∧ Kp w4 wx)
   case first =>
    refine wp_region_l (S := fun w' => Kp w4 w') (by kernel_rfl) (Kp.drew' (Below.refl _ _)) (fun hS0 => ?_)
    have hT5 := ht.keep (hk.trans' hS0)
    generalize w4.drew = wd at *
    refine wpAnyL_tk (i := 0) (k := 1) (v := .int .i64 0) rfl ?_ hS0 ?_
    ·intro w' hw'; go_simp
    simp only [sq]
    refine wpAnyL_tk (i := 1) (k := 2) (v := .bool false) rfl ?_ hS0 ?_
    ·intro w' hw'; go_simp
    simp only [sq]
    refine wpAnyL_tk (i := 2) (k := 3) (v := .bool false) rfl ?_ hS0 ?_
    ·intro w' hw'; go_simp
    simp only [sq]
    refine wpAnyL_tk (i := 3) (k := 4) (v := .slice (some ⟨g, 0, none⟩) 100 cap) rfl ?_ hS0 ?_
    ·intro w' hw'; go_simp
    simp only [sq]
    refine wpAnyL_tk (i := 4) (k := 5) (v := .int .i64 100) rfl ?_ hS0 ?_
    ·intro w' hw'; go_simp
    simp only [sq]
    refine wpAnyL_tk (i := 5) (k := 6) (v := .bool false) rfl ?_ hS0 ?_
    ·intro w' hw'; go_simp
    simp only [sq]
    refine wpAnyL_tk (i := 6) (k := 7) (v := .bool false) rfl ?_ hS0 ?_
    ·intro w' hw'; go_simp
    simp only [sq]
    refine wpAnyL_tk (i := 7) (k := 8) (v := .bool false) rfl ?_ hS0 ?_
    ·intro w' hw'; go_simp
    simp only [sq]
    refine wpAnyL_tk (i := 8) (k := 9) (v := .slice (some ⟨g, 0, none⟩) 100 cap) rfl ?_ hS0 ?_
    ·intro w' hw'; go_simp
    simp only [sq]
    refine wpAnyL_tk (i := 9) (k := 10) (v := .pointer (some ⟨g, 0, none⟩)) rfl ?_ hS0 ?_
    ·intro w' hw'; go_simp
    simp only [sq]
    refine wpAnyL_tk (i := 10) (k := 13) (v := .string S0) rfl ?_ hS0 ?_
    ·intro w' hw'; have hc := (World.cell?_of_block (w := w4) (a := ⟨g, 0, none⟩) (hw'.block g hg)).trans HC0.out; go_simp
    simp only [sq]
    refine wpAnyL_tk (i := 11) (k := 12) (v := .int .i64 (m : Int)) rfl ?_ hS0 ?_
    ·intro w' hw'; go_simp
    simp only [sq]
    refine wpAnyL_on (i := 12) rfl (fun K hK => ?_)
    go_simp
    refine (HIT.out _ hT5).mono ?_
    rintro e w5 ⟨rfl, hk5⟩
    go_wp2_with fail
    refine hK.out _ _ (hS0.trans' hk5) (fun hS1 => ?_)
    clear hK K hS0 hk5 hT5
    refine wpAnyL_tk (i := 13) (k := 14) (v := .bool false) rfl ?_ hS1 ?_
    ·intro w' hw'; go_simp
    simp only [sq]
    refine wpAnyL_last (i := 14) rfl (by kernel_rfl) (by kernel_rfl) (by kernel_rfl) (fun K hK => ?_)
    go_simp
    refine hK.out _ _ ?_
    clear hK K
    go_wp2_with fail
    go_meet
    case rel => exact ⟨rfl, hS1⟩
   case rest =>
    obtain ⟨rfl, hkc⟩ := hcut
    replace hk := hk.trans' hkc
    clear hRS HC0 hg hkc
    go_wp2_with fail
    refine (HD.out _).mono ?_
    rintro e w5 ⟨rfl, hk5⟩
    go_wp2_with fail
    go_ret
    exact ⟨rfl, hk.trans' hk5⟩
  ·rw [hv] at hR
   obtain ⟨rfl, hpal, hend⟩ := root_rep hm1 hlt m1 hn hR
   have hJ1 := hR.lt
   obtain ⟨l, rfl⟩ : ∃ l, J = l + 1 := ⟨J - 1, by omega⟩
   rw [show l + 1 - 1 = l by omega] at hpal hend
   have HPAL : Hid (∀ i, 1 ≤ i → i < l → l < 100 → ((List.range 100).map (fun i => strOf (Go.Lib.itoa (tm 0 1 n i)))).getD i ByteArray.empty = ((List.range 100).map (fun i => strOf (Go.Lib.itoa (tm 0 1 n i)))).getD (l - i) ByteArray.empty) := fun i i1 i2 i3 => by
    rw [hg i (by omega), hg (l - i) (by omega), hpal i i1 i2]
   have HEND : Hid (l < 100 → ((List.range 100).map (fun i => strOf (Go.Lib.itoa (tm 0 1 n i)))).getD l ByteArray.empty = strOf (Go.Lib.itoa (2 * m))) := fun i3 => by
    rw [hg l i3, hend]
   have HI2 := Hid.mk (fun (W : World) (hT : Tens W) => itoa_at (2 * m) (by omega) (by omega) W hT)
   rw [show ((l + 1 : Nat) : Int) - ((1 : Nat) : Int) = (l : Int) by omega, show ((1 : Nat) : Int) = 1 from rfl] at HD
   clear hOT hr he hv hcn m0 m1 hsq hmm hlt hs hd hg hss HG hR hpal hend
   generalize (List.range 100).map (fun i => strOf (Go.Lib.itoa (tm 0 1 n i))) = ss at *
   generalize strOf (Go.Lib.itoa n) = SN at *
   generalize strOf (Go.Lib.itoa m) = S0 at *
   generalize strOf (Go.Lib.itoa (2 * m)) = S2 at *
   go_enter Tryd.func4, Tryd.ntmps4
   go_wp2_with fail
   refine (HP w).mono ?_
   rintro e w1 ⟨rfl, hk1⟩
   go_wp2_with fail
   refine (HI.out w1 (ht.keep hk1)).mono ?_
   rintro e w2 ⟨rfl, hk2⟩
   go_wp2_with fail
   refine (HW.out w2).mono ?_
   rintro e w3 ⟨rfl, hk3⟩
   have hk := (hk1.trans' hk2).trans' hk3
   clear hk1 hk2 hk3
   go_wp2_with fail
   refine (HT.out w3 (ht.keep hk)).mono ?_
   rintro e w4 ⟨v4, rfl, hRS, hk4⟩
   replace hk := hk.trans' hk4
   obtain ⟨ao, cap, g, rfl, hc1, hc2, hc3, hc4⟩ := id hRS.out
   rw [hlen] at hc1 hc3 hc4
   obtain ⟨rfl, hg⟩ := hc3 (by decide)
   rw [hlen] at hRS
   have HC0 := Hid.mk (hc4 0 (by decide))
   rw [HF.out] at HC0
   clear hc3 hc4 hk4
   rw [hlen]
   go_wp2_with fail
   go_cut [39] (fun c wx => c = .bool false ∧ Kp w4 wx)
   case first =>
    refine wp_region_l (S := fun w' => Kp w4 w') (by kernel_rfl) (Kp.drew' (Below.refl _ _)) (fun hS0 => ?_)
    have hT5 := ht.keep (hk.trans' hS0)
    generalize w4.drew = wd at *
    refine wpAnyL_tk (i := 0) (k := 1) (v := .int .i64 0) rfl ?_ hS0 ?_
    ·intro w' hw'; go_simp
    simp only [sq]
    refine wpAnyL_tk (i := 1) (k := 2) (v := .bool false) rfl ?_ hS0 ?_
    ·intro w' hw'; go_simp
    simp only [sq]
    refine wpAnyL_tk (i := 2) (k := 3) (v := .bool false) rfl ?_ hS0 ?_
    ·intro w' hw'; go_simp
    simp only [sq]
    refine wpAnyL_tk (i := 3) (k := 4) (v := .slice (some ⟨g, 0, none⟩) 100 cap) rfl ?_ hS0 ?_
    ·intro w' hw'; go_simp
    simp only [sq]
    refine wpAnyL_tk (i := 4) (k := 5) (v := .int .i64 100) rfl ?_ hS0 ?_
    ·intro w' hw'; go_simp
    simp only [sq]
    refine wpAnyL_tk (i := 5) (k := 6) (v := .bool false) rfl ?_ hS0 ?_
    ·intro w' hw'; go_simp
    simp only [sq]
    refine wpAnyL_tk (i := 6) (k := 7) (v := .bool false) rfl ?_ hS0 ?_
    ·intro w' hw'; go_simp
    simp only [sq]
    refine wpAnyL_tk (i := 7) (k := 8) (v := .bool false) rfl ?_ hS0 ?_
    ·intro w' hw'; go_simp
    simp only [sq]
    refine wpAnyL_tk (i := 8) (k := 9) (v := .slice (some ⟨g, 0, none⟩) 100 cap) rfl ?_ hS0 ?_
    ·intro w' hw'; go_simp
    simp only [sq]
    refine wpAnyL_tk (i := 9) (k := 10) (v := .pointer (some ⟨g, 0, none⟩)) rfl ?_ hS0 ?_
    ·intro w' hw'; go_simp
    simp only [sq]
    refine wpAnyL_tk (i := 10) (k := 13) (v := .string S0) rfl ?_ hS0 ?_
    ·intro w' hw'; have hc := (World.cell?_of_block (w := w4) (a := ⟨g, 0, none⟩) (hw'.block g hg)).trans HC0.out; go_simp
    simp only [sq]
    refine wpAnyL_tk (i := 11) (k := 12) (v := .int .i64 (m : Int)) rfl ?_ hS0 ?_
    ·intro w' hw'; go_simp
    simp only [sq]
    refine wpAnyL_on (i := 12) rfl (fun K hK => ?_)
    go_simp
    refine (HIT.out _ hT5).mono ?_
    rintro e w5 ⟨rfl, hk5⟩
    go_wp2_with fail
    refine hK.out _ _ (hS0.trans' hk5) (fun hS1 => ?_)
    clear hK K hS0 hk5 hT5
    refine wpAnyL_tk (i := 13) (k := 14) (v := .bool false) rfl ?_ hS1 ?_
    ·intro w' hw'; go_simp
    simp only [sq]
    refine wpAnyL_last (i := 14) rfl (by kernel_rfl) (by kernel_rfl) (by kernel_rfl) (fun K hK => ?_)
    go_simp
    refine hK.out _ _ ?_
    clear hK K
    go_wp2_with fail
    go_meet
    case rel => exact ⟨rfl, hS1⟩
   case rest =>
    obtain ⟨rfl, hkc⟩ := hcut
    replace hk := hk.trans' hkc
    replace hRS := Hid.mk (hRS.out.keep hkc)
    clear HC0 hg hkc
    go_wp2_with fail
    refine (HD.out _).mono ?_
    rintro e w5 ⟨rfl, hk5⟩
    replace hk := hk.trans' hk5
    replace hRS := Hid.mk (hRS.out.keep hk5)
    clear hk5
    by_cases hl : l < 100
    ·have hli : (l : Int) < 100 := by omega
     have hl1 : (1 : Int) ≤ (l : Int) := by omega
     go_wp2_with fail
     go_loopw [11] (fun k wr => ∃ j : Nat, 1 ≤ j ∧ j ≤ l ∧ k = .int .i64 j ∧ Kp w wr ∧ Hid (RowS wr (.slice (some ⟨g, 0, none⟩) 100 cap) ss)) (fun k _ => l + 1 - (intOf k).toNat)
     case atStart => exact ⟨1, by omega, by omega, rfl, hk, hRS⟩
     case round =>
      clear hk hRS
      obtain ⟨j, hj1, hjl, rfl, hk, hRS⟩ := hrel
      by_cases hj : j < l
      ·have d1 := hRS.out.at100 hlen j (by omega)
       have d2 := hRS.out.at100 hlen (l - j) (by omega)
       rw [← HPAL.out j hj1 hj hl] at d2
       generalize ss.getD j ByteArray.empty = S at *
       have hji : (j : Int) < (l : Int) := by omega
       have hjh : (j : Int) < 100 := by omega
       have hn1 : ((l : Int) - (j : Int)).toNat = l - j := by omega
       have hn2 : (l : Int) - (j : Int) < 100 := by omega
       have hn3 : 0 ≤ (l : Int) - (j : Int) := by omega
       go_wp2_with fail
       go_quiet (fail)
       go_wp2_with fail
       go_roundw
       case rel => exact ⟨j + 1, by omega, by omega, by go_num, hk.drewN _, Hid.mk (hRS.out.keep (Kp.drewN (Below.refl _ _) _))⟩
       case measure => simp [intOf]; omega
      ·have hji : ¬ (j : Int) < (l : Int) := by omega
       have d1 := hRS.out.at100 hlen l hl
       rw [HEND.out hl] at d1
       have HD1 := Hid.mk d1
       have hgl : g < wr.heap.size := by
        refine Nat.not_le.1 fun k => ?_
        unfold World.cell? at d1
        rw [Array.getElem?_eq_none k] at d1
        exact absurd d1 (by simp)
       clear d1
       go_wp2_with fail
       go_cut [2] (fun c wx => c = .bool true ∧ Kp wr wx)
       case first =>
        refine wp_region_l (S := fun w' => Kp wr w') (by kernel_rfl) (Kp.drew' (Below.refl _ _)) (fun hS0 => ?_)
        have hT5 := ht.keep (hk.trans' hS0)
        generalize wr.drew = wd at *
        refine wpAnyL_tk (i := 0) (k := 2) (v := .slice (some ⟨g, 0, none⟩) 100 cap) rfl ?_ hS0 ?_
        ·intro w' hw'; go_simp
        simp only [sq]
        refine wpAnyL_tk (i := 1) (k := 2) (v := .int .i64 (l : Int)) rfl ?_ hS0 ?_
        ·intro w' hw'; go_simp
        simp only [sq]
        refine wpAnyL_tk (i := 2) (k := 3) (v := .pointer (some ⟨g, l, none⟩)) rfl ?_ hS0 ?_
        ·intro w' hw'; go_simp
        simp only [sq]
        refine wpAnyL_tk (i := 3) (k := 7) (v := .string S2) rfl ?_ hS0 ?_
        ·intro w' hw'; have hc := (World.cell?_of_block (w := wr) (a := ⟨g, l, none⟩) (hw'.block g hgl)).trans HD1.out; go_simp
        simp only [sq]
        refine wpAnyL_tk (i := 4) (k := 5) (v := .int .i64 (m : Int)) rfl ?_ hS0 ?_
        ·intro w' hw'; go_simp
        simp only [sq]
        refine wpAnyL_tk (i := 5) (k := 6) (v := .int .i64 (2 * (m : Int))) rfl ?_ hS0 ?_
        ·intro w' hw'; go_simp; rw [IntKind.wrap_i64]; omega
        simp only [sq]
        refine wpAnyL_on (i := 6) rfl (fun K hK => ?_)
        go_simp
        refine (HI2.out _ hT5).mono ?_
        rintro e w6 ⟨rfl, hk6⟩
        go_wp2_with fail
        refine hK.out _ _ (hS0.trans' hk6) (fun hS1 => ?_)
        clear hK K hS0 hk6 hT5
        refine wpAnyL_tk (i := 7) (k := 8) (v := .bool true) rfl ?_ hS1 ?_
        ·intro w' hw'; go_simp
        simp only [sq]
        refine wpAnyL_last (i := 8) rfl (by kernel_rfl) (by kernel_rfl) (by kernel_rfl) (fun K hK => ?_)
        go_simp
        refine hK.out _ _ ?_
        clear hK K
        go_wp2_with fail
        go_meet
        case rel => exact ⟨rfl, hS1⟩
       case rest =>
        obtain ⟨rfl, hkc⟩ := hcut
        go_wp2_with fail
        go_ret
        exact ⟨rfl, hk.trans' hkc⟩
    ·have hli : ¬ (l : Int) < 100 := by omega
     have hl1 : (1 : Int) ≤ (l : Int) := by omega
     go_wp2_with fail
     go_ret
     exact ⟨rfl, hk⟩

end Go.Proofs.YtjahbjjekednfabDoor
