import Derived.Test.YtjahbjjekednfaaDoorFo1
import Derived.Test.YtjahbjjekednfaaDoorJt
import Derived.Deep.LoopGhost
import Derived.Deep.QuietTactic
namespace Go.Proofs.YtjahbjjekednfaaDoor
open Go.RowKit

set_option maxHeartbeats 6400000 in
set_option maxRecDepth 100000 in
theorem fo_main (s : ByteArray) (k : Int) (n : Nat) (sp sq sr : ByteArray) (D : Int) (all early : Bool) (tx : Nat → ByteArray) (K M : Nat) (w : World) (n1 : n < 100) (hK1 : 1 ≤ K) (hMK : M ≤ K) (hK : K ≤ 100) (hsr : sr.size ≤ 100000000)
 (HP : Hid (∀ i, 1 ≤ i → i < K → ∀ W, Calls Tryd.prog 21 #[.string (tx i)] W (RetV W (.bool true))))
 (HX : Hid ((early = true ∧ all = true ∧ K = M ∧ D = 1) ∨ (early = false ∧ all = true ∧ M = n ∧ K = n + 1 ∧ D = 1) ∨ (early = false ∧ all = false ∧ M = n ∧ K = n + 1 ∧ (1 < D ∨ n + 1 < 5 * sr.size + 2))))
 (HL : Hid (all = true → K = 1 ∨ tx (K - 1) ≠ ⟨#[49]⟩)) (HN : Hid (all = true → ∀ W, Tens W → Calls Tryd.prog 22 #[.string s, .int .i64 (n : Int)] W (RetV W (.tuple #[.string sp, .string sr, .int .i64 0]))))
 (HA : ∀ (w : World), Tens w → Calls Tryd.prog 12 #[] w (RetV w (.bool true))) (ht : Tens w)
 (HV : Hid (∀ W, Tens W → Calls Tryd.prog 9 #[.string s] W (RetV W (.tuple #[.agg #[.string sp, .string sq, .string sr, .int .i64 D], .int .i64 0])))) (HPk : Hid (∀ W, Calls Tryd.prog 19 #[.int .i64 k, .int .i64 100] W (RetV W (.int .i64 (n : Int)))))
 (HT1 : Hid (∀ W, Tens W → Calls Tryd.prog 20 #[.string s, .int .i64 ((n : Int) + 1)] W (fun e w' => ∃ v, e = .returned (.tuple #[v, .bool all, .int .i64 0]) ∧ RowT w' v tx K ∧ Kp W w')))
 (HT2 : Hid (∀ W, Tens W → Calls Tryd.prog 20 #[.string s, .int .i64 (n : Int)] W (fun e w' => ∃ v, e = .returned (.tuple #[v, .bool early, .int .i64 0]) ∧ RowT w' v tx M ∧ Kp W w'))) :
 Calls Tryd.prog 6 #[.string s, .int .i64 k] w (RetV w (.bool true)) := by
 go_enter Tryd.func6, Tryd.ntmps6
 go_wp2_with fail
 refine (HA w ht).mono ?_
 rintro e w1 ⟨rfl, hk1⟩
 go_wp2_with fail
 refine (HV.out w1 (ht.keep hk1)).mono ?_
 rintro e w2 ⟨rfl, hk2⟩
 have B1 := Blk.new w2 #[.string sp, .string sq, .string sr, .int .i64 D] 23
 have hk := (hk1.trans' hk2).alloc' (.cells #[.string sp, .string sq, .string sr, .int .i64 D] 23)
 clear hk1 hk2
 go_wp2_with fail
 refine (HPk.out _).mono ?_
 rintro e w3 ⟨rfl, hk3⟩
 replace B1 := B1.keep hk3
 replace hk := hk.trans' hk3
 clear hk3
 go_wp2_with fail
 refine (HT1.out _ (ht.keep hk)).mono ?_
 rintro e w4 ⟨v1, rfl, hl, hk4⟩
 replace B1 := B1.keep hk4
 replace hk := hk.trans' hk4
 clear hk4
 obtain ⟨ao1, cap1, g1, rfl, hc1, hd1, hg1, hl⟩ := hl
 replace hg1 := Hid.mk hg1
 replace hl := Hid.mk hl
 go_wp2_with fail
 refine (HT2.out _ (ht.keep hk)).mono ?_
 rintro e w5 ⟨v2, rfl, hm, hk5⟩
 replace B1 := B1.keep hk5
 replace hk := hk.trans' hk5
 obtain ⟨ao2, cap2, g2, rfl, hc2, hd2, hg2, hm⟩ := hm
 replace hg2 := Hid.mk hg2
 replace hm := Hid.mk hm
 go_wp2_with fail
 go_loopg [14] K (fun g x wr => ∃ j : Nat, x = .int .i64 j ∧ 1 ≤ j ∧ j ≤ K ∧ j + g = K + 1 ∧ Kp w5 wr)
 case atStart => exact ⟨1, rfl, by omega, by omega, by omega, Below.refl _ _⟩
 case round =>
  obtain ⟨j, rfl, hj0, hj1, hjg, hkj⟩ := hrel
  obtain ⟨rfl, hgl⟩ := hg1.out (by omega)
  have hgl5 : g1 < w5.heap.size := Nat.lt_of_lt_of_le hgl hk5.size
  by_cases hjK : j < K
  ·have hji : (j : Int) < (K : Int) := by omega
   have hjn : (0 : Int) ≤ (j : Int) := by omega
   have hc := (World.cell?_of_block (w := w4) (a := ⟨g1, j, none⟩) ((hk5.trans' hkj).block g1 hgl)).trans (hl.out j hjK)
   have hP := HP.out j hj0 hjK
   generalize tx j = S at hc hP
   go_wp2_with fail
   refine (hP _).mono ?_
   rintro e w6 ⟨rfl, hk6⟩
   go_wp2_with fail
   go_roundg (K + 1 - (j + 1))
   case rel => exact ⟨j + 1, by go_num, by omega, by omega, by omega, hkj.trans' hk6⟩
   case measure => omega
  ·have hji : ¬ (j : Int) < (K : Int) := by omega
   go_wp2_with fail
   go_loopg [16] (M + 1) (fun g x wr' => ∃ i : Nat, x = .int .i64 i ∧ i ≤ M ∧ i + g = M + 1 ∧ Kp w5 wr')
   case atStart => exact ⟨0, rfl, by omega, by omega, hkj⟩
   case round =>
    clear hkj
    obtain ⟨i, rfl, hi1, hig, hki⟩ := hrel
    by_cases hiM : i < M
    ·obtain ⟨rfl, hgm⟩ := hg2.out (by omega)
     have hii : (i : Int) < (M : Int) := by omega
     have hik : (i : Int) < (K : Int) := by omega
     have hge : ¬ (K : Int) ≤ (i : Int) := by omega
     have hgd : decide ((K : Int) ≤ (i : Int)) = false := decide_eq_false hge
     have hgd' : decide (K ≤ i) = false := decide_eq_false (by omega)
     have hin : (0 : Int) ≤ (i : Int) := by omega
     have hc := (World.cell?_of_block (w := w4) (a := ⟨g1, i, none⟩) ((hk5.trans' hki).block g1 hgl)).trans (hl.out i (by omega))
     have hc' := (World.cell?_of_block (w := w5) (a := ⟨g2, i, none⟩) (hki.block g2 hgm)).trans (hm.out i hiM)
     generalize tx i = S at hc hc'
     go_wp2_with fail
     go_quiet (fail)
     go_wp2_with fail
     go_roundg (M + 1 - (i + 1))
     case rel => exact ⟨i + 1, by go_num, by omega, by omega, hki.drewN _⟩
     case measure => omega
    ·have hii : ¬ (i : Int) < (M : Int) := by omega
     replace B1 := B1.keep hki
     replace hk := hk.trans' hki
     have b1c := B1.cell
     have b1l := B1.lt
     rcases HX.out with ⟨rfl, rfl, hKM, rfl⟩ | ⟨rfl, rfl, hMn, hKn, rfl⟩ | ⟨rfl, rfl, hMn, hKn, hD⟩
     ·obtain ⟨t, htK⟩ : ∃ t, K = t + 1 := ⟨K - 1, by omega⟩
      subst hKM htK
      have hN := HN.out rfl
      have hL := HL.out rfl
      rw [Nat.add_sub_cancel] at hL
      clear HX HL HN HP
      go_wp2_with fail
      refine (hN _ (ht.keep hk)).mono ?_
      rintro e w7 ⟨rfl, hk7⟩
      clear b1c b1l
      replace B1 := B1.keep hk7
      replace hk := hk.trans' hk7
      have b1c := B1.cell
      have b1l := B1.lt
      have hcl := (World.cell?_of_block (w := w4) (a := ⟨g1, t, none⟩) (((hk5.trans' hki).trans' hk7).block g1 hgl)).trans (hl.out t (by omega))
      by_cases ht0 : t = 0
      ·subst ht0
       clear hcl hL
       go_wp2_with fail
       go_ret
       exact ⟨rfl, hk⟩
      ·have hS := ba_ne (hL.resolve_left (by omega))
       rw [show (⟨#[49]⟩ : ByteArray).toList = [49] by first | rfl | decide | simp] at hS
       generalize tx t = S at *
       have ht1 : ((t : Int) + 1 == 1) = false := by simp; omega
       have ht2 : (t : Int) < (t : Int) + 1 := by omega
       clear hL
       go_wp2_with fail
       go_ret
       exact ⟨rfl, hk⟩
     ·subst hKn hMn
      have hN := HN.out rfl
      have hL := HL.out rfl
      rw [Nat.add_sub_cancel] at hL
      clear HX HL HN HP
      go_wp2_with fail
      refine (hN _ (ht.keep hk)).mono ?_
      rintro e w7 ⟨rfl, hk7⟩
      clear b1c b1l
      replace B1 := B1.keep hk7
      replace hk := hk.trans' hk7
      have b1c := B1.cell
      have b1l := B1.lt
      have hcl := (World.cell?_of_block (w := w4) (a := ⟨g1, M, none⟩) (((hk5.trans' hki).trans' hk7).block g1 hgl)).trans (hl.out M (by omega))
      by_cases ht0 : M = 0
      ·subst ht0
       clear hcl hL
       go_wp2_with fail
       go_ret
       exact ⟨rfl, hk⟩
      ·have hS := ba_ne (hL.resolve_left (by omega))
       rw [show (⟨#[49]⟩ : ByteArray).toList = [49] by first | rfl | decide | simp] at hS
       generalize tx M = S at *
       have ht1 : ((M : Int) + 1 == 1) = false := by simp; omega
       have ht2 : (M : Int) < (M : Int) + 1 := by omega
       clear hL
       go_wp2_with fail
       go_ret
       exact ⟨rfl, hk⟩
     ·subst hKn hMn
      clear HX HL HN HP
      by_cases hD1 : 1 < D
      ·clear hD
       go_wp2_with fail
       go_ret
       exact ⟨rfl, hk⟩
      ·have hlen := hD.resolve_left hD1
       have hli : (M : Int) + 1 < 5 * (sr.size : Int) + 2 := by omega
       have hsi : (sr.size : Int) ≤ 100000000 := by omega
       clear hD hlen
       go_wp2_with fail
       go_ret
       exact ⟨rfl, hk⟩

end Go.Proofs.YtjahbjjekednfaaDoor
