import Derived.Test.YtjahbjjekednfabDoorM1
import Derived.Test.YtjahbjjekednfabDoorM2
import Derived.Test.YtjahbjjekednfabDoorL8
import Derived.Deep.Cut
namespace Go.Proofs.YtjahbjjekednfabDoor
open Go.RowKit Go.Lib

theorem cabs_none {a b c : Int} (h : (c.natAbs : Int) % (Int.gcd a b : Int) ≠ 0) : ∀ x y, a * x + b * y ≠ c := fun x y e => by
 apply h
 have hd : (Int.gcd a b : Int) ∣ c := by
  rw [← e]
  exact Int.dvd_add (Int.dvd_trans (Int.gcd_dvd_left a b) (Int.dvd_mul_right _ _)) (Int.dvd_trans (Int.gcd_dvd_right a b) (Int.dvd_mul_right _ _))
 exact Int.emod_eq_zero_of_dvd (Int.dvd_natAbs.2 hd)
theorem flp_abs (a c z : Int) : (flp a c z).natAbs = z.natAbs := by
 unfold flp
 split <;> omega
theorem sol_zero {a b c x : Int} (h : Sol a b c x 0) : strOf (itoa 0) = ⟨#[48]⟩ := by
 have := h
 rw [itoa, if_neg (by decide), decDigits, dif_pos (by decide)]
 rfl

set_option maxHeartbeats 12800000 in
set_option maxRecDepth 100000 in
/-- surdref.Line. -/
theorem rline_any (sa sb sc : ByteArray) (w : World) : Calls Tryd.prog 21 #[.string sa, .string sb, .string sc] w (RetLn w sa sb sc) := by
 by_cases hbig : 40 < sa.size ∨ 40 < sb.size ∨ 40 < sc.size
 ·have HO : Hid (OutL sa sb sc ⟨#[]⟩ ⟨#[]⟩ 5) := Or.inl ⟨by omega, rfl, rfl, rfl⟩
  by_cases h1 : 40 < sa.size
  ·clear hbig
   go_enter Tryd.func21, Tryd.ntmps21
   go_wp2_with fail
   refine bodyPost_ret (v := .tuple #[.string ⟨#[]⟩, .string ⟨#[]⟩, .int .i64 5]) (by simp [results, Tryd.results21, go_sem]) rfl ?_
   exact ⟨_, _, _, rfl, HO, Below.refl _ _⟩
  ·by_cases h2 : 40 < sb.size
   ·clear hbig
    go_enter Tryd.func21, Tryd.ntmps21
    go_wp2_with fail
    refine bodyPost_ret (v := .tuple #[.string ⟨#[]⟩, .string ⟨#[]⟩, .int .i64 5]) (by simp [results, Tryd.results21, go_sem]) rfl ?_
    exact ⟨_, _, _, rfl, HO, Below.refl _ _⟩
   ·have h3 : 40 < sc.size := by omega
    clear hbig
    go_enter Tryd.func21, Tryd.ntmps21
    go_wp2_with fail
    refine bodyPost_ret (v := .tuple #[.string ⟨#[]⟩, .string ⟨#[]⟩, .int .i64 5]) (by simp [results, Tryd.results21, go_sem]) rfl ?_
    exact ⟨_, _, _, rfl, HO, Below.refl _ _⟩
 ·have h1 : sa.size ≤ 40 := by omega
  have h2 : sb.size ≤ 40 := by omega
  have h3 : sc.size ≤ 40 := by omega
  clear hbig
  have hkw : Kp w w := Below.refl _ _
  go_enter Tryd.func21, Tryd.ntmps21
  go_wp2_with fail
  refine (number_any sa _ (by omega)).mono ?_
  rintro e w11 ⟨za, ok1, b1, ao1, n1, c1, rfl, hza, Hza, hk1⟩
  have ka1 : Kp w11 (w11.alloc (.cells #[.bool b1, .slice ao1 n1 c1] 81)) := (kp_alloc w11 _)
  have kk1 := hk1.trans' ka1
  replace hkw := hkw.trans' kk1
  have Ba : Blk (w11.alloc (.cells #[.bool b1, .slice ao1 n1 c1] 81)) (w11.heap.size) #[.bool b1, .slice ao1 n1 c1] 81 := (Blk.new w11 _ _)
  clear hk1 ka1 kk1
  replace hza := hza.soft (Sf.keep (kp_alloc w11 (.cells #[.bool b1, .slice ao1 n1 c1] 81)))
  go_wp2_with fail
  generalize (w11.alloc (.cells #[.bool b1, .slice ao1 n1 c1] 81)) = x11 at *
  generalize w11.heap.size = Aa at *
  refine (number_any sb _ (by omega)).mono ?_
  rintro e w12 ⟨zb, ok2, b2, ao2, n2, c2, rfl, hzb, Hzb, hk2⟩
  have ka2 : Kp w12 (w12.alloc (.cells #[.bool b2, .slice ao2 n2 c2] 81)) := (kp_alloc w12 _)
  have kk2 := hk2.trans' ka2
  have lta2 := (Ba.keep hk2).lt
  replace Ba := Ba.keep kk2
  replace hza := hza.soft (Sf.keep kk2)
  replace hkw := hkw.trans' kk2
  have Bb : Blk (w12.alloc (.cells #[.bool b2, .slice ao2 n2 c2] 81)) (w12.heap.size) #[.bool b2, .slice ao2 n2 c2] 81 := (Blk.new w12 _ _)
  clear hk2 ka2 kk2
  replace hzb := hzb.soft (Sf.keep (kp_alloc w12 (.cells #[.bool b2, .slice ao2 n2 c2] 81)))
  go_wp2_with fail
  generalize (w12.alloc (.cells #[.bool b2, .slice ao2 n2 c2] 81)) = x12 at *
  generalize w12.heap.size = Ab at *
  refine (number_any sc _ (by omega)).mono ?_
  rintro e w13 ⟨zc, ok3, b3, ao3, n3, c3, rfl, hzc, Hzc, hk3⟩
  have ka3 : Kp w13 (w13.alloc (.cells #[.bool b3, .slice ao3 n3 c3] 81)) := (kp_alloc w13 _)
  have kk3 := hk3.trans' ka3
  have lta3 := (Ba.keep hk3).lt
  have ltb3 := (Bb.keep hk3).lt
  replace Ba := Ba.keep kk3
  replace Bb := Bb.keep kk3
  replace hza := hza.soft (Sf.keep kk3)
  replace hzb := hzb.soft (Sf.keep kk3)
  replace hkw := hkw.trans' kk3
  have Bc : Blk (w13.alloc (.cells #[.bool b3, .slice ao3 n3 c3] 81)) (w13.heap.size) #[.bool b3, .slice ao3 n3 c3] 81 := (Blk.new w13 _ _)
  clear hk3 ka3 kk3
  replace hzc := hzc.soft (Sf.keep (kp_alloc w13 (.cells #[.bool b3, .slice ao3 n3 c3] 81)))
  cases ok1 with
  | false =>
   go_wp2_with fail
   refine bodyPost_ret (v := .tuple #[.string ⟨#[]⟩, .string ⟨#[]⟩, .int .i64 5]) (by simp [results, Tryd.results21, go_sem]) rfl ?_
   exact ⟨_, _, _, rfl, Or.inl ⟨Or.inr (Or.inr (Or.inr (Or.inl (Hza.out.2 (by trivial))))), rfl, rfl, rfl⟩, hkw⟩
  | true =>
   cases ok2 with
   | false =>
    go_wp2_with fail
    refine bodyPost_ret (v := .tuple #[.string ⟨#[]⟩, .string ⟨#[]⟩, .int .i64 5]) (by simp [results, Tryd.results21, go_sem]) rfl ?_
    exact ⟨_, _, _, rfl, Or.inl ⟨Or.inr (Or.inr (Or.inr (Or.inr (Or.inl (Hzb.out.2 (by trivial)))))), rfl, rfl, rfl⟩, hkw⟩
   | true =>
    cases ok3 with
    | false =>
     go_wp2_with fail
     refine bodyPost_ret (v := .tuple #[.string ⟨#[]⟩, .string ⟨#[]⟩, .int .i64 5]) (by simp [results, Tryd.results21, go_sem]) rfl ?_
     exact ⟨_, _, _, rfl, Or.inl ⟨Or.inr (Or.inr (Or.inr (Or.inr (Or.inr (Hzc.out.2 (by trivial)))))), rfl, rfl, rfl⟩, hkw⟩
    | true =>
     replace Hza := Hid.mk (Hza.out.1 rfl)
     replace Hzb := Hid.mk (Hzb.out.1 rfl)
     replace Hzc := Hid.mk (Hzc.out.1 rfl)
     have fa := numT_ft Hza.out h1
     have fb := numT_ft Hzb.out h2
     have fc := numT_ft Hzc.out h3
     have lna := hza.len
     have lnb := hzb.len
     by_cases hz : za = 0 ∧ zb = 0
     ·have HO : Hid (OutL sa sb sc ⟨#[]⟩ ⟨#[]⟩ 5) := Or.inr ⟨h1, h2, h3, za, zb, zc, Hza.out, Hzb.out, Hzc.out, Or.inl ⟨hz.1, hz.2, rfl, rfl, rfl⟩⟩
      have e1 : ((n1 : Int) == 0) = true := by have := lna.1.2 hz.1; simp; omega
      have e2 : ((n2 : Int) == 0) = true := by have := lnb.1.2 hz.2; simp; omega
      have ac := Ba.cell
      have al := Ba.lt
      have bc := Bb.cell
      have bll := Bb.lt
      clear hz lna lnb
      go_wp2_with fail
      refine bodyPost_ret (v := .tuple #[.string ⟨#[]⟩, .string ⟨#[]⟩, .int .i64 5]) (by simp [results, Tryd.results21, go_sem]) rfl ?_
      exact ⟨_, _, _, rfl, HO, hkw⟩
     ·have HNZ := Hid.mk hz
      go_upto_region 6 with fail
      generalize (w13.alloc (.cells #[.bool b3, .slice ao3 n3 c3] 81)) = x13 at *
      generalize w13.heap.size = Ac at *
      have ac := Ba.cell
      have al := Ba.lt
      have bc := Bb.cell
      have bll := Bb.lt
      go_cut [74] from 53 (fun cc wx => cc = .bool false ∧ wx = x13)
      case first =>
       by_cases hA : za = 0
       ·have e1 : ((n1 : Int) == 0) = true := by have := lna.1.2 hA; simp; omega
        have e2 : ((n2 : Int) == 0) = false := by
         have h9 : n2 ≠ 0 := fun h => hz ⟨hA, lnb.1.1 h⟩
         simp; omega
        clear hA hz lna lnb HNZ
        go_wp2_with fail
        go_meet
        case rel => exact ⟨rfl, rfl⟩
       ·have e1 : ((n1 : Int) == 0) = false := by
         have h9 : n1 ≠ 0 := fun h => hA (lna.1.1 h)
         simp; omega
        clear hA hz lna lnb HNZ
        go_wp2_with fail
        go_meet
        case rel => exact ⟨rfl, rfl⟩
      case rest =>
       obtain ⟨rfl, rfl⟩ := hcut
       clear ac al bc bll lna
       have HNO := Hid.mk (cabs_none (a := za) (b := zb) (c := zc))
       have HLR := Hid.mk (fun (x y : Int) hp hd => line_ref (a := za) (b := zb) (c := zc) (x := x) (y := y) hp hd)
       have g0 : 0 < (Int.gcd za zb : Int) := by
        have h9 : Int.gcd za zb ≠ 0 := fun e => hz (Int.gcd_eq_zero_iff.1 e)
        omega
       have fg : Ft 40 (Int.gcd za zb : Int) := Ft.gcd fa fb
       have HGP := Hid.mk (fun (x y : Int) (k : PairOk (za.natAbs : Int) (zb.natAbs : Int) x y) => (show (za.natAbs : Int) * x + (zb.natAbs : Int) * y = (Int.gcd za zb : Int) from k.eq))
       clear hz
       have ac := Ba.cell
       have al := Ba.lt
       have bc := Bb.cell
       have bll := Bb.lt
       go_wp2_with fail
       refine (rgcd_any _ za zb 40 _ _ _ (Nat.le_refl _) hza hzb (by decide) fa fb).mono ?_
       rintro e w14 ⟨v4, rfl, hg, hk4⟩
       obtain ⟨b4, ao4, n4, c4, rfl⟩ := hg.shape'
       clear ac bc al bll
       have ka4 : Kp w14 (w14.alloc (.cells #[.bool b4, .slice ao4 n4 c4] 81)) := (kp_alloc w14 _)
       have kk4 := hk4.trans' ka4
       have lta4 := (Ba.keep hk4).lt
       have ltb4 := (Bb.keep hk4).lt
       have ltc4 := (Bc.keep hk4).lt
       replace Ba := Ba.keep kk4
       replace Bb := Bb.keep kk4
       replace Bc := Bc.keep kk4
       replace hza := hza.soft (Sf.keep kk4)
       replace hzb := hzb.soft (Sf.keep kk4)
       replace hzc := hzc.soft (Sf.keep kk4)
       replace hg := hg.soft (Sf.keep ka4)
       replace hkw := hkw.trans' kk4
       have Bg : Blk (w14.alloc (.cells #[.bool b4, .slice ao4 n4 c4] 81)) (w14.heap.size) #[.bool b4, .slice ao4 n4 c4] 81 := (Blk.new w14 _ _)
       clear hk4 ka4 kk4
       generalize ((Int.gcd za zb : Nat) : Int) = g at *
       have hkb := hkw.size
       go_wp2_with fail
       generalize (w14.alloc (.cells #[.bool b4, .slice ao4 n4 c4] 81)) = x14 at *
       generalize w14.heap.size = Ag at *
       have ltaz := Ba.lt
       have ltbz := Bb.lt
       have ltcz := Bc.lt
       have ltgz := Bg.lt
       go_cut [16, 17] from 78 (fun p16 p17 wx => ∃ (qt : Nat) (b5 : Bool) (ao5 : Option Addr) (n5 c5 : Nat) (qf : Nat) (b6 : Bool) (ao6 : Option Addr) (n6 c6 : Nat), p16 = .pointer (some ⟨qt, 0, none⟩) ∧ p17 = .pointer (some ⟨qf, 0, none⟩) ∧ qt ≠ qf ∧ x14.heap.size ≤ qt ∧ Blk wx qt #[.bool b5, .slice ao5 n5 c5] 81 ∧ IN wx (.agg #[.bool b5, .slice ao5 n5 c5]) ((zc.natAbs : Int) / g) ∧ x14.heap.size ≤ qf ∧ Blk wx qf #[.bool b6, .slice ao6 n6 c6] 81 ∧ IN wx (.agg #[.bool b6, .slice ao6 n6 c6]) ((zc.natAbs : Int) % g) ∧ Kp x14 wx)
       case first =>
        as_aux_lemma =>
         try clear hkw; try clear hkb; try clear HNZ; try clear Hza; try clear Hzb; try clear Hzc; try clear h1; try clear h2; try clear h3; try clear lnb; try clear HNO; try clear HLR; try clear HGP; try clear HX; try clear HX2; try clear HM; try clear e2; try clear ltaz; try clear ltbz; try clear ltcz; try clear ltgz; try clear hza; try clear hzb; try clear Ba; try clear Bb
         refine wp_region_l (S := fun w' => Kp x14 w') (by kernel_rfl) (Kp.drew' (Below.refl _ _)) (fun hS0 => ?_)
         generalize x14.drew = wd at *
         refine wpAnyL_tk (i := 0) (k := 1) (v := .agg #[.bool b3, .slice ao3 n3 c3]) rfl ?_ hS0 ?_
         ·intro w' hw'; have hc := ((Bc).keep hw').cell; go_simp
         simp only [sq]
         refine wpAnyL_tk (i := 2) (k := 3) (v := .agg #[.bool b4, .slice ao4 n4 c4]) rfl ?_ hS0 ?_
         ·intro w' hw'; have hc := ((Bg).keep hw').cell; go_simp
         simp only [sq]
         refine wpAnyL_ready (rs := [1, 7, 8]) (by kernel_rfl) (by simp) ?_
         refine AllReadyL.cons rfl (fun K hK => ?_) ?_
         ·go_simp
          refine (size_any zc _ _ (hzc.keep hS0)).mono ?_
          rintro e w101 ⟨v101, rfl, hv101, hk101⟩
          obtain ⟨b101, ao101, n101, c101, rfl⟩ := hv101.shape'
          go_wp2_with fail
          refine hK.out _ _ (hS0.trans' hk101) (fun hS1 => ?_)
          clear hK K
          refine wpAnyL_ready (rs := [3, 7, 8]) (by kernel_rfl) (by simp) ?_
          refine AllReadyL.cons rfl (fun K hK => ?_) ?_
          ·go_simp
           refine (rdiv_any (zc.natAbs : Int) g 40 _ _ _ hv101 (hg.keep hS1) (by omega) g0 (by decide) fc.abs fg).mono ?_
           rintro e w103 ⟨v103, u103x, rfl, hv103, hu103, hk103⟩
           obtain ⟨b103, ao103, n103, c103, rfl⟩ := hv103.shape'
           obtain ⟨b103x, ao103x, n103x, c103x, rfl⟩ := hu103.shape'
           go_wp2_with fail
           refine hK.out _ _ (hS1.trans' hk103) (fun hS2 => ?_)
           clear hK K
           refine wpAnyL_tk (i := 4) (k := 5) (v := .tuple #[.agg #[.bool b103, .slice ao103 n103 c103], .agg #[.bool b103x, .slice ao103x n103x c103x]]) rfl ?_ hS2 ?_
           ·intro w' hw'; go_simp
           simp only [sq]
           refine wpAnyL_tk (i := 5) (k := 9) (v := .agg #[.bool b103, .slice ao103 n103 c103]) rfl ?_ hS2 ?_
           ·intro w' hw'; go_simp
           simp only [sq]
           refine wpAnyL_tk (i := 6) (k := 10) (v := .agg #[.bool b103x, .slice ao103x n103x c103x]) rfl ?_ hS2 ?_
           ·intro w' hw'; go_simp
           simp only [sq]
           refine wpAnyL_ready (rs := [7, 8]) (by kernel_rfl) (by simp) ?_
           refine AllReadyL.cons rfl (fun K hK => ?_) ?_
           ·go_simp
            refine hK.out _ _ (Kp.alloc' hS2 (.cells #[.bool false, .slice none 0 0] 81)) (fun hS3 => ?_)
            clear hK K
            have NB7 : Blk (w103.alloc (.cells #[.bool false, .slice none 0 0] 81)) w103.heap.size #[.bool false, .slice none 0 0] 81 := Blk.new w103 _ _
            have ge7 : x14.heap.size ≤ w103.heap.size := hS2.size
            replace hv103 := hv103.keep (kp_alloc w103 (.cells #[.bool false, .slice none 0 0] 81))
            replace hu103 := hu103.keep (kp_alloc w103 (.cells #[.bool false, .slice none 0 0] 81))
            try simp only [sq]
            generalize hA7 : w103.heap.size = A7 at *
            generalize w103.alloc (.cells #[.bool false, .slice none 0 0] 81) = wn7 at *
            refine wpAnyL_on (i := 8) rfl (fun K hK => ?_)
            go_simp
            refine hK.out _ _ (Kp.alloc' hS3 (.cells #[.bool false, .slice none 0 0] 81)) (fun hS4 => ?_)
            clear hK K
            have NB8 : Blk (wn7.alloc (.cells #[.bool false, .slice none 0 0] 81)) wn7.heap.size #[.bool false, .slice none 0 0] 81 := Blk.new wn7 _ _
            have ge8 : x14.heap.size ≤ wn7.heap.size := hS3.size
            have ne7x8 : A7 ≠ wn7.heap.size := by have := NB7.lt; omega
            replace hv103 := hv103.keep (kp_alloc wn7 (.cells #[.bool false, .slice none 0 0] 81))
            replace hu103 := hu103.keep (kp_alloc wn7 (.cells #[.bool false, .slice none 0 0] 81))
            replace NB7 := NB7.keep (kp_alloc wn7 (.cells #[.bool false, .slice none 0 0] 81))
            try simp only [sq]
            generalize hA8 : wn7.heap.size = A8 at *
            generalize wn7.alloc (.cells #[.bool false, .slice none 0 0] 81) = wn8 at *
            refine wpAnyL_on (i := 9) rfl (fun K hK => ?_)
            have st_c := NB7.cell
            have st_f := NB7.frozen
            have st_l := NB7.lt
            go_simp
            refine hK.out _ _ (stK2 (A := A7) (.bool b103) (.slice ao103 n103 c103) hS4 ge7) (fun hS5 => ?_)
            clear hK K
            have sfS : Sf 3 wn8 ((wn8.setCell ⟨A7, 0, none⟩ (.bool b103)).setCell ⟨A7, 1, none⟩ (.slice ao103 n103 c103)) := (stS2 (E := 3) (.bool b103) (.slice ao103 n103 c103) NB7 (by decide))
            replace hv103 := hv103.soft sfS
            replace hu103 := hu103.soft sfS
            replace NB8 := (Blk.other (c := A7) (o := 1) (y := .slice ao103 n103 c103) (Blk.other (c := A7) (o := 0) (y := .bool b103) NB8 (by omega)) (by omega))
            replace NB7 := (Blk.set (o := 1) (y := .slice ao103 n103 c103) (Blk.set (o := 0) (y := .bool b103) NB7))
            clear sfS st_c st_f st_l
            try simp only [sq]
            generalize ((wn8.setCell ⟨A7, 0, none⟩ (.bool b103)).setCell ⟨A7, 1, none⟩ (.slice ao103 n103 c103)) = wt9 at *
            simp only [List.setIfInBounds_toArray, List.set_cons_zero, List.set_cons_succ] at NB7
            have st_c := NB8.cell
            have st_f := NB8.frozen
            have st_l := NB8.lt
            refine wpAnyL_last (i := 10) rfl (by kernel_rfl) (by kernel_rfl) (by kernel_rfl) (fun K hK => ?_)
            go_simp
            refine hK.out _ _ ?_
            clear hK K
            go_wp2_with fail
            go_meet
            case rel => exact ⟨A7, b103, ao103, n103, c103, A8, b103x, ao103x, n103x, c103x, rfl, rfl, (by omega), (by omega), (ot2 (A := A8) (.bool b103x) (.slice ao103x n103x c103x) NB7 (by omega)), hv103.soft (sf2 (E := 3) (.bool b103x) (.slice ao103x n103x c103x) NB8 (by decide)), (by omega), (bl2 (.bool b103x) (.slice ao103x n103x c103x) NB8), hu103.soft (sf2 (E := 3) (.bool b103x) (.slice ao103x n103x c103x) NB8 (by decide)), (kp2 (A := A8) (.bool b103x) (.slice ao103x n103x c103x) hS5 (by omega))⟩
           refine AllReadyL.cons rfl (fun K hK => ?_) ?_
           ·go_simp
            refine hK.out _ _ (Kp.alloc' hS2 (.cells #[.bool false, .slice none 0 0] 81)) (fun hS3 => ?_)
            clear hK K
            have NB8 : Blk (w103.alloc (.cells #[.bool false, .slice none 0 0] 81)) w103.heap.size #[.bool false, .slice none 0 0] 81 := Blk.new w103 _ _
            have ge8 : x14.heap.size ≤ w103.heap.size := hS2.size
            replace hv103 := hv103.keep (kp_alloc w103 (.cells #[.bool false, .slice none 0 0] 81))
            replace hu103 := hu103.keep (kp_alloc w103 (.cells #[.bool false, .slice none 0 0] 81))
            try simp only [sq]
            generalize hA8 : w103.heap.size = A8 at *
            generalize w103.alloc (.cells #[.bool false, .slice none 0 0] 81) = wn8 at *
            refine wpAnyL_on (i := 7) rfl (fun K hK => ?_)
            go_simp
            refine hK.out _ _ (Kp.alloc' hS3 (.cells #[.bool false, .slice none 0 0] 81)) (fun hS4 => ?_)
            clear hK K
            have NB7 : Blk (wn8.alloc (.cells #[.bool false, .slice none 0 0] 81)) wn8.heap.size #[.bool false, .slice none 0 0] 81 := Blk.new wn8 _ _
            have ge7 : x14.heap.size ≤ wn8.heap.size := hS3.size
            have ne8x7 : A8 ≠ wn8.heap.size := by have := NB8.lt; omega
            replace hv103 := hv103.keep (kp_alloc wn8 (.cells #[.bool false, .slice none 0 0] 81))
            replace hu103 := hu103.keep (kp_alloc wn8 (.cells #[.bool false, .slice none 0 0] 81))
            replace NB8 := NB8.keep (kp_alloc wn8 (.cells #[.bool false, .slice none 0 0] 81))
            try simp only [sq]
            generalize hA7 : wn8.heap.size = A7 at *
            generalize wn8.alloc (.cells #[.bool false, .slice none 0 0] 81) = wn7 at *
            refine wpAnyL_on (i := 9) rfl (fun K hK => ?_)
            have st_c := NB7.cell
            have st_f := NB7.frozen
            have st_l := NB7.lt
            go_simp
            refine hK.out _ _ (stK2 (A := A7) (.bool b103) (.slice ao103 n103 c103) hS4 ge7) (fun hS5 => ?_)
            clear hK K
            have sfS : Sf 3 wn7 ((wn7.setCell ⟨A7, 0, none⟩ (.bool b103)).setCell ⟨A7, 1, none⟩ (.slice ao103 n103 c103)) := (stS2 (E := 3) (.bool b103) (.slice ao103 n103 c103) NB7 (by decide))
            replace hv103 := hv103.soft sfS
            replace hu103 := hu103.soft sfS
            replace NB8 := (Blk.other (c := A7) (o := 1) (y := .slice ao103 n103 c103) (Blk.other (c := A7) (o := 0) (y := .bool b103) NB8 (by omega)) (by omega))
            replace NB7 := (Blk.set (o := 1) (y := .slice ao103 n103 c103) (Blk.set (o := 0) (y := .bool b103) NB7))
            clear sfS st_c st_f st_l
            try simp only [sq]
            generalize ((wn7.setCell ⟨A7, 0, none⟩ (.bool b103)).setCell ⟨A7, 1, none⟩ (.slice ao103 n103 c103)) = wt9 at *
            simp only [List.setIfInBounds_toArray, List.set_cons_zero, List.set_cons_succ] at NB7
            have st_c := NB8.cell
            have st_f := NB8.frozen
            have st_l := NB8.lt
            refine wpAnyL_last (i := 10) rfl (by kernel_rfl) (by kernel_rfl) (by kernel_rfl) (fun K hK => ?_)
            go_simp
            refine hK.out _ _ ?_
            clear hK K
            go_wp2_with fail
            go_meet
            case rel => exact ⟨A7, b103, ao103, n103, c103, A8, b103x, ao103x, n103x, c103x, rfl, rfl, (by omega), (by omega), (ot2 (A := A8) (.bool b103x) (.slice ao103x n103x c103x) NB7 (by omega)), hv103.soft (sf2 (E := 3) (.bool b103x) (.slice ao103x n103x c103x) NB8 (by decide)), (by omega), (bl2 (.bool b103x) (.slice ao103x n103x c103x) NB8), hu103.soft (sf2 (E := 3) (.bool b103x) (.slice ao103x n103x c103x) NB8 (by decide)), (kp2 (A := A8) (.bool b103x) (.slice ao103x n103x c103x) hS5 (by omega))⟩
           exact AllReadyL.nil
          refine AllReadyL.cons rfl (fun K hK => ?_) ?_
          ·go_simp
           refine hK.out _ _ (Kp.alloc' hS1 (.cells #[.bool false, .slice none 0 0] 81)) (fun hS2 => ?_)
           clear hK K
           have NB7 : Blk (w101.alloc (.cells #[.bool false, .slice none 0 0] 81)) w101.heap.size #[.bool false, .slice none 0 0] 81 := Blk.new w101 _ _
           have ge7 : x14.heap.size ≤ w101.heap.size := hS1.size
           replace hv101 := hv101.keep (kp_alloc w101 (.cells #[.bool false, .slice none 0 0] 81))
           try simp only [sq]
           generalize hA7 : w101.heap.size = A7 at *
           generalize w101.alloc (.cells #[.bool false, .slice none 0 0] 81) = wn7 at *
           refine wpAnyL_ready (rs := [3, 8]) (by kernel_rfl) (by simp) ?_
           refine AllReadyL.cons rfl (fun K hK => ?_) ?_
           ·go_simp
            refine (rdiv_any (zc.natAbs : Int) g 40 _ _ _ hv101 (hg.keep hS2) (by omega) g0 (by decide) fc.abs fg).mono ?_
            rintro e w103 ⟨v103, u103x, rfl, hv103, hu103, hk103⟩
            obtain ⟨b103, ao103, n103, c103, rfl⟩ := hv103.shape'
            obtain ⟨b103x, ao103x, n103x, c103x, rfl⟩ := hu103.shape'
            replace NB7 := NB7.keep hk103
            go_wp2_with fail
            refine hK.out _ _ (hS2.trans' hk103) (fun hS3 => ?_)
            clear hK K
            refine wpAnyL_tk (i := 4) (k := 5) (v := .tuple #[.agg #[.bool b103, .slice ao103 n103 c103], .agg #[.bool b103x, .slice ao103x n103x c103x]]) rfl ?_ hS3 ?_
            ·intro w' hw'; go_simp
            simp only [sq]
            refine wpAnyL_tk (i := 5) (k := 9) (v := .agg #[.bool b103, .slice ao103 n103 c103]) rfl ?_ hS3 ?_
            ·intro w' hw'; go_simp
            simp only [sq]
            refine wpAnyL_tk (i := 6) (k := 10) (v := .agg #[.bool b103x, .slice ao103x n103x c103x]) rfl ?_ hS3 ?_
            ·intro w' hw'; go_simp
            simp only [sq]
            refine wpAnyL_on (i := 8) rfl (fun K hK => ?_)
            go_simp
            refine hK.out _ _ (Kp.alloc' hS3 (.cells #[.bool false, .slice none 0 0] 81)) (fun hS4 => ?_)
            clear hK K
            have NB8 : Blk (w103.alloc (.cells #[.bool false, .slice none 0 0] 81)) w103.heap.size #[.bool false, .slice none 0 0] 81 := Blk.new w103 _ _
            have ge8 : x14.heap.size ≤ w103.heap.size := hS3.size
            have ne7x8 : A7 ≠ w103.heap.size := by have := NB7.lt; omega
            replace NB7 := NB7.keep (kp_alloc w103 (.cells #[.bool false, .slice none 0 0] 81))
            replace hv103 := hv103.keep (kp_alloc w103 (.cells #[.bool false, .slice none 0 0] 81))
            replace hu103 := hu103.keep (kp_alloc w103 (.cells #[.bool false, .slice none 0 0] 81))
            try simp only [sq]
            generalize hA8 : w103.heap.size = A8 at *
            generalize w103.alloc (.cells #[.bool false, .slice none 0 0] 81) = wn8 at *
            refine wpAnyL_on (i := 9) rfl (fun K hK => ?_)
            have st_c := NB7.cell
            have st_f := NB7.frozen
            have st_l := NB7.lt
            go_simp
            refine hK.out _ _ (stK2 (A := A7) (.bool b103) (.slice ao103 n103 c103) hS4 ge7) (fun hS5 => ?_)
            clear hK K
            have sfS : Sf 3 wn8 ((wn8.setCell ⟨A7, 0, none⟩ (.bool b103)).setCell ⟨A7, 1, none⟩ (.slice ao103 n103 c103)) := (stS2 (E := 3) (.bool b103) (.slice ao103 n103 c103) NB7 (by decide))
            replace hv103 := hv103.soft sfS
            replace hu103 := hu103.soft sfS
            replace NB8 := (Blk.other (c := A7) (o := 1) (y := .slice ao103 n103 c103) (Blk.other (c := A7) (o := 0) (y := .bool b103) NB8 (by omega)) (by omega))
            replace NB7 := (Blk.set (o := 1) (y := .slice ao103 n103 c103) (Blk.set (o := 0) (y := .bool b103) NB7))
            clear sfS st_c st_f st_l
            try simp only [sq]
            generalize ((wn8.setCell ⟨A7, 0, none⟩ (.bool b103)).setCell ⟨A7, 1, none⟩ (.slice ao103 n103 c103)) = wt9 at *
            simp only [List.setIfInBounds_toArray, List.set_cons_zero, List.set_cons_succ] at NB7
            have st_c := NB8.cell
            have st_f := NB8.frozen
            have st_l := NB8.lt
            refine wpAnyL_last (i := 10) rfl (by kernel_rfl) (by kernel_rfl) (by kernel_rfl) (fun K hK => ?_)
            go_simp
            refine hK.out _ _ ?_
            clear hK K
            go_wp2_with fail
            go_meet
            case rel => exact ⟨A7, b103, ao103, n103, c103, A8, b103x, ao103x, n103x, c103x, rfl, rfl, (by omega), (by omega), (ot2 (A := A8) (.bool b103x) (.slice ao103x n103x c103x) NB7 (by omega)), hv103.soft (sf2 (E := 3) (.bool b103x) (.slice ao103x n103x c103x) NB8 (by decide)), (by omega), (bl2 (.bool b103x) (.slice ao103x n103x c103x) NB8), hu103.soft (sf2 (E := 3) (.bool b103x) (.slice ao103x n103x c103x) NB8 (by decide)), (kp2 (A := A8) (.bool b103x) (.slice ao103x n103x c103x) hS5 (by omega))⟩
           refine AllReadyL.cons rfl (fun K hK => ?_) ?_
           ·go_simp
            refine hK.out _ _ (Kp.alloc' hS2 (.cells #[.bool false, .slice none 0 0] 81)) (fun hS3 => ?_)
            clear hK K
            have NB8 : Blk (wn7.alloc (.cells #[.bool false, .slice none 0 0] 81)) wn7.heap.size #[.bool false, .slice none 0 0] 81 := Blk.new wn7 _ _
            have ge8 : x14.heap.size ≤ wn7.heap.size := hS2.size
            have ne7x8 : A7 ≠ wn7.heap.size := by have := NB7.lt; omega
            replace hv101 := hv101.keep (kp_alloc wn7 (.cells #[.bool false, .slice none 0 0] 81))
            replace NB7 := NB7.keep (kp_alloc wn7 (.cells #[.bool false, .slice none 0 0] 81))
            try simp only [sq]
            generalize hA8 : wn7.heap.size = A8 at *
            generalize wn7.alloc (.cells #[.bool false, .slice none 0 0] 81) = wn8 at *
            refine wpAnyL_on (i := 3) rfl (fun K hK => ?_)
            go_simp
            refine (rdiv_any (zc.natAbs : Int) g 40 _ _ _ hv101 (hg.keep hS3) (by omega) g0 (by decide) fc.abs fg).mono ?_
            rintro e w103 ⟨v103, u103x, rfl, hv103, hu103, hk103⟩
            obtain ⟨b103, ao103, n103, c103, rfl⟩ := hv103.shape'
            obtain ⟨b103x, ao103x, n103x, c103x, rfl⟩ := hu103.shape'
            replace NB7 := NB7.keep hk103
            replace NB8 := NB8.keep hk103
            go_wp2_with fail
            refine hK.out _ _ (hS3.trans' hk103) (fun hS4 => ?_)
            clear hK K
            refine wpAnyL_tk (i := 4) (k := 5) (v := .tuple #[.agg #[.bool b103, .slice ao103 n103 c103], .agg #[.bool b103x, .slice ao103x n103x c103x]]) rfl ?_ hS4 ?_
            ·intro w' hw'; go_simp
            simp only [sq]
            refine wpAnyL_tk (i := 5) (k := 9) (v := .agg #[.bool b103, .slice ao103 n103 c103]) rfl ?_ hS4 ?_
            ·intro w' hw'; go_simp
            simp only [sq]
            refine wpAnyL_tk (i := 6) (k := 10) (v := .agg #[.bool b103x, .slice ao103x n103x c103x]) rfl ?_ hS4 ?_
            ·intro w' hw'; go_simp
            simp only [sq]
            refine wpAnyL_on (i := 9) rfl (fun K hK => ?_)
            have st_c := NB7.cell
            have st_f := NB7.frozen
            have st_l := NB7.lt
            go_simp
            refine hK.out _ _ (stK2 (A := A7) (.bool b103) (.slice ao103 n103 c103) hS4 ge7) (fun hS5 => ?_)
            clear hK K
            have sfS : Sf 3 w103 ((w103.setCell ⟨A7, 0, none⟩ (.bool b103)).setCell ⟨A7, 1, none⟩ (.slice ao103 n103 c103)) := (stS2 (E := 3) (.bool b103) (.slice ao103 n103 c103) NB7 (by decide))
            replace NB8 := (Blk.other (c := A7) (o := 1) (y := .slice ao103 n103 c103) (Blk.other (c := A7) (o := 0) (y := .bool b103) NB8 (by omega)) (by omega))
            replace hv103 := hv103.soft sfS
            replace hu103 := hu103.soft sfS
            replace NB7 := (Blk.set (o := 1) (y := .slice ao103 n103 c103) (Blk.set (o := 0) (y := .bool b103) NB7))
            clear sfS st_c st_f st_l
            try simp only [sq]
            generalize ((w103.setCell ⟨A7, 0, none⟩ (.bool b103)).setCell ⟨A7, 1, none⟩ (.slice ao103 n103 c103)) = wt9 at *
            simp only [List.setIfInBounds_toArray, List.set_cons_zero, List.set_cons_succ] at NB7
            have st_c := NB8.cell
            have st_f := NB8.frozen
            have st_l := NB8.lt
            refine wpAnyL_last (i := 10) rfl (by kernel_rfl) (by kernel_rfl) (by kernel_rfl) (fun K hK => ?_)
            go_simp
            refine hK.out _ _ ?_
            clear hK K
            go_wp2_with fail
            go_meet
            case rel => exact ⟨A7, b103, ao103, n103, c103, A8, b103x, ao103x, n103x, c103x, rfl, rfl, (by omega), (by omega), (ot2 (A := A8) (.bool b103x) (.slice ao103x n103x c103x) NB7 (by omega)), hv103.soft (sf2 (E := 3) (.bool b103x) (.slice ao103x n103x c103x) NB8 (by decide)), (by omega), (bl2 (.bool b103x) (.slice ao103x n103x c103x) NB8), hu103.soft (sf2 (E := 3) (.bool b103x) (.slice ao103x n103x c103x) NB8 (by decide)), (kp2 (A := A8) (.bool b103x) (.slice ao103x n103x c103x) hS5 (by omega))⟩
           exact AllReadyL.nil
          refine AllReadyL.cons rfl (fun K hK => ?_) ?_
          ·go_simp
           refine hK.out _ _ (Kp.alloc' hS1 (.cells #[.bool false, .slice none 0 0] 81)) (fun hS2 => ?_)
           clear hK K
           have NB8 : Blk (w101.alloc (.cells #[.bool false, .slice none 0 0] 81)) w101.heap.size #[.bool false, .slice none 0 0] 81 := Blk.new w101 _ _
           have ge8 : x14.heap.size ≤ w101.heap.size := hS1.size
           replace hv101 := hv101.keep (kp_alloc w101 (.cells #[.bool false, .slice none 0 0] 81))
           try simp only [sq]
           generalize hA8 : w101.heap.size = A8 at *
           generalize w101.alloc (.cells #[.bool false, .slice none 0 0] 81) = wn8 at *
           refine wpAnyL_ready (rs := [3, 7]) (by kernel_rfl) (by simp) ?_
           refine AllReadyL.cons rfl (fun K hK => ?_) ?_
           ·go_simp
            refine (rdiv_any (zc.natAbs : Int) g 40 _ _ _ hv101 (hg.keep hS2) (by omega) g0 (by decide) fc.abs fg).mono ?_
            rintro e w103 ⟨v103, u103x, rfl, hv103, hu103, hk103⟩
            obtain ⟨b103, ao103, n103, c103, rfl⟩ := hv103.shape'
            obtain ⟨b103x, ao103x, n103x, c103x, rfl⟩ := hu103.shape'
            replace NB8 := NB8.keep hk103
            go_wp2_with fail
            refine hK.out _ _ (hS2.trans' hk103) (fun hS3 => ?_)
            clear hK K
            refine wpAnyL_tk (i := 4) (k := 5) (v := .tuple #[.agg #[.bool b103, .slice ao103 n103 c103], .agg #[.bool b103x, .slice ao103x n103x c103x]]) rfl ?_ hS3 ?_
            ·intro w' hw'; go_simp
            simp only [sq]
            refine wpAnyL_tk (i := 5) (k := 9) (v := .agg #[.bool b103, .slice ao103 n103 c103]) rfl ?_ hS3 ?_
            ·intro w' hw'; go_simp
            simp only [sq]
            refine wpAnyL_tk (i := 6) (k := 10) (v := .agg #[.bool b103x, .slice ao103x n103x c103x]) rfl ?_ hS3 ?_
            ·intro w' hw'; go_simp
            simp only [sq]
            refine wpAnyL_on (i := 7) rfl (fun K hK => ?_)
            go_simp
            refine hK.out _ _ (Kp.alloc' hS3 (.cells #[.bool false, .slice none 0 0] 81)) (fun hS4 => ?_)
            clear hK K
            have NB7 : Blk (w103.alloc (.cells #[.bool false, .slice none 0 0] 81)) w103.heap.size #[.bool false, .slice none 0 0] 81 := Blk.new w103 _ _
            have ge7 : x14.heap.size ≤ w103.heap.size := hS3.size
            have ne8x7 : A8 ≠ w103.heap.size := by have := NB8.lt; omega
            replace NB8 := NB8.keep (kp_alloc w103 (.cells #[.bool false, .slice none 0 0] 81))
            replace hv103 := hv103.keep (kp_alloc w103 (.cells #[.bool false, .slice none 0 0] 81))
            replace hu103 := hu103.keep (kp_alloc w103 (.cells #[.bool false, .slice none 0 0] 81))
            try simp only [sq]
            generalize hA7 : w103.heap.size = A7 at *
            generalize w103.alloc (.cells #[.bool false, .slice none 0 0] 81) = wn7 at *
            refine wpAnyL_on (i := 9) rfl (fun K hK => ?_)
            have st_c := NB7.cell
            have st_f := NB7.frozen
            have st_l := NB7.lt
            go_simp
            refine hK.out _ _ (stK2 (A := A7) (.bool b103) (.slice ao103 n103 c103) hS4 ge7) (fun hS5 => ?_)
            clear hK K
            have sfS : Sf 3 wn7 ((wn7.setCell ⟨A7, 0, none⟩ (.bool b103)).setCell ⟨A7, 1, none⟩ (.slice ao103 n103 c103)) := (stS2 (E := 3) (.bool b103) (.slice ao103 n103 c103) NB7 (by decide))
            replace NB8 := (Blk.other (c := A7) (o := 1) (y := .slice ao103 n103 c103) (Blk.other (c := A7) (o := 0) (y := .bool b103) NB8 (by omega)) (by omega))
            replace hv103 := hv103.soft sfS
            replace hu103 := hu103.soft sfS
            replace NB7 := (Blk.set (o := 1) (y := .slice ao103 n103 c103) (Blk.set (o := 0) (y := .bool b103) NB7))
            clear sfS st_c st_f st_l
            try simp only [sq]
            generalize ((wn7.setCell ⟨A7, 0, none⟩ (.bool b103)).setCell ⟨A7, 1, none⟩ (.slice ao103 n103 c103)) = wt9 at *
            simp only [List.setIfInBounds_toArray, List.set_cons_zero, List.set_cons_succ] at NB7
            have st_c := NB8.cell
            have st_f := NB8.frozen
            have st_l := NB8.lt
            refine wpAnyL_last (i := 10) rfl (by kernel_rfl) (by kernel_rfl) (by kernel_rfl) (fun K hK => ?_)
            go_simp
            refine hK.out _ _ ?_
            clear hK K
            go_wp2_with fail
            go_meet
            case rel => exact ⟨A7, b103, ao103, n103, c103, A8, b103x, ao103x, n103x, c103x, rfl, rfl, (by omega), (by omega), (ot2 (A := A8) (.bool b103x) (.slice ao103x n103x c103x) NB7 (by omega)), hv103.soft (sf2 (E := 3) (.bool b103x) (.slice ao103x n103x c103x) NB8 (by decide)), (by omega), (bl2 (.bool b103x) (.slice ao103x n103x c103x) NB8), hu103.soft (sf2 (E := 3) (.bool b103x) (.slice ao103x n103x c103x) NB8 (by decide)), (kp2 (A := A8) (.bool b103x) (.slice ao103x n103x c103x) hS5 (by omega))⟩
           refine AllReadyL.cons rfl (fun K hK => ?_) ?_
           ·go_simp
            refine hK.out _ _ (Kp.alloc' hS2 (.cells #[.bool false, .slice none 0 0] 81)) (fun hS3 => ?_)
            clear hK K
            have NB7 : Blk (wn8.alloc (.cells #[.bool false, .slice none 0 0] 81)) wn8.heap.size #[.bool false, .slice none 0 0] 81 := Blk.new wn8 _ _
            have ge7 : x14.heap.size ≤ wn8.heap.size := hS2.size
            have ne8x7 : A8 ≠ wn8.heap.size := by have := NB8.lt; omega
            replace hv101 := hv101.keep (kp_alloc wn8 (.cells #[.bool false, .slice none 0 0] 81))
            replace NB8 := NB8.keep (kp_alloc wn8 (.cells #[.bool false, .slice none 0 0] 81))
            try simp only [sq]
            generalize hA7 : wn8.heap.size = A7 at *
            generalize wn8.alloc (.cells #[.bool false, .slice none 0 0] 81) = wn7 at *
            refine wpAnyL_on (i := 3) rfl (fun K hK => ?_)
            go_simp
            refine (rdiv_any (zc.natAbs : Int) g 40 _ _ _ hv101 (hg.keep hS3) (by omega) g0 (by decide) fc.abs fg).mono ?_
            rintro e w103 ⟨v103, u103x, rfl, hv103, hu103, hk103⟩
            obtain ⟨b103, ao103, n103, c103, rfl⟩ := hv103.shape'
            obtain ⟨b103x, ao103x, n103x, c103x, rfl⟩ := hu103.shape'
            replace NB8 := NB8.keep hk103
            replace NB7 := NB7.keep hk103
            go_wp2_with fail
            refine hK.out _ _ (hS3.trans' hk103) (fun hS4 => ?_)
            clear hK K
            refine wpAnyL_tk (i := 4) (k := 5) (v := .tuple #[.agg #[.bool b103, .slice ao103 n103 c103], .agg #[.bool b103x, .slice ao103x n103x c103x]]) rfl ?_ hS4 ?_
            ·intro w' hw'; go_simp
            simp only [sq]
            refine wpAnyL_tk (i := 5) (k := 9) (v := .agg #[.bool b103, .slice ao103 n103 c103]) rfl ?_ hS4 ?_
            ·intro w' hw'; go_simp
            simp only [sq]
            refine wpAnyL_tk (i := 6) (k := 10) (v := .agg #[.bool b103x, .slice ao103x n103x c103x]) rfl ?_ hS4 ?_
            ·intro w' hw'; go_simp
            simp only [sq]
            refine wpAnyL_on (i := 9) rfl (fun K hK => ?_)
            have st_c := NB7.cell
            have st_f := NB7.frozen
            have st_l := NB7.lt
            go_simp
            refine hK.out _ _ (stK2 (A := A7) (.bool b103) (.slice ao103 n103 c103) hS4 ge7) (fun hS5 => ?_)
            clear hK K
            have sfS : Sf 3 w103 ((w103.setCell ⟨A7, 0, none⟩ (.bool b103)).setCell ⟨A7, 1, none⟩ (.slice ao103 n103 c103)) := (stS2 (E := 3) (.bool b103) (.slice ao103 n103 c103) NB7 (by decide))
            replace NB8 := (Blk.other (c := A7) (o := 1) (y := .slice ao103 n103 c103) (Blk.other (c := A7) (o := 0) (y := .bool b103) NB8 (by omega)) (by omega))
            replace hv103 := hv103.soft sfS
            replace hu103 := hu103.soft sfS
            replace NB7 := (Blk.set (o := 1) (y := .slice ao103 n103 c103) (Blk.set (o := 0) (y := .bool b103) NB7))
            clear sfS st_c st_f st_l
            try simp only [sq]
            generalize ((w103.setCell ⟨A7, 0, none⟩ (.bool b103)).setCell ⟨A7, 1, none⟩ (.slice ao103 n103 c103)) = wt9 at *
            simp only [List.setIfInBounds_toArray, List.set_cons_zero, List.set_cons_succ] at NB7
            have st_c := NB8.cell
            have st_f := NB8.frozen
            have st_l := NB8.lt
            refine wpAnyL_last (i := 10) rfl (by kernel_rfl) (by kernel_rfl) (by kernel_rfl) (fun K hK => ?_)
            go_simp
            refine hK.out _ _ ?_
            clear hK K
            go_wp2_with fail
            go_meet
            case rel => exact ⟨A7, b103, ao103, n103, c103, A8, b103x, ao103x, n103x, c103x, rfl, rfl, (by omega), (by omega), (ot2 (A := A8) (.bool b103x) (.slice ao103x n103x c103x) NB7 (by omega)), hv103.soft (sf2 (E := 3) (.bool b103x) (.slice ao103x n103x c103x) NB8 (by decide)), (by omega), (bl2 (.bool b103x) (.slice ao103x n103x c103x) NB8), hu103.soft (sf2 (E := 3) (.bool b103x) (.slice ao103x n103x c103x) NB8 (by decide)), (kp2 (A := A8) (.bool b103x) (.slice ao103x n103x c103x) hS5 (by omega))⟩
           exact AllReadyL.nil
          exact AllReadyL.nil
         refine AllReadyL.cons rfl (fun K hK => ?_) ?_
         ·go_simp
          refine hK.out _ _ (Kp.alloc' hS0 (.cells #[.bool false, .slice none 0 0] 81)) (fun hS1 => ?_)
          clear hK K
          have NB7 : Blk (wd.alloc (.cells #[.bool false, .slice none 0 0] 81)) wd.heap.size #[.bool false, .slice none 0 0] 81 := Blk.new wd _ _
          have ge7 : x14.heap.size ≤ wd.heap.size := hS0.size
          try simp only [sq]
          generalize hA7 : wd.heap.size = A7 at *
          generalize wd.alloc (.cells #[.bool false, .slice none 0 0] 81) = wn7 at *
          refine wpAnyL_ready (rs := [1, 8]) (by kernel_rfl) (by simp) ?_
          refine AllReadyL.cons rfl (fun K hK => ?_) ?_
          ·go_simp
           refine (size_any zc _ _ (hzc.keep hS1)).mono ?_
           rintro e w101 ⟨v101, rfl, hv101, hk101⟩
           obtain ⟨b101, ao101, n101, c101, rfl⟩ := hv101.shape'
           replace NB7 := NB7.keep hk101
           go_wp2_with fail
           refine hK.out _ _ (hS1.trans' hk101) (fun hS2 => ?_)
           clear hK K
           refine wpAnyL_ready (rs := [3, 8]) (by kernel_rfl) (by simp) ?_
           refine AllReadyL.cons rfl (fun K hK => ?_) ?_
           ·go_simp
            refine (rdiv_any (zc.natAbs : Int) g 40 _ _ _ hv101 (hg.keep hS2) (by omega) g0 (by decide) fc.abs fg).mono ?_
            rintro e w103 ⟨v103, u103x, rfl, hv103, hu103, hk103⟩
            obtain ⟨b103, ao103, n103, c103, rfl⟩ := hv103.shape'
            obtain ⟨b103x, ao103x, n103x, c103x, rfl⟩ := hu103.shape'
            replace NB7 := NB7.keep hk103
            go_wp2_with fail
            refine hK.out _ _ (hS2.trans' hk103) (fun hS3 => ?_)
            clear hK K
            refine wpAnyL_tk (i := 4) (k := 5) (v := .tuple #[.agg #[.bool b103, .slice ao103 n103 c103], .agg #[.bool b103x, .slice ao103x n103x c103x]]) rfl ?_ hS3 ?_
            ·intro w' hw'; go_simp
            simp only [sq]
            refine wpAnyL_tk (i := 5) (k := 9) (v := .agg #[.bool b103, .slice ao103 n103 c103]) rfl ?_ hS3 ?_
            ·intro w' hw'; go_simp
            simp only [sq]
            refine wpAnyL_tk (i := 6) (k := 10) (v := .agg #[.bool b103x, .slice ao103x n103x c103x]) rfl ?_ hS3 ?_
            ·intro w' hw'; go_simp
            simp only [sq]
            refine wpAnyL_on (i := 8) rfl (fun K hK => ?_)
            go_simp
            refine hK.out _ _ (Kp.alloc' hS3 (.cells #[.bool false, .slice none 0 0] 81)) (fun hS4 => ?_)
            clear hK K
            have NB8 : Blk (w103.alloc (.cells #[.bool false, .slice none 0 0] 81)) w103.heap.size #[.bool false, .slice none 0 0] 81 := Blk.new w103 _ _
            have ge8 : x14.heap.size ≤ w103.heap.size := hS3.size
            have ne7x8 : A7 ≠ w103.heap.size := by have := NB7.lt; omega
            replace NB7 := NB7.keep (kp_alloc w103 (.cells #[.bool false, .slice none 0 0] 81))
            replace hv103 := hv103.keep (kp_alloc w103 (.cells #[.bool false, .slice none 0 0] 81))
            replace hu103 := hu103.keep (kp_alloc w103 (.cells #[.bool false, .slice none 0 0] 81))
            try simp only [sq]
            generalize hA8 : w103.heap.size = A8 at *
            generalize w103.alloc (.cells #[.bool false, .slice none 0 0] 81) = wn8 at *
            refine wpAnyL_on (i := 9) rfl (fun K hK => ?_)
            have st_c := NB7.cell
            have st_f := NB7.frozen
            have st_l := NB7.lt
            go_simp
            refine hK.out _ _ (stK2 (A := A7) (.bool b103) (.slice ao103 n103 c103) hS4 ge7) (fun hS5 => ?_)
            clear hK K
            have sfS : Sf 3 wn8 ((wn8.setCell ⟨A7, 0, none⟩ (.bool b103)).setCell ⟨A7, 1, none⟩ (.slice ao103 n103 c103)) := (stS2 (E := 3) (.bool b103) (.slice ao103 n103 c103) NB7 (by decide))
            replace hv103 := hv103.soft sfS
            replace hu103 := hu103.soft sfS
            replace NB8 := (Blk.other (c := A7) (o := 1) (y := .slice ao103 n103 c103) (Blk.other (c := A7) (o := 0) (y := .bool b103) NB8 (by omega)) (by omega))
            replace NB7 := (Blk.set (o := 1) (y := .slice ao103 n103 c103) (Blk.set (o := 0) (y := .bool b103) NB7))
            clear sfS st_c st_f st_l
            try simp only [sq]
            generalize ((wn8.setCell ⟨A7, 0, none⟩ (.bool b103)).setCell ⟨A7, 1, none⟩ (.slice ao103 n103 c103)) = wt9 at *
            simp only [List.setIfInBounds_toArray, List.set_cons_zero, List.set_cons_succ] at NB7
            have st_c := NB8.cell
            have st_f := NB8.frozen
            have st_l := NB8.lt
            refine wpAnyL_last (i := 10) rfl (by kernel_rfl) (by kernel_rfl) (by kernel_rfl) (fun K hK => ?_)
            go_simp
            refine hK.out _ _ ?_
            clear hK K
            go_wp2_with fail
            go_meet
            case rel => exact ⟨A7, b103, ao103, n103, c103, A8, b103x, ao103x, n103x, c103x, rfl, rfl, (by omega), (by omega), (ot2 (A := A8) (.bool b103x) (.slice ao103x n103x c103x) NB7 (by omega)), hv103.soft (sf2 (E := 3) (.bool b103x) (.slice ao103x n103x c103x) NB8 (by decide)), (by omega), (bl2 (.bool b103x) (.slice ao103x n103x c103x) NB8), hu103.soft (sf2 (E := 3) (.bool b103x) (.slice ao103x n103x c103x) NB8 (by decide)), (kp2 (A := A8) (.bool b103x) (.slice ao103x n103x c103x) hS5 (by omega))⟩
           refine AllReadyL.cons rfl (fun K hK => ?_) ?_
           ·go_simp
            refine hK.out _ _ (Kp.alloc' hS2 (.cells #[.bool false, .slice none 0 0] 81)) (fun hS3 => ?_)
            clear hK K
            have NB8 : Blk (w101.alloc (.cells #[.bool false, .slice none 0 0] 81)) w101.heap.size #[.bool false, .slice none 0 0] 81 := Blk.new w101 _ _
            have ge8 : x14.heap.size ≤ w101.heap.size := hS2.size
            have ne7x8 : A7 ≠ w101.heap.size := by have := NB7.lt; omega
            replace NB7 := NB7.keep (kp_alloc w101 (.cells #[.bool false, .slice none 0 0] 81))
            replace hv101 := hv101.keep (kp_alloc w101 (.cells #[.bool false, .slice none 0 0] 81))
            try simp only [sq]
            generalize hA8 : w101.heap.size = A8 at *
            generalize w101.alloc (.cells #[.bool false, .slice none 0 0] 81) = wn8 at *
            refine wpAnyL_on (i := 3) rfl (fun K hK => ?_)
            go_simp
            refine (rdiv_any (zc.natAbs : Int) g 40 _ _ _ hv101 (hg.keep hS3) (by omega) g0 (by decide) fc.abs fg).mono ?_
            rintro e w103 ⟨v103, u103x, rfl, hv103, hu103, hk103⟩
            obtain ⟨b103, ao103, n103, c103, rfl⟩ := hv103.shape'
            obtain ⟨b103x, ao103x, n103x, c103x, rfl⟩ := hu103.shape'
            replace NB7 := NB7.keep hk103
            replace NB8 := NB8.keep hk103
            go_wp2_with fail
            refine hK.out _ _ (hS3.trans' hk103) (fun hS4 => ?_)
            clear hK K
            refine wpAnyL_tk (i := 4) (k := 5) (v := .tuple #[.agg #[.bool b103, .slice ao103 n103 c103], .agg #[.bool b103x, .slice ao103x n103x c103x]]) rfl ?_ hS4 ?_
            ·intro w' hw'; go_simp
            simp only [sq]
            refine wpAnyL_tk (i := 5) (k := 9) (v := .agg #[.bool b103, .slice ao103 n103 c103]) rfl ?_ hS4 ?_
            ·intro w' hw'; go_simp
            simp only [sq]
            refine wpAnyL_tk (i := 6) (k := 10) (v := .agg #[.bool b103x, .slice ao103x n103x c103x]) rfl ?_ hS4 ?_
            ·intro w' hw'; go_simp
            simp only [sq]
            refine wpAnyL_on (i := 9) rfl (fun K hK => ?_)
            have st_c := NB7.cell
            have st_f := NB7.frozen
            have st_l := NB7.lt
            go_simp
            refine hK.out _ _ (stK2 (A := A7) (.bool b103) (.slice ao103 n103 c103) hS4 ge7) (fun hS5 => ?_)
            clear hK K
            have sfS : Sf 3 w103 ((w103.setCell ⟨A7, 0, none⟩ (.bool b103)).setCell ⟨A7, 1, none⟩ (.slice ao103 n103 c103)) := (stS2 (E := 3) (.bool b103) (.slice ao103 n103 c103) NB7 (by decide))
            replace NB8 := (Blk.other (c := A7) (o := 1) (y := .slice ao103 n103 c103) (Blk.other (c := A7) (o := 0) (y := .bool b103) NB8 (by omega)) (by omega))
            replace hv103 := hv103.soft sfS
            replace hu103 := hu103.soft sfS
            replace NB7 := (Blk.set (o := 1) (y := .slice ao103 n103 c103) (Blk.set (o := 0) (y := .bool b103) NB7))
            clear sfS st_c st_f st_l
            try simp only [sq]
            generalize ((w103.setCell ⟨A7, 0, none⟩ (.bool b103)).setCell ⟨A7, 1, none⟩ (.slice ao103 n103 c103)) = wt9 at *
            simp only [List.setIfInBounds_toArray, List.set_cons_zero, List.set_cons_succ] at NB7
            have st_c := NB8.cell
            have st_f := NB8.frozen
            have st_l := NB8.lt
            refine wpAnyL_last (i := 10) rfl (by kernel_rfl) (by kernel_rfl) (by kernel_rfl) (fun K hK => ?_)
            go_simp
            refine hK.out _ _ ?_
            clear hK K
            go_wp2_with fail
            go_meet
            case rel => exact ⟨A7, b103, ao103, n103, c103, A8, b103x, ao103x, n103x, c103x, rfl, rfl, (by omega), (by omega), (ot2 (A := A8) (.bool b103x) (.slice ao103x n103x c103x) NB7 (by omega)), hv103.soft (sf2 (E := 3) (.bool b103x) (.slice ao103x n103x c103x) NB8 (by decide)), (by omega), (bl2 (.bool b103x) (.slice ao103x n103x c103x) NB8), hu103.soft (sf2 (E := 3) (.bool b103x) (.slice ao103x n103x c103x) NB8 (by decide)), (kp2 (A := A8) (.bool b103x) (.slice ao103x n103x c103x) hS5 (by omega))⟩
           exact AllReadyL.nil
          refine AllReadyL.cons rfl (fun K hK => ?_) ?_
          ·go_simp
           refine hK.out _ _ (Kp.alloc' hS1 (.cells #[.bool false, .slice none 0 0] 81)) (fun hS2 => ?_)
           clear hK K
           have NB8 : Blk (wn7.alloc (.cells #[.bool false, .slice none 0 0] 81)) wn7.heap.size #[.bool false, .slice none 0 0] 81 := Blk.new wn7 _ _
           have ge8 : x14.heap.size ≤ wn7.heap.size := hS1.size
           have ne7x8 : A7 ≠ wn7.heap.size := by have := NB7.lt; omega
           replace NB7 := NB7.keep (kp_alloc wn7 (.cells #[.bool false, .slice none 0 0] 81))
           try simp only [sq]
           generalize hA8 : wn7.heap.size = A8 at *
           generalize wn7.alloc (.cells #[.bool false, .slice none 0 0] 81) = wn8 at *
           refine wpAnyL_on (i := 1) rfl (fun K hK => ?_)
           go_simp
           refine (size_any zc _ _ (hzc.keep hS2)).mono ?_
           rintro e w101 ⟨v101, rfl, hv101, hk101⟩
           obtain ⟨b101, ao101, n101, c101, rfl⟩ := hv101.shape'
           replace NB7 := NB7.keep hk101
           replace NB8 := NB8.keep hk101
           go_wp2_with fail
           refine hK.out _ _ (hS2.trans' hk101) (fun hS3 => ?_)
           clear hK K
           refine wpAnyL_on (i := 3) rfl (fun K hK => ?_)
           go_simp
           refine (rdiv_any (zc.natAbs : Int) g 40 _ _ _ hv101 (hg.keep hS3) (by omega) g0 (by decide) fc.abs fg).mono ?_
           rintro e w103 ⟨v103, u103x, rfl, hv103, hu103, hk103⟩
           obtain ⟨b103, ao103, n103, c103, rfl⟩ := hv103.shape'
           obtain ⟨b103x, ao103x, n103x, c103x, rfl⟩ := hu103.shape'
           replace NB7 := NB7.keep hk103
           replace NB8 := NB8.keep hk103
           go_wp2_with fail
           refine hK.out _ _ (hS3.trans' hk103) (fun hS4 => ?_)
           clear hK K
           refine wpAnyL_tk (i := 4) (k := 5) (v := .tuple #[.agg #[.bool b103, .slice ao103 n103 c103], .agg #[.bool b103x, .slice ao103x n103x c103x]]) rfl ?_ hS4 ?_
           ·intro w' hw'; go_simp
           simp only [sq]
           refine wpAnyL_tk (i := 5) (k := 9) (v := .agg #[.bool b103, .slice ao103 n103 c103]) rfl ?_ hS4 ?_
           ·intro w' hw'; go_simp
           simp only [sq]
           refine wpAnyL_tk (i := 6) (k := 10) (v := .agg #[.bool b103x, .slice ao103x n103x c103x]) rfl ?_ hS4 ?_
           ·intro w' hw'; go_simp
           simp only [sq]
           refine wpAnyL_on (i := 9) rfl (fun K hK => ?_)
           have st_c := NB7.cell
           have st_f := NB7.frozen
           have st_l := NB7.lt
           go_simp
           refine hK.out _ _ (stK2 (A := A7) (.bool b103) (.slice ao103 n103 c103) hS4 ge7) (fun hS5 => ?_)
           clear hK K
           have sfS : Sf 3 w103 ((w103.setCell ⟨A7, 0, none⟩ (.bool b103)).setCell ⟨A7, 1, none⟩ (.slice ao103 n103 c103)) := (stS2 (E := 3) (.bool b103) (.slice ao103 n103 c103) NB7 (by decide))
           replace NB8 := (Blk.other (c := A7) (o := 1) (y := .slice ao103 n103 c103) (Blk.other (c := A7) (o := 0) (y := .bool b103) NB8 (by omega)) (by omega))
           replace hv103 := hv103.soft sfS
           replace hu103 := hu103.soft sfS
           replace NB7 := (Blk.set (o := 1) (y := .slice ao103 n103 c103) (Blk.set (o := 0) (y := .bool b103) NB7))
           clear sfS st_c st_f st_l
           try simp only [sq]
           generalize ((w103.setCell ⟨A7, 0, none⟩ (.bool b103)).setCell ⟨A7, 1, none⟩ (.slice ao103 n103 c103)) = wt9 at *
           simp only [List.setIfInBounds_toArray, List.set_cons_zero, List.set_cons_succ] at NB7
           have st_c := NB8.cell
           have st_f := NB8.frozen
           have st_l := NB8.lt
           refine wpAnyL_last (i := 10) rfl (by kernel_rfl) (by kernel_rfl) (by kernel_rfl) (fun K hK => ?_)
           go_simp
           refine hK.out _ _ ?_
           clear hK K
           go_wp2_with fail
           go_meet
           case rel => exact ⟨A7, b103, ao103, n103, c103, A8, b103x, ao103x, n103x, c103x, rfl, rfl, (by omega), (by omega), (ot2 (A := A8) (.bool b103x) (.slice ao103x n103x c103x) NB7 (by omega)), hv103.soft (sf2 (E := 3) (.bool b103x) (.slice ao103x n103x c103x) NB8 (by decide)), (by omega), (bl2 (.bool b103x) (.slice ao103x n103x c103x) NB8), hu103.soft (sf2 (E := 3) (.bool b103x) (.slice ao103x n103x c103x) NB8 (by decide)), (kp2 (A := A8) (.bool b103x) (.slice ao103x n103x c103x) hS5 (by omega))⟩
          exact AllReadyL.nil
         refine AllReadyL.cons rfl (fun K hK => ?_) ?_
         ·go_simp
          refine hK.out _ _ (Kp.alloc' hS0 (.cells #[.bool false, .slice none 0 0] 81)) (fun hS1 => ?_)
          clear hK K
          have NB8 : Blk (wd.alloc (.cells #[.bool false, .slice none 0 0] 81)) wd.heap.size #[.bool false, .slice none 0 0] 81 := Blk.new wd _ _
          have ge8 : x14.heap.size ≤ wd.heap.size := hS0.size
          try simp only [sq]
          generalize hA8 : wd.heap.size = A8 at *
          generalize wd.alloc (.cells #[.bool false, .slice none 0 0] 81) = wn8 at *
          refine wpAnyL_ready (rs := [1, 7]) (by kernel_rfl) (by simp) ?_
          refine AllReadyL.cons rfl (fun K hK => ?_) ?_
          ·go_simp
           refine (size_any zc _ _ (hzc.keep hS1)).mono ?_
           rintro e w101 ⟨v101, rfl, hv101, hk101⟩
           obtain ⟨b101, ao101, n101, c101, rfl⟩ := hv101.shape'
           replace NB8 := NB8.keep hk101
           go_wp2_with fail
           refine hK.out _ _ (hS1.trans' hk101) (fun hS2 => ?_)
           clear hK K
           refine wpAnyL_ready (rs := [3, 7]) (by kernel_rfl) (by simp) ?_
           refine AllReadyL.cons rfl (fun K hK => ?_) ?_
           ·go_simp
            refine (rdiv_any (zc.natAbs : Int) g 40 _ _ _ hv101 (hg.keep hS2) (by omega) g0 (by decide) fc.abs fg).mono ?_
            rintro e w103 ⟨v103, u103x, rfl, hv103, hu103, hk103⟩
            obtain ⟨b103, ao103, n103, c103, rfl⟩ := hv103.shape'
            obtain ⟨b103x, ao103x, n103x, c103x, rfl⟩ := hu103.shape'
            replace NB8 := NB8.keep hk103
            go_wp2_with fail
            refine hK.out _ _ (hS2.trans' hk103) (fun hS3 => ?_)
            clear hK K
            refine wpAnyL_tk (i := 4) (k := 5) (v := .tuple #[.agg #[.bool b103, .slice ao103 n103 c103], .agg #[.bool b103x, .slice ao103x n103x c103x]]) rfl ?_ hS3 ?_
            ·intro w' hw'; go_simp
            simp only [sq]
            refine wpAnyL_tk (i := 5) (k := 9) (v := .agg #[.bool b103, .slice ao103 n103 c103]) rfl ?_ hS3 ?_
            ·intro w' hw'; go_simp
            simp only [sq]
            refine wpAnyL_tk (i := 6) (k := 10) (v := .agg #[.bool b103x, .slice ao103x n103x c103x]) rfl ?_ hS3 ?_
            ·intro w' hw'; go_simp
            simp only [sq]
            refine wpAnyL_on (i := 7) rfl (fun K hK => ?_)
            go_simp
            refine hK.out _ _ (Kp.alloc' hS3 (.cells #[.bool false, .slice none 0 0] 81)) (fun hS4 => ?_)
            clear hK K
            have NB7 : Blk (w103.alloc (.cells #[.bool false, .slice none 0 0] 81)) w103.heap.size #[.bool false, .slice none 0 0] 81 := Blk.new w103 _ _
            have ge7 : x14.heap.size ≤ w103.heap.size := hS3.size
            have ne8x7 : A8 ≠ w103.heap.size := by have := NB8.lt; omega
            replace NB8 := NB8.keep (kp_alloc w103 (.cells #[.bool false, .slice none 0 0] 81))
            replace hv103 := hv103.keep (kp_alloc w103 (.cells #[.bool false, .slice none 0 0] 81))
            replace hu103 := hu103.keep (kp_alloc w103 (.cells #[.bool false, .slice none 0 0] 81))
            try simp only [sq]
            generalize hA7 : w103.heap.size = A7 at *
            generalize w103.alloc (.cells #[.bool false, .slice none 0 0] 81) = wn7 at *
            refine wpAnyL_on (i := 9) rfl (fun K hK => ?_)
            have st_c := NB7.cell
            have st_f := NB7.frozen
            have st_l := NB7.lt
            go_simp
            refine hK.out _ _ (stK2 (A := A7) (.bool b103) (.slice ao103 n103 c103) hS4 ge7) (fun hS5 => ?_)
            clear hK K
            have sfS : Sf 3 wn7 ((wn7.setCell ⟨A7, 0, none⟩ (.bool b103)).setCell ⟨A7, 1, none⟩ (.slice ao103 n103 c103)) := (stS2 (E := 3) (.bool b103) (.slice ao103 n103 c103) NB7 (by decide))
            replace NB8 := (Blk.other (c := A7) (o := 1) (y := .slice ao103 n103 c103) (Blk.other (c := A7) (o := 0) (y := .bool b103) NB8 (by omega)) (by omega))
            replace hv103 := hv103.soft sfS
            replace hu103 := hu103.soft sfS
            replace NB7 := (Blk.set (o := 1) (y := .slice ao103 n103 c103) (Blk.set (o := 0) (y := .bool b103) NB7))
            clear sfS st_c st_f st_l
            try simp only [sq]
            generalize ((wn7.setCell ⟨A7, 0, none⟩ (.bool b103)).setCell ⟨A7, 1, none⟩ (.slice ao103 n103 c103)) = wt9 at *
            simp only [List.setIfInBounds_toArray, List.set_cons_zero, List.set_cons_succ] at NB7
            have st_c := NB8.cell
            have st_f := NB8.frozen
            have st_l := NB8.lt
            refine wpAnyL_last (i := 10) rfl (by kernel_rfl) (by kernel_rfl) (by kernel_rfl) (fun K hK => ?_)
            go_simp
            refine hK.out _ _ ?_
            clear hK K
            go_wp2_with fail
            go_meet
            case rel => exact ⟨A7, b103, ao103, n103, c103, A8, b103x, ao103x, n103x, c103x, rfl, rfl, (by omega), (by omega), (ot2 (A := A8) (.bool b103x) (.slice ao103x n103x c103x) NB7 (by omega)), hv103.soft (sf2 (E := 3) (.bool b103x) (.slice ao103x n103x c103x) NB8 (by decide)), (by omega), (bl2 (.bool b103x) (.slice ao103x n103x c103x) NB8), hu103.soft (sf2 (E := 3) (.bool b103x) (.slice ao103x n103x c103x) NB8 (by decide)), (kp2 (A := A8) (.bool b103x) (.slice ao103x n103x c103x) hS5 (by omega))⟩
           refine AllReadyL.cons rfl (fun K hK => ?_) ?_
           ·go_simp
            refine hK.out _ _ (Kp.alloc' hS2 (.cells #[.bool false, .slice none 0 0] 81)) (fun hS3 => ?_)
            clear hK K
            have NB7 : Blk (w101.alloc (.cells #[.bool false, .slice none 0 0] 81)) w101.heap.size #[.bool false, .slice none 0 0] 81 := Blk.new w101 _ _
            have ge7 : x14.heap.size ≤ w101.heap.size := hS2.size
            have ne8x7 : A8 ≠ w101.heap.size := by have := NB8.lt; omega
            replace NB8 := NB8.keep (kp_alloc w101 (.cells #[.bool false, .slice none 0 0] 81))
            replace hv101 := hv101.keep (kp_alloc w101 (.cells #[.bool false, .slice none 0 0] 81))
            try simp only [sq]
            generalize hA7 : w101.heap.size = A7 at *
            generalize w101.alloc (.cells #[.bool false, .slice none 0 0] 81) = wn7 at *
            refine wpAnyL_on (i := 3) rfl (fun K hK => ?_)
            go_simp
            refine (rdiv_any (zc.natAbs : Int) g 40 _ _ _ hv101 (hg.keep hS3) (by omega) g0 (by decide) fc.abs fg).mono ?_
            rintro e w103 ⟨v103, u103x, rfl, hv103, hu103, hk103⟩
            obtain ⟨b103, ao103, n103, c103, rfl⟩ := hv103.shape'
            obtain ⟨b103x, ao103x, n103x, c103x, rfl⟩ := hu103.shape'
            replace NB8 := NB8.keep hk103
            replace NB7 := NB7.keep hk103
            go_wp2_with fail
            refine hK.out _ _ (hS3.trans' hk103) (fun hS4 => ?_)
            clear hK K
            refine wpAnyL_tk (i := 4) (k := 5) (v := .tuple #[.agg #[.bool b103, .slice ao103 n103 c103], .agg #[.bool b103x, .slice ao103x n103x c103x]]) rfl ?_ hS4 ?_
            ·intro w' hw'; go_simp
            simp only [sq]
            refine wpAnyL_tk (i := 5) (k := 9) (v := .agg #[.bool b103, .slice ao103 n103 c103]) rfl ?_ hS4 ?_
            ·intro w' hw'; go_simp
            simp only [sq]
            refine wpAnyL_tk (i := 6) (k := 10) (v := .agg #[.bool b103x, .slice ao103x n103x c103x]) rfl ?_ hS4 ?_
            ·intro w' hw'; go_simp
            simp only [sq]
            refine wpAnyL_on (i := 9) rfl (fun K hK => ?_)
            have st_c := NB7.cell
            have st_f := NB7.frozen
            have st_l := NB7.lt
            go_simp
            refine hK.out _ _ (stK2 (A := A7) (.bool b103) (.slice ao103 n103 c103) hS4 ge7) (fun hS5 => ?_)
            clear hK K
            have sfS : Sf 3 w103 ((w103.setCell ⟨A7, 0, none⟩ (.bool b103)).setCell ⟨A7, 1, none⟩ (.slice ao103 n103 c103)) := (stS2 (E := 3) (.bool b103) (.slice ao103 n103 c103) NB7 (by decide))
            replace NB8 := (Blk.other (c := A7) (o := 1) (y := .slice ao103 n103 c103) (Blk.other (c := A7) (o := 0) (y := .bool b103) NB8 (by omega)) (by omega))
            replace hv103 := hv103.soft sfS
            replace hu103 := hu103.soft sfS
            replace NB7 := (Blk.set (o := 1) (y := .slice ao103 n103 c103) (Blk.set (o := 0) (y := .bool b103) NB7))
            clear sfS st_c st_f st_l
            try simp only [sq]
            generalize ((w103.setCell ⟨A7, 0, none⟩ (.bool b103)).setCell ⟨A7, 1, none⟩ (.slice ao103 n103 c103)) = wt9 at *
            simp only [List.setIfInBounds_toArray, List.set_cons_zero, List.set_cons_succ] at NB7
            have st_c := NB8.cell
            have st_f := NB8.frozen
            have st_l := NB8.lt
            refine wpAnyL_last (i := 10) rfl (by kernel_rfl) (by kernel_rfl) (by kernel_rfl) (fun K hK => ?_)
            go_simp
            refine hK.out _ _ ?_
            clear hK K
            go_wp2_with fail
            go_meet
            case rel => exact ⟨A7, b103, ao103, n103, c103, A8, b103x, ao103x, n103x, c103x, rfl, rfl, (by omega), (by omega), (ot2 (A := A8) (.bool b103x) (.slice ao103x n103x c103x) NB7 (by omega)), hv103.soft (sf2 (E := 3) (.bool b103x) (.slice ao103x n103x c103x) NB8 (by decide)), (by omega), (bl2 (.bool b103x) (.slice ao103x n103x c103x) NB8), hu103.soft (sf2 (E := 3) (.bool b103x) (.slice ao103x n103x c103x) NB8 (by decide)), (kp2 (A := A8) (.bool b103x) (.slice ao103x n103x c103x) hS5 (by omega))⟩
           exact AllReadyL.nil
          refine AllReadyL.cons rfl (fun K hK => ?_) ?_
          ·go_simp
           refine hK.out _ _ (Kp.alloc' hS1 (.cells #[.bool false, .slice none 0 0] 81)) (fun hS2 => ?_)
           clear hK K
           have NB7 : Blk (wn8.alloc (.cells #[.bool false, .slice none 0 0] 81)) wn8.heap.size #[.bool false, .slice none 0 0] 81 := Blk.new wn8 _ _
           have ge7 : x14.heap.size ≤ wn8.heap.size := hS1.size
           have ne8x7 : A8 ≠ wn8.heap.size := by have := NB8.lt; omega
           replace NB8 := NB8.keep (kp_alloc wn8 (.cells #[.bool false, .slice none 0 0] 81))
           try simp only [sq]
           generalize hA7 : wn8.heap.size = A7 at *
           generalize wn8.alloc (.cells #[.bool false, .slice none 0 0] 81) = wn7 at *
           refine wpAnyL_on (i := 1) rfl (fun K hK => ?_)
           go_simp
           refine (size_any zc _ _ (hzc.keep hS2)).mono ?_
           rintro e w101 ⟨v101, rfl, hv101, hk101⟩
           obtain ⟨b101, ao101, n101, c101, rfl⟩ := hv101.shape'
           replace NB8 := NB8.keep hk101
           replace NB7 := NB7.keep hk101
           go_wp2_with fail
           refine hK.out _ _ (hS2.trans' hk101) (fun hS3 => ?_)
           clear hK K
           refine wpAnyL_on (i := 3) rfl (fun K hK => ?_)
           go_simp
           refine (rdiv_any (zc.natAbs : Int) g 40 _ _ _ hv101 (hg.keep hS3) (by omega) g0 (by decide) fc.abs fg).mono ?_
           rintro e w103 ⟨v103, u103x, rfl, hv103, hu103, hk103⟩
           obtain ⟨b103, ao103, n103, c103, rfl⟩ := hv103.shape'
           obtain ⟨b103x, ao103x, n103x, c103x, rfl⟩ := hu103.shape'
           replace NB8 := NB8.keep hk103
           replace NB7 := NB7.keep hk103
           go_wp2_with fail
           refine hK.out _ _ (hS3.trans' hk103) (fun hS4 => ?_)
           clear hK K
           refine wpAnyL_tk (i := 4) (k := 5) (v := .tuple #[.agg #[.bool b103, .slice ao103 n103 c103], .agg #[.bool b103x, .slice ao103x n103x c103x]]) rfl ?_ hS4 ?_
           ·intro w' hw'; go_simp
           simp only [sq]
           refine wpAnyL_tk (i := 5) (k := 9) (v := .agg #[.bool b103, .slice ao103 n103 c103]) rfl ?_ hS4 ?_
           ·intro w' hw'; go_simp
           simp only [sq]
           refine wpAnyL_tk (i := 6) (k := 10) (v := .agg #[.bool b103x, .slice ao103x n103x c103x]) rfl ?_ hS4 ?_
           ·intro w' hw'; go_simp
           simp only [sq]
           refine wpAnyL_on (i := 9) rfl (fun K hK => ?_)
           have st_c := NB7.cell
           have st_f := NB7.frozen
           have st_l := NB7.lt
           go_simp
           refine hK.out _ _ (stK2 (A := A7) (.bool b103) (.slice ao103 n103 c103) hS4 ge7) (fun hS5 => ?_)
           clear hK K
           have sfS : Sf 3 w103 ((w103.setCell ⟨A7, 0, none⟩ (.bool b103)).setCell ⟨A7, 1, none⟩ (.slice ao103 n103 c103)) := (stS2 (E := 3) (.bool b103) (.slice ao103 n103 c103) NB7 (by decide))
           replace NB8 := (Blk.other (c := A7) (o := 1) (y := .slice ao103 n103 c103) (Blk.other (c := A7) (o := 0) (y := .bool b103) NB8 (by omega)) (by omega))
           replace hv103 := hv103.soft sfS
           replace hu103 := hu103.soft sfS
           replace NB7 := (Blk.set (o := 1) (y := .slice ao103 n103 c103) (Blk.set (o := 0) (y := .bool b103) NB7))
           clear sfS st_c st_f st_l
           try simp only [sq]
           generalize ((w103.setCell ⟨A7, 0, none⟩ (.bool b103)).setCell ⟨A7, 1, none⟩ (.slice ao103 n103 c103)) = wt9 at *
           simp only [List.setIfInBounds_toArray, List.set_cons_zero, List.set_cons_succ] at NB7
           have st_c := NB8.cell
           have st_f := NB8.frozen
           have st_l := NB8.lt
           refine wpAnyL_last (i := 10) rfl (by kernel_rfl) (by kernel_rfl) (by kernel_rfl) (fun K hK => ?_)
           go_simp
           refine hK.out _ _ ?_
           clear hK K
           go_wp2_with fail
           go_meet
           case rel => exact ⟨A7, b103, ao103, n103, c103, A8, b103x, ao103x, n103x, c103x, rfl, rfl, (by omega), (by omega), (ot2 (A := A8) (.bool b103x) (.slice ao103x n103x c103x) NB7 (by omega)), hv103.soft (sf2 (E := 3) (.bool b103x) (.slice ao103x n103x c103x) NB8 (by decide)), (by omega), (bl2 (.bool b103x) (.slice ao103x n103x c103x) NB8), hu103.soft (sf2 (E := 3) (.bool b103x) (.slice ao103x n103x c103x) NB8 (by decide)), (kp2 (A := A8) (.bool b103x) (.slice ao103x n103x c103x) hS5 (by omega))⟩
          exact AllReadyL.nil
         exact AllReadyL.nil
       case rest =>
        as_aux_lemma =>
         obtain ⟨At, b5, ao5, n5, c5, Af, b6, ao6, n6, c6, rfl, rfl, neq, get, Bt, ht, gef, Bf, hf, hkc⟩ := hcut
         replace Ba := Ba.keep hkc
         replace Bb := Bb.keep hkc
         replace Bc := Bc.keep hkc
         replace Bg := Bg.keep hkc
         replace hza := hza.keep hkc
         replace hzb := hzb.keep hkc
         replace hzc := hzc.keep hkc
         replace hg := hg.keep hkc
         replace hkw := hkw.trans' hkc
         have neat : Aa ≠ At := by omega
         have nebt : Ab ≠ At := by omega
         have nect : Ac ≠ At := by omega
         have negt : Ag ≠ At := by omega
         have neaf : Aa ≠ Af := by omega
         have nebf : Ab ≠ Af := by omega
         have necf : Ac ≠ Af := by omega
         have negf : Ag ≠ Af := by omega
         have gw1 : ∀ A : Nat, x14.heap.size ≤ A → w.heap.size ≤ A := fun A hA => Nat.le_trans hkb hA
         have gwt := gw1 _ get
         have gwf := gw1 _ gef
         clear hkc gw1 hkb ltaz ltbz ltcz ltgz get gef
         have hkb := hkw.size
         generalize wc = y1 at *
         have ftt : Ft 40 ((zc.natAbs : Int) / g) := fc.abs.le (by
          have k1 := Int.ediv_nonneg (show (0 : Int) ≤ (zc.natAbs : Int) by omega) (Int.le_of_lt g0)
          have k2 := Int.ediv_le_self g (show (0 : Int) ≤ (zc.natAbs : Int) by omega)
          omega)
         have lnf := hf.len
         have fc1 := Bf.cell
         have fl1 := Bf.lt
         by_cases hl : (zc.natAbs : Int) % g = 0
         ·skip
          have e6 : n6 = 0 := lnf.1.2 hl
          subst e6
          replace HLR := Hid.mk (fun x y hp => HLR.out x y hp hl)
          clear HNO hl lnf
          go_wp2_with fail
          clear fc1 fl1
          clear Bf hf
          generalize (zc.natAbs : Int) / g = t at *
          have ltaz := Ba.lt
          have ltbz := Bb.lt
          have ltcz := Bc.lt
          have ltgz := Bg.lt
          have lttz := Bt.lt
          go_cut [18, 19] from 89 (fun p18 _ wx => ∃ (qx : Nat) (b7 : Bool) (ao7 : Option Addr) (n7 c7 : Nat) (xx yy : Int), p18 = .pointer (some ⟨qx, 0, none⟩) ∧ y1.heap.size ≤ qx ∧ Blk wx qx #[.bool b7, .slice ao7 n7 c7] 81 ∧ IN wx (.agg #[.bool b7, .slice ao7 n7 c7]) xx ∧ Hid (PairOk (za.natAbs : Int) (zb.natAbs : Int) xx yy) ∧ Kp y1 wx)
          case first =>
           as_aux_lemma =>
            try clear hkw; try clear hkb; try clear HNZ; try clear Hza; try clear Hzb; try clear Hzc; try clear h1; try clear h2; try clear h3; try clear lnb; try clear HNO; try clear HLR; try clear HGP; try clear HX; try clear HX2; try clear HM; try clear e2; try clear ltaz; try clear ltbz; try clear ltcz; try clear ltgz; try clear lttz; try clear hzc; try clear hg; try clear ht; try clear Bc; try clear Bg; try clear Bt
            refine wp_region_l (S := fun w' => Kp y1 w') (by kernel_rfl) (Kp.drew' (Below.refl _ _)) (fun hS0 => ?_)
            generalize y1.drew = wd at *
            refine wpAnyL_tk (i := 0) (k := 1) (v := .agg #[.bool b1, .slice ao1 n1 c1]) rfl ?_ hS0 ?_
            ·intro w' hw'; have hc := ((Ba).keep hw').cell; go_simp
            simp only [sq]
            refine wpAnyL_tk (i := 2) (k := 3) (v := .agg #[.bool b2, .slice ao2 n2 c2]) rfl ?_ hS0 ?_
            ·intro w' hw'; have hc := ((Bb).keep hw').cell; go_simp
            simp only [sq]
            refine wpAnyL_ready (rs := [1, 8, 9]) (by kernel_rfl) (by simp) ?_
            refine AllReadyL.cons rfl (fun K hK => ?_) ?_
            ·go_simp
             refine (size_any za _ _ (hza.keep hS0)).mono ?_
             rintro e w101 ⟨v101, rfl, hv101, hk101⟩
             obtain ⟨b101, ao101, n101, c101, rfl⟩ := hv101.shape'
             go_wp2_with fail
             refine hK.out _ _ (hS0.trans' hk101) (fun hS1 => ?_)
             clear hK K
             refine wpAnyL_ready (rs := [3, 8, 9]) (by kernel_rfl) (by simp) ?_
             refine AllReadyL.cons rfl (fun K hK => ?_) ?_
             ·go_simp
              refine (size_any zb _ _ (hzb.keep hS1)).mono ?_
              rintro e w103 ⟨v103, rfl, hv103, hk103⟩
              obtain ⟨b103, ao103, n103, c103, rfl⟩ := hv103.shape'
              replace hv101 := hv101.keep hk103
              go_wp2_with fail
              refine hK.out _ _ (hS1.trans' hk103) (fun hS2 => ?_)
              clear hK K
              refine wpAnyL_ready (rs := [4, 8, 9]) (by kernel_rfl) (by simp) ?_
              refine AllReadyL.cons rfl (fun K hK => ?_) ?_
              ·go_simp
               refine (pair_any _ (za.natAbs : Int) (zb.natAbs : Int) 40 _ _ _ (Nat.le_refl _) hv101 hv103 (by omega) (by omega) (by decide) (by decide) fa.abs fb.abs).mono ?_
               rintro e w104 ⟨v104, u104x, xx, yy, rfl, hv104, hu104, HPP, hk104⟩
               obtain ⟨b104, ao104, n104, c104, rfl⟩ := hv104.shape'
               obtain ⟨b104x, ao104x, n104x, c104x, rfl⟩ := hu104.shape'
               go_wp2_with fail
               refine hK.out _ _ (hS2.trans' hk104) (fun hS3 => ?_)
               clear hK K
               refine wpAnyL_tk (i := 5) (k := 6) (v := .tuple #[.agg #[.bool b104, .slice ao104 n104 c104], .agg #[.bool b104x, .slice ao104x n104x c104x]]) rfl ?_ hS3 ?_
               ·intro w' hw'; go_simp
               simp only [sq]
               refine wpAnyL_tk (i := 6) (k := 10) (v := .agg #[.bool b104, .slice ao104 n104 c104]) rfl ?_ hS3 ?_
               ·intro w' hw'; go_simp
               simp only [sq]
               refine wpAnyL_tk (i := 7) (k := 11) (v := .agg #[.bool b104x, .slice ao104x n104x c104x]) rfl ?_ hS3 ?_
               ·intro w' hw'; go_simp
               simp only [sq]
               refine wpAnyL_ready (rs := [8, 9]) (by kernel_rfl) (by simp) ?_
               refine AllReadyL.cons rfl (fun K hK => ?_) ?_
               ·go_simp
                refine hK.out _ _ (Kp.alloc' hS3 (.cells #[.bool false, .slice none 0 0] 81)) (fun hS4 => ?_)
                clear hK K
                have NB8 : Blk (w104.alloc (.cells #[.bool false, .slice none 0 0] 81)) w104.heap.size #[.bool false, .slice none 0 0] 81 := Blk.new w104 _ _
                have ge8 : y1.heap.size ≤ w104.heap.size := hS3.size
                replace hv104 := hv104.keep (kp_alloc w104 (.cells #[.bool false, .slice none 0 0] 81))
                replace hu104 := hu104.keep (kp_alloc w104 (.cells #[.bool false, .slice none 0 0] 81))
                try simp only [sq]
                generalize hA8 : w104.heap.size = A8 at *
                generalize w104.alloc (.cells #[.bool false, .slice none 0 0] 81) = wn8 at *
                refine wpAnyL_on (i := 9) rfl (fun K hK => ?_)
                go_simp
                refine hK.out _ _ (Kp.alloc' hS4 (.cells #[.bool false, .slice none 0 0] 81)) (fun hS5 => ?_)
                clear hK K
                have NB9 : Blk (wn8.alloc (.cells #[.bool false, .slice none 0 0] 81)) wn8.heap.size #[.bool false, .slice none 0 0] 81 := Blk.new wn8 _ _
                have ge9 : y1.heap.size ≤ wn8.heap.size := hS4.size
                have ne8x9 : A8 ≠ wn8.heap.size := by have := NB8.lt; omega
                replace hv104 := hv104.keep (kp_alloc wn8 (.cells #[.bool false, .slice none 0 0] 81))
                replace hu104 := hu104.keep (kp_alloc wn8 (.cells #[.bool false, .slice none 0 0] 81))
                replace NB8 := NB8.keep (kp_alloc wn8 (.cells #[.bool false, .slice none 0 0] 81))
                try simp only [sq]
                generalize hA9 : wn8.heap.size = A9 at *
                generalize wn8.alloc (.cells #[.bool false, .slice none 0 0] 81) = wn9 at *
                refine wpAnyL_on (i := 10) rfl (fun K hK => ?_)
                have st_c := NB8.cell
                have st_f := NB8.frozen
                have st_l := NB8.lt
                go_simp
                refine hK.out _ _ (stK2 (A := A8) (.bool b104) (.slice ao104 n104 c104) hS5 ge8) (fun hS6 => ?_)
                clear hK K
                have sfS : Sf 3 wn9 ((wn9.setCell ⟨A8, 0, none⟩ (.bool b104)).setCell ⟨A8, 1, none⟩ (.slice ao104 n104 c104)) := (stS2 (E := 3) (.bool b104) (.slice ao104 n104 c104) NB8 (by decide))
                replace hv104 := hv104.soft sfS
                replace hu104 := hu104.soft sfS
                replace NB9 := (Blk.other (c := A8) (o := 1) (y := .slice ao104 n104 c104) (Blk.other (c := A8) (o := 0) (y := .bool b104) NB9 (by omega)) (by omega))
                replace NB8 := (Blk.set (o := 1) (y := .slice ao104 n104 c104) (Blk.set (o := 0) (y := .bool b104) NB8))
                clear sfS st_c st_f st_l
                try simp only [sq]
                generalize ((wn9.setCell ⟨A8, 0, none⟩ (.bool b104)).setCell ⟨A8, 1, none⟩ (.slice ao104 n104 c104)) = wt10 at *
                simp only [List.setIfInBounds_toArray, List.set_cons_zero, List.set_cons_succ] at NB8
                have st_c := NB9.cell
                have st_f := NB9.frozen
                have st_l := NB9.lt
                refine wpAnyL_last (i := 11) rfl (by kernel_rfl) (by kernel_rfl) (by kernel_rfl) (fun K hK => ?_)
                go_simp
                refine hK.out _ _ ?_
                clear hK K
                go_wp2_with fail
                go_meet
                case rel => exact ⟨A8, b104, ao104, n104, c104, xx, yy, rfl, (by omega), (ot2 (A := A9) (.bool b104x) (.slice ao104x n104x c104x) NB8 (by omega)), hv104.soft (sf2 (E := 3) (.bool b104x) (.slice ao104x n104x c104x) NB9 (by decide)), HPP, (kp2 (A := A9) (.bool b104x) (.slice ao104x n104x c104x) hS6 (by omega))⟩
               refine AllReadyL.cons rfl (fun K hK => ?_) ?_
               ·go_simp
                refine hK.out _ _ (Kp.alloc' hS3 (.cells #[.bool false, .slice none 0 0] 81)) (fun hS4 => ?_)
                clear hK K
                have NB9 : Blk (w104.alloc (.cells #[.bool false, .slice none 0 0] 81)) w104.heap.size #[.bool false, .slice none 0 0] 81 := Blk.new w104 _ _
                have ge9 : y1.heap.size ≤ w104.heap.size := hS3.size
                replace hv104 := hv104.keep (kp_alloc w104 (.cells #[.bool false, .slice none 0 0] 81))
                replace hu104 := hu104.keep (kp_alloc w104 (.cells #[.bool false, .slice none 0 0] 81))
                try simp only [sq]
                generalize hA9 : w104.heap.size = A9 at *
                generalize w104.alloc (.cells #[.bool false, .slice none 0 0] 81) = wn9 at *
                refine wpAnyL_on (i := 8) rfl (fun K hK => ?_)
                go_simp
                refine hK.out _ _ (Kp.alloc' hS4 (.cells #[.bool false, .slice none 0 0] 81)) (fun hS5 => ?_)
                clear hK K
                have NB8 : Blk (wn9.alloc (.cells #[.bool false, .slice none 0 0] 81)) wn9.heap.size #[.bool false, .slice none 0 0] 81 := Blk.new wn9 _ _
                have ge8 : y1.heap.size ≤ wn9.heap.size := hS4.size
                have ne9x8 : A9 ≠ wn9.heap.size := by have := NB9.lt; omega
                replace hv104 := hv104.keep (kp_alloc wn9 (.cells #[.bool false, .slice none 0 0] 81))
                replace hu104 := hu104.keep (kp_alloc wn9 (.cells #[.bool false, .slice none 0 0] 81))
                replace NB9 := NB9.keep (kp_alloc wn9 (.cells #[.bool false, .slice none 0 0] 81))
                try simp only [sq]
                generalize hA8 : wn9.heap.size = A8 at *
                generalize wn9.alloc (.cells #[.bool false, .slice none 0 0] 81) = wn8 at *
                refine wpAnyL_on (i := 10) rfl (fun K hK => ?_)
                have st_c := NB8.cell
                have st_f := NB8.frozen
                have st_l := NB8.lt
                go_simp
                refine hK.out _ _ (stK2 (A := A8) (.bool b104) (.slice ao104 n104 c104) hS5 ge8) (fun hS6 => ?_)
                clear hK K
                have sfS : Sf 3 wn8 ((wn8.setCell ⟨A8, 0, none⟩ (.bool b104)).setCell ⟨A8, 1, none⟩ (.slice ao104 n104 c104)) := (stS2 (E := 3) (.bool b104) (.slice ao104 n104 c104) NB8 (by decide))
                replace hv104 := hv104.soft sfS
                replace hu104 := hu104.soft sfS
                replace NB9 := (Blk.other (c := A8) (o := 1) (y := .slice ao104 n104 c104) (Blk.other (c := A8) (o := 0) (y := .bool b104) NB9 (by omega)) (by omega))
                replace NB8 := (Blk.set (o := 1) (y := .slice ao104 n104 c104) (Blk.set (o := 0) (y := .bool b104) NB8))
                clear sfS st_c st_f st_l
                try simp only [sq]
                generalize ((wn8.setCell ⟨A8, 0, none⟩ (.bool b104)).setCell ⟨A8, 1, none⟩ (.slice ao104 n104 c104)) = wt10 at *
                simp only [List.setIfInBounds_toArray, List.set_cons_zero, List.set_cons_succ] at NB8
                have st_c := NB9.cell
                have st_f := NB9.frozen
                have st_l := NB9.lt
                refine wpAnyL_last (i := 11) rfl (by kernel_rfl) (by kernel_rfl) (by kernel_rfl) (fun K hK => ?_)
                go_simp
                refine hK.out _ _ ?_
                clear hK K
                go_wp2_with fail
                go_meet
                case rel => exact ⟨A8, b104, ao104, n104, c104, xx, yy, rfl, (by omega), (ot2 (A := A9) (.bool b104x) (.slice ao104x n104x c104x) NB8 (by omega)), hv104.soft (sf2 (E := 3) (.bool b104x) (.slice ao104x n104x c104x) NB9 (by decide)), HPP, (kp2 (A := A9) (.bool b104x) (.slice ao104x n104x c104x) hS6 (by omega))⟩
               exact AllReadyL.nil
              refine AllReadyL.cons rfl (fun K hK => ?_) ?_
              ·go_simp
               refine hK.out _ _ (Kp.alloc' hS2 (.cells #[.bool false, .slice none 0 0] 81)) (fun hS3 => ?_)
               clear hK K
               have NB8 : Blk (w103.alloc (.cells #[.bool false, .slice none 0 0] 81)) w103.heap.size #[.bool false, .slice none 0 0] 81 := Blk.new w103 _ _
               have ge8 : y1.heap.size ≤ w103.heap.size := hS2.size
               replace hv101 := hv101.keep (kp_alloc w103 (.cells #[.bool false, .slice none 0 0] 81))
               replace hv103 := hv103.keep (kp_alloc w103 (.cells #[.bool false, .slice none 0 0] 81))
               try simp only [sq]
               generalize hA8 : w103.heap.size = A8 at *
               generalize w103.alloc (.cells #[.bool false, .slice none 0 0] 81) = wn8 at *
               refine wpAnyL_ready (rs := [4, 9]) (by kernel_rfl) (by simp) ?_
               refine AllReadyL.cons rfl (fun K hK => ?_) ?_
               ·go_simp
                refine (pair_any _ (za.natAbs : Int) (zb.natAbs : Int) 40 _ _ _ (Nat.le_refl _) hv101 hv103 (by omega) (by omega) (by decide) (by decide) fa.abs fb.abs).mono ?_
                rintro e w104 ⟨v104, u104x, xx, yy, rfl, hv104, hu104, HPP, hk104⟩
                obtain ⟨b104, ao104, n104, c104, rfl⟩ := hv104.shape'
                obtain ⟨b104x, ao104x, n104x, c104x, rfl⟩ := hu104.shape'
                replace NB8 := NB8.keep hk104
                go_wp2_with fail
                refine hK.out _ _ (hS3.trans' hk104) (fun hS4 => ?_)
                clear hK K
                refine wpAnyL_tk (i := 5) (k := 6) (v := .tuple #[.agg #[.bool b104, .slice ao104 n104 c104], .agg #[.bool b104x, .slice ao104x n104x c104x]]) rfl ?_ hS4 ?_
                ·intro w' hw'; go_simp
                simp only [sq]
                refine wpAnyL_tk (i := 6) (k := 10) (v := .agg #[.bool b104, .slice ao104 n104 c104]) rfl ?_ hS4 ?_
                ·intro w' hw'; go_simp
                simp only [sq]
                refine wpAnyL_tk (i := 7) (k := 11) (v := .agg #[.bool b104x, .slice ao104x n104x c104x]) rfl ?_ hS4 ?_
                ·intro w' hw'; go_simp
                simp only [sq]
                refine wpAnyL_on (i := 9) rfl (fun K hK => ?_)
                go_simp
                refine hK.out _ _ (Kp.alloc' hS4 (.cells #[.bool false, .slice none 0 0] 81)) (fun hS5 => ?_)
                clear hK K
                have NB9 : Blk (w104.alloc (.cells #[.bool false, .slice none 0 0] 81)) w104.heap.size #[.bool false, .slice none 0 0] 81 := Blk.new w104 _ _
                have ge9 : y1.heap.size ≤ w104.heap.size := hS4.size
                have ne8x9 : A8 ≠ w104.heap.size := by have := NB8.lt; omega
                replace NB8 := NB8.keep (kp_alloc w104 (.cells #[.bool false, .slice none 0 0] 81))
                replace hv104 := hv104.keep (kp_alloc w104 (.cells #[.bool false, .slice none 0 0] 81))
                replace hu104 := hu104.keep (kp_alloc w104 (.cells #[.bool false, .slice none 0 0] 81))
                try simp only [sq]
                generalize hA9 : w104.heap.size = A9 at *
                generalize w104.alloc (.cells #[.bool false, .slice none 0 0] 81) = wn9 at *
                refine wpAnyL_on (i := 10) rfl (fun K hK => ?_)
                have st_c := NB8.cell
                have st_f := NB8.frozen
                have st_l := NB8.lt
                go_simp
                refine hK.out _ _ (stK2 (A := A8) (.bool b104) (.slice ao104 n104 c104) hS5 ge8) (fun hS6 => ?_)
                clear hK K
                have sfS : Sf 3 wn9 ((wn9.setCell ⟨A8, 0, none⟩ (.bool b104)).setCell ⟨A8, 1, none⟩ (.slice ao104 n104 c104)) := (stS2 (E := 3) (.bool b104) (.slice ao104 n104 c104) NB8 (by decide))
                replace hv104 := hv104.soft sfS
                replace hu104 := hu104.soft sfS
                replace NB9 := (Blk.other (c := A8) (o := 1) (y := .slice ao104 n104 c104) (Blk.other (c := A8) (o := 0) (y := .bool b104) NB9 (by omega)) (by omega))
                replace NB8 := (Blk.set (o := 1) (y := .slice ao104 n104 c104) (Blk.set (o := 0) (y := .bool b104) NB8))
                clear sfS st_c st_f st_l
                try simp only [sq]
                generalize ((wn9.setCell ⟨A8, 0, none⟩ (.bool b104)).setCell ⟨A8, 1, none⟩ (.slice ao104 n104 c104)) = wt10 at *
                simp only [List.setIfInBounds_toArray, List.set_cons_zero, List.set_cons_succ] at NB8
                have st_c := NB9.cell
                have st_f := NB9.frozen
                have st_l := NB9.lt
                refine wpAnyL_last (i := 11) rfl (by kernel_rfl) (by kernel_rfl) (by kernel_rfl) (fun K hK => ?_)
                go_simp
                refine hK.out _ _ ?_
                clear hK K
                go_wp2_with fail
                go_meet
                case rel => exact ⟨A8, b104, ao104, n104, c104, xx, yy, rfl, (by omega), (ot2 (A := A9) (.bool b104x) (.slice ao104x n104x c104x) NB8 (by omega)), hv104.soft (sf2 (E := 3) (.bool b104x) (.slice ao104x n104x c104x) NB9 (by decide)), HPP, (kp2 (A := A9) (.bool b104x) (.slice ao104x n104x c104x) hS6 (by omega))⟩
               refine AllReadyL.cons rfl (fun K hK => ?_) ?_
               ·go_simp
                refine hK.out _ _ (Kp.alloc' hS3 (.cells #[.bool false, .slice none 0 0] 81)) (fun hS4 => ?_)
                clear hK K
                have NB9 : Blk (wn8.alloc (.cells #[.bool false, .slice none 0 0] 81)) wn8.heap.size #[.bool false, .slice none 0 0] 81 := Blk.new wn8 _ _
                have ge9 : y1.heap.size ≤ wn8.heap.size := hS3.size
                have ne8x9 : A8 ≠ wn8.heap.size := by have := NB8.lt; omega
                replace hv101 := hv101.keep (kp_alloc wn8 (.cells #[.bool false, .slice none 0 0] 81))
                replace hv103 := hv103.keep (kp_alloc wn8 (.cells #[.bool false, .slice none 0 0] 81))
                replace NB8 := NB8.keep (kp_alloc wn8 (.cells #[.bool false, .slice none 0 0] 81))
                try simp only [sq]
                generalize hA9 : wn8.heap.size = A9 at *
                generalize wn8.alloc (.cells #[.bool false, .slice none 0 0] 81) = wn9 at *
                refine wpAnyL_on (i := 4) rfl (fun K hK => ?_)
                go_simp
                refine (pair_any _ (za.natAbs : Int) (zb.natAbs : Int) 40 _ _ _ (Nat.le_refl _) hv101 hv103 (by omega) (by omega) (by decide) (by decide) fa.abs fb.abs).mono ?_
                rintro e w104 ⟨v104, u104x, xx, yy, rfl, hv104, hu104, HPP, hk104⟩
                obtain ⟨b104, ao104, n104, c104, rfl⟩ := hv104.shape'
                obtain ⟨b104x, ao104x, n104x, c104x, rfl⟩ := hu104.shape'
                replace NB8 := NB8.keep hk104
                replace NB9 := NB9.keep hk104
                go_wp2_with fail
                refine hK.out _ _ (hS4.trans' hk104) (fun hS5 => ?_)
                clear hK K
                refine wpAnyL_tk (i := 5) (k := 6) (v := .tuple #[.agg #[.bool b104, .slice ao104 n104 c104], .agg #[.bool b104x, .slice ao104x n104x c104x]]) rfl ?_ hS5 ?_
                ·intro w' hw'; go_simp
                simp only [sq]
                refine wpAnyL_tk (i := 6) (k := 10) (v := .agg #[.bool b104, .slice ao104 n104 c104]) rfl ?_ hS5 ?_
                ·intro w' hw'; go_simp
                simp only [sq]
                refine wpAnyL_tk (i := 7) (k := 11) (v := .agg #[.bool b104x, .slice ao104x n104x c104x]) rfl ?_ hS5 ?_
                ·intro w' hw'; go_simp
                simp only [sq]
                refine wpAnyL_on (i := 10) rfl (fun K hK => ?_)
                have st_c := NB8.cell
                have st_f := NB8.frozen
                have st_l := NB8.lt
                go_simp
                refine hK.out _ _ (stK2 (A := A8) (.bool b104) (.slice ao104 n104 c104) hS5 ge8) (fun hS6 => ?_)
                clear hK K
                have sfS : Sf 3 w104 ((w104.setCell ⟨A8, 0, none⟩ (.bool b104)).setCell ⟨A8, 1, none⟩ (.slice ao104 n104 c104)) := (stS2 (E := 3) (.bool b104) (.slice ao104 n104 c104) NB8 (by decide))
                replace NB9 := (Blk.other (c := A8) (o := 1) (y := .slice ao104 n104 c104) (Blk.other (c := A8) (o := 0) (y := .bool b104) NB9 (by omega)) (by omega))
                replace hv104 := hv104.soft sfS
                replace hu104 := hu104.soft sfS
                replace NB8 := (Blk.set (o := 1) (y := .slice ao104 n104 c104) (Blk.set (o := 0) (y := .bool b104) NB8))
                clear sfS st_c st_f st_l
                try simp only [sq]
                generalize ((w104.setCell ⟨A8, 0, none⟩ (.bool b104)).setCell ⟨A8, 1, none⟩ (.slice ao104 n104 c104)) = wt10 at *
                simp only [List.setIfInBounds_toArray, List.set_cons_zero, List.set_cons_succ] at NB8
                have st_c := NB9.cell
                have st_f := NB9.frozen
                have st_l := NB9.lt
                refine wpAnyL_last (i := 11) rfl (by kernel_rfl) (by kernel_rfl) (by kernel_rfl) (fun K hK => ?_)
                go_simp
                refine hK.out _ _ ?_
                clear hK K
                go_wp2_with fail
                go_meet
                case rel => exact ⟨A8, b104, ao104, n104, c104, xx, yy, rfl, (by omega), (ot2 (A := A9) (.bool b104x) (.slice ao104x n104x c104x) NB8 (by omega)), hv104.soft (sf2 (E := 3) (.bool b104x) (.slice ao104x n104x c104x) NB9 (by decide)), HPP, (kp2 (A := A9) (.bool b104x) (.slice ao104x n104x c104x) hS6 (by omega))⟩
               exact AllReadyL.nil
              refine AllReadyL.cons rfl (fun K hK => ?_) ?_
              ·go_simp
               refine hK.out _ _ (Kp.alloc' hS2 (.cells #[.bool false, .slice none 0 0] 81)) (fun hS3 => ?_)
               clear hK K
               have NB9 : Blk (w103.alloc (.cells #[.bool false, .slice none 0 0] 81)) w103.heap.size #[.bool false, .slice none 0 0] 81 := Blk.new w103 _ _
               have ge9 : y1.heap.size ≤ w103.heap.size := hS2.size
               replace hv101 := hv101.keep (kp_alloc w103 (.cells #[.bool false, .slice none 0 0] 81))
               replace hv103 := hv103.keep (kp_alloc w103 (.cells #[.bool false, .slice none 0 0] 81))
               try simp only [sq]
               generalize hA9 : w103.heap.size = A9 at *
               generalize w103.alloc (.cells #[.bool false, .slice none 0 0] 81) = wn9 at *
               refine wpAnyL_ready (rs := [4, 8]) (by kernel_rfl) (by simp) ?_
               refine AllReadyL.cons rfl (fun K hK => ?_) ?_
               ·go_simp
                refine (pair_any _ (za.natAbs : Int) (zb.natAbs : Int) 40 _ _ _ (Nat.le_refl _) hv101 hv103 (by omega) (by omega) (by decide) (by decide) fa.abs fb.abs).mono ?_
                rintro e w104 ⟨v104, u104x, xx, yy, rfl, hv104, hu104, HPP, hk104⟩
                obtain ⟨b104, ao104, n104, c104, rfl⟩ := hv104.shape'
                obtain ⟨b104x, ao104x, n104x, c104x, rfl⟩ := hu104.shape'
                replace NB9 := NB9.keep hk104
                go_wp2_with fail
                refine hK.out _ _ (hS3.trans' hk104) (fun hS4 => ?_)
                clear hK K
                refine wpAnyL_tk (i := 5) (k := 6) (v := .tuple #[.agg #[.bool b104, .slice ao104 n104 c104], .agg #[.bool b104x, .slice ao104x n104x c104x]]) rfl ?_ hS4 ?_
                ·intro w' hw'; go_simp
                simp only [sq]
                refine wpAnyL_tk (i := 6) (k := 10) (v := .agg #[.bool b104, .slice ao104 n104 c104]) rfl ?_ hS4 ?_
                ·intro w' hw'; go_simp
                simp only [sq]
                refine wpAnyL_tk (i := 7) (k := 11) (v := .agg #[.bool b104x, .slice ao104x n104x c104x]) rfl ?_ hS4 ?_
                ·intro w' hw'; go_simp
                simp only [sq]
                refine wpAnyL_on (i := 8) rfl (fun K hK => ?_)
                go_simp
                refine hK.out _ _ (Kp.alloc' hS4 (.cells #[.bool false, .slice none 0 0] 81)) (fun hS5 => ?_)
                clear hK K
                have NB8 : Blk (w104.alloc (.cells #[.bool false, .slice none 0 0] 81)) w104.heap.size #[.bool false, .slice none 0 0] 81 := Blk.new w104 _ _
                have ge8 : y1.heap.size ≤ w104.heap.size := hS4.size
                have ne9x8 : A9 ≠ w104.heap.size := by have := NB9.lt; omega
                replace NB9 := NB9.keep (kp_alloc w104 (.cells #[.bool false, .slice none 0 0] 81))
                replace hv104 := hv104.keep (kp_alloc w104 (.cells #[.bool false, .slice none 0 0] 81))
                replace hu104 := hu104.keep (kp_alloc w104 (.cells #[.bool false, .slice none 0 0] 81))
                try simp only [sq]
                generalize hA8 : w104.heap.size = A8 at *
                generalize w104.alloc (.cells #[.bool false, .slice none 0 0] 81) = wn8 at *
                refine wpAnyL_on (i := 10) rfl (fun K hK => ?_)
                have st_c := NB8.cell
                have st_f := NB8.frozen
                have st_l := NB8.lt
                go_simp
                refine hK.out _ _ (stK2 (A := A8) (.bool b104) (.slice ao104 n104 c104) hS5 ge8) (fun hS6 => ?_)
                clear hK K
                have sfS : Sf 3 wn8 ((wn8.setCell ⟨A8, 0, none⟩ (.bool b104)).setCell ⟨A8, 1, none⟩ (.slice ao104 n104 c104)) := (stS2 (E := 3) (.bool b104) (.slice ao104 n104 c104) NB8 (by decide))
                replace NB9 := (Blk.other (c := A8) (o := 1) (y := .slice ao104 n104 c104) (Blk.other (c := A8) (o := 0) (y := .bool b104) NB9 (by omega)) (by omega))
                replace hv104 := hv104.soft sfS
                replace hu104 := hu104.soft sfS
                replace NB8 := (Blk.set (o := 1) (y := .slice ao104 n104 c104) (Blk.set (o := 0) (y := .bool b104) NB8))
                clear sfS st_c st_f st_l
                try simp only [sq]
                generalize ((wn8.setCell ⟨A8, 0, none⟩ (.bool b104)).setCell ⟨A8, 1, none⟩ (.slice ao104 n104 c104)) = wt10 at *
                simp only [List.setIfInBounds_toArray, List.set_cons_zero, List.set_cons_succ] at NB8
                have st_c := NB9.cell
                have st_f := NB9.frozen
                have st_l := NB9.lt
                refine wpAnyL_last (i := 11) rfl (by kernel_rfl) (by kernel_rfl) (by kernel_rfl) (fun K hK => ?_)
                go_simp
                refine hK.out _ _ ?_
                clear hK K
                go_wp2_with fail
                go_meet
                case rel => exact ⟨A8, b104, ao104, n104, c104, xx, yy, rfl, (by omega), (ot2 (A := A9) (.bool b104x) (.slice ao104x n104x c104x) NB8 (by omega)), hv104.soft (sf2 (E := 3) (.bool b104x) (.slice ao104x n104x c104x) NB9 (by decide)), HPP, (kp2 (A := A9) (.bool b104x) (.slice ao104x n104x c104x) hS6 (by omega))⟩
               refine AllReadyL.cons rfl (fun K hK => ?_) ?_
               ·go_simp
                refine hK.out _ _ (Kp.alloc' hS3 (.cells #[.bool false, .slice none 0 0] 81)) (fun hS4 => ?_)
                clear hK K
                have NB8 : Blk (wn9.alloc (.cells #[.bool false, .slice none 0 0] 81)) wn9.heap.size #[.bool false, .slice none 0 0] 81 := Blk.new wn9 _ _
                have ge8 : y1.heap.size ≤ wn9.heap.size := hS3.size
                have ne9x8 : A9 ≠ wn9.heap.size := by have := NB9.lt; omega
                replace hv101 := hv101.keep (kp_alloc wn9 (.cells #[.bool false, .slice none 0 0] 81))
                replace hv103 := hv103.keep (kp_alloc wn9 (.cells #[.bool false, .slice none 0 0] 81))
                replace NB9 := NB9.keep (kp_alloc wn9 (.cells #[.bool false, .slice none 0 0] 81))
                try simp only [sq]
                generalize hA8 : wn9.heap.size = A8 at *
                generalize wn9.alloc (.cells #[.bool false, .slice none 0 0] 81) = wn8 at *
                refine wpAnyL_on (i := 4) rfl (fun K hK => ?_)
                go_simp
                refine (pair_any _ (za.natAbs : Int) (zb.natAbs : Int) 40 _ _ _ (Nat.le_refl _) hv101 hv103 (by omega) (by omega) (by decide) (by decide) fa.abs fb.abs).mono ?_
                rintro e w104 ⟨v104, u104x, xx, yy, rfl, hv104, hu104, HPP, hk104⟩
                obtain ⟨b104, ao104, n104, c104, rfl⟩ := hv104.shape'
                obtain ⟨b104x, ao104x, n104x, c104x, rfl⟩ := hu104.shape'
                replace NB9 := NB9.keep hk104
                replace NB8 := NB8.keep hk104
                go_wp2_with fail
                refine hK.out _ _ (hS4.trans' hk104) (fun hS5 => ?_)
                clear hK K
                refine wpAnyL_tk (i := 5) (k := 6) (v := .tuple #[.agg #[.bool b104, .slice ao104 n104 c104], .agg #[.bool b104x, .slice ao104x n104x c104x]]) rfl ?_ hS5 ?_
                ·intro w' hw'; go_simp
                simp only [sq]
                refine wpAnyL_tk (i := 6) (k := 10) (v := .agg #[.bool b104, .slice ao104 n104 c104]) rfl ?_ hS5 ?_
                ·intro w' hw'; go_simp
                simp only [sq]
                refine wpAnyL_tk (i := 7) (k := 11) (v := .agg #[.bool b104x, .slice ao104x n104x c104x]) rfl ?_ hS5 ?_
                ·intro w' hw'; go_simp
                simp only [sq]
                refine wpAnyL_on (i := 10) rfl (fun K hK => ?_)
                have st_c := NB8.cell
                have st_f := NB8.frozen
                have st_l := NB8.lt
                go_simp
                refine hK.out _ _ (stK2 (A := A8) (.bool b104) (.slice ao104 n104 c104) hS5 ge8) (fun hS6 => ?_)
                clear hK K
                have sfS : Sf 3 w104 ((w104.setCell ⟨A8, 0, none⟩ (.bool b104)).setCell ⟨A8, 1, none⟩ (.slice ao104 n104 c104)) := (stS2 (E := 3) (.bool b104) (.slice ao104 n104 c104) NB8 (by decide))
                replace NB9 := (Blk.other (c := A8) (o := 1) (y := .slice ao104 n104 c104) (Blk.other (c := A8) (o := 0) (y := .bool b104) NB9 (by omega)) (by omega))
                replace hv104 := hv104.soft sfS
                replace hu104 := hu104.soft sfS
                replace NB8 := (Blk.set (o := 1) (y := .slice ao104 n104 c104) (Blk.set (o := 0) (y := .bool b104) NB8))
                clear sfS st_c st_f st_l
                try simp only [sq]
                generalize ((w104.setCell ⟨A8, 0, none⟩ (.bool b104)).setCell ⟨A8, 1, none⟩ (.slice ao104 n104 c104)) = wt10 at *
                simp only [List.setIfInBounds_toArray, List.set_cons_zero, List.set_cons_succ] at NB8
                have st_c := NB9.cell
                have st_f := NB9.frozen
                have st_l := NB9.lt
                refine wpAnyL_last (i := 11) rfl (by kernel_rfl) (by kernel_rfl) (by kernel_rfl) (fun K hK => ?_)
                go_simp
                refine hK.out _ _ ?_
                clear hK K
                go_wp2_with fail
                go_meet
                case rel => exact ⟨A8, b104, ao104, n104, c104, xx, yy, rfl, (by omega), (ot2 (A := A9) (.bool b104x) (.slice ao104x n104x c104x) NB8 (by omega)), hv104.soft (sf2 (E := 3) (.bool b104x) (.slice ao104x n104x c104x) NB9 (by decide)), HPP, (kp2 (A := A9) (.bool b104x) (.slice ao104x n104x c104x) hS6 (by omega))⟩
               exact AllReadyL.nil
              exact AllReadyL.nil
             refine AllReadyL.cons rfl (fun K hK => ?_) ?_
             ·go_simp
              refine hK.out _ _ (Kp.alloc' hS1 (.cells #[.bool false, .slice none 0 0] 81)) (fun hS2 => ?_)
              clear hK K
              have NB8 : Blk (w101.alloc (.cells #[.bool false, .slice none 0 0] 81)) w101.heap.size #[.bool false, .slice none 0 0] 81 := Blk.new w101 _ _
              have ge8 : y1.heap.size ≤ w101.heap.size := hS1.size
              replace hv101 := hv101.keep (kp_alloc w101 (.cells #[.bool false, .slice none 0 0] 81))
              try simp only [sq]
              generalize hA8 : w101.heap.size = A8 at *
              generalize w101.alloc (.cells #[.bool false, .slice none 0 0] 81) = wn8 at *
              refine wpAnyL_ready (rs := [3, 9]) (by kernel_rfl) (by simp) ?_
              refine AllReadyL.cons rfl (fun K hK => ?_) ?_
              ·go_simp
               refine (size_any zb _ _ (hzb.keep hS2)).mono ?_
               rintro e w103 ⟨v103, rfl, hv103, hk103⟩
               obtain ⟨b103, ao103, n103, c103, rfl⟩ := hv103.shape'
               replace hv101 := hv101.keep hk103
               replace NB8 := NB8.keep hk103
               go_wp2_with fail
               refine hK.out _ _ (hS2.trans' hk103) (fun hS3 => ?_)
               clear hK K
               refine wpAnyL_ready (rs := [4, 9]) (by kernel_rfl) (by simp) ?_
               refine AllReadyL.cons rfl (fun K hK => ?_) ?_
               ·go_simp
                refine (pair_any _ (za.natAbs : Int) (zb.natAbs : Int) 40 _ _ _ (Nat.le_refl _) hv101 hv103 (by omega) (by omega) (by decide) (by decide) fa.abs fb.abs).mono ?_
                rintro e w104 ⟨v104, u104x, xx, yy, rfl, hv104, hu104, HPP, hk104⟩
                obtain ⟨b104, ao104, n104, c104, rfl⟩ := hv104.shape'
                obtain ⟨b104x, ao104x, n104x, c104x, rfl⟩ := hu104.shape'
                replace NB8 := NB8.keep hk104
                go_wp2_with fail
                refine hK.out _ _ (hS3.trans' hk104) (fun hS4 => ?_)
                clear hK K
                refine wpAnyL_tk (i := 5) (k := 6) (v := .tuple #[.agg #[.bool b104, .slice ao104 n104 c104], .agg #[.bool b104x, .slice ao104x n104x c104x]]) rfl ?_ hS4 ?_
                ·intro w' hw'; go_simp
                simp only [sq]
                refine wpAnyL_tk (i := 6) (k := 10) (v := .agg #[.bool b104, .slice ao104 n104 c104]) rfl ?_ hS4 ?_
                ·intro w' hw'; go_simp
                simp only [sq]
                refine wpAnyL_tk (i := 7) (k := 11) (v := .agg #[.bool b104x, .slice ao104x n104x c104x]) rfl ?_ hS4 ?_
                ·intro w' hw'; go_simp
                simp only [sq]
                refine wpAnyL_on (i := 9) rfl (fun K hK => ?_)
                go_simp
                refine hK.out _ _ (Kp.alloc' hS4 (.cells #[.bool false, .slice none 0 0] 81)) (fun hS5 => ?_)
                clear hK K
                have NB9 : Blk (w104.alloc (.cells #[.bool false, .slice none 0 0] 81)) w104.heap.size #[.bool false, .slice none 0 0] 81 := Blk.new w104 _ _
                have ge9 : y1.heap.size ≤ w104.heap.size := hS4.size
                have ne8x9 : A8 ≠ w104.heap.size := by have := NB8.lt; omega
                replace NB8 := NB8.keep (kp_alloc w104 (.cells #[.bool false, .slice none 0 0] 81))
                replace hv104 := hv104.keep (kp_alloc w104 (.cells #[.bool false, .slice none 0 0] 81))
                replace hu104 := hu104.keep (kp_alloc w104 (.cells #[.bool false, .slice none 0 0] 81))
                try simp only [sq]
                generalize hA9 : w104.heap.size = A9 at *
                generalize w104.alloc (.cells #[.bool false, .slice none 0 0] 81) = wn9 at *
                refine wpAnyL_on (i := 10) rfl (fun K hK => ?_)
                have st_c := NB8.cell
                have st_f := NB8.frozen
                have st_l := NB8.lt
                go_simp
                refine hK.out _ _ (stK2 (A := A8) (.bool b104) (.slice ao104 n104 c104) hS5 ge8) (fun hS6 => ?_)
                clear hK K
                have sfS : Sf 3 wn9 ((wn9.setCell ⟨A8, 0, none⟩ (.bool b104)).setCell ⟨A8, 1, none⟩ (.slice ao104 n104 c104)) := (stS2 (E := 3) (.bool b104) (.slice ao104 n104 c104) NB8 (by decide))
                replace hv104 := hv104.soft sfS
                replace hu104 := hu104.soft sfS
                replace NB9 := (Blk.other (c := A8) (o := 1) (y := .slice ao104 n104 c104) (Blk.other (c := A8) (o := 0) (y := .bool b104) NB9 (by omega)) (by omega))
                replace NB8 := (Blk.set (o := 1) (y := .slice ao104 n104 c104) (Blk.set (o := 0) (y := .bool b104) NB8))
                clear sfS st_c st_f st_l
                try simp only [sq]
                generalize ((wn9.setCell ⟨A8, 0, none⟩ (.bool b104)).setCell ⟨A8, 1, none⟩ (.slice ao104 n104 c104)) = wt10 at *
                simp only [List.setIfInBounds_toArray, List.set_cons_zero, List.set_cons_succ] at NB8
                have st_c := NB9.cell
                have st_f := NB9.frozen
                have st_l := NB9.lt
                refine wpAnyL_last (i := 11) rfl (by kernel_rfl) (by kernel_rfl) (by kernel_rfl) (fun K hK => ?_)
                go_simp
                refine hK.out _ _ ?_
                clear hK K
                go_wp2_with fail
                go_meet
                case rel => exact ⟨A8, b104, ao104, n104, c104, xx, yy, rfl, (by omega), (ot2 (A := A9) (.bool b104x) (.slice ao104x n104x c104x) NB8 (by omega)), hv104.soft (sf2 (E := 3) (.bool b104x) (.slice ao104x n104x c104x) NB9 (by decide)), HPP, (kp2 (A := A9) (.bool b104x) (.slice ao104x n104x c104x) hS6 (by omega))⟩
               refine AllReadyL.cons rfl (fun K hK => ?_) ?_
               ·go_simp
                refine hK.out _ _ (Kp.alloc' hS3 (.cells #[.bool false, .slice none 0 0] 81)) (fun hS4 => ?_)
                clear hK K
                have NB9 : Blk (w103.alloc (.cells #[.bool false, .slice none 0 0] 81)) w103.heap.size #[.bool false, .slice none 0 0] 81 := Blk.new w103 _ _
                have ge9 : y1.heap.size ≤ w103.heap.size := hS3.size
                have ne8x9 : A8 ≠ w103.heap.size := by have := NB8.lt; omega
                replace hv101 := hv101.keep (kp_alloc w103 (.cells #[.bool false, .slice none 0 0] 81))
                replace NB8 := NB8.keep (kp_alloc w103 (.cells #[.bool false, .slice none 0 0] 81))
                replace hv103 := hv103.keep (kp_alloc w103 (.cells #[.bool false, .slice none 0 0] 81))
                try simp only [sq]
                generalize hA9 : w103.heap.size = A9 at *
                generalize w103.alloc (.cells #[.bool false, .slice none 0 0] 81) = wn9 at *
                refine wpAnyL_on (i := 4) rfl (fun K hK => ?_)
                go_simp
                refine (pair_any _ (za.natAbs : Int) (zb.natAbs : Int) 40 _ _ _ (Nat.le_refl _) hv101 hv103 (by omega) (by omega) (by decide) (by decide) fa.abs fb.abs).mono ?_
                rintro e w104 ⟨v104, u104x, xx, yy, rfl, hv104, hu104, HPP, hk104⟩
                obtain ⟨b104, ao104, n104, c104, rfl⟩ := hv104.shape'
                obtain ⟨b104x, ao104x, n104x, c104x, rfl⟩ := hu104.shape'
                replace NB8 := NB8.keep hk104
                replace NB9 := NB9.keep hk104
                go_wp2_with fail
                refine hK.out _ _ (hS4.trans' hk104) (fun hS5 => ?_)
                clear hK K
                refine wpAnyL_tk (i := 5) (k := 6) (v := .tuple #[.agg #[.bool b104, .slice ao104 n104 c104], .agg #[.bool b104x, .slice ao104x n104x c104x]]) rfl ?_ hS5 ?_
                ·intro w' hw'; go_simp
                simp only [sq]
                refine wpAnyL_tk (i := 6) (k := 10) (v := .agg #[.bool b104, .slice ao104 n104 c104]) rfl ?_ hS5 ?_
                ·intro w' hw'; go_simp
                simp only [sq]
                refine wpAnyL_tk (i := 7) (k := 11) (v := .agg #[.bool b104x, .slice ao104x n104x c104x]) rfl ?_ hS5 ?_
                ·intro w' hw'; go_simp
                simp only [sq]
                refine wpAnyL_on (i := 10) rfl (fun K hK => ?_)
                have st_c := NB8.cell
                have st_f := NB8.frozen
                have st_l := NB8.lt
                go_simp
                refine hK.out _ _ (stK2 (A := A8) (.bool b104) (.slice ao104 n104 c104) hS5 ge8) (fun hS6 => ?_)
                clear hK K
                have sfS : Sf 3 w104 ((w104.setCell ⟨A8, 0, none⟩ (.bool b104)).setCell ⟨A8, 1, none⟩ (.slice ao104 n104 c104)) := (stS2 (E := 3) (.bool b104) (.slice ao104 n104 c104) NB8 (by decide))
                replace NB9 := (Blk.other (c := A8) (o := 1) (y := .slice ao104 n104 c104) (Blk.other (c := A8) (o := 0) (y := .bool b104) NB9 (by omega)) (by omega))
                replace hv104 := hv104.soft sfS
                replace hu104 := hu104.soft sfS
                replace NB8 := (Blk.set (o := 1) (y := .slice ao104 n104 c104) (Blk.set (o := 0) (y := .bool b104) NB8))
                clear sfS st_c st_f st_l
                try simp only [sq]
                generalize ((w104.setCell ⟨A8, 0, none⟩ (.bool b104)).setCell ⟨A8, 1, none⟩ (.slice ao104 n104 c104)) = wt10 at *
                simp only [List.setIfInBounds_toArray, List.set_cons_zero, List.set_cons_succ] at NB8
                have st_c := NB9.cell
                have st_f := NB9.frozen
                have st_l := NB9.lt
                refine wpAnyL_last (i := 11) rfl (by kernel_rfl) (by kernel_rfl) (by kernel_rfl) (fun K hK => ?_)
                go_simp
                refine hK.out _ _ ?_
                clear hK K
                go_wp2_with fail
                go_meet
                case rel => exact ⟨A8, b104, ao104, n104, c104, xx, yy, rfl, (by omega), (ot2 (A := A9) (.bool b104x) (.slice ao104x n104x c104x) NB8 (by omega)), hv104.soft (sf2 (E := 3) (.bool b104x) (.slice ao104x n104x c104x) NB9 (by decide)), HPP, (kp2 (A := A9) (.bool b104x) (.slice ao104x n104x c104x) hS6 (by omega))⟩
               exact AllReadyL.nil
              refine AllReadyL.cons rfl (fun K hK => ?_) ?_
              ·go_simp
               refine hK.out _ _ (Kp.alloc' hS2 (.cells #[.bool false, .slice none 0 0] 81)) (fun hS3 => ?_)
               clear hK K
               have NB9 : Blk (wn8.alloc (.cells #[.bool false, .slice none 0 0] 81)) wn8.heap.size #[.bool false, .slice none 0 0] 81 := Blk.new wn8 _ _
               have ge9 : y1.heap.size ≤ wn8.heap.size := hS2.size
               have ne8x9 : A8 ≠ wn8.heap.size := by have := NB8.lt; omega
               replace hv101 := hv101.keep (kp_alloc wn8 (.cells #[.bool false, .slice none 0 0] 81))
               replace NB8 := NB8.keep (kp_alloc wn8 (.cells #[.bool false, .slice none 0 0] 81))
               try simp only [sq]
               generalize hA9 : wn8.heap.size = A9 at *
               generalize wn8.alloc (.cells #[.bool false, .slice none 0 0] 81) = wn9 at *
               refine wpAnyL_on (i := 3) rfl (fun K hK => ?_)
               go_simp
               refine (size_any zb _ _ (hzb.keep hS3)).mono ?_
               rintro e w103 ⟨v103, rfl, hv103, hk103⟩
               obtain ⟨b103, ao103, n103, c103, rfl⟩ := hv103.shape'
               replace hv101 := hv101.keep hk103
               replace NB8 := NB8.keep hk103
               replace NB9 := NB9.keep hk103
               go_wp2_with fail
               refine hK.out _ _ (hS3.trans' hk103) (fun hS4 => ?_)
               clear hK K
               refine wpAnyL_on (i := 4) rfl (fun K hK => ?_)
               go_simp
               refine (pair_any _ (za.natAbs : Int) (zb.natAbs : Int) 40 _ _ _ (Nat.le_refl _) hv101 hv103 (by omega) (by omega) (by decide) (by decide) fa.abs fb.abs).mono ?_
               rintro e w104 ⟨v104, u104x, xx, yy, rfl, hv104, hu104, HPP, hk104⟩
               obtain ⟨b104, ao104, n104, c104, rfl⟩ := hv104.shape'
               obtain ⟨b104x, ao104x, n104x, c104x, rfl⟩ := hu104.shape'
               replace NB8 := NB8.keep hk104
               replace NB9 := NB9.keep hk104
               go_wp2_with fail
               refine hK.out _ _ (hS4.trans' hk104) (fun hS5 => ?_)
               clear hK K
               refine wpAnyL_tk (i := 5) (k := 6) (v := .tuple #[.agg #[.bool b104, .slice ao104 n104 c104], .agg #[.bool b104x, .slice ao104x n104x c104x]]) rfl ?_ hS5 ?_
               ·intro w' hw'; go_simp
               simp only [sq]
               refine wpAnyL_tk (i := 6) (k := 10) (v := .agg #[.bool b104, .slice ao104 n104 c104]) rfl ?_ hS5 ?_
               ·intro w' hw'; go_simp
               simp only [sq]
               refine wpAnyL_tk (i := 7) (k := 11) (v := .agg #[.bool b104x, .slice ao104x n104x c104x]) rfl ?_ hS5 ?_
               ·intro w' hw'; go_simp
               simp only [sq]
               refine wpAnyL_on (i := 10) rfl (fun K hK => ?_)
               have st_c := NB8.cell
               have st_f := NB8.frozen
               have st_l := NB8.lt
               go_simp
               refine hK.out _ _ (stK2 (A := A8) (.bool b104) (.slice ao104 n104 c104) hS5 ge8) (fun hS6 => ?_)
               clear hK K
               have sfS : Sf 3 w104 ((w104.setCell ⟨A8, 0, none⟩ (.bool b104)).setCell ⟨A8, 1, none⟩ (.slice ao104 n104 c104)) := (stS2 (E := 3) (.bool b104) (.slice ao104 n104 c104) NB8 (by decide))
               replace NB9 := (Blk.other (c := A8) (o := 1) (y := .slice ao104 n104 c104) (Blk.other (c := A8) (o := 0) (y := .bool b104) NB9 (by omega)) (by omega))
               replace hv104 := hv104.soft sfS
               replace hu104 := hu104.soft sfS
               replace NB8 := (Blk.set (o := 1) (y := .slice ao104 n104 c104) (Blk.set (o := 0) (y := .bool b104) NB8))
               clear sfS st_c st_f st_l
               try simp only [sq]
               generalize ((w104.setCell ⟨A8, 0, none⟩ (.bool b104)).setCell ⟨A8, 1, none⟩ (.slice ao104 n104 c104)) = wt10 at *
               simp only [List.setIfInBounds_toArray, List.set_cons_zero, List.set_cons_succ] at NB8
               have st_c := NB9.cell
               have st_f := NB9.frozen
               have st_l := NB9.lt
               refine wpAnyL_last (i := 11) rfl (by kernel_rfl) (by kernel_rfl) (by kernel_rfl) (fun K hK => ?_)
               go_simp
               refine hK.out _ _ ?_
               clear hK K
               go_wp2_with fail
               go_meet
               case rel => exact ⟨A8, b104, ao104, n104, c104, xx, yy, rfl, (by omega), (ot2 (A := A9) (.bool b104x) (.slice ao104x n104x c104x) NB8 (by omega)), hv104.soft (sf2 (E := 3) (.bool b104x) (.slice ao104x n104x c104x) NB9 (by decide)), HPP, (kp2 (A := A9) (.bool b104x) (.slice ao104x n104x c104x) hS6 (by omega))⟩
              exact AllReadyL.nil
             refine AllReadyL.cons rfl (fun K hK => ?_) ?_
             ·go_simp
              refine hK.out _ _ (Kp.alloc' hS1 (.cells #[.bool false, .slice none 0 0] 81)) (fun hS2 => ?_)
              clear hK K
              have NB9 : Blk (w101.alloc (.cells #[.bool false, .slice none 0 0] 81)) w101.heap.size #[.bool false, .slice none 0 0] 81 := Blk.new w101 _ _
              have ge9 : y1.heap.size ≤ w101.heap.size := hS1.size
              replace hv101 := hv101.keep (kp_alloc w101 (.cells #[.bool false, .slice none 0 0] 81))
              try simp only [sq]
              generalize hA9 : w101.heap.size = A9 at *
              generalize w101.alloc (.cells #[.bool false, .slice none 0 0] 81) = wn9 at *
              refine wpAnyL_ready (rs := [3, 8]) (by kernel_rfl) (by simp) ?_
              refine AllReadyL.cons rfl (fun K hK => ?_) ?_
              ·go_simp
               refine (size_any zb _ _ (hzb.keep hS2)).mono ?_
               rintro e w103 ⟨v103, rfl, hv103, hk103⟩
               obtain ⟨b103, ao103, n103, c103, rfl⟩ := hv103.shape'
               replace hv101 := hv101.keep hk103
               replace NB9 := NB9.keep hk103
               go_wp2_with fail
               refine hK.out _ _ (hS2.trans' hk103) (fun hS3 => ?_)
               clear hK K
               refine wpAnyL_ready (rs := [4, 8]) (by kernel_rfl) (by simp) ?_
               refine AllReadyL.cons rfl (fun K hK => ?_) ?_
               ·go_simp
                refine (pair_any _ (za.natAbs : Int) (zb.natAbs : Int) 40 _ _ _ (Nat.le_refl _) hv101 hv103 (by omega) (by omega) (by decide) (by decide) fa.abs fb.abs).mono ?_
                rintro e w104 ⟨v104, u104x, xx, yy, rfl, hv104, hu104, HPP, hk104⟩
                obtain ⟨b104, ao104, n104, c104, rfl⟩ := hv104.shape'
                obtain ⟨b104x, ao104x, n104x, c104x, rfl⟩ := hu104.shape'
                replace NB9 := NB9.keep hk104
                go_wp2_with fail
                refine hK.out _ _ (hS3.trans' hk104) (fun hS4 => ?_)
                clear hK K
                refine wpAnyL_tk (i := 5) (k := 6) (v := .tuple #[.agg #[.bool b104, .slice ao104 n104 c104], .agg #[.bool b104x, .slice ao104x n104x c104x]]) rfl ?_ hS4 ?_
                ·intro w' hw'; go_simp
                simp only [sq]
                refine wpAnyL_tk (i := 6) (k := 10) (v := .agg #[.bool b104, .slice ao104 n104 c104]) rfl ?_ hS4 ?_
                ·intro w' hw'; go_simp
                simp only [sq]
                refine wpAnyL_tk (i := 7) (k := 11) (v := .agg #[.bool b104x, .slice ao104x n104x c104x]) rfl ?_ hS4 ?_
                ·intro w' hw'; go_simp
                simp only [sq]
                refine wpAnyL_on (i := 8) rfl (fun K hK => ?_)
                go_simp
                refine hK.out _ _ (Kp.alloc' hS4 (.cells #[.bool false, .slice none 0 0] 81)) (fun hS5 => ?_)
                clear hK K
                have NB8 : Blk (w104.alloc (.cells #[.bool false, .slice none 0 0] 81)) w104.heap.size #[.bool false, .slice none 0 0] 81 := Blk.new w104 _ _
                have ge8 : y1.heap.size ≤ w104.heap.size := hS4.size
                have ne9x8 : A9 ≠ w104.heap.size := by have := NB9.lt; omega
                replace NB9 := NB9.keep (kp_alloc w104 (.cells #[.bool false, .slice none 0 0] 81))
                replace hv104 := hv104.keep (kp_alloc w104 (.cells #[.bool false, .slice none 0 0] 81))
                replace hu104 := hu104.keep (kp_alloc w104 (.cells #[.bool false, .slice none 0 0] 81))
                try simp only [sq]
                generalize hA8 : w104.heap.size = A8 at *
                generalize w104.alloc (.cells #[.bool false, .slice none 0 0] 81) = wn8 at *
                refine wpAnyL_on (i := 10) rfl (fun K hK => ?_)
                have st_c := NB8.cell
                have st_f := NB8.frozen
                have st_l := NB8.lt
                go_simp
                refine hK.out _ _ (stK2 (A := A8) (.bool b104) (.slice ao104 n104 c104) hS5 ge8) (fun hS6 => ?_)
                clear hK K
                have sfS : Sf 3 wn8 ((wn8.setCell ⟨A8, 0, none⟩ (.bool b104)).setCell ⟨A8, 1, none⟩ (.slice ao104 n104 c104)) := (stS2 (E := 3) (.bool b104) (.slice ao104 n104 c104) NB8 (by decide))
                replace NB9 := (Blk.other (c := A8) (o := 1) (y := .slice ao104 n104 c104) (Blk.other (c := A8) (o := 0) (y := .bool b104) NB9 (by omega)) (by omega))
                replace hv104 := hv104.soft sfS
                replace hu104 := hu104.soft sfS
                replace NB8 := (Blk.set (o := 1) (y := .slice ao104 n104 c104) (Blk.set (o := 0) (y := .bool b104) NB8))
                clear sfS st_c st_f st_l
                try simp only [sq]
                generalize ((wn8.setCell ⟨A8, 0, none⟩ (.bool b104)).setCell ⟨A8, 1, none⟩ (.slice ao104 n104 c104)) = wt10 at *
                simp only [List.setIfInBounds_toArray, List.set_cons_zero, List.set_cons_succ] at NB8
                have st_c := NB9.cell
                have st_f := NB9.frozen
                have st_l := NB9.lt
                refine wpAnyL_last (i := 11) rfl (by kernel_rfl) (by kernel_rfl) (by kernel_rfl) (fun K hK => ?_)
                go_simp
                refine hK.out _ _ ?_
                clear hK K
                go_wp2_with fail
                go_meet
                case rel => exact ⟨A8, b104, ao104, n104, c104, xx, yy, rfl, (by omega), (ot2 (A := A9) (.bool b104x) (.slice ao104x n104x c104x) NB8 (by omega)), hv104.soft (sf2 (E := 3) (.bool b104x) (.slice ao104x n104x c104x) NB9 (by decide)), HPP, (kp2 (A := A9) (.bool b104x) (.slice ao104x n104x c104x) hS6 (by omega))⟩
               refine AllReadyL.cons rfl (fun K hK => ?_) ?_
               ·go_simp
                refine hK.out _ _ (Kp.alloc' hS3 (.cells #[.bool false, .slice none 0 0] 81)) (fun hS4 => ?_)
                clear hK K
                have NB8 : Blk (w103.alloc (.cells #[.bool false, .slice none 0 0] 81)) w103.heap.size #[.bool false, .slice none 0 0] 81 := Blk.new w103 _ _
                have ge8 : y1.heap.size ≤ w103.heap.size := hS3.size
                have ne9x8 : A9 ≠ w103.heap.size := by have := NB9.lt; omega
                replace hv101 := hv101.keep (kp_alloc w103 (.cells #[.bool false, .slice none 0 0] 81))
                replace NB9 := NB9.keep (kp_alloc w103 (.cells #[.bool false, .slice none 0 0] 81))
                replace hv103 := hv103.keep (kp_alloc w103 (.cells #[.bool false, .slice none 0 0] 81))
                try simp only [sq]
                generalize hA8 : w103.heap.size = A8 at *
                generalize w103.alloc (.cells #[.bool false, .slice none 0 0] 81) = wn8 at *
                refine wpAnyL_on (i := 4) rfl (fun K hK => ?_)
                go_simp
                refine (pair_any _ (za.natAbs : Int) (zb.natAbs : Int) 40 _ _ _ (Nat.le_refl _) hv101 hv103 (by omega) (by omega) (by decide) (by decide) fa.abs fb.abs).mono ?_
                rintro e w104 ⟨v104, u104x, xx, yy, rfl, hv104, hu104, HPP, hk104⟩
                obtain ⟨b104, ao104, n104, c104, rfl⟩ := hv104.shape'
                obtain ⟨b104x, ao104x, n104x, c104x, rfl⟩ := hu104.shape'
                replace NB9 := NB9.keep hk104
                replace NB8 := NB8.keep hk104
                go_wp2_with fail
                refine hK.out _ _ (hS4.trans' hk104) (fun hS5 => ?_)
                clear hK K
                refine wpAnyL_tk (i := 5) (k := 6) (v := .tuple #[.agg #[.bool b104, .slice ao104 n104 c104], .agg #[.bool b104x, .slice ao104x n104x c104x]]) rfl ?_ hS5 ?_
                ·intro w' hw'; go_simp
                simp only [sq]
                refine wpAnyL_tk (i := 6) (k := 10) (v := .agg #[.bool b104, .slice ao104 n104 c104]) rfl ?_ hS5 ?_
                ·intro w' hw'; go_simp
                simp only [sq]
                refine wpAnyL_tk (i := 7) (k := 11) (v := .agg #[.bool b104x, .slice ao104x n104x c104x]) rfl ?_ hS5 ?_
                ·intro w' hw'; go_simp
                simp only [sq]
                refine wpAnyL_on (i := 10) rfl (fun K hK => ?_)
                have st_c := NB8.cell
                have st_f := NB8.frozen
                have st_l := NB8.lt
                go_simp
                refine hK.out _ _ (stK2 (A := A8) (.bool b104) (.slice ao104 n104 c104) hS5 ge8) (fun hS6 => ?_)
                clear hK K
                have sfS : Sf 3 w104 ((w104.setCell ⟨A8, 0, none⟩ (.bool b104)).setCell ⟨A8, 1, none⟩ (.slice ao104 n104 c104)) := (stS2 (E := 3) (.bool b104) (.slice ao104 n104 c104) NB8 (by decide))
                replace NB9 := (Blk.other (c := A8) (o := 1) (y := .slice ao104 n104 c104) (Blk.other (c := A8) (o := 0) (y := .bool b104) NB9 (by omega)) (by omega))
                replace hv104 := hv104.soft sfS
                replace hu104 := hu104.soft sfS
                replace NB8 := (Blk.set (o := 1) (y := .slice ao104 n104 c104) (Blk.set (o := 0) (y := .bool b104) NB8))
                clear sfS st_c st_f st_l
                try simp only [sq]
                generalize ((w104.setCell ⟨A8, 0, none⟩ (.bool b104)).setCell ⟨A8, 1, none⟩ (.slice ao104 n104 c104)) = wt10 at *
                simp only [List.setIfInBounds_toArray, List.set_cons_zero, List.set_cons_succ] at NB8
                have st_c := NB9.cell
                have st_f := NB9.frozen
                have st_l := NB9.lt
                refine wpAnyL_last (i := 11) rfl (by kernel_rfl) (by kernel_rfl) (by kernel_rfl) (fun K hK => ?_)
                go_simp
                refine hK.out _ _ ?_
                clear hK K
                go_wp2_with fail
                go_meet
                case rel => exact ⟨A8, b104, ao104, n104, c104, xx, yy, rfl, (by omega), (ot2 (A := A9) (.bool b104x) (.slice ao104x n104x c104x) NB8 (by omega)), hv104.soft (sf2 (E := 3) (.bool b104x) (.slice ao104x n104x c104x) NB9 (by decide)), HPP, (kp2 (A := A9) (.bool b104x) (.slice ao104x n104x c104x) hS6 (by omega))⟩
               exact AllReadyL.nil
              refine AllReadyL.cons rfl (fun K hK => ?_) ?_
              ·go_simp
               refine hK.out _ _ (Kp.alloc' hS2 (.cells #[.bool false, .slice none 0 0] 81)) (fun hS3 => ?_)
               clear hK K
               have NB8 : Blk (wn9.alloc (.cells #[.bool false, .slice none 0 0] 81)) wn9.heap.size #[.bool false, .slice none 0 0] 81 := Blk.new wn9 _ _
               have ge8 : y1.heap.size ≤ wn9.heap.size := hS2.size
               have ne9x8 : A9 ≠ wn9.heap.size := by have := NB9.lt; omega
               replace hv101 := hv101.keep (kp_alloc wn9 (.cells #[.bool false, .slice none 0 0] 81))
               replace NB9 := NB9.keep (kp_alloc wn9 (.cells #[.bool false, .slice none 0 0] 81))
               try simp only [sq]
               generalize hA8 : wn9.heap.size = A8 at *
               generalize wn9.alloc (.cells #[.bool false, .slice none 0 0] 81) = wn8 at *
               refine wpAnyL_on (i := 3) rfl (fun K hK => ?_)
               go_simp
               refine (size_any zb _ _ (hzb.keep hS3)).mono ?_
               rintro e w103 ⟨v103, rfl, hv103, hk103⟩
               obtain ⟨b103, ao103, n103, c103, rfl⟩ := hv103.shape'
               replace hv101 := hv101.keep hk103
               replace NB9 := NB9.keep hk103
               replace NB8 := NB8.keep hk103
               go_wp2_with fail
               refine hK.out _ _ (hS3.trans' hk103) (fun hS4 => ?_)
               clear hK K
               refine wpAnyL_on (i := 4) rfl (fun K hK => ?_)
               go_simp
               refine (pair_any _ (za.natAbs : Int) (zb.natAbs : Int) 40 _ _ _ (Nat.le_refl _) hv101 hv103 (by omega) (by omega) (by decide) (by decide) fa.abs fb.abs).mono ?_
               rintro e w104 ⟨v104, u104x, xx, yy, rfl, hv104, hu104, HPP, hk104⟩
               obtain ⟨b104, ao104, n104, c104, rfl⟩ := hv104.shape'
               obtain ⟨b104x, ao104x, n104x, c104x, rfl⟩ := hu104.shape'
               replace NB9 := NB9.keep hk104
               replace NB8 := NB8.keep hk104
               go_wp2_with fail
               refine hK.out _ _ (hS4.trans' hk104) (fun hS5 => ?_)
               clear hK K
               refine wpAnyL_tk (i := 5) (k := 6) (v := .tuple #[.agg #[.bool b104, .slice ao104 n104 c104], .agg #[.bool b104x, .slice ao104x n104x c104x]]) rfl ?_ hS5 ?_
               ·intro w' hw'; go_simp
               simp only [sq]
               refine wpAnyL_tk (i := 6) (k := 10) (v := .agg #[.bool b104, .slice ao104 n104 c104]) rfl ?_ hS5 ?_
               ·intro w' hw'; go_simp
               simp only [sq]
               refine wpAnyL_tk (i := 7) (k := 11) (v := .agg #[.bool b104x, .slice ao104x n104x c104x]) rfl ?_ hS5 ?_
               ·intro w' hw'; go_simp
               simp only [sq]
               refine wpAnyL_on (i := 10) rfl (fun K hK => ?_)
               have st_c := NB8.cell
               have st_f := NB8.frozen
               have st_l := NB8.lt
               go_simp
               refine hK.out _ _ (stK2 (A := A8) (.bool b104) (.slice ao104 n104 c104) hS5 ge8) (fun hS6 => ?_)
               clear hK K
               have sfS : Sf 3 w104 ((w104.setCell ⟨A8, 0, none⟩ (.bool b104)).setCell ⟨A8, 1, none⟩ (.slice ao104 n104 c104)) := (stS2 (E := 3) (.bool b104) (.slice ao104 n104 c104) NB8 (by decide))
               replace NB9 := (Blk.other (c := A8) (o := 1) (y := .slice ao104 n104 c104) (Blk.other (c := A8) (o := 0) (y := .bool b104) NB9 (by omega)) (by omega))
               replace hv104 := hv104.soft sfS
               replace hu104 := hu104.soft sfS
               replace NB8 := (Blk.set (o := 1) (y := .slice ao104 n104 c104) (Blk.set (o := 0) (y := .bool b104) NB8))
               clear sfS st_c st_f st_l
               try simp only [sq]
               generalize ((w104.setCell ⟨A8, 0, none⟩ (.bool b104)).setCell ⟨A8, 1, none⟩ (.slice ao104 n104 c104)) = wt10 at *
               simp only [List.setIfInBounds_toArray, List.set_cons_zero, List.set_cons_succ] at NB8
               have st_c := NB9.cell
               have st_f := NB9.frozen
               have st_l := NB9.lt
               refine wpAnyL_last (i := 11) rfl (by kernel_rfl) (by kernel_rfl) (by kernel_rfl) (fun K hK => ?_)
               go_simp
               refine hK.out _ _ ?_
               clear hK K
               go_wp2_with fail
               go_meet
               case rel => exact ⟨A8, b104, ao104, n104, c104, xx, yy, rfl, (by omega), (ot2 (A := A9) (.bool b104x) (.slice ao104x n104x c104x) NB8 (by omega)), hv104.soft (sf2 (E := 3) (.bool b104x) (.slice ao104x n104x c104x) NB9 (by decide)), HPP, (kp2 (A := A9) (.bool b104x) (.slice ao104x n104x c104x) hS6 (by omega))⟩
              exact AllReadyL.nil
             exact AllReadyL.nil
            refine AllReadyL.cons rfl (fun K hK => ?_) ?_
            ·go_simp
             refine hK.out _ _ (Kp.alloc' hS0 (.cells #[.bool false, .slice none 0 0] 81)) (fun hS1 => ?_)
             clear hK K
             have NB8 : Blk (wd.alloc (.cells #[.bool false, .slice none 0 0] 81)) wd.heap.size #[.bool false, .slice none 0 0] 81 := Blk.new wd _ _
             have ge8 : y1.heap.size ≤ wd.heap.size := hS0.size
             try simp only [sq]
             generalize hA8 : wd.heap.size = A8 at *
             generalize wd.alloc (.cells #[.bool false, .slice none 0 0] 81) = wn8 at *
             refine wpAnyL_ready (rs := [1, 9]) (by kernel_rfl) (by simp) ?_
             refine AllReadyL.cons rfl (fun K hK => ?_) ?_
             ·go_simp
              refine (size_any za _ _ (hza.keep hS1)).mono ?_
              rintro e w101 ⟨v101, rfl, hv101, hk101⟩
              obtain ⟨b101, ao101, n101, c101, rfl⟩ := hv101.shape'
              replace NB8 := NB8.keep hk101
              go_wp2_with fail
              refine hK.out _ _ (hS1.trans' hk101) (fun hS2 => ?_)
              clear hK K
              refine wpAnyL_ready (rs := [3, 9]) (by kernel_rfl) (by simp) ?_
              refine AllReadyL.cons rfl (fun K hK => ?_) ?_
              ·go_simp
               refine (size_any zb _ _ (hzb.keep hS2)).mono ?_
               rintro e w103 ⟨v103, rfl, hv103, hk103⟩
               obtain ⟨b103, ao103, n103, c103, rfl⟩ := hv103.shape'
               replace NB8 := NB8.keep hk103
               replace hv101 := hv101.keep hk103
               go_wp2_with fail
               refine hK.out _ _ (hS2.trans' hk103) (fun hS3 => ?_)
               clear hK K
               refine wpAnyL_ready (rs := [4, 9]) (by kernel_rfl) (by simp) ?_
               refine AllReadyL.cons rfl (fun K hK => ?_) ?_
               ·go_simp
                refine (pair_any _ (za.natAbs : Int) (zb.natAbs : Int) 40 _ _ _ (Nat.le_refl _) hv101 hv103 (by omega) (by omega) (by decide) (by decide) fa.abs fb.abs).mono ?_
                rintro e w104 ⟨v104, u104x, xx, yy, rfl, hv104, hu104, HPP, hk104⟩
                obtain ⟨b104, ao104, n104, c104, rfl⟩ := hv104.shape'
                obtain ⟨b104x, ao104x, n104x, c104x, rfl⟩ := hu104.shape'
                replace NB8 := NB8.keep hk104
                go_wp2_with fail
                refine hK.out _ _ (hS3.trans' hk104) (fun hS4 => ?_)
                clear hK K
                refine wpAnyL_tk (i := 5) (k := 6) (v := .tuple #[.agg #[.bool b104, .slice ao104 n104 c104], .agg #[.bool b104x, .slice ao104x n104x c104x]]) rfl ?_ hS4 ?_
                ·intro w' hw'; go_simp
                simp only [sq]
                refine wpAnyL_tk (i := 6) (k := 10) (v := .agg #[.bool b104, .slice ao104 n104 c104]) rfl ?_ hS4 ?_
                ·intro w' hw'; go_simp
                simp only [sq]
                refine wpAnyL_tk (i := 7) (k := 11) (v := .agg #[.bool b104x, .slice ao104x n104x c104x]) rfl ?_ hS4 ?_
                ·intro w' hw'; go_simp
                simp only [sq]
                refine wpAnyL_on (i := 9) rfl (fun K hK => ?_)
                go_simp
                refine hK.out _ _ (Kp.alloc' hS4 (.cells #[.bool false, .slice none 0 0] 81)) (fun hS5 => ?_)
                clear hK K
                have NB9 : Blk (w104.alloc (.cells #[.bool false, .slice none 0 0] 81)) w104.heap.size #[.bool false, .slice none 0 0] 81 := Blk.new w104 _ _
                have ge9 : y1.heap.size ≤ w104.heap.size := hS4.size
                have ne8x9 : A8 ≠ w104.heap.size := by have := NB8.lt; omega
                replace NB8 := NB8.keep (kp_alloc w104 (.cells #[.bool false, .slice none 0 0] 81))
                replace hv104 := hv104.keep (kp_alloc w104 (.cells #[.bool false, .slice none 0 0] 81))
                replace hu104 := hu104.keep (kp_alloc w104 (.cells #[.bool false, .slice none 0 0] 81))
                try simp only [sq]
                generalize hA9 : w104.heap.size = A9 at *
                generalize w104.alloc (.cells #[.bool false, .slice none 0 0] 81) = wn9 at *
                refine wpAnyL_on (i := 10) rfl (fun K hK => ?_)
                have st_c := NB8.cell
                have st_f := NB8.frozen
                have st_l := NB8.lt
                go_simp
                refine hK.out _ _ (stK2 (A := A8) (.bool b104) (.slice ao104 n104 c104) hS5 ge8) (fun hS6 => ?_)
                clear hK K
                have sfS : Sf 3 wn9 ((wn9.setCell ⟨A8, 0, none⟩ (.bool b104)).setCell ⟨A8, 1, none⟩ (.slice ao104 n104 c104)) := (stS2 (E := 3) (.bool b104) (.slice ao104 n104 c104) NB8 (by decide))
                replace hv104 := hv104.soft sfS
                replace hu104 := hu104.soft sfS
                replace NB9 := (Blk.other (c := A8) (o := 1) (y := .slice ao104 n104 c104) (Blk.other (c := A8) (o := 0) (y := .bool b104) NB9 (by omega)) (by omega))
                replace NB8 := (Blk.set (o := 1) (y := .slice ao104 n104 c104) (Blk.set (o := 0) (y := .bool b104) NB8))
                clear sfS st_c st_f st_l
                try simp only [sq]
                generalize ((wn9.setCell ⟨A8, 0, none⟩ (.bool b104)).setCell ⟨A8, 1, none⟩ (.slice ao104 n104 c104)) = wt10 at *
                simp only [List.setIfInBounds_toArray, List.set_cons_zero, List.set_cons_succ] at NB8
                have st_c := NB9.cell
                have st_f := NB9.frozen
                have st_l := NB9.lt
                refine wpAnyL_last (i := 11) rfl (by kernel_rfl) (by kernel_rfl) (by kernel_rfl) (fun K hK => ?_)
                go_simp
                refine hK.out _ _ ?_
                clear hK K
                go_wp2_with fail
                go_meet
                case rel => exact ⟨A8, b104, ao104, n104, c104, xx, yy, rfl, (by omega), (ot2 (A := A9) (.bool b104x) (.slice ao104x n104x c104x) NB8 (by omega)), hv104.soft (sf2 (E := 3) (.bool b104x) (.slice ao104x n104x c104x) NB9 (by decide)), HPP, (kp2 (A := A9) (.bool b104x) (.slice ao104x n104x c104x) hS6 (by omega))⟩
               refine AllReadyL.cons rfl (fun K hK => ?_) ?_
               ·go_simp
                refine hK.out _ _ (Kp.alloc' hS3 (.cells #[.bool false, .slice none 0 0] 81)) (fun hS4 => ?_)
                clear hK K
                have NB9 : Blk (w103.alloc (.cells #[.bool false, .slice none 0 0] 81)) w103.heap.size #[.bool false, .slice none 0 0] 81 := Blk.new w103 _ _
                have ge9 : y1.heap.size ≤ w103.heap.size := hS3.size
                have ne8x9 : A8 ≠ w103.heap.size := by have := NB8.lt; omega
                replace NB8 := NB8.keep (kp_alloc w103 (.cells #[.bool false, .slice none 0 0] 81))
                replace hv101 := hv101.keep (kp_alloc w103 (.cells #[.bool false, .slice none 0 0] 81))
                replace hv103 := hv103.keep (kp_alloc w103 (.cells #[.bool false, .slice none 0 0] 81))
                try simp only [sq]
                generalize hA9 : w103.heap.size = A9 at *
                generalize w103.alloc (.cells #[.bool false, .slice none 0 0] 81) = wn9 at *
                refine wpAnyL_on (i := 4) rfl (fun K hK => ?_)
                go_simp
                refine (pair_any _ (za.natAbs : Int) (zb.natAbs : Int) 40 _ _ _ (Nat.le_refl _) hv101 hv103 (by omega) (by omega) (by decide) (by decide) fa.abs fb.abs).mono ?_
                rintro e w104 ⟨v104, u104x, xx, yy, rfl, hv104, hu104, HPP, hk104⟩
                obtain ⟨b104, ao104, n104, c104, rfl⟩ := hv104.shape'
                obtain ⟨b104x, ao104x, n104x, c104x, rfl⟩ := hu104.shape'
                replace NB8 := NB8.keep hk104
                replace NB9 := NB9.keep hk104
                go_wp2_with fail
                refine hK.out _ _ (hS4.trans' hk104) (fun hS5 => ?_)
                clear hK K
                refine wpAnyL_tk (i := 5) (k := 6) (v := .tuple #[.agg #[.bool b104, .slice ao104 n104 c104], .agg #[.bool b104x, .slice ao104x n104x c104x]]) rfl ?_ hS5 ?_
                ·intro w' hw'; go_simp
                simp only [sq]
                refine wpAnyL_tk (i := 6) (k := 10) (v := .agg #[.bool b104, .slice ao104 n104 c104]) rfl ?_ hS5 ?_
                ·intro w' hw'; go_simp
                simp only [sq]
                refine wpAnyL_tk (i := 7) (k := 11) (v := .agg #[.bool b104x, .slice ao104x n104x c104x]) rfl ?_ hS5 ?_
                ·intro w' hw'; go_simp
                simp only [sq]
                refine wpAnyL_on (i := 10) rfl (fun K hK => ?_)
                have st_c := NB8.cell
                have st_f := NB8.frozen
                have st_l := NB8.lt
                go_simp
                refine hK.out _ _ (stK2 (A := A8) (.bool b104) (.slice ao104 n104 c104) hS5 ge8) (fun hS6 => ?_)
                clear hK K
                have sfS : Sf 3 w104 ((w104.setCell ⟨A8, 0, none⟩ (.bool b104)).setCell ⟨A8, 1, none⟩ (.slice ao104 n104 c104)) := (stS2 (E := 3) (.bool b104) (.slice ao104 n104 c104) NB8 (by decide))
                replace NB9 := (Blk.other (c := A8) (o := 1) (y := .slice ao104 n104 c104) (Blk.other (c := A8) (o := 0) (y := .bool b104) NB9 (by omega)) (by omega))
                replace hv104 := hv104.soft sfS
                replace hu104 := hu104.soft sfS
                replace NB8 := (Blk.set (o := 1) (y := .slice ao104 n104 c104) (Blk.set (o := 0) (y := .bool b104) NB8))
                clear sfS st_c st_f st_l
                try simp only [sq]
                generalize ((w104.setCell ⟨A8, 0, none⟩ (.bool b104)).setCell ⟨A8, 1, none⟩ (.slice ao104 n104 c104)) = wt10 at *
                simp only [List.setIfInBounds_toArray, List.set_cons_zero, List.set_cons_succ] at NB8
                have st_c := NB9.cell
                have st_f := NB9.frozen
                have st_l := NB9.lt
                refine wpAnyL_last (i := 11) rfl (by kernel_rfl) (by kernel_rfl) (by kernel_rfl) (fun K hK => ?_)
                go_simp
                refine hK.out _ _ ?_
                clear hK K
                go_wp2_with fail
                go_meet
                case rel => exact ⟨A8, b104, ao104, n104, c104, xx, yy, rfl, (by omega), (ot2 (A := A9) (.bool b104x) (.slice ao104x n104x c104x) NB8 (by omega)), hv104.soft (sf2 (E := 3) (.bool b104x) (.slice ao104x n104x c104x) NB9 (by decide)), HPP, (kp2 (A := A9) (.bool b104x) (.slice ao104x n104x c104x) hS6 (by omega))⟩
               exact AllReadyL.nil
              refine AllReadyL.cons rfl (fun K hK => ?_) ?_
              ·go_simp
               refine hK.out _ _ (Kp.alloc' hS2 (.cells #[.bool false, .slice none 0 0] 81)) (fun hS3 => ?_)
               clear hK K
               have NB9 : Blk (w101.alloc (.cells #[.bool false, .slice none 0 0] 81)) w101.heap.size #[.bool false, .slice none 0 0] 81 := Blk.new w101 _ _
               have ge9 : y1.heap.size ≤ w101.heap.size := hS2.size
               have ne8x9 : A8 ≠ w101.heap.size := by have := NB8.lt; omega
               replace NB8 := NB8.keep (kp_alloc w101 (.cells #[.bool false, .slice none 0 0] 81))
               replace hv101 := hv101.keep (kp_alloc w101 (.cells #[.bool false, .slice none 0 0] 81))
               try simp only [sq]
               generalize hA9 : w101.heap.size = A9 at *
               generalize w101.alloc (.cells #[.bool false, .slice none 0 0] 81) = wn9 at *
               refine wpAnyL_on (i := 3) rfl (fun K hK => ?_)
               go_simp
               refine (size_any zb _ _ (hzb.keep hS3)).mono ?_
               rintro e w103 ⟨v103, rfl, hv103, hk103⟩
               obtain ⟨b103, ao103, n103, c103, rfl⟩ := hv103.shape'
               replace NB8 := NB8.keep hk103
               replace hv101 := hv101.keep hk103
               replace NB9 := NB9.keep hk103
               go_wp2_with fail
               refine hK.out _ _ (hS3.trans' hk103) (fun hS4 => ?_)
               clear hK K
               refine wpAnyL_on (i := 4) rfl (fun K hK => ?_)
               go_simp
               refine (pair_any _ (za.natAbs : Int) (zb.natAbs : Int) 40 _ _ _ (Nat.le_refl _) hv101 hv103 (by omega) (by omega) (by decide) (by decide) fa.abs fb.abs).mono ?_
               rintro e w104 ⟨v104, u104x, xx, yy, rfl, hv104, hu104, HPP, hk104⟩
               obtain ⟨b104, ao104, n104, c104, rfl⟩ := hv104.shape'
               obtain ⟨b104x, ao104x, n104x, c104x, rfl⟩ := hu104.shape'
               replace NB8 := NB8.keep hk104
               replace NB9 := NB9.keep hk104
               go_wp2_with fail
               refine hK.out _ _ (hS4.trans' hk104) (fun hS5 => ?_)
               clear hK K
               refine wpAnyL_tk (i := 5) (k := 6) (v := .tuple #[.agg #[.bool b104, .slice ao104 n104 c104], .agg #[.bool b104x, .slice ao104x n104x c104x]]) rfl ?_ hS5 ?_
               ·intro w' hw'; go_simp
               simp only [sq]
               refine wpAnyL_tk (i := 6) (k := 10) (v := .agg #[.bool b104, .slice ao104 n104 c104]) rfl ?_ hS5 ?_
               ·intro w' hw'; go_simp
               simp only [sq]
               refine wpAnyL_tk (i := 7) (k := 11) (v := .agg #[.bool b104x, .slice ao104x n104x c104x]) rfl ?_ hS5 ?_
               ·intro w' hw'; go_simp
               simp only [sq]
               refine wpAnyL_on (i := 10) rfl (fun K hK => ?_)
               have st_c := NB8.cell
               have st_f := NB8.frozen
               have st_l := NB8.lt
               go_simp
               refine hK.out _ _ (stK2 (A := A8) (.bool b104) (.slice ao104 n104 c104) hS5 ge8) (fun hS6 => ?_)
               clear hK K
               have sfS : Sf 3 w104 ((w104.setCell ⟨A8, 0, none⟩ (.bool b104)).setCell ⟨A8, 1, none⟩ (.slice ao104 n104 c104)) := (stS2 (E := 3) (.bool b104) (.slice ao104 n104 c104) NB8 (by decide))
               replace NB9 := (Blk.other (c := A8) (o := 1) (y := .slice ao104 n104 c104) (Blk.other (c := A8) (o := 0) (y := .bool b104) NB9 (by omega)) (by omega))
               replace hv104 := hv104.soft sfS
               replace hu104 := hu104.soft sfS
               replace NB8 := (Blk.set (o := 1) (y := .slice ao104 n104 c104) (Blk.set (o := 0) (y := .bool b104) NB8))
               clear sfS st_c st_f st_l
               try simp only [sq]
               generalize ((w104.setCell ⟨A8, 0, none⟩ (.bool b104)).setCell ⟨A8, 1, none⟩ (.slice ao104 n104 c104)) = wt10 at *
               simp only [List.setIfInBounds_toArray, List.set_cons_zero, List.set_cons_succ] at NB8
               have st_c := NB9.cell
               have st_f := NB9.frozen
               have st_l := NB9.lt
               refine wpAnyL_last (i := 11) rfl (by kernel_rfl) (by kernel_rfl) (by kernel_rfl) (fun K hK => ?_)
               go_simp
               refine hK.out _ _ ?_
               clear hK K
               go_wp2_with fail
               go_meet
               case rel => exact ⟨A8, b104, ao104, n104, c104, xx, yy, rfl, (by omega), (ot2 (A := A9) (.bool b104x) (.slice ao104x n104x c104x) NB8 (by omega)), hv104.soft (sf2 (E := 3) (.bool b104x) (.slice ao104x n104x c104x) NB9 (by decide)), HPP, (kp2 (A := A9) (.bool b104x) (.slice ao104x n104x c104x) hS6 (by omega))⟩
              exact AllReadyL.nil
             refine AllReadyL.cons rfl (fun K hK => ?_) ?_
             ·go_simp
              refine hK.out _ _ (Kp.alloc' hS1 (.cells #[.bool false, .slice none 0 0] 81)) (fun hS2 => ?_)
              clear hK K
              have NB9 : Blk (wn8.alloc (.cells #[.bool false, .slice none 0 0] 81)) wn8.heap.size #[.bool false, .slice none 0 0] 81 := Blk.new wn8 _ _
              have ge9 : y1.heap.size ≤ wn8.heap.size := hS1.size
              have ne8x9 : A8 ≠ wn8.heap.size := by have := NB8.lt; omega
              replace NB8 := NB8.keep (kp_alloc wn8 (.cells #[.bool false, .slice none 0 0] 81))
              try simp only [sq]
              generalize hA9 : wn8.heap.size = A9 at *
              generalize wn8.alloc (.cells #[.bool false, .slice none 0 0] 81) = wn9 at *
              refine wpAnyL_on (i := 1) rfl (fun K hK => ?_)
              go_simp
              refine (size_any za _ _ (hza.keep hS2)).mono ?_
              rintro e w101 ⟨v101, rfl, hv101, hk101⟩
              obtain ⟨b101, ao101, n101, c101, rfl⟩ := hv101.shape'
              replace NB8 := NB8.keep hk101
              replace NB9 := NB9.keep hk101
              go_wp2_with fail
              refine hK.out _ _ (hS2.trans' hk101) (fun hS3 => ?_)
              clear hK K
              refine wpAnyL_on (i := 3) rfl (fun K hK => ?_)
              go_simp
              refine (size_any zb _ _ (hzb.keep hS3)).mono ?_
              rintro e w103 ⟨v103, rfl, hv103, hk103⟩
              obtain ⟨b103, ao103, n103, c103, rfl⟩ := hv103.shape'
              replace NB8 := NB8.keep hk103
              replace NB9 := NB9.keep hk103
              replace hv101 := hv101.keep hk103
              go_wp2_with fail
              refine hK.out _ _ (hS3.trans' hk103) (fun hS4 => ?_)
              clear hK K
              refine wpAnyL_on (i := 4) rfl (fun K hK => ?_)
              go_simp
              refine (pair_any _ (za.natAbs : Int) (zb.natAbs : Int) 40 _ _ _ (Nat.le_refl _) hv101 hv103 (by omega) (by omega) (by decide) (by decide) fa.abs fb.abs).mono ?_
              rintro e w104 ⟨v104, u104x, xx, yy, rfl, hv104, hu104, HPP, hk104⟩
              obtain ⟨b104, ao104, n104, c104, rfl⟩ := hv104.shape'
              obtain ⟨b104x, ao104x, n104x, c104x, rfl⟩ := hu104.shape'
              replace NB8 := NB8.keep hk104
              replace NB9 := NB9.keep hk104
              go_wp2_with fail
              refine hK.out _ _ (hS4.trans' hk104) (fun hS5 => ?_)
              clear hK K
              refine wpAnyL_tk (i := 5) (k := 6) (v := .tuple #[.agg #[.bool b104, .slice ao104 n104 c104], .agg #[.bool b104x, .slice ao104x n104x c104x]]) rfl ?_ hS5 ?_
              ·intro w' hw'; go_simp
              simp only [sq]
              refine wpAnyL_tk (i := 6) (k := 10) (v := .agg #[.bool b104, .slice ao104 n104 c104]) rfl ?_ hS5 ?_
              ·intro w' hw'; go_simp
              simp only [sq]
              refine wpAnyL_tk (i := 7) (k := 11) (v := .agg #[.bool b104x, .slice ao104x n104x c104x]) rfl ?_ hS5 ?_
              ·intro w' hw'; go_simp
              simp only [sq]
              refine wpAnyL_on (i := 10) rfl (fun K hK => ?_)
              have st_c := NB8.cell
              have st_f := NB8.frozen
              have st_l := NB8.lt
              go_simp
              refine hK.out _ _ (stK2 (A := A8) (.bool b104) (.slice ao104 n104 c104) hS5 ge8) (fun hS6 => ?_)
              clear hK K
              have sfS : Sf 3 w104 ((w104.setCell ⟨A8, 0, none⟩ (.bool b104)).setCell ⟨A8, 1, none⟩ (.slice ao104 n104 c104)) := (stS2 (E := 3) (.bool b104) (.slice ao104 n104 c104) NB8 (by decide))
              replace NB9 := (Blk.other (c := A8) (o := 1) (y := .slice ao104 n104 c104) (Blk.other (c := A8) (o := 0) (y := .bool b104) NB9 (by omega)) (by omega))
              replace hv104 := hv104.soft sfS
              replace hu104 := hu104.soft sfS
              replace NB8 := (Blk.set (o := 1) (y := .slice ao104 n104 c104) (Blk.set (o := 0) (y := .bool b104) NB8))
              clear sfS st_c st_f st_l
              try simp only [sq]
              generalize ((w104.setCell ⟨A8, 0, none⟩ (.bool b104)).setCell ⟨A8, 1, none⟩ (.slice ao104 n104 c104)) = wt10 at *
              simp only [List.setIfInBounds_toArray, List.set_cons_zero, List.set_cons_succ] at NB8
              have st_c := NB9.cell
              have st_f := NB9.frozen
              have st_l := NB9.lt
              refine wpAnyL_last (i := 11) rfl (by kernel_rfl) (by kernel_rfl) (by kernel_rfl) (fun K hK => ?_)
              go_simp
              refine hK.out _ _ ?_
              clear hK K
              go_wp2_with fail
              go_meet
              case rel => exact ⟨A8, b104, ao104, n104, c104, xx, yy, rfl, (by omega), (ot2 (A := A9) (.bool b104x) (.slice ao104x n104x c104x) NB8 (by omega)), hv104.soft (sf2 (E := 3) (.bool b104x) (.slice ao104x n104x c104x) NB9 (by decide)), HPP, (kp2 (A := A9) (.bool b104x) (.slice ao104x n104x c104x) hS6 (by omega))⟩
             exact AllReadyL.nil
            refine AllReadyL.cons rfl (fun K hK => ?_) ?_
            ·go_simp
             refine hK.out _ _ (Kp.alloc' hS0 (.cells #[.bool false, .slice none 0 0] 81)) (fun hS1 => ?_)
             clear hK K
             have NB9 : Blk (wd.alloc (.cells #[.bool false, .slice none 0 0] 81)) wd.heap.size #[.bool false, .slice none 0 0] 81 := Blk.new wd _ _
             have ge9 : y1.heap.size ≤ wd.heap.size := hS0.size
             try simp only [sq]
             generalize hA9 : wd.heap.size = A9 at *
             generalize wd.alloc (.cells #[.bool false, .slice none 0 0] 81) = wn9 at *
             refine wpAnyL_ready (rs := [1, 8]) (by kernel_rfl) (by simp) ?_
             refine AllReadyL.cons rfl (fun K hK => ?_) ?_
             ·go_simp
              refine (size_any za _ _ (hza.keep hS1)).mono ?_
              rintro e w101 ⟨v101, rfl, hv101, hk101⟩
              obtain ⟨b101, ao101, n101, c101, rfl⟩ := hv101.shape'
              replace NB9 := NB9.keep hk101
              go_wp2_with fail
              refine hK.out _ _ (hS1.trans' hk101) (fun hS2 => ?_)
              clear hK K
              refine wpAnyL_ready (rs := [3, 8]) (by kernel_rfl) (by simp) ?_
              refine AllReadyL.cons rfl (fun K hK => ?_) ?_
              ·go_simp
               refine (size_any zb _ _ (hzb.keep hS2)).mono ?_
               rintro e w103 ⟨v103, rfl, hv103, hk103⟩
               obtain ⟨b103, ao103, n103, c103, rfl⟩ := hv103.shape'
               replace NB9 := NB9.keep hk103
               replace hv101 := hv101.keep hk103
               go_wp2_with fail
               refine hK.out _ _ (hS2.trans' hk103) (fun hS3 => ?_)
               clear hK K
               refine wpAnyL_ready (rs := [4, 8]) (by kernel_rfl) (by simp) ?_
               refine AllReadyL.cons rfl (fun K hK => ?_) ?_
               ·go_simp
                refine (pair_any _ (za.natAbs : Int) (zb.natAbs : Int) 40 _ _ _ (Nat.le_refl _) hv101 hv103 (by omega) (by omega) (by decide) (by decide) fa.abs fb.abs).mono ?_
                rintro e w104 ⟨v104, u104x, xx, yy, rfl, hv104, hu104, HPP, hk104⟩
                obtain ⟨b104, ao104, n104, c104, rfl⟩ := hv104.shape'
                obtain ⟨b104x, ao104x, n104x, c104x, rfl⟩ := hu104.shape'
                replace NB9 := NB9.keep hk104
                go_wp2_with fail
                refine hK.out _ _ (hS3.trans' hk104) (fun hS4 => ?_)
                clear hK K
                refine wpAnyL_tk (i := 5) (k := 6) (v := .tuple #[.agg #[.bool b104, .slice ao104 n104 c104], .agg #[.bool b104x, .slice ao104x n104x c104x]]) rfl ?_ hS4 ?_
                ·intro w' hw'; go_simp
                simp only [sq]
                refine wpAnyL_tk (i := 6) (k := 10) (v := .agg #[.bool b104, .slice ao104 n104 c104]) rfl ?_ hS4 ?_
                ·intro w' hw'; go_simp
                simp only [sq]
                refine wpAnyL_tk (i := 7) (k := 11) (v := .agg #[.bool b104x, .slice ao104x n104x c104x]) rfl ?_ hS4 ?_
                ·intro w' hw'; go_simp
                simp only [sq]
                refine wpAnyL_on (i := 8) rfl (fun K hK => ?_)
                go_simp
                refine hK.out _ _ (Kp.alloc' hS4 (.cells #[.bool false, .slice none 0 0] 81)) (fun hS5 => ?_)
                clear hK K
                have NB8 : Blk (w104.alloc (.cells #[.bool false, .slice none 0 0] 81)) w104.heap.size #[.bool false, .slice none 0 0] 81 := Blk.new w104 _ _
                have ge8 : y1.heap.size ≤ w104.heap.size := hS4.size
                have ne9x8 : A9 ≠ w104.heap.size := by have := NB9.lt; omega
                replace NB9 := NB9.keep (kp_alloc w104 (.cells #[.bool false, .slice none 0 0] 81))
                replace hv104 := hv104.keep (kp_alloc w104 (.cells #[.bool false, .slice none 0 0] 81))
                replace hu104 := hu104.keep (kp_alloc w104 (.cells #[.bool false, .slice none 0 0] 81))
                try simp only [sq]
                generalize hA8 : w104.heap.size = A8 at *
                generalize w104.alloc (.cells #[.bool false, .slice none 0 0] 81) = wn8 at *
                refine wpAnyL_on (i := 10) rfl (fun K hK => ?_)
                have st_c := NB8.cell
                have st_f := NB8.frozen
                have st_l := NB8.lt
                go_simp
                refine hK.out _ _ (stK2 (A := A8) (.bool b104) (.slice ao104 n104 c104) hS5 ge8) (fun hS6 => ?_)
                clear hK K
                have sfS : Sf 3 wn8 ((wn8.setCell ⟨A8, 0, none⟩ (.bool b104)).setCell ⟨A8, 1, none⟩ (.slice ao104 n104 c104)) := (stS2 (E := 3) (.bool b104) (.slice ao104 n104 c104) NB8 (by decide))
                replace NB9 := (Blk.other (c := A8) (o := 1) (y := .slice ao104 n104 c104) (Blk.other (c := A8) (o := 0) (y := .bool b104) NB9 (by omega)) (by omega))
                replace hv104 := hv104.soft sfS
                replace hu104 := hu104.soft sfS
                replace NB8 := (Blk.set (o := 1) (y := .slice ao104 n104 c104) (Blk.set (o := 0) (y := .bool b104) NB8))
                clear sfS st_c st_f st_l
                try simp only [sq]
                generalize ((wn8.setCell ⟨A8, 0, none⟩ (.bool b104)).setCell ⟨A8, 1, none⟩ (.slice ao104 n104 c104)) = wt10 at *
                simp only [List.setIfInBounds_toArray, List.set_cons_zero, List.set_cons_succ] at NB8
                have st_c := NB9.cell
                have st_f := NB9.frozen
                have st_l := NB9.lt
                refine wpAnyL_last (i := 11) rfl (by kernel_rfl) (by kernel_rfl) (by kernel_rfl) (fun K hK => ?_)
                go_simp
                refine hK.out _ _ ?_
                clear hK K
                go_wp2_with fail
                go_meet
                case rel => exact ⟨A8, b104, ao104, n104, c104, xx, yy, rfl, (by omega), (ot2 (A := A9) (.bool b104x) (.slice ao104x n104x c104x) NB8 (by omega)), hv104.soft (sf2 (E := 3) (.bool b104x) (.slice ao104x n104x c104x) NB9 (by decide)), HPP, (kp2 (A := A9) (.bool b104x) (.slice ao104x n104x c104x) hS6 (by omega))⟩
               refine AllReadyL.cons rfl (fun K hK => ?_) ?_
               ·go_simp
                refine hK.out _ _ (Kp.alloc' hS3 (.cells #[.bool false, .slice none 0 0] 81)) (fun hS4 => ?_)
                clear hK K
                have NB8 : Blk (w103.alloc (.cells #[.bool false, .slice none 0 0] 81)) w103.heap.size #[.bool false, .slice none 0 0] 81 := Blk.new w103 _ _
                have ge8 : y1.heap.size ≤ w103.heap.size := hS3.size
                have ne9x8 : A9 ≠ w103.heap.size := by have := NB9.lt; omega
                replace NB9 := NB9.keep (kp_alloc w103 (.cells #[.bool false, .slice none 0 0] 81))
                replace hv101 := hv101.keep (kp_alloc w103 (.cells #[.bool false, .slice none 0 0] 81))
                replace hv103 := hv103.keep (kp_alloc w103 (.cells #[.bool false, .slice none 0 0] 81))
                try simp only [sq]
                generalize hA8 : w103.heap.size = A8 at *
                generalize w103.alloc (.cells #[.bool false, .slice none 0 0] 81) = wn8 at *
                refine wpAnyL_on (i := 4) rfl (fun K hK => ?_)
                go_simp
                refine (pair_any _ (za.natAbs : Int) (zb.natAbs : Int) 40 _ _ _ (Nat.le_refl _) hv101 hv103 (by omega) (by omega) (by decide) (by decide) fa.abs fb.abs).mono ?_
                rintro e w104 ⟨v104, u104x, xx, yy, rfl, hv104, hu104, HPP, hk104⟩
                obtain ⟨b104, ao104, n104, c104, rfl⟩ := hv104.shape'
                obtain ⟨b104x, ao104x, n104x, c104x, rfl⟩ := hu104.shape'
                replace NB9 := NB9.keep hk104
                replace NB8 := NB8.keep hk104
                go_wp2_with fail
                refine hK.out _ _ (hS4.trans' hk104) (fun hS5 => ?_)
                clear hK K
                refine wpAnyL_tk (i := 5) (k := 6) (v := .tuple #[.agg #[.bool b104, .slice ao104 n104 c104], .agg #[.bool b104x, .slice ao104x n104x c104x]]) rfl ?_ hS5 ?_
                ·intro w' hw'; go_simp
                simp only [sq]
                refine wpAnyL_tk (i := 6) (k := 10) (v := .agg #[.bool b104, .slice ao104 n104 c104]) rfl ?_ hS5 ?_
                ·intro w' hw'; go_simp
                simp only [sq]
                refine wpAnyL_tk (i := 7) (k := 11) (v := .agg #[.bool b104x, .slice ao104x n104x c104x]) rfl ?_ hS5 ?_
                ·intro w' hw'; go_simp
                simp only [sq]
                refine wpAnyL_on (i := 10) rfl (fun K hK => ?_)
                have st_c := NB8.cell
                have st_f := NB8.frozen
                have st_l := NB8.lt
                go_simp
                refine hK.out _ _ (stK2 (A := A8) (.bool b104) (.slice ao104 n104 c104) hS5 ge8) (fun hS6 => ?_)
                clear hK K
                have sfS : Sf 3 w104 ((w104.setCell ⟨A8, 0, none⟩ (.bool b104)).setCell ⟨A8, 1, none⟩ (.slice ao104 n104 c104)) := (stS2 (E := 3) (.bool b104) (.slice ao104 n104 c104) NB8 (by decide))
                replace NB9 := (Blk.other (c := A8) (o := 1) (y := .slice ao104 n104 c104) (Blk.other (c := A8) (o := 0) (y := .bool b104) NB9 (by omega)) (by omega))
                replace hv104 := hv104.soft sfS
                replace hu104 := hu104.soft sfS
                replace NB8 := (Blk.set (o := 1) (y := .slice ao104 n104 c104) (Blk.set (o := 0) (y := .bool b104) NB8))
                clear sfS st_c st_f st_l
                try simp only [sq]
                generalize ((w104.setCell ⟨A8, 0, none⟩ (.bool b104)).setCell ⟨A8, 1, none⟩ (.slice ao104 n104 c104)) = wt10 at *
                simp only [List.setIfInBounds_toArray, List.set_cons_zero, List.set_cons_succ] at NB8
                have st_c := NB9.cell
                have st_f := NB9.frozen
                have st_l := NB9.lt
                refine wpAnyL_last (i := 11) rfl (by kernel_rfl) (by kernel_rfl) (by kernel_rfl) (fun K hK => ?_)
                go_simp
                refine hK.out _ _ ?_
                clear hK K
                go_wp2_with fail
                go_meet
                case rel => exact ⟨A8, b104, ao104, n104, c104, xx, yy, rfl, (by omega), (ot2 (A := A9) (.bool b104x) (.slice ao104x n104x c104x) NB8 (by omega)), hv104.soft (sf2 (E := 3) (.bool b104x) (.slice ao104x n104x c104x) NB9 (by decide)), HPP, (kp2 (A := A9) (.bool b104x) (.slice ao104x n104x c104x) hS6 (by omega))⟩
               exact AllReadyL.nil
              refine AllReadyL.cons rfl (fun K hK => ?_) ?_
              ·go_simp
               refine hK.out _ _ (Kp.alloc' hS2 (.cells #[.bool false, .slice none 0 0] 81)) (fun hS3 => ?_)
               clear hK K
               have NB8 : Blk (w101.alloc (.cells #[.bool false, .slice none 0 0] 81)) w101.heap.size #[.bool false, .slice none 0 0] 81 := Blk.new w101 _ _
               have ge8 : y1.heap.size ≤ w101.heap.size := hS2.size
               have ne9x8 : A9 ≠ w101.heap.size := by have := NB9.lt; omega
               replace NB9 := NB9.keep (kp_alloc w101 (.cells #[.bool false, .slice none 0 0] 81))
               replace hv101 := hv101.keep (kp_alloc w101 (.cells #[.bool false, .slice none 0 0] 81))
               try simp only [sq]
               generalize hA8 : w101.heap.size = A8 at *
               generalize w101.alloc (.cells #[.bool false, .slice none 0 0] 81) = wn8 at *
               refine wpAnyL_on (i := 3) rfl (fun K hK => ?_)
               go_simp
               refine (size_any zb _ _ (hzb.keep hS3)).mono ?_
               rintro e w103 ⟨v103, rfl, hv103, hk103⟩
               obtain ⟨b103, ao103, n103, c103, rfl⟩ := hv103.shape'
               replace NB9 := NB9.keep hk103
               replace hv101 := hv101.keep hk103
               replace NB8 := NB8.keep hk103
               go_wp2_with fail
               refine hK.out _ _ (hS3.trans' hk103) (fun hS4 => ?_)
               clear hK K
               refine wpAnyL_on (i := 4) rfl (fun K hK => ?_)
               go_simp
               refine (pair_any _ (za.natAbs : Int) (zb.natAbs : Int) 40 _ _ _ (Nat.le_refl _) hv101 hv103 (by omega) (by omega) (by decide) (by decide) fa.abs fb.abs).mono ?_
               rintro e w104 ⟨v104, u104x, xx, yy, rfl, hv104, hu104, HPP, hk104⟩
               obtain ⟨b104, ao104, n104, c104, rfl⟩ := hv104.shape'
               obtain ⟨b104x, ao104x, n104x, c104x, rfl⟩ := hu104.shape'
               replace NB9 := NB9.keep hk104
               replace NB8 := NB8.keep hk104
               go_wp2_with fail
               refine hK.out _ _ (hS4.trans' hk104) (fun hS5 => ?_)
               clear hK K
               refine wpAnyL_tk (i := 5) (k := 6) (v := .tuple #[.agg #[.bool b104, .slice ao104 n104 c104], .agg #[.bool b104x, .slice ao104x n104x c104x]]) rfl ?_ hS5 ?_
               ·intro w' hw'; go_simp
               simp only [sq]
               refine wpAnyL_tk (i := 6) (k := 10) (v := .agg #[.bool b104, .slice ao104 n104 c104]) rfl ?_ hS5 ?_
               ·intro w' hw'; go_simp
               simp only [sq]
               refine wpAnyL_tk (i := 7) (k := 11) (v := .agg #[.bool b104x, .slice ao104x n104x c104x]) rfl ?_ hS5 ?_
               ·intro w' hw'; go_simp
               simp only [sq]
               refine wpAnyL_on (i := 10) rfl (fun K hK => ?_)
               have st_c := NB8.cell
               have st_f := NB8.frozen
               have st_l := NB8.lt
               go_simp
               refine hK.out _ _ (stK2 (A := A8) (.bool b104) (.slice ao104 n104 c104) hS5 ge8) (fun hS6 => ?_)
               clear hK K
               have sfS : Sf 3 w104 ((w104.setCell ⟨A8, 0, none⟩ (.bool b104)).setCell ⟨A8, 1, none⟩ (.slice ao104 n104 c104)) := (stS2 (E := 3) (.bool b104) (.slice ao104 n104 c104) NB8 (by decide))
               replace NB9 := (Blk.other (c := A8) (o := 1) (y := .slice ao104 n104 c104) (Blk.other (c := A8) (o := 0) (y := .bool b104) NB9 (by omega)) (by omega))
               replace hv104 := hv104.soft sfS
               replace hu104 := hu104.soft sfS
               replace NB8 := (Blk.set (o := 1) (y := .slice ao104 n104 c104) (Blk.set (o := 0) (y := .bool b104) NB8))
               clear sfS st_c st_f st_l
               try simp only [sq]
               generalize ((w104.setCell ⟨A8, 0, none⟩ (.bool b104)).setCell ⟨A8, 1, none⟩ (.slice ao104 n104 c104)) = wt10 at *
               simp only [List.setIfInBounds_toArray, List.set_cons_zero, List.set_cons_succ] at NB8
               have st_c := NB9.cell
               have st_f := NB9.frozen
               have st_l := NB9.lt
               refine wpAnyL_last (i := 11) rfl (by kernel_rfl) (by kernel_rfl) (by kernel_rfl) (fun K hK => ?_)
               go_simp
               refine hK.out _ _ ?_
               clear hK K
               go_wp2_with fail
               go_meet
               case rel => exact ⟨A8, b104, ao104, n104, c104, xx, yy, rfl, (by omega), (ot2 (A := A9) (.bool b104x) (.slice ao104x n104x c104x) NB8 (by omega)), hv104.soft (sf2 (E := 3) (.bool b104x) (.slice ao104x n104x c104x) NB9 (by decide)), HPP, (kp2 (A := A9) (.bool b104x) (.slice ao104x n104x c104x) hS6 (by omega))⟩
              exact AllReadyL.nil
             refine AllReadyL.cons rfl (fun K hK => ?_) ?_
             ·go_simp
              refine hK.out _ _ (Kp.alloc' hS1 (.cells #[.bool false, .slice none 0 0] 81)) (fun hS2 => ?_)
              clear hK K
              have NB8 : Blk (wn9.alloc (.cells #[.bool false, .slice none 0 0] 81)) wn9.heap.size #[.bool false, .slice none 0 0] 81 := Blk.new wn9 _ _
              have ge8 : y1.heap.size ≤ wn9.heap.size := hS1.size
              have ne9x8 : A9 ≠ wn9.heap.size := by have := NB9.lt; omega
              replace NB9 := NB9.keep (kp_alloc wn9 (.cells #[.bool false, .slice none 0 0] 81))
              try simp only [sq]
              generalize hA8 : wn9.heap.size = A8 at *
              generalize wn9.alloc (.cells #[.bool false, .slice none 0 0] 81) = wn8 at *
              refine wpAnyL_on (i := 1) rfl (fun K hK => ?_)
              go_simp
              refine (size_any za _ _ (hza.keep hS2)).mono ?_
              rintro e w101 ⟨v101, rfl, hv101, hk101⟩
              obtain ⟨b101, ao101, n101, c101, rfl⟩ := hv101.shape'
              replace NB9 := NB9.keep hk101
              replace NB8 := NB8.keep hk101
              go_wp2_with fail
              refine hK.out _ _ (hS2.trans' hk101) (fun hS3 => ?_)
              clear hK K
              refine wpAnyL_on (i := 3) rfl (fun K hK => ?_)
              go_simp
              refine (size_any zb _ _ (hzb.keep hS3)).mono ?_
              rintro e w103 ⟨v103, rfl, hv103, hk103⟩
              obtain ⟨b103, ao103, n103, c103, rfl⟩ := hv103.shape'
              replace NB9 := NB9.keep hk103
              replace NB8 := NB8.keep hk103
              replace hv101 := hv101.keep hk103
              go_wp2_with fail
              refine hK.out _ _ (hS3.trans' hk103) (fun hS4 => ?_)
              clear hK K
              refine wpAnyL_on (i := 4) rfl (fun K hK => ?_)
              go_simp
              refine (pair_any _ (za.natAbs : Int) (zb.natAbs : Int) 40 _ _ _ (Nat.le_refl _) hv101 hv103 (by omega) (by omega) (by decide) (by decide) fa.abs fb.abs).mono ?_
              rintro e w104 ⟨v104, u104x, xx, yy, rfl, hv104, hu104, HPP, hk104⟩
              obtain ⟨b104, ao104, n104, c104, rfl⟩ := hv104.shape'
              obtain ⟨b104x, ao104x, n104x, c104x, rfl⟩ := hu104.shape'
              replace NB9 := NB9.keep hk104
              replace NB8 := NB8.keep hk104
              go_wp2_with fail
              refine hK.out _ _ (hS4.trans' hk104) (fun hS5 => ?_)
              clear hK K
              refine wpAnyL_tk (i := 5) (k := 6) (v := .tuple #[.agg #[.bool b104, .slice ao104 n104 c104], .agg #[.bool b104x, .slice ao104x n104x c104x]]) rfl ?_ hS5 ?_
              ·intro w' hw'; go_simp
              simp only [sq]
              refine wpAnyL_tk (i := 6) (k := 10) (v := .agg #[.bool b104, .slice ao104 n104 c104]) rfl ?_ hS5 ?_
              ·intro w' hw'; go_simp
              simp only [sq]
              refine wpAnyL_tk (i := 7) (k := 11) (v := .agg #[.bool b104x, .slice ao104x n104x c104x]) rfl ?_ hS5 ?_
              ·intro w' hw'; go_simp
              simp only [sq]
              refine wpAnyL_on (i := 10) rfl (fun K hK => ?_)
              have st_c := NB8.cell
              have st_f := NB8.frozen
              have st_l := NB8.lt
              go_simp
              refine hK.out _ _ (stK2 (A := A8) (.bool b104) (.slice ao104 n104 c104) hS5 ge8) (fun hS6 => ?_)
              clear hK K
              have sfS : Sf 3 w104 ((w104.setCell ⟨A8, 0, none⟩ (.bool b104)).setCell ⟨A8, 1, none⟩ (.slice ao104 n104 c104)) := (stS2 (E := 3) (.bool b104) (.slice ao104 n104 c104) NB8 (by decide))
              replace NB9 := (Blk.other (c := A8) (o := 1) (y := .slice ao104 n104 c104) (Blk.other (c := A8) (o := 0) (y := .bool b104) NB9 (by omega)) (by omega))
              replace hv104 := hv104.soft sfS
              replace hu104 := hu104.soft sfS
              replace NB8 := (Blk.set (o := 1) (y := .slice ao104 n104 c104) (Blk.set (o := 0) (y := .bool b104) NB8))
              clear sfS st_c st_f st_l
              try simp only [sq]
              generalize ((w104.setCell ⟨A8, 0, none⟩ (.bool b104)).setCell ⟨A8, 1, none⟩ (.slice ao104 n104 c104)) = wt10 at *
              simp only [List.setIfInBounds_toArray, List.set_cons_zero, List.set_cons_succ] at NB8
              have st_c := NB9.cell
              have st_f := NB9.frozen
              have st_l := NB9.lt
              refine wpAnyL_last (i := 11) rfl (by kernel_rfl) (by kernel_rfl) (by kernel_rfl) (fun K hK => ?_)
              go_simp
              refine hK.out _ _ ?_
              clear hK K
              go_wp2_with fail
              go_meet
              case rel => exact ⟨A8, b104, ao104, n104, c104, xx, yy, rfl, (by omega), (ot2 (A := A9) (.bool b104x) (.slice ao104x n104x c104x) NB8 (by omega)), hv104.soft (sf2 (E := 3) (.bool b104x) (.slice ao104x n104x c104x) NB9 (by decide)), HPP, (kp2 (A := A9) (.bool b104x) (.slice ao104x n104x c104x) hS6 (by omega))⟩
             exact AllReadyL.nil
            exact AllReadyL.nil
          case rest =>
           as_aux_lemma =>
            obtain ⟨Ax, b7, ao7, n7, c7, xx, yy, rfl, gex, Bx, hx, HPP, hkc⟩ := hcut
            replace Ba := Ba.keep hkc
            replace Bb := Bb.keep hkc
            replace Bc := Bc.keep hkc
            replace Bg := Bg.keep hkc
            replace Bt := Bt.keep hkc
            replace hza := hza.keep hkc
            replace hzb := hzb.keep hkc
            replace hzc := hzc.keep hkc
            replace hg := hg.keep hkc
            replace ht := ht.keep hkc
            replace hkw := hkw.trans' hkc
            have neax : Aa ≠ Ax := by omega
            have nebx : Ab ≠ Ax := by omega
            have necx : Ac ≠ Ax := by omega
            have negx : Ag ≠ Ax := by omega
            have netx : At ≠ Ax := by omega
            have gw2 : ∀ A : Nat, y1.heap.size ≤ A → w.heap.size ≤ A := fun A hA => Nat.le_trans hkb hA
            have gwx := gw2 _ gex
            clear hkc gw2 hkb ltaz ltbz ltcz ltgz lttz gex
            have hkb := hkw.size
            generalize wc = y2 at *
            have HX := Hid.mk (HLR.out xx yy (HGP.out xx yy HPP.out))
            have fx : Ft 40 xx := by
             by_cases hb0 : zb = 0
             ·have k1 := (HPP.out.z (by omega)).1
              rw [k1]
              unfold Ft; decide
             ·have k1 := (HPP.out.s (by omega)).1
              exact fb.le (by omega)
            clear HLR HGP HPP
            have xc := Bx.cell
            have xl := Bx.lt
            have tc := Bt.cell
            have tl := Bt.lt
            go_wp2_with fail
            refine (rtimes_any xx t _ _ _ hx ht (fx.fit (by decide)) (ftt.fit (by decide))).mono ?_
            rintro e w15 ⟨v8, rfl, hx2, hk5⟩
            obtain ⟨b8, ao8, n8, c8, rfl⟩ := hx2.shape'
            clear xc tc xl tl
            replace Ba := Ba.keep hk5
            replace Bb := Bb.keep hk5
            replace Bc := Bc.keep hk5
            replace Bg := Bg.keep hk5
            replace Bt := Bt.keep hk5
            replace Bx := Bx.keep hk5
            replace hza := hza.soft (Sf.keep hk5)
            replace hzb := hzb.soft (Sf.keep hk5)
            replace hzc := hzc.soft (Sf.keep hk5)
            replace hg := hg.soft (Sf.keep hk5)
            replace ht := ht.soft (Sf.keep hk5)
            replace hkw := hkw.trans' hk5
            clear hk5
            clear hx
            have fxt : Ft 80 (xx * t) := fx.mul ftt
            clear fx ftt
            clear Bt ht
            generalize xx * t = xt at *
            have xc := Bx.cell
            have xl := Bx.lt
            have xf := Bx.frozen
            go_upto_region 14 with fail
            have sfx := (sf2 (E := 3) (.bool b8) (.slice ao8 n8 c8) Bx (by decide))
            replace hkw := (kp2 (A := Ax) (.bool b8) (.slice ao8 n8 c8) hkw (by omega))
            replace Ba := (ot2 (A := Ax) (.bool b8) (.slice ao8 n8 c8) Ba (by omega))
            replace Bb := (ot2 (A := Ax) (.bool b8) (.slice ao8 n8 c8) Bb (by omega))
            replace Bc := (ot2 (A := Ax) (.bool b8) (.slice ao8 n8 c8) Bc (by omega))
            replace Bg := (ot2 (A := Ax) (.bool b8) (.slice ao8 n8 c8) Bg (by omega))
            replace Bx := (bl2 (.bool b8) (.slice ao8 n8 c8) Bx)
            replace hza := hza.soft sfx
            replace hzb := hzb.soft sfx
            replace hzc := hzc.soft sfx
            replace hg := hg.soft sfx
            replace hx2 := hx2.soft sfx
            clear sfx
            generalize ((w15.setCell ⟨Ax, 0, none⟩ (.bool b8)).setCell ⟨Ax, 1, none⟩ (.slice ao8 n8 c8)) = y80 at *
            clear xc xl xf
            have eab := Hid.mk hza.neg
            have ecb := Hid.mk hzc.neg
            have ac := Ba.cell
            have al := Ba.lt
            have cc := Bc.cell
            have ccl := Bc.lt
            go_upto_if 104 with fail
            go_cut [] from 97 (fun wx => ∃ (b9 : Bool) (ao9 : Option Addr) (n9 c9 : Nat), Blk wx Ax #[.bool b9, .slice ao9 n9 c9] 81 ∧ IN wx (.agg #[.bool b9, .slice ao9 n9 c9]) (flp za zc xt) ∧ Blk wx Aa #[.bool b1, .slice ao1 n1 c1] 81 ∧ Blk wx Ab #[.bool b2, .slice ao2 n2 c2] 81 ∧ Blk wx Ac #[.bool b3, .slice ao3 n3 c3] 81 ∧ Blk wx Ag #[.bool b4, .slice ao4 n4 c4] 81 ∧ IN wx (.agg #[.bool b1, .slice ao1 n1 c1]) za ∧ IN wx (.agg #[.bool b2, .slice ao2 n2 c2]) zb ∧ IN wx (.agg #[.bool b3, .slice ao3 n3 c3]) zc ∧ IN wx (.agg #[.bool b4, .slice ao4 n4 c4]) g ∧ Kp w wx)
            case first =>
             by_cases hq : decide (za < 0) = decide (zc < 0)
             ·have ef : flp za zc xt = xt := if_pos hq
              have eb : b3 = b1 := by rw [eab.out, ecb.out, hq]
              have EF := Hid.mk ef
              clear ef hq eab ecb
              subst eb
              cases b3
              all_goals
               go_wp2_with fail
               go_meet
               case rel => exact ⟨b8, ao8, n8, c8, Bx, by rw [EF.out]; exact hx2, Ba, Bb, Bc, Bg, hza, hzb, hzc, hg, hkw⟩
             ·have ef : flp za zc xt = -xt := if_neg hq
              have eb : b3 = !b1 := by
               rw [eab.out, ecb.out]
               revert hq
               cases decide (za < 0) <;> cases decide (zc < 0) <;> simp
              have EF := Hid.mk ef
              clear ef hq eab ecb
              subst eb
              cases b1
              all_goals
               have xc := Bx.cell
               have xl := Bx.lt
               go_wp2_with fail
               refine (less_any xt _ _ hx2).mono ?_
               rintro e w70 ⟨v9, rfl, hn9, hk70⟩
               obtain ⟨b9, ao9, n9, c9, rfl⟩ := hn9.shape'
               clear xc xl ac al cc ccl
               replace Ba := Ba.keep hk70
               replace Bb := Bb.keep hk70
               replace Bc := Bc.keep hk70
               replace Bg := Bg.keep hk70
               replace Bx := Bx.keep hk70
               replace hza := hza.keep hk70
               replace hzb := hzb.keep hk70
               replace hzc := hzc.keep hk70
               replace hg := hg.keep hk70
               replace hkw := hkw.trans' hk70
               clear hk70
               have vc := Bx.cell
               have vf := Bx.frozen
               have vl := Bx.lt
               go_wp2_with fail
               go_meet
               case rel => exact ⟨b9, ao9, n9, c9, (bl2 (.bool b9) (.slice ao9 n9 c9) Bx), by rw [EF.out]; exact hn9.soft (sf2 (E := 3) (.bool b9) (.slice ao9 n9 c9) Bx (by decide)), (ot2 (A := Ax) (.bool b9) (.slice ao9 n9 c9) Ba (by omega)), (ot2 (A := Ax) (.bool b9) (.slice ao9 n9 c9) Bb (by omega)), (ot2 (A := Ax) (.bool b9) (.slice ao9 n9 c9) Bc (by omega)), (ot2 (A := Ax) (.bool b9) (.slice ao9 n9 c9) Bg (by omega)), hza.soft (sf2 (E := 3) (.bool b9) (.slice ao9 n9 c9) Bx (by decide)), hzb.soft (sf2 (E := 3) (.bool b9) (.slice ao9 n9 c9) Bx (by decide)), hzc.soft (sf2 (E := 3) (.bool b9) (.slice ao9 n9 c9) Bx (by decide)), hg.soft (sf2 (E := 3) (.bool b9) (.slice ao9 n9 c9) Bx (by decide)), (kp2 (A := Ax) (.bool b9) (.slice ao9 n9 c9) hkw (by omega))⟩
            case rest =>
             clear ac al cc ccl eab ecb
             obtain ⟨b9, ao9, n9, c9, Bx, hx, Ba, Bb, Bc, Bg, hza, hzb, hzc, hg, hkw⟩ := hcut
             clear hx2
             generalize wc = y81 at *
             have hkb := hkw.size
             have fX : Ft 80 (flp za zc xt) := fxt.le (by rw [flp_abs]; exact Nat.le_refl _)
             clear fxt
             generalize flp za zc xt = X at *
             by_cases hb0 : zb = 0
             ·have HS := Hid.mk (HX.out.1 hb0)
              have e2 : ((n2 : Int) == 0) = true := by have := lnb.1.2 hb0; simp; omega
              have HO : Hid (OutL sa sb sc (strOf (itoa X)) ⟨#[48]⟩ 0) := Or.inr ⟨h1, h2, h3, za, zb, zc, Hza.out, Hzb.out, Hzc.out, Or.inr (Or.inr ⟨HNZ.out, X, 0, HS.out, rfl, (sol_zero HS.out).symm, rfl⟩)⟩
              have hT := text_ref X _ _ hx (fX.fit (by decide))
              clear HS hb0 lnb HX
              generalize strOf (itoa X) = S1 at *
              have xc := Bx.cell
              have xl := Bx.lt
              have bc := Bb.cell
              have bll := Bb.lt
              go_wp2_with fail
              refine hT.mono ?_
              rintro e w71 ⟨rfl, hk71⟩
              clear xc xl bc bll
              go_wp2_with fail
              refine bodyPost_ret (v := .tuple #[.string S1, .string ⟨#[48]⟩, .int .i64 0]) (by simp [results, Tryd.results21, go_sem]) rfl ?_
              exact ⟨_, _, _, rfl, HO, hkw.trans' hk71⟩
             ·skip
              have e2 : ((n2 : Int) == 0) = false := by
               have h9 : n2 ≠ 0 := fun h => hb0 (lnb.1.1 h)
               simp; omega
              replace HX := Hid.mk (HX.out.2 hb0)
              have b0 : 0 < (zb.natAbs : Int) := by omega
              clear hb0
              have bc := Bb.cell
              have bll := Bb.lt
              go_wp2_with fail
              clear bc bll e2 lnb
              have ltaz := Ba.lt
              have ltbz := Bb.lt
              have ltcz := Bc.lt
              have ltgz := Bg.lt
              have ltxz := Bx.lt
              go_cut [20] from 113 (fun p20 wx => ∃ (qn : Nat) (b10 : Bool) (ao10 : Option Addr) (n10 c10 : Nat), p20 = .pointer (some ⟨qn, 0, none⟩) ∧ y81.heap.size ≤ qn ∧ Blk wx qn #[.bool b10, .slice ao10 n10 c10] 81 ∧ IN wx (.agg #[.bool b10, .slice ao10 n10 c10]) ((zb.natAbs : Int).tdiv g) ∧ Kp y81 wx)
              case first =>
               as_aux_lemma =>
                try clear hkw; try clear hkb; try clear HNZ; try clear Hza; try clear Hzb; try clear Hzc; try clear h1; try clear h2; try clear h3; try clear lnb; try clear HNO; try clear HLR; try clear HGP; try clear HX; try clear HX2; try clear HM; try clear e2; try clear ltaz; try clear ltbz; try clear ltcz; try clear ltgz; try clear ltxz; try clear hza; try clear hzc; try clear hx; try clear Ba; try clear Bc; try clear Bx
                refine wp_region_l (S := fun w' => Kp y81 w') (by kernel_rfl) (Kp.drew' (Below.refl _ _)) (fun hS0 => ?_)
                generalize y81.drew = wd at *
                refine wpAnyL_tk (i := 0) (k := 1) (v := .agg #[.bool b2, .slice ao2 n2 c2]) rfl ?_ hS0 ?_
                ·intro w' hw'; have hc := ((Bb).keep hw').cell; go_simp
                simp only [sq]
                refine wpAnyL_tk (i := 2) (k := 3) (v := .agg #[.bool b4, .slice ao4 n4 c4]) rfl ?_ hS0 ?_
                ·intro w' hw'; have hc := ((Bg).keep hw').cell; go_simp
                simp only [sq]
                refine wpAnyL_ready (rs := [1, 4]) (by kernel_rfl) (by simp) ?_
                refine AllReadyL.cons rfl (fun K hK => ?_) ?_
                ·go_simp
                 refine (size_any zb _ _ (hzb.keep hS0)).mono ?_
                 rintro e w101 ⟨v101, rfl, hv101, hk101⟩
                 obtain ⟨b101, ao101, n101, c101, rfl⟩ := hv101.shape'
                 go_wp2_with fail
                 refine hK.out _ _ (hS0.trans' hk101) (fun hS1 => ?_)
                 clear hK K
                 refine wpAnyL_ready (rs := [3, 4]) (by kernel_rfl) (by simp) ?_
                 refine AllReadyL.cons rfl (fun K hK => ?_) ?_
                 ·go_simp
                  refine (rexact_any (zb.natAbs : Int) g 40 _ _ _ hv101 (hg.keep hS1) g0 (by decide) fb.abs fg).mono ?_
                  rintro e w103 ⟨v103, rfl, hv103, hk103⟩
                  obtain ⟨b103, ao103, n103, c103, rfl⟩ := hv103.shape'
                  go_wp2_with fail
                  refine hK.out _ _ (hS1.trans' hk103) (fun hS2 => ?_)
                  clear hK K
                  refine wpAnyL_on (i := 4) rfl (fun K hK => ?_)
                  go_simp
                  refine hK.out _ _ (Kp.alloc' hS2 (.cells #[.bool false, .slice none 0 0] 81)) (fun hS3 => ?_)
                  clear hK K
                  have NB4 : Blk (w103.alloc (.cells #[.bool false, .slice none 0 0] 81)) w103.heap.size #[.bool false, .slice none 0 0] 81 := Blk.new w103 _ _
                  have ge4 : y81.heap.size ≤ w103.heap.size := hS2.size
                  replace hv103 := hv103.keep (kp_alloc w103 (.cells #[.bool false, .slice none 0 0] 81))
                  try simp only [sq]
                  generalize hA4 : w103.heap.size = A4 at *
                  generalize w103.alloc (.cells #[.bool false, .slice none 0 0] 81) = wn4 at *
                  have st_c := NB4.cell
                  have st_f := NB4.frozen
                  have st_l := NB4.lt
                  refine wpAnyL_last (i := 5) rfl (by kernel_rfl) (by kernel_rfl) (by kernel_rfl) (fun K hK => ?_)
                  go_simp
                  refine hK.out _ _ ?_
                  clear hK K
                  go_wp2_with fail
                  go_meet
                  case rel => exact ⟨A4, b103, ao103, n103, c103, rfl, (by omega), (bl2 (.bool b103) (.slice ao103 n103 c103) NB4), hv103.soft (sf2 (E := 3) (.bool b103) (.slice ao103 n103 c103) NB4 (by decide)), (kp2 (A := A4) (.bool b103) (.slice ao103 n103 c103) hS3 (by omega))⟩
                 refine AllReadyL.cons rfl (fun K hK => ?_) ?_
                 ·go_simp
                  refine hK.out _ _ (Kp.alloc' hS1 (.cells #[.bool false, .slice none 0 0] 81)) (fun hS2 => ?_)
                  clear hK K
                  have NB4 : Blk (w101.alloc (.cells #[.bool false, .slice none 0 0] 81)) w101.heap.size #[.bool false, .slice none 0 0] 81 := Blk.new w101 _ _
                  have ge4 : y81.heap.size ≤ w101.heap.size := hS1.size
                  replace hv101 := hv101.keep (kp_alloc w101 (.cells #[.bool false, .slice none 0 0] 81))
                  try simp only [sq]
                  generalize hA4 : w101.heap.size = A4 at *
                  generalize w101.alloc (.cells #[.bool false, .slice none 0 0] 81) = wn4 at *
                  refine wpAnyL_on (i := 3) rfl (fun K hK => ?_)
                  go_simp
                  refine (rexact_any (zb.natAbs : Int) g 40 _ _ _ hv101 (hg.keep hS2) g0 (by decide) fb.abs fg).mono ?_
                  rintro e w103 ⟨v103, rfl, hv103, hk103⟩
                  obtain ⟨b103, ao103, n103, c103, rfl⟩ := hv103.shape'
                  replace NB4 := NB4.keep hk103
                  go_wp2_with fail
                  refine hK.out _ _ (hS2.trans' hk103) (fun hS3 => ?_)
                  clear hK K
                  have st_c := NB4.cell
                  have st_f := NB4.frozen
                  have st_l := NB4.lt
                  refine wpAnyL_last (i := 5) rfl (by kernel_rfl) (by kernel_rfl) (by kernel_rfl) (fun K hK => ?_)
                  go_simp
                  refine hK.out _ _ ?_
                  clear hK K
                  go_wp2_with fail
                  go_meet
                  case rel => exact ⟨A4, b103, ao103, n103, c103, rfl, (by omega), (bl2 (.bool b103) (.slice ao103 n103 c103) NB4), hv103.soft (sf2 (E := 3) (.bool b103) (.slice ao103 n103 c103) NB4 (by decide)), (kp2 (A := A4) (.bool b103) (.slice ao103 n103 c103) hS3 (by omega))⟩
                 exact AllReadyL.nil
                refine AllReadyL.cons rfl (fun K hK => ?_) ?_
                ·go_simp
                 refine hK.out _ _ (Kp.alloc' hS0 (.cells #[.bool false, .slice none 0 0] 81)) (fun hS1 => ?_)
                 clear hK K
                 have NB4 : Blk (wd.alloc (.cells #[.bool false, .slice none 0 0] 81)) wd.heap.size #[.bool false, .slice none 0 0] 81 := Blk.new wd _ _
                 have ge4 : y81.heap.size ≤ wd.heap.size := hS0.size
                 try simp only [sq]
                 generalize hA4 : wd.heap.size = A4 at *
                 generalize wd.alloc (.cells #[.bool false, .slice none 0 0] 81) = wn4 at *
                 refine wpAnyL_on (i := 1) rfl (fun K hK => ?_)
                 go_simp
                 refine (size_any zb _ _ (hzb.keep hS1)).mono ?_
                 rintro e w101 ⟨v101, rfl, hv101, hk101⟩
                 obtain ⟨b101, ao101, n101, c101, rfl⟩ := hv101.shape'
                 replace NB4 := NB4.keep hk101
                 go_wp2_with fail
                 refine hK.out _ _ (hS1.trans' hk101) (fun hS2 => ?_)
                 clear hK K
                 refine wpAnyL_on (i := 3) rfl (fun K hK => ?_)
                 go_simp
                 refine (rexact_any (zb.natAbs : Int) g 40 _ _ _ hv101 (hg.keep hS2) g0 (by decide) fb.abs fg).mono ?_
                 rintro e w103 ⟨v103, rfl, hv103, hk103⟩
                 obtain ⟨b103, ao103, n103, c103, rfl⟩ := hv103.shape'
                 replace NB4 := NB4.keep hk103
                 go_wp2_with fail
                 refine hK.out _ _ (hS2.trans' hk103) (fun hS3 => ?_)
                 clear hK K
                 have st_c := NB4.cell
                 have st_f := NB4.frozen
                 have st_l := NB4.lt
                 refine wpAnyL_last (i := 5) rfl (by kernel_rfl) (by kernel_rfl) (by kernel_rfl) (fun K hK => ?_)
                 go_simp
                 refine hK.out _ _ ?_
                 clear hK K
                 go_wp2_with fail
                 go_meet
                 case rel => exact ⟨A4, b103, ao103, n103, c103, rfl, (by omega), (bl2 (.bool b103) (.slice ao103 n103 c103) NB4), hv103.soft (sf2 (E := 3) (.bool b103) (.slice ao103 n103 c103) NB4 (by decide)), (kp2 (A := A4) (.bool b103) (.slice ao103 n103 c103) hS3 (by omega))⟩
                exact AllReadyL.nil
              case rest =>
               as_aux_lemma =>
                obtain ⟨An, b10, ao10, n10, c10, rfl, gen, Bn, hn, hkc⟩ := hcut
                replace Ba := Ba.keep hkc
                replace Bb := Bb.keep hkc
                replace Bc := Bc.keep hkc
                replace Bg := Bg.keep hkc
                replace Bx := Bx.keep hkc
                replace hza := hza.keep hkc
                replace hzb := hzb.keep hkc
                replace hzc := hzc.keep hkc
                replace hg := hg.keep hkc
                replace hx := hx.keep hkc
                replace hkw := hkw.trans' hkc
                have nean : Aa ≠ An := by omega
                have nebn : Ab ≠ An := by omega
                have necn : Ac ≠ An := by omega
                have negn : Ag ≠ An := by omega
                have nexn : Ax ≠ An := by omega
                have gw3 : ∀ A : Nat, y81.heap.size ≤ A → w.heap.size ≤ A := fun A hA => Nat.le_trans hkb hA
                have gwn := gw3 _ gen
                clear hkc gw3 hkb ltaz ltbz ltcz ltgz ltxz gen
                have hkb := hkw.size
                generalize wc = y3 at *
                clear Bg hg
                have n0 := HX.out.1
                have fn : Ft 40 ((zb.natAbs : Int).tdiv g) := fb.abs.le (by have := tdiv_le (zb.natAbs : Int) g; omega)
                clear fg g0
                generalize (zb.natAbs : Int).tdiv g = N at *
                go_wp2_with fail
                have ltaz := Ba.lt
                have ltbz := Bb.lt
                have ltcz := Bc.lt
                have ltxz := Bx.lt
                have ltnz := Bn.lt
                go_cut [21, 22] from 117 (fun _ p22 wx => ∃ (qy : Nat) (b11 : Bool) (ao11 : Option Addr) (n11 c11 : Nat), p22 = .pointer (some ⟨qy, 0, none⟩) ∧ y3.heap.size ≤ qy ∧ Blk wx qy #[.bool b11, .slice ao11 n11 c11] 81 ∧ IN wx (.agg #[.bool b11, .slice ao11 n11 c11]) ((X.natAbs : Int) % N) ∧ Kp y3 wx)
                case first =>
                 as_aux_lemma =>
                  try clear hkw; try clear hkb; try clear HNZ; try clear Hza; try clear Hzb; try clear Hzc; try clear h1; try clear h2; try clear h3; try clear lnb; try clear HNO; try clear HLR; try clear HGP; try clear HX; try clear HX2; try clear HM; try clear e2; try clear ltaz; try clear ltbz; try clear ltcz; try clear ltxz; try clear ltnz; try clear hza; try clear hzb; try clear hzc; try clear Ba; try clear Bb; try clear Bc
                  refine wp_region_l (S := fun w' => Kp y3 w') (by kernel_rfl) (Kp.drew' (Below.refl _ _)) (fun hS0 => ?_)
                  generalize y3.drew = wd at *
                  refine wpAnyL_tk (i := 0) (k := 1) (v := .agg #[.bool b9, .slice ao9 n9 c9]) rfl ?_ hS0 ?_
                  ·intro w' hw'; have hc := ((Bx).keep hw').cell; go_simp
                  simp only [sq]
                  refine wpAnyL_tk (i := 2) (k := 3) (v := .agg #[.bool b10, .slice ao10 n10 c10]) rfl ?_ hS0 ?_
                  ·intro w' hw'; have hc := ((Bn).keep hw').cell; go_simp
                  simp only [sq]
                  refine wpAnyL_ready (rs := [1, 7, 8]) (by kernel_rfl) (by simp) ?_
                  refine AllReadyL.cons rfl (fun K hK => ?_) ?_
                  ·go_simp
                   refine (size_any X _ _ (hx.keep hS0)).mono ?_
                   rintro e w101 ⟨v101, rfl, hv101, hk101⟩
                   obtain ⟨b101, ao101, n101, c101, rfl⟩ := hv101.shape'
                   go_wp2_with fail
                   refine hK.out _ _ (hS0.trans' hk101) (fun hS1 => ?_)
                   clear hK K
                   refine wpAnyL_ready (rs := [3, 7, 8]) (by kernel_rfl) (by simp) ?_
                   refine AllReadyL.cons rfl (fun K hK => ?_) ?_
                   ·go_simp
                    refine (rdiv_any (X.natAbs : Int) N 80 _ _ _ hv101 (hn.keep hS1) (by omega) n0 (by decide) fX.abs (fn.mono (by decide))).mono ?_
                    rintro e w103 ⟨v103, u103x, rfl, hv103, hu103, hk103⟩
                    obtain ⟨b103, ao103, n103, c103, rfl⟩ := hv103.shape'
                    obtain ⟨b103x, ao103x, n103x, c103x, rfl⟩ := hu103.shape'
                    go_wp2_with fail
                    refine hK.out _ _ (hS1.trans' hk103) (fun hS2 => ?_)
                    clear hK K
                    refine wpAnyL_tk (i := 4) (k := 5) (v := .tuple #[.agg #[.bool b103, .slice ao103 n103 c103], .agg #[.bool b103x, .slice ao103x n103x c103x]]) rfl ?_ hS2 ?_
                    ·intro w' hw'; go_simp
                    simp only [sq]
                    refine wpAnyL_tk (i := 5) (k := 9) (v := .agg #[.bool b103, .slice ao103 n103 c103]) rfl ?_ hS2 ?_
                    ·intro w' hw'; go_simp
                    simp only [sq]
                    refine wpAnyL_tk (i := 6) (k := 10) (v := .agg #[.bool b103x, .slice ao103x n103x c103x]) rfl ?_ hS2 ?_
                    ·intro w' hw'; go_simp
                    simp only [sq]
                    refine wpAnyL_ready (rs := [7, 8]) (by kernel_rfl) (by simp) ?_
                    refine AllReadyL.cons rfl (fun K hK => ?_) ?_
                    ·go_simp
                     refine hK.out _ _ (Kp.alloc' hS2 (.cells #[.bool false, .slice none 0 0] 81)) (fun hS3 => ?_)
                     clear hK K
                     have NB7 : Blk (w103.alloc (.cells #[.bool false, .slice none 0 0] 81)) w103.heap.size #[.bool false, .slice none 0 0] 81 := Blk.new w103 _ _
                     have ge7 : y3.heap.size ≤ w103.heap.size := hS2.size
                     replace hv103 := hv103.keep (kp_alloc w103 (.cells #[.bool false, .slice none 0 0] 81))
                     replace hu103 := hu103.keep (kp_alloc w103 (.cells #[.bool false, .slice none 0 0] 81))
                     try simp only [sq]
                     generalize hA7 : w103.heap.size = A7 at *
                     generalize w103.alloc (.cells #[.bool false, .slice none 0 0] 81) = wn7 at *
                     refine wpAnyL_on (i := 8) rfl (fun K hK => ?_)
                     go_simp
                     refine hK.out _ _ (Kp.alloc' hS3 (.cells #[.bool false, .slice none 0 0] 81)) (fun hS4 => ?_)
                     clear hK K
                     have NB8 : Blk (wn7.alloc (.cells #[.bool false, .slice none 0 0] 81)) wn7.heap.size #[.bool false, .slice none 0 0] 81 := Blk.new wn7 _ _
                     have ge8 : y3.heap.size ≤ wn7.heap.size := hS3.size
                     have ne7x8 : A7 ≠ wn7.heap.size := by have := NB7.lt; omega
                     replace hv103 := hv103.keep (kp_alloc wn7 (.cells #[.bool false, .slice none 0 0] 81))
                     replace hu103 := hu103.keep (kp_alloc wn7 (.cells #[.bool false, .slice none 0 0] 81))
                     replace NB7 := NB7.keep (kp_alloc wn7 (.cells #[.bool false, .slice none 0 0] 81))
                     try simp only [sq]
                     generalize hA8 : wn7.heap.size = A8 at *
                     generalize wn7.alloc (.cells #[.bool false, .slice none 0 0] 81) = wn8 at *
                     refine wpAnyL_on (i := 9) rfl (fun K hK => ?_)
                     have st_c := NB7.cell
                     have st_f := NB7.frozen
                     have st_l := NB7.lt
                     go_simp
                     refine hK.out _ _ (stK2 (A := A7) (.bool b103) (.slice ao103 n103 c103) hS4 ge7) (fun hS5 => ?_)
                     clear hK K
                     have sfS : Sf 3 wn8 ((wn8.setCell ⟨A7, 0, none⟩ (.bool b103)).setCell ⟨A7, 1, none⟩ (.slice ao103 n103 c103)) := (stS2 (E := 3) (.bool b103) (.slice ao103 n103 c103) NB7 (by decide))
                     replace hv103 := hv103.soft sfS
                     replace hu103 := hu103.soft sfS
                     replace NB8 := (Blk.other (c := A7) (o := 1) (y := .slice ao103 n103 c103) (Blk.other (c := A7) (o := 0) (y := .bool b103) NB8 (by omega)) (by omega))
                     replace NB7 := (Blk.set (o := 1) (y := .slice ao103 n103 c103) (Blk.set (o := 0) (y := .bool b103) NB7))
                     clear sfS st_c st_f st_l
                     try simp only [sq]
                     generalize ((wn8.setCell ⟨A7, 0, none⟩ (.bool b103)).setCell ⟨A7, 1, none⟩ (.slice ao103 n103 c103)) = wt9 at *
                     simp only [List.setIfInBounds_toArray, List.set_cons_zero, List.set_cons_succ] at NB7
                     have st_c := NB8.cell
                     have st_f := NB8.frozen
                     have st_l := NB8.lt
                     refine wpAnyL_last (i := 10) rfl (by kernel_rfl) (by kernel_rfl) (by kernel_rfl) (fun K hK => ?_)
                     go_simp
                     refine hK.out _ _ ?_
                     clear hK K
                     go_wp2_with fail
                     go_meet
                     case rel => exact ⟨A8, b103x, ao103x, n103x, c103x, rfl, (by omega), (bl2 (.bool b103x) (.slice ao103x n103x c103x) NB8), hu103.soft (sf2 (E := 3) (.bool b103x) (.slice ao103x n103x c103x) NB8 (by decide)), (kp2 (A := A8) (.bool b103x) (.slice ao103x n103x c103x) hS5 (by omega))⟩
                    refine AllReadyL.cons rfl (fun K hK => ?_) ?_
                    ·go_simp
                     refine hK.out _ _ (Kp.alloc' hS2 (.cells #[.bool false, .slice none 0 0] 81)) (fun hS3 => ?_)
                     clear hK K
                     have NB8 : Blk (w103.alloc (.cells #[.bool false, .slice none 0 0] 81)) w103.heap.size #[.bool false, .slice none 0 0] 81 := Blk.new w103 _ _
                     have ge8 : y3.heap.size ≤ w103.heap.size := hS2.size
                     replace hv103 := hv103.keep (kp_alloc w103 (.cells #[.bool false, .slice none 0 0] 81))
                     replace hu103 := hu103.keep (kp_alloc w103 (.cells #[.bool false, .slice none 0 0] 81))
                     try simp only [sq]
                     generalize hA8 : w103.heap.size = A8 at *
                     generalize w103.alloc (.cells #[.bool false, .slice none 0 0] 81) = wn8 at *
                     refine wpAnyL_on (i := 7) rfl (fun K hK => ?_)
                     go_simp
                     refine hK.out _ _ (Kp.alloc' hS3 (.cells #[.bool false, .slice none 0 0] 81)) (fun hS4 => ?_)
                     clear hK K
                     have NB7 : Blk (wn8.alloc (.cells #[.bool false, .slice none 0 0] 81)) wn8.heap.size #[.bool false, .slice none 0 0] 81 := Blk.new wn8 _ _
                     have ge7 : y3.heap.size ≤ wn8.heap.size := hS3.size
                     have ne8x7 : A8 ≠ wn8.heap.size := by have := NB8.lt; omega
                     replace hv103 := hv103.keep (kp_alloc wn8 (.cells #[.bool false, .slice none 0 0] 81))
                     replace hu103 := hu103.keep (kp_alloc wn8 (.cells #[.bool false, .slice none 0 0] 81))
                     replace NB8 := NB8.keep (kp_alloc wn8 (.cells #[.bool false, .slice none 0 0] 81))
                     try simp only [sq]
                     generalize hA7 : wn8.heap.size = A7 at *
                     generalize wn8.alloc (.cells #[.bool false, .slice none 0 0] 81) = wn7 at *
                     refine wpAnyL_on (i := 9) rfl (fun K hK => ?_)
                     have st_c := NB7.cell
                     have st_f := NB7.frozen
                     have st_l := NB7.lt
                     go_simp
                     refine hK.out _ _ (stK2 (A := A7) (.bool b103) (.slice ao103 n103 c103) hS4 ge7) (fun hS5 => ?_)
                     clear hK K
                     have sfS : Sf 3 wn7 ((wn7.setCell ⟨A7, 0, none⟩ (.bool b103)).setCell ⟨A7, 1, none⟩ (.slice ao103 n103 c103)) := (stS2 (E := 3) (.bool b103) (.slice ao103 n103 c103) NB7 (by decide))
                     replace hv103 := hv103.soft sfS
                     replace hu103 := hu103.soft sfS
                     replace NB8 := (Blk.other (c := A7) (o := 1) (y := .slice ao103 n103 c103) (Blk.other (c := A7) (o := 0) (y := .bool b103) NB8 (by omega)) (by omega))
                     replace NB7 := (Blk.set (o := 1) (y := .slice ao103 n103 c103) (Blk.set (o := 0) (y := .bool b103) NB7))
                     clear sfS st_c st_f st_l
                     try simp only [sq]
                     generalize ((wn7.setCell ⟨A7, 0, none⟩ (.bool b103)).setCell ⟨A7, 1, none⟩ (.slice ao103 n103 c103)) = wt9 at *
                     simp only [List.setIfInBounds_toArray, List.set_cons_zero, List.set_cons_succ] at NB7
                     have st_c := NB8.cell
                     have st_f := NB8.frozen
                     have st_l := NB8.lt
                     refine wpAnyL_last (i := 10) rfl (by kernel_rfl) (by kernel_rfl) (by kernel_rfl) (fun K hK => ?_)
                     go_simp
                     refine hK.out _ _ ?_
                     clear hK K
                     go_wp2_with fail
                     go_meet
                     case rel => exact ⟨A8, b103x, ao103x, n103x, c103x, rfl, (by omega), (bl2 (.bool b103x) (.slice ao103x n103x c103x) NB8), hu103.soft (sf2 (E := 3) (.bool b103x) (.slice ao103x n103x c103x) NB8 (by decide)), (kp2 (A := A8) (.bool b103x) (.slice ao103x n103x c103x) hS5 (by omega))⟩
                    exact AllReadyL.nil
                   refine AllReadyL.cons rfl (fun K hK => ?_) ?_
                   ·go_simp
                    refine hK.out _ _ (Kp.alloc' hS1 (.cells #[.bool false, .slice none 0 0] 81)) (fun hS2 => ?_)
                    clear hK K
                    have NB7 : Blk (w101.alloc (.cells #[.bool false, .slice none 0 0] 81)) w101.heap.size #[.bool false, .slice none 0 0] 81 := Blk.new w101 _ _
                    have ge7 : y3.heap.size ≤ w101.heap.size := hS1.size
                    replace hv101 := hv101.keep (kp_alloc w101 (.cells #[.bool false, .slice none 0 0] 81))
                    try simp only [sq]
                    generalize hA7 : w101.heap.size = A7 at *
                    generalize w101.alloc (.cells #[.bool false, .slice none 0 0] 81) = wn7 at *
                    refine wpAnyL_ready (rs := [3, 8]) (by kernel_rfl) (by simp) ?_
                    refine AllReadyL.cons rfl (fun K hK => ?_) ?_
                    ·go_simp
                     refine (rdiv_any (X.natAbs : Int) N 80 _ _ _ hv101 (hn.keep hS2) (by omega) n0 (by decide) fX.abs (fn.mono (by decide))).mono ?_
                     rintro e w103 ⟨v103, u103x, rfl, hv103, hu103, hk103⟩
                     obtain ⟨b103, ao103, n103, c103, rfl⟩ := hv103.shape'
                     obtain ⟨b103x, ao103x, n103x, c103x, rfl⟩ := hu103.shape'
                     replace NB7 := NB7.keep hk103
                     go_wp2_with fail
                     refine hK.out _ _ (hS2.trans' hk103) (fun hS3 => ?_)
                     clear hK K
                     refine wpAnyL_tk (i := 4) (k := 5) (v := .tuple #[.agg #[.bool b103, .slice ao103 n103 c103], .agg #[.bool b103x, .slice ao103x n103x c103x]]) rfl ?_ hS3 ?_
                     ·intro w' hw'; go_simp
                     simp only [sq]
                     refine wpAnyL_tk (i := 5) (k := 9) (v := .agg #[.bool b103, .slice ao103 n103 c103]) rfl ?_ hS3 ?_
                     ·intro w' hw'; go_simp
                     simp only [sq]
                     refine wpAnyL_tk (i := 6) (k := 10) (v := .agg #[.bool b103x, .slice ao103x n103x c103x]) rfl ?_ hS3 ?_
                     ·intro w' hw'; go_simp
                     simp only [sq]
                     refine wpAnyL_on (i := 8) rfl (fun K hK => ?_)
                     go_simp
                     refine hK.out _ _ (Kp.alloc' hS3 (.cells #[.bool false, .slice none 0 0] 81)) (fun hS4 => ?_)
                     clear hK K
                     have NB8 : Blk (w103.alloc (.cells #[.bool false, .slice none 0 0] 81)) w103.heap.size #[.bool false, .slice none 0 0] 81 := Blk.new w103 _ _
                     have ge8 : y3.heap.size ≤ w103.heap.size := hS3.size
                     have ne7x8 : A7 ≠ w103.heap.size := by have := NB7.lt; omega
                     replace NB7 := NB7.keep (kp_alloc w103 (.cells #[.bool false, .slice none 0 0] 81))
                     replace hv103 := hv103.keep (kp_alloc w103 (.cells #[.bool false, .slice none 0 0] 81))
                     replace hu103 := hu103.keep (kp_alloc w103 (.cells #[.bool false, .slice none 0 0] 81))
                     try simp only [sq]
                     generalize hA8 : w103.heap.size = A8 at *
                     generalize w103.alloc (.cells #[.bool false, .slice none 0 0] 81) = wn8 at *
                     refine wpAnyL_on (i := 9) rfl (fun K hK => ?_)
                     have st_c := NB7.cell
                     have st_f := NB7.frozen
                     have st_l := NB7.lt
                     go_simp
                     refine hK.out _ _ (stK2 (A := A7) (.bool b103) (.slice ao103 n103 c103) hS4 ge7) (fun hS5 => ?_)
                     clear hK K
                     have sfS : Sf 3 wn8 ((wn8.setCell ⟨A7, 0, none⟩ (.bool b103)).setCell ⟨A7, 1, none⟩ (.slice ao103 n103 c103)) := (stS2 (E := 3) (.bool b103) (.slice ao103 n103 c103) NB7 (by decide))
                     replace hv103 := hv103.soft sfS
                     replace hu103 := hu103.soft sfS
                     replace NB8 := (Blk.other (c := A7) (o := 1) (y := .slice ao103 n103 c103) (Blk.other (c := A7) (o := 0) (y := .bool b103) NB8 (by omega)) (by omega))
                     replace NB7 := (Blk.set (o := 1) (y := .slice ao103 n103 c103) (Blk.set (o := 0) (y := .bool b103) NB7))
                     clear sfS st_c st_f st_l
                     try simp only [sq]
                     generalize ((wn8.setCell ⟨A7, 0, none⟩ (.bool b103)).setCell ⟨A7, 1, none⟩ (.slice ao103 n103 c103)) = wt9 at *
                     simp only [List.setIfInBounds_toArray, List.set_cons_zero, List.set_cons_succ] at NB7
                     have st_c := NB8.cell
                     have st_f := NB8.frozen
                     have st_l := NB8.lt
                     refine wpAnyL_last (i := 10) rfl (by kernel_rfl) (by kernel_rfl) (by kernel_rfl) (fun K hK => ?_)
                     go_simp
                     refine hK.out _ _ ?_
                     clear hK K
                     go_wp2_with fail
                     go_meet
                     case rel => exact ⟨A8, b103x, ao103x, n103x, c103x, rfl, (by omega), (bl2 (.bool b103x) (.slice ao103x n103x c103x) NB8), hu103.soft (sf2 (E := 3) (.bool b103x) (.slice ao103x n103x c103x) NB8 (by decide)), (kp2 (A := A8) (.bool b103x) (.slice ao103x n103x c103x) hS5 (by omega))⟩
                    refine AllReadyL.cons rfl (fun K hK => ?_) ?_
                    ·go_simp
                     refine hK.out _ _ (Kp.alloc' hS2 (.cells #[.bool false, .slice none 0 0] 81)) (fun hS3 => ?_)
                     clear hK K
                     have NB8 : Blk (wn7.alloc (.cells #[.bool false, .slice none 0 0] 81)) wn7.heap.size #[.bool false, .slice none 0 0] 81 := Blk.new wn7 _ _
                     have ge8 : y3.heap.size ≤ wn7.heap.size := hS2.size
                     have ne7x8 : A7 ≠ wn7.heap.size := by have := NB7.lt; omega
                     replace hv101 := hv101.keep (kp_alloc wn7 (.cells #[.bool false, .slice none 0 0] 81))
                     replace NB7 := NB7.keep (kp_alloc wn7 (.cells #[.bool false, .slice none 0 0] 81))
                     try simp only [sq]
                     generalize hA8 : wn7.heap.size = A8 at *
                     generalize wn7.alloc (.cells #[.bool false, .slice none 0 0] 81) = wn8 at *
                     refine wpAnyL_on (i := 3) rfl (fun K hK => ?_)
                     go_simp
                     refine (rdiv_any (X.natAbs : Int) N 80 _ _ _ hv101 (hn.keep hS3) (by omega) n0 (by decide) fX.abs (fn.mono (by decide))).mono ?_
                     rintro e w103 ⟨v103, u103x, rfl, hv103, hu103, hk103⟩
                     obtain ⟨b103, ao103, n103, c103, rfl⟩ := hv103.shape'
                     obtain ⟨b103x, ao103x, n103x, c103x, rfl⟩ := hu103.shape'
                     replace NB7 := NB7.keep hk103
                     replace NB8 := NB8.keep hk103
                     go_wp2_with fail
                     refine hK.out _ _ (hS3.trans' hk103) (fun hS4 => ?_)
                     clear hK K
                     refine wpAnyL_tk (i := 4) (k := 5) (v := .tuple #[.agg #[.bool b103, .slice ao103 n103 c103], .agg #[.bool b103x, .slice ao103x n103x c103x]]) rfl ?_ hS4 ?_
                     ·intro w' hw'; go_simp
                     simp only [sq]
                     refine wpAnyL_tk (i := 5) (k := 9) (v := .agg #[.bool b103, .slice ao103 n103 c103]) rfl ?_ hS4 ?_
                     ·intro w' hw'; go_simp
                     simp only [sq]
                     refine wpAnyL_tk (i := 6) (k := 10) (v := .agg #[.bool b103x, .slice ao103x n103x c103x]) rfl ?_ hS4 ?_
                     ·intro w' hw'; go_simp
                     simp only [sq]
                     refine wpAnyL_on (i := 9) rfl (fun K hK => ?_)
                     have st_c := NB7.cell
                     have st_f := NB7.frozen
                     have st_l := NB7.lt
                     go_simp
                     refine hK.out _ _ (stK2 (A := A7) (.bool b103) (.slice ao103 n103 c103) hS4 ge7) (fun hS5 => ?_)
                     clear hK K
                     have sfS : Sf 3 w103 ((w103.setCell ⟨A7, 0, none⟩ (.bool b103)).setCell ⟨A7, 1, none⟩ (.slice ao103 n103 c103)) := (stS2 (E := 3) (.bool b103) (.slice ao103 n103 c103) NB7 (by decide))
                     replace NB8 := (Blk.other (c := A7) (o := 1) (y := .slice ao103 n103 c103) (Blk.other (c := A7) (o := 0) (y := .bool b103) NB8 (by omega)) (by omega))
                     replace hv103 := hv103.soft sfS
                     replace hu103 := hu103.soft sfS
                     replace NB7 := (Blk.set (o := 1) (y := .slice ao103 n103 c103) (Blk.set (o := 0) (y := .bool b103) NB7))
                     clear sfS st_c st_f st_l
                     try simp only [sq]
                     generalize ((w103.setCell ⟨A7, 0, none⟩ (.bool b103)).setCell ⟨A7, 1, none⟩ (.slice ao103 n103 c103)) = wt9 at *
                     simp only [List.setIfInBounds_toArray, List.set_cons_zero, List.set_cons_succ] at NB7
                     have st_c := NB8.cell
                     have st_f := NB8.frozen
                     have st_l := NB8.lt
                     refine wpAnyL_last (i := 10) rfl (by kernel_rfl) (by kernel_rfl) (by kernel_rfl) (fun K hK => ?_)
                     go_simp
                     refine hK.out _ _ ?_
                     clear hK K
                     go_wp2_with fail
                     go_meet
                     case rel => exact ⟨A8, b103x, ao103x, n103x, c103x, rfl, (by omega), (bl2 (.bool b103x) (.slice ao103x n103x c103x) NB8), hu103.soft (sf2 (E := 3) (.bool b103x) (.slice ao103x n103x c103x) NB8 (by decide)), (kp2 (A := A8) (.bool b103x) (.slice ao103x n103x c103x) hS5 (by omega))⟩
                    exact AllReadyL.nil
                   refine AllReadyL.cons rfl (fun K hK => ?_) ?_
                   ·go_simp
                    refine hK.out _ _ (Kp.alloc' hS1 (.cells #[.bool false, .slice none 0 0] 81)) (fun hS2 => ?_)
                    clear hK K
                    have NB8 : Blk (w101.alloc (.cells #[.bool false, .slice none 0 0] 81)) w101.heap.size #[.bool false, .slice none 0 0] 81 := Blk.new w101 _ _
                    have ge8 : y3.heap.size ≤ w101.heap.size := hS1.size
                    replace hv101 := hv101.keep (kp_alloc w101 (.cells #[.bool false, .slice none 0 0] 81))
                    try simp only [sq]
                    generalize hA8 : w101.heap.size = A8 at *
                    generalize w101.alloc (.cells #[.bool false, .slice none 0 0] 81) = wn8 at *
                    refine wpAnyL_ready (rs := [3, 7]) (by kernel_rfl) (by simp) ?_
                    refine AllReadyL.cons rfl (fun K hK => ?_) ?_
                    ·go_simp
                     refine (rdiv_any (X.natAbs : Int) N 80 _ _ _ hv101 (hn.keep hS2) (by omega) n0 (by decide) fX.abs (fn.mono (by decide))).mono ?_
                     rintro e w103 ⟨v103, u103x, rfl, hv103, hu103, hk103⟩
                     obtain ⟨b103, ao103, n103, c103, rfl⟩ := hv103.shape'
                     obtain ⟨b103x, ao103x, n103x, c103x, rfl⟩ := hu103.shape'
                     replace NB8 := NB8.keep hk103
                     go_wp2_with fail
                     refine hK.out _ _ (hS2.trans' hk103) (fun hS3 => ?_)
                     clear hK K
                     refine wpAnyL_tk (i := 4) (k := 5) (v := .tuple #[.agg #[.bool b103, .slice ao103 n103 c103], .agg #[.bool b103x, .slice ao103x n103x c103x]]) rfl ?_ hS3 ?_
                     ·intro w' hw'; go_simp
                     simp only [sq]
                     refine wpAnyL_tk (i := 5) (k := 9) (v := .agg #[.bool b103, .slice ao103 n103 c103]) rfl ?_ hS3 ?_
                     ·intro w' hw'; go_simp
                     simp only [sq]
                     refine wpAnyL_tk (i := 6) (k := 10) (v := .agg #[.bool b103x, .slice ao103x n103x c103x]) rfl ?_ hS3 ?_
                     ·intro w' hw'; go_simp
                     simp only [sq]
                     refine wpAnyL_on (i := 7) rfl (fun K hK => ?_)
                     go_simp
                     refine hK.out _ _ (Kp.alloc' hS3 (.cells #[.bool false, .slice none 0 0] 81)) (fun hS4 => ?_)
                     clear hK K
                     have NB7 : Blk (w103.alloc (.cells #[.bool false, .slice none 0 0] 81)) w103.heap.size #[.bool false, .slice none 0 0] 81 := Blk.new w103 _ _
                     have ge7 : y3.heap.size ≤ w103.heap.size := hS3.size
                     have ne8x7 : A8 ≠ w103.heap.size := by have := NB8.lt; omega
                     replace NB8 := NB8.keep (kp_alloc w103 (.cells #[.bool false, .slice none 0 0] 81))
                     replace hv103 := hv103.keep (kp_alloc w103 (.cells #[.bool false, .slice none 0 0] 81))
                     replace hu103 := hu103.keep (kp_alloc w103 (.cells #[.bool false, .slice none 0 0] 81))
                     try simp only [sq]
                     generalize hA7 : w103.heap.size = A7 at *
                     generalize w103.alloc (.cells #[.bool false, .slice none 0 0] 81) = wn7 at *
                     refine wpAnyL_on (i := 9) rfl (fun K hK => ?_)
                     have st_c := NB7.cell
                     have st_f := NB7.frozen
                     have st_l := NB7.lt
                     go_simp
                     refine hK.out _ _ (stK2 (A := A7) (.bool b103) (.slice ao103 n103 c103) hS4 ge7) (fun hS5 => ?_)
                     clear hK K
                     have sfS : Sf 3 wn7 ((wn7.setCell ⟨A7, 0, none⟩ (.bool b103)).setCell ⟨A7, 1, none⟩ (.slice ao103 n103 c103)) := (stS2 (E := 3) (.bool b103) (.slice ao103 n103 c103) NB7 (by decide))
                     replace NB8 := (Blk.other (c := A7) (o := 1) (y := .slice ao103 n103 c103) (Blk.other (c := A7) (o := 0) (y := .bool b103) NB8 (by omega)) (by omega))
                     replace hv103 := hv103.soft sfS
                     replace hu103 := hu103.soft sfS
                     replace NB7 := (Blk.set (o := 1) (y := .slice ao103 n103 c103) (Blk.set (o := 0) (y := .bool b103) NB7))
                     clear sfS st_c st_f st_l
                     try simp only [sq]
                     generalize ((wn7.setCell ⟨A7, 0, none⟩ (.bool b103)).setCell ⟨A7, 1, none⟩ (.slice ao103 n103 c103)) = wt9 at *
                     simp only [List.setIfInBounds_toArray, List.set_cons_zero, List.set_cons_succ] at NB7
                     have st_c := NB8.cell
                     have st_f := NB8.frozen
                     have st_l := NB8.lt
                     refine wpAnyL_last (i := 10) rfl (by kernel_rfl) (by kernel_rfl) (by kernel_rfl) (fun K hK => ?_)
                     go_simp
                     refine hK.out _ _ ?_
                     clear hK K
                     go_wp2_with fail
                     go_meet
                     case rel => exact ⟨A8, b103x, ao103x, n103x, c103x, rfl, (by omega), (bl2 (.bool b103x) (.slice ao103x n103x c103x) NB8), hu103.soft (sf2 (E := 3) (.bool b103x) (.slice ao103x n103x c103x) NB8 (by decide)), (kp2 (A := A8) (.bool b103x) (.slice ao103x n103x c103x) hS5 (by omega))⟩
                    refine AllReadyL.cons rfl (fun K hK => ?_) ?_
                    ·go_simp
                     refine hK.out _ _ (Kp.alloc' hS2 (.cells #[.bool false, .slice none 0 0] 81)) (fun hS3 => ?_)
                     clear hK K
                     have NB7 : Blk (wn8.alloc (.cells #[.bool false, .slice none 0 0] 81)) wn8.heap.size #[.bool false, .slice none 0 0] 81 := Blk.new wn8 _ _
                     have ge7 : y3.heap.size ≤ wn8.heap.size := hS2.size
                     have ne8x7 : A8 ≠ wn8.heap.size := by have := NB8.lt; omega
                     replace hv101 := hv101.keep (kp_alloc wn8 (.cells #[.bool false, .slice none 0 0] 81))
                     replace NB8 := NB8.keep (kp_alloc wn8 (.cells #[.bool false, .slice none 0 0] 81))
                     try simp only [sq]
                     generalize hA7 : wn8.heap.size = A7 at *
                     generalize wn8.alloc (.cells #[.bool false, .slice none 0 0] 81) = wn7 at *
                     refine wpAnyL_on (i := 3) rfl (fun K hK => ?_)
                     go_simp
                     refine (rdiv_any (X.natAbs : Int) N 80 _ _ _ hv101 (hn.keep hS3) (by omega) n0 (by decide) fX.abs (fn.mono (by decide))).mono ?_
                     rintro e w103 ⟨v103, u103x, rfl, hv103, hu103, hk103⟩
                     obtain ⟨b103, ao103, n103, c103, rfl⟩ := hv103.shape'
                     obtain ⟨b103x, ao103x, n103x, c103x, rfl⟩ := hu103.shape'
                     replace NB8 := NB8.keep hk103
                     replace NB7 := NB7.keep hk103
                     go_wp2_with fail
                     refine hK.out _ _ (hS3.trans' hk103) (fun hS4 => ?_)
                     clear hK K
                     refine wpAnyL_tk (i := 4) (k := 5) (v := .tuple #[.agg #[.bool b103, .slice ao103 n103 c103], .agg #[.bool b103x, .slice ao103x n103x c103x]]) rfl ?_ hS4 ?_
                     ·intro w' hw'; go_simp
                     simp only [sq]
                     refine wpAnyL_tk (i := 5) (k := 9) (v := .agg #[.bool b103, .slice ao103 n103 c103]) rfl ?_ hS4 ?_
                     ·intro w' hw'; go_simp
                     simp only [sq]
                     refine wpAnyL_tk (i := 6) (k := 10) (v := .agg #[.bool b103x, .slice ao103x n103x c103x]) rfl ?_ hS4 ?_
                     ·intro w' hw'; go_simp
                     simp only [sq]
                     refine wpAnyL_on (i := 9) rfl (fun K hK => ?_)
                     have st_c := NB7.cell
                     have st_f := NB7.frozen
                     have st_l := NB7.lt
                     go_simp
                     refine hK.out _ _ (stK2 (A := A7) (.bool b103) (.slice ao103 n103 c103) hS4 ge7) (fun hS5 => ?_)
                     clear hK K
                     have sfS : Sf 3 w103 ((w103.setCell ⟨A7, 0, none⟩ (.bool b103)).setCell ⟨A7, 1, none⟩ (.slice ao103 n103 c103)) := (stS2 (E := 3) (.bool b103) (.slice ao103 n103 c103) NB7 (by decide))
                     replace NB8 := (Blk.other (c := A7) (o := 1) (y := .slice ao103 n103 c103) (Blk.other (c := A7) (o := 0) (y := .bool b103) NB8 (by omega)) (by omega))
                     replace hv103 := hv103.soft sfS
                     replace hu103 := hu103.soft sfS
                     replace NB7 := (Blk.set (o := 1) (y := .slice ao103 n103 c103) (Blk.set (o := 0) (y := .bool b103) NB7))
                     clear sfS st_c st_f st_l
                     try simp only [sq]
                     generalize ((w103.setCell ⟨A7, 0, none⟩ (.bool b103)).setCell ⟨A7, 1, none⟩ (.slice ao103 n103 c103)) = wt9 at *
                     simp only [List.setIfInBounds_toArray, List.set_cons_zero, List.set_cons_succ] at NB7
                     have st_c := NB8.cell
                     have st_f := NB8.frozen
                     have st_l := NB8.lt
                     refine wpAnyL_last (i := 10) rfl (by kernel_rfl) (by kernel_rfl) (by kernel_rfl) (fun K hK => ?_)
                     go_simp
                     refine hK.out _ _ ?_
                     clear hK K
                     go_wp2_with fail
                     go_meet
                     case rel => exact ⟨A8, b103x, ao103x, n103x, c103x, rfl, (by omega), (bl2 (.bool b103x) (.slice ao103x n103x c103x) NB8), hu103.soft (sf2 (E := 3) (.bool b103x) (.slice ao103x n103x c103x) NB8 (by decide)), (kp2 (A := A8) (.bool b103x) (.slice ao103x n103x c103x) hS5 (by omega))⟩
                    exact AllReadyL.nil
                   exact AllReadyL.nil
                  refine AllReadyL.cons rfl (fun K hK => ?_) ?_
                  ·go_simp
                   refine hK.out _ _ (Kp.alloc' hS0 (.cells #[.bool false, .slice none 0 0] 81)) (fun hS1 => ?_)
                   clear hK K
                   have NB7 : Blk (wd.alloc (.cells #[.bool false, .slice none 0 0] 81)) wd.heap.size #[.bool false, .slice none 0 0] 81 := Blk.new wd _ _
                   have ge7 : y3.heap.size ≤ wd.heap.size := hS0.size
                   try simp only [sq]
                   generalize hA7 : wd.heap.size = A7 at *
                   generalize wd.alloc (.cells #[.bool false, .slice none 0 0] 81) = wn7 at *
                   refine wpAnyL_ready (rs := [1, 8]) (by kernel_rfl) (by simp) ?_
                   refine AllReadyL.cons rfl (fun K hK => ?_) ?_
                   ·go_simp
                    refine (size_any X _ _ (hx.keep hS1)).mono ?_
                    rintro e w101 ⟨v101, rfl, hv101, hk101⟩
                    obtain ⟨b101, ao101, n101, c101, rfl⟩ := hv101.shape'
                    replace NB7 := NB7.keep hk101
                    go_wp2_with fail
                    refine hK.out _ _ (hS1.trans' hk101) (fun hS2 => ?_)
                    clear hK K
                    refine wpAnyL_ready (rs := [3, 8]) (by kernel_rfl) (by simp) ?_
                    refine AllReadyL.cons rfl (fun K hK => ?_) ?_
                    ·go_simp
                     refine (rdiv_any (X.natAbs : Int) N 80 _ _ _ hv101 (hn.keep hS2) (by omega) n0 (by decide) fX.abs (fn.mono (by decide))).mono ?_
                     rintro e w103 ⟨v103, u103x, rfl, hv103, hu103, hk103⟩
                     obtain ⟨b103, ao103, n103, c103, rfl⟩ := hv103.shape'
                     obtain ⟨b103x, ao103x, n103x, c103x, rfl⟩ := hu103.shape'
                     replace NB7 := NB7.keep hk103
                     go_wp2_with fail
                     refine hK.out _ _ (hS2.trans' hk103) (fun hS3 => ?_)
                     clear hK K
                     refine wpAnyL_tk (i := 4) (k := 5) (v := .tuple #[.agg #[.bool b103, .slice ao103 n103 c103], .agg #[.bool b103x, .slice ao103x n103x c103x]]) rfl ?_ hS3 ?_
                     ·intro w' hw'; go_simp
                     simp only [sq]
                     refine wpAnyL_tk (i := 5) (k := 9) (v := .agg #[.bool b103, .slice ao103 n103 c103]) rfl ?_ hS3 ?_
                     ·intro w' hw'; go_simp
                     simp only [sq]
                     refine wpAnyL_tk (i := 6) (k := 10) (v := .agg #[.bool b103x, .slice ao103x n103x c103x]) rfl ?_ hS3 ?_
                     ·intro w' hw'; go_simp
                     simp only [sq]
                     refine wpAnyL_on (i := 8) rfl (fun K hK => ?_)
                     go_simp
                     refine hK.out _ _ (Kp.alloc' hS3 (.cells #[.bool false, .slice none 0 0] 81)) (fun hS4 => ?_)
                     clear hK K
                     have NB8 : Blk (w103.alloc (.cells #[.bool false, .slice none 0 0] 81)) w103.heap.size #[.bool false, .slice none 0 0] 81 := Blk.new w103 _ _
                     have ge8 : y3.heap.size ≤ w103.heap.size := hS3.size
                     have ne7x8 : A7 ≠ w103.heap.size := by have := NB7.lt; omega
                     replace NB7 := NB7.keep (kp_alloc w103 (.cells #[.bool false, .slice none 0 0] 81))
                     replace hv103 := hv103.keep (kp_alloc w103 (.cells #[.bool false, .slice none 0 0] 81))
                     replace hu103 := hu103.keep (kp_alloc w103 (.cells #[.bool false, .slice none 0 0] 81))
                     try simp only [sq]
                     generalize hA8 : w103.heap.size = A8 at *
                     generalize w103.alloc (.cells #[.bool false, .slice none 0 0] 81) = wn8 at *
                     refine wpAnyL_on (i := 9) rfl (fun K hK => ?_)
                     have st_c := NB7.cell
                     have st_f := NB7.frozen
                     have st_l := NB7.lt
                     go_simp
                     refine hK.out _ _ (stK2 (A := A7) (.bool b103) (.slice ao103 n103 c103) hS4 ge7) (fun hS5 => ?_)
                     clear hK K
                     have sfS : Sf 3 wn8 ((wn8.setCell ⟨A7, 0, none⟩ (.bool b103)).setCell ⟨A7, 1, none⟩ (.slice ao103 n103 c103)) := (stS2 (E := 3) (.bool b103) (.slice ao103 n103 c103) NB7 (by decide))
                     replace hv103 := hv103.soft sfS
                     replace hu103 := hu103.soft sfS
                     replace NB8 := (Blk.other (c := A7) (o := 1) (y := .slice ao103 n103 c103) (Blk.other (c := A7) (o := 0) (y := .bool b103) NB8 (by omega)) (by omega))
                     replace NB7 := (Blk.set (o := 1) (y := .slice ao103 n103 c103) (Blk.set (o := 0) (y := .bool b103) NB7))
                     clear sfS st_c st_f st_l
                     try simp only [sq]
                     generalize ((wn8.setCell ⟨A7, 0, none⟩ (.bool b103)).setCell ⟨A7, 1, none⟩ (.slice ao103 n103 c103)) = wt9 at *
                     simp only [List.setIfInBounds_toArray, List.set_cons_zero, List.set_cons_succ] at NB7
                     have st_c := NB8.cell
                     have st_f := NB8.frozen
                     have st_l := NB8.lt
                     refine wpAnyL_last (i := 10) rfl (by kernel_rfl) (by kernel_rfl) (by kernel_rfl) (fun K hK => ?_)
                     go_simp
                     refine hK.out _ _ ?_
                     clear hK K
                     go_wp2_with fail
                     go_meet
                     case rel => exact ⟨A8, b103x, ao103x, n103x, c103x, rfl, (by omega), (bl2 (.bool b103x) (.slice ao103x n103x c103x) NB8), hu103.soft (sf2 (E := 3) (.bool b103x) (.slice ao103x n103x c103x) NB8 (by decide)), (kp2 (A := A8) (.bool b103x) (.slice ao103x n103x c103x) hS5 (by omega))⟩
                    refine AllReadyL.cons rfl (fun K hK => ?_) ?_
                    ·go_simp
                     refine hK.out _ _ (Kp.alloc' hS2 (.cells #[.bool false, .slice none 0 0] 81)) (fun hS3 => ?_)
                     clear hK K
                     have NB8 : Blk (w101.alloc (.cells #[.bool false, .slice none 0 0] 81)) w101.heap.size #[.bool false, .slice none 0 0] 81 := Blk.new w101 _ _
                     have ge8 : y3.heap.size ≤ w101.heap.size := hS2.size
                     have ne7x8 : A7 ≠ w101.heap.size := by have := NB7.lt; omega
                     replace NB7 := NB7.keep (kp_alloc w101 (.cells #[.bool false, .slice none 0 0] 81))
                     replace hv101 := hv101.keep (kp_alloc w101 (.cells #[.bool false, .slice none 0 0] 81))
                     try simp only [sq]
                     generalize hA8 : w101.heap.size = A8 at *
                     generalize w101.alloc (.cells #[.bool false, .slice none 0 0] 81) = wn8 at *
                     refine wpAnyL_on (i := 3) rfl (fun K hK => ?_)
                     go_simp
                     refine (rdiv_any (X.natAbs : Int) N 80 _ _ _ hv101 (hn.keep hS3) (by omega) n0 (by decide) fX.abs (fn.mono (by decide))).mono ?_
                     rintro e w103 ⟨v103, u103x, rfl, hv103, hu103, hk103⟩
                     obtain ⟨b103, ao103, n103, c103, rfl⟩ := hv103.shape'
                     obtain ⟨b103x, ao103x, n103x, c103x, rfl⟩ := hu103.shape'
                     replace NB7 := NB7.keep hk103
                     replace NB8 := NB8.keep hk103
                     go_wp2_with fail
                     refine hK.out _ _ (hS3.trans' hk103) (fun hS4 => ?_)
                     clear hK K
                     refine wpAnyL_tk (i := 4) (k := 5) (v := .tuple #[.agg #[.bool b103, .slice ao103 n103 c103], .agg #[.bool b103x, .slice ao103x n103x c103x]]) rfl ?_ hS4 ?_
                     ·intro w' hw'; go_simp
                     simp only [sq]
                     refine wpAnyL_tk (i := 5) (k := 9) (v := .agg #[.bool b103, .slice ao103 n103 c103]) rfl ?_ hS4 ?_
                     ·intro w' hw'; go_simp
                     simp only [sq]
                     refine wpAnyL_tk (i := 6) (k := 10) (v := .agg #[.bool b103x, .slice ao103x n103x c103x]) rfl ?_ hS4 ?_
                     ·intro w' hw'; go_simp
                     simp only [sq]
                     refine wpAnyL_on (i := 9) rfl (fun K hK => ?_)
                     have st_c := NB7.cell
                     have st_f := NB7.frozen
                     have st_l := NB7.lt
                     go_simp
                     refine hK.out _ _ (stK2 (A := A7) (.bool b103) (.slice ao103 n103 c103) hS4 ge7) (fun hS5 => ?_)
                     clear hK K
                     have sfS : Sf 3 w103 ((w103.setCell ⟨A7, 0, none⟩ (.bool b103)).setCell ⟨A7, 1, none⟩ (.slice ao103 n103 c103)) := (stS2 (E := 3) (.bool b103) (.slice ao103 n103 c103) NB7 (by decide))
                     replace NB8 := (Blk.other (c := A7) (o := 1) (y := .slice ao103 n103 c103) (Blk.other (c := A7) (o := 0) (y := .bool b103) NB8 (by omega)) (by omega))
                     replace hv103 := hv103.soft sfS
                     replace hu103 := hu103.soft sfS
                     replace NB7 := (Blk.set (o := 1) (y := .slice ao103 n103 c103) (Blk.set (o := 0) (y := .bool b103) NB7))
                     clear sfS st_c st_f st_l
                     try simp only [sq]
                     generalize ((w103.setCell ⟨A7, 0, none⟩ (.bool b103)).setCell ⟨A7, 1, none⟩ (.slice ao103 n103 c103)) = wt9 at *
                     simp only [List.setIfInBounds_toArray, List.set_cons_zero, List.set_cons_succ] at NB7
                     have st_c := NB8.cell
                     have st_f := NB8.frozen
                     have st_l := NB8.lt
                     refine wpAnyL_last (i := 10) rfl (by kernel_rfl) (by kernel_rfl) (by kernel_rfl) (fun K hK => ?_)
                     go_simp
                     refine hK.out _ _ ?_
                     clear hK K
                     go_wp2_with fail
                     go_meet
                     case rel => exact ⟨A8, b103x, ao103x, n103x, c103x, rfl, (by omega), (bl2 (.bool b103x) (.slice ao103x n103x c103x) NB8), hu103.soft (sf2 (E := 3) (.bool b103x) (.slice ao103x n103x c103x) NB8 (by decide)), (kp2 (A := A8) (.bool b103x) (.slice ao103x n103x c103x) hS5 (by omega))⟩
                    exact AllReadyL.nil
                   refine AllReadyL.cons rfl (fun K hK => ?_) ?_
                   ·go_simp
                    refine hK.out _ _ (Kp.alloc' hS1 (.cells #[.bool false, .slice none 0 0] 81)) (fun hS2 => ?_)
                    clear hK K
                    have NB8 : Blk (wn7.alloc (.cells #[.bool false, .slice none 0 0] 81)) wn7.heap.size #[.bool false, .slice none 0 0] 81 := Blk.new wn7 _ _
                    have ge8 : y3.heap.size ≤ wn7.heap.size := hS1.size
                    have ne7x8 : A7 ≠ wn7.heap.size := by have := NB7.lt; omega
                    replace NB7 := NB7.keep (kp_alloc wn7 (.cells #[.bool false, .slice none 0 0] 81))
                    try simp only [sq]
                    generalize hA8 : wn7.heap.size = A8 at *
                    generalize wn7.alloc (.cells #[.bool false, .slice none 0 0] 81) = wn8 at *
                    refine wpAnyL_on (i := 1) rfl (fun K hK => ?_)
                    go_simp
                    refine (size_any X _ _ (hx.keep hS2)).mono ?_
                    rintro e w101 ⟨v101, rfl, hv101, hk101⟩
                    obtain ⟨b101, ao101, n101, c101, rfl⟩ := hv101.shape'
                    replace NB7 := NB7.keep hk101
                    replace NB8 := NB8.keep hk101
                    go_wp2_with fail
                    refine hK.out _ _ (hS2.trans' hk101) (fun hS3 => ?_)
                    clear hK K
                    refine wpAnyL_on (i := 3) rfl (fun K hK => ?_)
                    go_simp
                    refine (rdiv_any (X.natAbs : Int) N 80 _ _ _ hv101 (hn.keep hS3) (by omega) n0 (by decide) fX.abs (fn.mono (by decide))).mono ?_
                    rintro e w103 ⟨v103, u103x, rfl, hv103, hu103, hk103⟩
                    obtain ⟨b103, ao103, n103, c103, rfl⟩ := hv103.shape'
                    obtain ⟨b103x, ao103x, n103x, c103x, rfl⟩ := hu103.shape'
                    replace NB7 := NB7.keep hk103
                    replace NB8 := NB8.keep hk103
                    go_wp2_with fail
                    refine hK.out _ _ (hS3.trans' hk103) (fun hS4 => ?_)
                    clear hK K
                    refine wpAnyL_tk (i := 4) (k := 5) (v := .tuple #[.agg #[.bool b103, .slice ao103 n103 c103], .agg #[.bool b103x, .slice ao103x n103x c103x]]) rfl ?_ hS4 ?_
                    ·intro w' hw'; go_simp
                    simp only [sq]
                    refine wpAnyL_tk (i := 5) (k := 9) (v := .agg #[.bool b103, .slice ao103 n103 c103]) rfl ?_ hS4 ?_
                    ·intro w' hw'; go_simp
                    simp only [sq]
                    refine wpAnyL_tk (i := 6) (k := 10) (v := .agg #[.bool b103x, .slice ao103x n103x c103x]) rfl ?_ hS4 ?_
                    ·intro w' hw'; go_simp
                    simp only [sq]
                    refine wpAnyL_on (i := 9) rfl (fun K hK => ?_)
                    have st_c := NB7.cell
                    have st_f := NB7.frozen
                    have st_l := NB7.lt
                    go_simp
                    refine hK.out _ _ (stK2 (A := A7) (.bool b103) (.slice ao103 n103 c103) hS4 ge7) (fun hS5 => ?_)
                    clear hK K
                    have sfS : Sf 3 w103 ((w103.setCell ⟨A7, 0, none⟩ (.bool b103)).setCell ⟨A7, 1, none⟩ (.slice ao103 n103 c103)) := (stS2 (E := 3) (.bool b103) (.slice ao103 n103 c103) NB7 (by decide))
                    replace NB8 := (Blk.other (c := A7) (o := 1) (y := .slice ao103 n103 c103) (Blk.other (c := A7) (o := 0) (y := .bool b103) NB8 (by omega)) (by omega))
                    replace hv103 := hv103.soft sfS
                    replace hu103 := hu103.soft sfS
                    replace NB7 := (Blk.set (o := 1) (y := .slice ao103 n103 c103) (Blk.set (o := 0) (y := .bool b103) NB7))
                    clear sfS st_c st_f st_l
                    try simp only [sq]
                    generalize ((w103.setCell ⟨A7, 0, none⟩ (.bool b103)).setCell ⟨A7, 1, none⟩ (.slice ao103 n103 c103)) = wt9 at *
                    simp only [List.setIfInBounds_toArray, List.set_cons_zero, List.set_cons_succ] at NB7
                    have st_c := NB8.cell
                    have st_f := NB8.frozen
                    have st_l := NB8.lt
                    refine wpAnyL_last (i := 10) rfl (by kernel_rfl) (by kernel_rfl) (by kernel_rfl) (fun K hK => ?_)
                    go_simp
                    refine hK.out _ _ ?_
                    clear hK K
                    go_wp2_with fail
                    go_meet
                    case rel => exact ⟨A8, b103x, ao103x, n103x, c103x, rfl, (by omega), (bl2 (.bool b103x) (.slice ao103x n103x c103x) NB8), hu103.soft (sf2 (E := 3) (.bool b103x) (.slice ao103x n103x c103x) NB8 (by decide)), (kp2 (A := A8) (.bool b103x) (.slice ao103x n103x c103x) hS5 (by omega))⟩
                   exact AllReadyL.nil
                  refine AllReadyL.cons rfl (fun K hK => ?_) ?_
                  ·go_simp
                   refine hK.out _ _ (Kp.alloc' hS0 (.cells #[.bool false, .slice none 0 0] 81)) (fun hS1 => ?_)
                   clear hK K
                   have NB8 : Blk (wd.alloc (.cells #[.bool false, .slice none 0 0] 81)) wd.heap.size #[.bool false, .slice none 0 0] 81 := Blk.new wd _ _
                   have ge8 : y3.heap.size ≤ wd.heap.size := hS0.size
                   try simp only [sq]
                   generalize hA8 : wd.heap.size = A8 at *
                   generalize wd.alloc (.cells #[.bool false, .slice none 0 0] 81) = wn8 at *
                   refine wpAnyL_ready (rs := [1, 7]) (by kernel_rfl) (by simp) ?_
                   refine AllReadyL.cons rfl (fun K hK => ?_) ?_
                   ·go_simp
                    refine (size_any X _ _ (hx.keep hS1)).mono ?_
                    rintro e w101 ⟨v101, rfl, hv101, hk101⟩
                    obtain ⟨b101, ao101, n101, c101, rfl⟩ := hv101.shape'
                    replace NB8 := NB8.keep hk101
                    go_wp2_with fail
                    refine hK.out _ _ (hS1.trans' hk101) (fun hS2 => ?_)
                    clear hK K
                    refine wpAnyL_ready (rs := [3, 7]) (by kernel_rfl) (by simp) ?_
                    refine AllReadyL.cons rfl (fun K hK => ?_) ?_
                    ·go_simp
                     refine (rdiv_any (X.natAbs : Int) N 80 _ _ _ hv101 (hn.keep hS2) (by omega) n0 (by decide) fX.abs (fn.mono (by decide))).mono ?_
                     rintro e w103 ⟨v103, u103x, rfl, hv103, hu103, hk103⟩
                     obtain ⟨b103, ao103, n103, c103, rfl⟩ := hv103.shape'
                     obtain ⟨b103x, ao103x, n103x, c103x, rfl⟩ := hu103.shape'
                     replace NB8 := NB8.keep hk103
                     go_wp2_with fail
                     refine hK.out _ _ (hS2.trans' hk103) (fun hS3 => ?_)
                     clear hK K
                     refine wpAnyL_tk (i := 4) (k := 5) (v := .tuple #[.agg #[.bool b103, .slice ao103 n103 c103], .agg #[.bool b103x, .slice ao103x n103x c103x]]) rfl ?_ hS3 ?_
                     ·intro w' hw'; go_simp
                     simp only [sq]
                     refine wpAnyL_tk (i := 5) (k := 9) (v := .agg #[.bool b103, .slice ao103 n103 c103]) rfl ?_ hS3 ?_
                     ·intro w' hw'; go_simp
                     simp only [sq]
                     refine wpAnyL_tk (i := 6) (k := 10) (v := .agg #[.bool b103x, .slice ao103x n103x c103x]) rfl ?_ hS3 ?_
                     ·intro w' hw'; go_simp
                     simp only [sq]
                     refine wpAnyL_on (i := 7) rfl (fun K hK => ?_)
                     go_simp
                     refine hK.out _ _ (Kp.alloc' hS3 (.cells #[.bool false, .slice none 0 0] 81)) (fun hS4 => ?_)
                     clear hK K
                     have NB7 : Blk (w103.alloc (.cells #[.bool false, .slice none 0 0] 81)) w103.heap.size #[.bool false, .slice none 0 0] 81 := Blk.new w103 _ _
                     have ge7 : y3.heap.size ≤ w103.heap.size := hS3.size
                     have ne8x7 : A8 ≠ w103.heap.size := by have := NB8.lt; omega
                     replace NB8 := NB8.keep (kp_alloc w103 (.cells #[.bool false, .slice none 0 0] 81))
                     replace hv103 := hv103.keep (kp_alloc w103 (.cells #[.bool false, .slice none 0 0] 81))
                     replace hu103 := hu103.keep (kp_alloc w103 (.cells #[.bool false, .slice none 0 0] 81))
                     try simp only [sq]
                     generalize hA7 : w103.heap.size = A7 at *
                     generalize w103.alloc (.cells #[.bool false, .slice none 0 0] 81) = wn7 at *
                     refine wpAnyL_on (i := 9) rfl (fun K hK => ?_)
                     have st_c := NB7.cell
                     have st_f := NB7.frozen
                     have st_l := NB7.lt
                     go_simp
                     refine hK.out _ _ (stK2 (A := A7) (.bool b103) (.slice ao103 n103 c103) hS4 ge7) (fun hS5 => ?_)
                     clear hK K
                     have sfS : Sf 3 wn7 ((wn7.setCell ⟨A7, 0, none⟩ (.bool b103)).setCell ⟨A7, 1, none⟩ (.slice ao103 n103 c103)) := (stS2 (E := 3) (.bool b103) (.slice ao103 n103 c103) NB7 (by decide))
                     replace NB8 := (Blk.other (c := A7) (o := 1) (y := .slice ao103 n103 c103) (Blk.other (c := A7) (o := 0) (y := .bool b103) NB8 (by omega)) (by omega))
                     replace hv103 := hv103.soft sfS
                     replace hu103 := hu103.soft sfS
                     replace NB7 := (Blk.set (o := 1) (y := .slice ao103 n103 c103) (Blk.set (o := 0) (y := .bool b103) NB7))
                     clear sfS st_c st_f st_l
                     try simp only [sq]
                     generalize ((wn7.setCell ⟨A7, 0, none⟩ (.bool b103)).setCell ⟨A7, 1, none⟩ (.slice ao103 n103 c103)) = wt9 at *
                     simp only [List.setIfInBounds_toArray, List.set_cons_zero, List.set_cons_succ] at NB7
                     have st_c := NB8.cell
                     have st_f := NB8.frozen
                     have st_l := NB8.lt
                     refine wpAnyL_last (i := 10) rfl (by kernel_rfl) (by kernel_rfl) (by kernel_rfl) (fun K hK => ?_)
                     go_simp
                     refine hK.out _ _ ?_
                     clear hK K
                     go_wp2_with fail
                     go_meet
                     case rel => exact ⟨A8, b103x, ao103x, n103x, c103x, rfl, (by omega), (bl2 (.bool b103x) (.slice ao103x n103x c103x) NB8), hu103.soft (sf2 (E := 3) (.bool b103x) (.slice ao103x n103x c103x) NB8 (by decide)), (kp2 (A := A8) (.bool b103x) (.slice ao103x n103x c103x) hS5 (by omega))⟩
                    refine AllReadyL.cons rfl (fun K hK => ?_) ?_
                    ·go_simp
                     refine hK.out _ _ (Kp.alloc' hS2 (.cells #[.bool false, .slice none 0 0] 81)) (fun hS3 => ?_)
                     clear hK K
                     have NB7 : Blk (w101.alloc (.cells #[.bool false, .slice none 0 0] 81)) w101.heap.size #[.bool false, .slice none 0 0] 81 := Blk.new w101 _ _
                     have ge7 : y3.heap.size ≤ w101.heap.size := hS2.size
                     have ne8x7 : A8 ≠ w101.heap.size := by have := NB8.lt; omega
                     replace NB8 := NB8.keep (kp_alloc w101 (.cells #[.bool false, .slice none 0 0] 81))
                     replace hv101 := hv101.keep (kp_alloc w101 (.cells #[.bool false, .slice none 0 0] 81))
                     try simp only [sq]
                     generalize hA7 : w101.heap.size = A7 at *
                     generalize w101.alloc (.cells #[.bool false, .slice none 0 0] 81) = wn7 at *
                     refine wpAnyL_on (i := 3) rfl (fun K hK => ?_)
                     go_simp
                     refine (rdiv_any (X.natAbs : Int) N 80 _ _ _ hv101 (hn.keep hS3) (by omega) n0 (by decide) fX.abs (fn.mono (by decide))).mono ?_
                     rintro e w103 ⟨v103, u103x, rfl, hv103, hu103, hk103⟩
                     obtain ⟨b103, ao103, n103, c103, rfl⟩ := hv103.shape'
                     obtain ⟨b103x, ao103x, n103x, c103x, rfl⟩ := hu103.shape'
                     replace NB8 := NB8.keep hk103
                     replace NB7 := NB7.keep hk103
                     go_wp2_with fail
                     refine hK.out _ _ (hS3.trans' hk103) (fun hS4 => ?_)
                     clear hK K
                     refine wpAnyL_tk (i := 4) (k := 5) (v := .tuple #[.agg #[.bool b103, .slice ao103 n103 c103], .agg #[.bool b103x, .slice ao103x n103x c103x]]) rfl ?_ hS4 ?_
                     ·intro w' hw'; go_simp
                     simp only [sq]
                     refine wpAnyL_tk (i := 5) (k := 9) (v := .agg #[.bool b103, .slice ao103 n103 c103]) rfl ?_ hS4 ?_
                     ·intro w' hw'; go_simp
                     simp only [sq]
                     refine wpAnyL_tk (i := 6) (k := 10) (v := .agg #[.bool b103x, .slice ao103x n103x c103x]) rfl ?_ hS4 ?_
                     ·intro w' hw'; go_simp
                     simp only [sq]
                     refine wpAnyL_on (i := 9) rfl (fun K hK => ?_)
                     have st_c := NB7.cell
                     have st_f := NB7.frozen
                     have st_l := NB7.lt
                     go_simp
                     refine hK.out _ _ (stK2 (A := A7) (.bool b103) (.slice ao103 n103 c103) hS4 ge7) (fun hS5 => ?_)
                     clear hK K
                     have sfS : Sf 3 w103 ((w103.setCell ⟨A7, 0, none⟩ (.bool b103)).setCell ⟨A7, 1, none⟩ (.slice ao103 n103 c103)) := (stS2 (E := 3) (.bool b103) (.slice ao103 n103 c103) NB7 (by decide))
                     replace NB8 := (Blk.other (c := A7) (o := 1) (y := .slice ao103 n103 c103) (Blk.other (c := A7) (o := 0) (y := .bool b103) NB8 (by omega)) (by omega))
                     replace hv103 := hv103.soft sfS
                     replace hu103 := hu103.soft sfS
                     replace NB7 := (Blk.set (o := 1) (y := .slice ao103 n103 c103) (Blk.set (o := 0) (y := .bool b103) NB7))
                     clear sfS st_c st_f st_l
                     try simp only [sq]
                     generalize ((w103.setCell ⟨A7, 0, none⟩ (.bool b103)).setCell ⟨A7, 1, none⟩ (.slice ao103 n103 c103)) = wt9 at *
                     simp only [List.setIfInBounds_toArray, List.set_cons_zero, List.set_cons_succ] at NB7
                     have st_c := NB8.cell
                     have st_f := NB8.frozen
                     have st_l := NB8.lt
                     refine wpAnyL_last (i := 10) rfl (by kernel_rfl) (by kernel_rfl) (by kernel_rfl) (fun K hK => ?_)
                     go_simp
                     refine hK.out _ _ ?_
                     clear hK K
                     go_wp2_with fail
                     go_meet
                     case rel => exact ⟨A8, b103x, ao103x, n103x, c103x, rfl, (by omega), (bl2 (.bool b103x) (.slice ao103x n103x c103x) NB8), hu103.soft (sf2 (E := 3) (.bool b103x) (.slice ao103x n103x c103x) NB8 (by decide)), (kp2 (A := A8) (.bool b103x) (.slice ao103x n103x c103x) hS5 (by omega))⟩
                    exact AllReadyL.nil
                   refine AllReadyL.cons rfl (fun K hK => ?_) ?_
                   ·go_simp
                    refine hK.out _ _ (Kp.alloc' hS1 (.cells #[.bool false, .slice none 0 0] 81)) (fun hS2 => ?_)
                    clear hK K
                    have NB7 : Blk (wn8.alloc (.cells #[.bool false, .slice none 0 0] 81)) wn8.heap.size #[.bool false, .slice none 0 0] 81 := Blk.new wn8 _ _
                    have ge7 : y3.heap.size ≤ wn8.heap.size := hS1.size
                    have ne8x7 : A8 ≠ wn8.heap.size := by have := NB8.lt; omega
                    replace NB8 := NB8.keep (kp_alloc wn8 (.cells #[.bool false, .slice none 0 0] 81))
                    try simp only [sq]
                    generalize hA7 : wn8.heap.size = A7 at *
                    generalize wn8.alloc (.cells #[.bool false, .slice none 0 0] 81) = wn7 at *
                    refine wpAnyL_on (i := 1) rfl (fun K hK => ?_)
                    go_simp
                    refine (size_any X _ _ (hx.keep hS2)).mono ?_
                    rintro e w101 ⟨v101, rfl, hv101, hk101⟩
                    obtain ⟨b101, ao101, n101, c101, rfl⟩ := hv101.shape'
                    replace NB8 := NB8.keep hk101
                    replace NB7 := NB7.keep hk101
                    go_wp2_with fail
                    refine hK.out _ _ (hS2.trans' hk101) (fun hS3 => ?_)
                    clear hK K
                    refine wpAnyL_on (i := 3) rfl (fun K hK => ?_)
                    go_simp
                    refine (rdiv_any (X.natAbs : Int) N 80 _ _ _ hv101 (hn.keep hS3) (by omega) n0 (by decide) fX.abs (fn.mono (by decide))).mono ?_
                    rintro e w103 ⟨v103, u103x, rfl, hv103, hu103, hk103⟩
                    obtain ⟨b103, ao103, n103, c103, rfl⟩ := hv103.shape'
                    obtain ⟨b103x, ao103x, n103x, c103x, rfl⟩ := hu103.shape'
                    replace NB8 := NB8.keep hk103
                    replace NB7 := NB7.keep hk103
                    go_wp2_with fail
                    refine hK.out _ _ (hS3.trans' hk103) (fun hS4 => ?_)
                    clear hK K
                    refine wpAnyL_tk (i := 4) (k := 5) (v := .tuple #[.agg #[.bool b103, .slice ao103 n103 c103], .agg #[.bool b103x, .slice ao103x n103x c103x]]) rfl ?_ hS4 ?_
                    ·intro w' hw'; go_simp
                    simp only [sq]
                    refine wpAnyL_tk (i := 5) (k := 9) (v := .agg #[.bool b103, .slice ao103 n103 c103]) rfl ?_ hS4 ?_
                    ·intro w' hw'; go_simp
                    simp only [sq]
                    refine wpAnyL_tk (i := 6) (k := 10) (v := .agg #[.bool b103x, .slice ao103x n103x c103x]) rfl ?_ hS4 ?_
                    ·intro w' hw'; go_simp
                    simp only [sq]
                    refine wpAnyL_on (i := 9) rfl (fun K hK => ?_)
                    have st_c := NB7.cell
                    have st_f := NB7.frozen
                    have st_l := NB7.lt
                    go_simp
                    refine hK.out _ _ (stK2 (A := A7) (.bool b103) (.slice ao103 n103 c103) hS4 ge7) (fun hS5 => ?_)
                    clear hK K
                    have sfS : Sf 3 w103 ((w103.setCell ⟨A7, 0, none⟩ (.bool b103)).setCell ⟨A7, 1, none⟩ (.slice ao103 n103 c103)) := (stS2 (E := 3) (.bool b103) (.slice ao103 n103 c103) NB7 (by decide))
                    replace NB8 := (Blk.other (c := A7) (o := 1) (y := .slice ao103 n103 c103) (Blk.other (c := A7) (o := 0) (y := .bool b103) NB8 (by omega)) (by omega))
                    replace hv103 := hv103.soft sfS
                    replace hu103 := hu103.soft sfS
                    replace NB7 := (Blk.set (o := 1) (y := .slice ao103 n103 c103) (Blk.set (o := 0) (y := .bool b103) NB7))
                    clear sfS st_c st_f st_l
                    try simp only [sq]
                    generalize ((w103.setCell ⟨A7, 0, none⟩ (.bool b103)).setCell ⟨A7, 1, none⟩ (.slice ao103 n103 c103)) = wt9 at *
                    simp only [List.setIfInBounds_toArray, List.set_cons_zero, List.set_cons_succ] at NB7
                    have st_c := NB8.cell
                    have st_f := NB8.frozen
                    have st_l := NB8.lt
                    refine wpAnyL_last (i := 10) rfl (by kernel_rfl) (by kernel_rfl) (by kernel_rfl) (fun K hK => ?_)
                    go_simp
                    refine hK.out _ _ ?_
                    clear hK K
                    go_wp2_with fail
                    go_meet
                    case rel => exact ⟨A8, b103x, ao103x, n103x, c103x, rfl, (by omega), (bl2 (.bool b103x) (.slice ao103x n103x c103x) NB8), hu103.soft (sf2 (E := 3) (.bool b103x) (.slice ao103x n103x c103x) NB8 (by decide)), (kp2 (A := A8) (.bool b103x) (.slice ao103x n103x c103x) hS5 (by omega))⟩
                   exact AllReadyL.nil
                  exact AllReadyL.nil
                case rest =>
                 as_aux_lemma =>
                  obtain ⟨Ay, b11, ao11, n11, c11, rfl, gey, By, hy, hkc⟩ := hcut
                  replace Ba := Ba.keep hkc
                  replace Bb := Bb.keep hkc
                  replace Bc := Bc.keep hkc
                  replace Bx := Bx.keep hkc
                  replace Bn := Bn.keep hkc
                  replace hza := hza.keep hkc
                  replace hzb := hzb.keep hkc
                  replace hzc := hzc.keep hkc
                  replace hx := hx.keep hkc
                  replace hn := hn.keep hkc
                  replace hkw := hkw.trans' hkc
                  have neay : Aa ≠ Ay := by omega
                  have neby : Ab ≠ Ay := by omega
                  have necy : Ac ≠ Ay := by omega
                  have nexy : Ax ≠ Ay := by omega
                  have neny : An ≠ Ay := by omega
                  have gw4 : ∀ A : Nat, y3.heap.size ≤ A → w.heap.size ≤ A := fun A hA => Nat.le_trans hkb hA
                  have gwy := gw4 _ gey
                  clear hkc gw4 hkb ltaz ltbz ltcz ltxz ltnz gey
                  have hkb := hkw.size
                  generalize wc = y4 at *
                  have HM := Hid.mk (lemod_abs (x := X) (n := N) n0)
                  have r0 := Int.emod_nonneg (X.natAbs : Int) (show N ≠ 0 by omega)
                  have r1 := Int.emod_lt_of_pos (X.natAbs : Int) n0
                  have ryl := hy.len
                  have exb := Hid.mk hx.neg
                  generalize (X.natAbs : Int) % N = r at *
                  have fr : Ft 40 r := fn.le (by omega)
                  have xc := Bx.cell
                  have xl := Bx.lt
                  have yc := By.cell
                  have yl := By.lt
                  go_upto_region 20 with fail
                  go_cut [131] from 117 (fun cc wx => cc = .bool (decide (X < 0 ∧ r ≠ 0)) ∧ wx = y4)
                  case first =>
                   by_cases hX : X < 0
                   ·have ex2 : b9 = true := by rw [exb.out]; exact decide_eq_true hX
                    by_cases hr : r = 0
                    ·have e9 : n11 = 0 := ryl.1.2 hr
                     subst e9
                     have eD : decide (X < 0 ∧ r ≠ 0) = false := decide_eq_false (fun k => k.2 hr)
                     have ED := Hid.mk eD
                     subst ex2
                     clear eD hX hr exb ryl HM HX r0 r1
                     go_wp2_with fail
                     go_meet
                     case rel => exact ⟨by rw [ED.out]; try first | rfl | (simp; omega), rfl⟩
                    ·have h9 : n11 ≠ 0 := fun h => hr (ryl.1.1 h)
                     have e9 : 0 < (n11 : Int) := by omega
                     have eD : decide (X < 0 ∧ r ≠ 0) = true := decide_eq_true ⟨hX, hr⟩
                     have ED := Hid.mk eD
                     subst ex2
                     clear eD hX hr exb ryl HM HX r0 r1
                     go_wp2_with fail
                     go_meet
                     case rel => exact ⟨by rw [ED.out]; try first | rfl | (simp; omega), rfl⟩
                   ·have ex2 : b9 = false := by rw [exb.out]; exact decide_eq_false hX
                    have eD : decide (X < 0 ∧ r ≠ 0) = false := decide_eq_false (fun k => hX k.1)
                    have ED := Hid.mk eD
                    subst ex2
                    clear eD hX exb ryl HM HX r0 r1
                    go_wp2_with fail
                    go_meet
                    case rel => exact ⟨by rw [ED.out]; try rfl, rfl⟩
                  case rest =>
                   obtain ⟨rfl, rfl⟩ := hcut
                   clear xc yc xl yl ryl exb
                   clear Bx hx
                   go_upto_if 131 with fail
                   go_cut [] from 117 (fun wx => ∃ (b12 : Bool) (ao12 : Option Addr) (n12 c12 : Nat), Blk wx Ay #[.bool b12, .slice ao12 n12 c12] 81 ∧ IN wx (.agg #[.bool b12, .slice ao12 n12 c12]) (X % N) ∧ Blk wx Aa #[.bool b1, .slice ao1 n1 c1] 81 ∧ Blk wx Ab #[.bool b2, .slice ao2 n2 c2] 81 ∧ Blk wx Ac #[.bool b3, .slice ao3 n3 c3] 81 ∧ IN wx (.agg #[.bool b1, .slice ao1 n1 c1]) za ∧ IN wx (.agg #[.bool b2, .slice ao2 n2 c2]) zb ∧ IN wx (.agg #[.bool b3, .slice ao3 n3 c3]) zc ∧ Kp w wx)
                   case first =>
                    by_cases hq : X < 0 ∧ r ≠ 0
                    ·have ef : X % N = N - r := by rw [← HM.out, if_pos hq]
                     have eb2 : decide (X < 0 ∧ r ≠ 0) = true := decide_eq_true hq
                     have EF := Hid.mk ef
                     generalize decide (X < 0 ∧ r ≠ 0) = dd at *
                     subst eb2
                     clear ef hq HM HX
                     have yc := By.cell
                     have yl := By.lt
                     have nc := Bn.cell
                     have nl := Bn.lt
                     go_wp2_with fail
                     refine (rminus_any N r _ _ _ hn hy (fn.fit (by decide)) (fr.fit (by decide))).mono ?_
                     rintro e w72 ⟨v12, rfl, hn12, hk72⟩
                     obtain ⟨b12, ao12, n12, c12, rfl⟩ := hn12.shape'
                     clear yc yl nc nl
                     replace Ba := Ba.keep hk72
                     replace Bb := Bb.keep hk72
                     replace Bc := Bc.keep hk72
                     replace Bn := Bn.keep hk72
                     replace By := By.keep hk72
                     replace hza := hza.keep hk72
                     replace hzb := hzb.keep hk72
                     replace hzc := hzc.keep hk72
                     replace hkw := hkw.trans' hk72
                     clear hk72
                     have vc := By.cell
                     have vf := By.frozen
                     have vl := By.lt
                     go_wp2_with fail
                     go_meet
                     case rel => exact ⟨b12, ao12, n12, c12, (bl2 (.bool b12) (.slice ao12 n12 c12) By), by rw [EF.out]; exact hn12.soft (sf2 (E := 3) (.bool b12) (.slice ao12 n12 c12) By (by decide)), (ot2 (A := Ay) (.bool b12) (.slice ao12 n12 c12) Ba (by omega)), (ot2 (A := Ay) (.bool b12) (.slice ao12 n12 c12) Bb (by omega)), (ot2 (A := Ay) (.bool b12) (.slice ao12 n12 c12) Bc (by omega)), hza.soft (sf2 (E := 3) (.bool b12) (.slice ao12 n12 c12) By (by decide)), hzb.soft (sf2 (E := 3) (.bool b12) (.slice ao12 n12 c12) By (by decide)), hzc.soft (sf2 (E := 3) (.bool b12) (.slice ao12 n12 c12) By (by decide)), (kp2 (A := Ay) (.bool b12) (.slice ao12 n12 c12) hkw (by omega))⟩
                    ·have ef : X % N = r := by rw [← HM.out, if_neg hq]
                     have eb2 : decide (X < 0 ∧ r ≠ 0) = false := decide_eq_false hq
                     have EF := Hid.mk ef
                     generalize decide (X < 0 ∧ r ≠ 0) = dd at *
                     subst eb2
                     clear ef hq HM HX
                     go_wp2_with fail
                     go_meet
                     case rel => exact ⟨b11, ao11, n11, c11, By, by rw [EF.out]; exact hy, Ba, Bb, Bc, hza, hzb, hzc, hkw⟩
                   case rest =>
                    obtain ⟨b12, ao12, n12, c12, By, hy1, Ba, Bb, Bc, hza, hzb, hzc, hkw⟩ := hcut
                    clear hy HM r0 r1 fr
                    clear Bn hn
                    generalize wc = y82 at *
                    have hkb := hkw.size
                    have m0 := Int.emod_nonneg X (show N ≠ 0 by omega)
                    have m1 := Int.emod_lt_of_pos X n0
                    have fy : Ft 40 (X % N) := fn.le (by omega)
                    clear m0 m1 n0 fn fX
                    generalize X % N = x1 at *
                    have fax : Ft 80 (za * x1) := fa.mul fy
                    have fu : Ft 81 (zc - za * x1) := by
                     have := Ft.add (fc.mono (show 40 ≤ 80 by decide)) fax.neg
                     rwa [← Int.sub_eq_add_neg] at this
                    go_wp2_with fail
                    have ltaz := Ba.lt
                    have ltbz := Bb.lt
                    have ltcz := Bc.lt
                    have ltyz := By.lt
                    go_cut [23] from 135 (fun p23 wx => ∃ (qu : Nat) (b13 : Bool) (ao13 : Option Addr) (n13 c13 : Nat), p23 = .pointer (some ⟨qu, 0, none⟩) ∧ y82.heap.size ≤ qu ∧ Blk wx qu #[.bool b13, .slice ao13 n13 c13] 81 ∧ IN wx (.agg #[.bool b13, .slice ao13 n13 c13]) (zc - za * x1) ∧ Kp y82 wx)
                    case first =>
                     as_aux_lemma =>
                      try clear hkw; try clear hkb; try clear HNZ; try clear Hza; try clear Hzb; try clear Hzc; try clear h1; try clear h2; try clear h3; try clear lnb; try clear HNO; try clear HLR; try clear HGP; try clear HX; try clear HX2; try clear HM; try clear e2; try clear ltaz; try clear ltbz; try clear ltcz; try clear ltyz; try clear hzb; try clear Bb
                      refine wp_region_l (S := fun w' => Kp y82 w') (by kernel_rfl) (Kp.drew' (Below.refl _ _)) (fun hS0 => ?_)
                      generalize y82.drew = wd at *
                      refine wpAnyL_tk (i := 0) (k := 4) (v := .agg #[.bool b3, .slice ao3 n3 c3]) rfl ?_ hS0 ?_
                      ·intro w' hw'; have hc := ((Bc).keep hw').cell; go_simp
                      simp only [sq]
                      refine wpAnyL_tk (i := 1) (k := 3) (v := .agg #[.bool b1, .slice ao1 n1 c1]) rfl ?_ hS0 ?_
                      ·intro w' hw'; have hc := ((Ba).keep hw').cell; go_simp
                      simp only [sq]
                      refine wpAnyL_tk (i := 2) (k := 3) (v := .agg #[.bool b12, .slice ao12 n12 c12]) rfl ?_ hS0 ?_
                      ·intro w' hw'; have hc := ((By).keep hw').cell; go_simp
                      simp only [sq]
                      refine wpAnyL_ready (rs := [3, 5]) (by kernel_rfl) (by simp) ?_
                      refine AllReadyL.cons rfl (fun K hK => ?_) ?_
                      ·go_simp
                       refine (rtimes_any za x1 _ _ _ (hza.keep hS0) (hy1.keep hS0) (fa.fit (by decide)) (fy.fit (by decide))).mono ?_
                       rintro e w103 ⟨v103, rfl, hv103, hk103⟩
                       obtain ⟨b103, ao103, n103, c103, rfl⟩ := hv103.shape'
                       go_wp2_with fail
                       refine hK.out _ _ (hS0.trans' hk103) (fun hS1 => ?_)
                       clear hK K
                       refine wpAnyL_ready (rs := [4, 5]) (by kernel_rfl) (by simp) ?_
                       refine AllReadyL.cons rfl (fun K hK => ?_) ?_
                       ·go_simp
                        refine (rminus_any zc (za * x1) _ _ _ (hzc.keep hS1) hv103 (fc.fit (by decide)) (fax.fit (by decide))).mono ?_
                        rintro e w104 ⟨v104, rfl, hv104, hk104⟩
                        obtain ⟨b104, ao104, n104, c104, rfl⟩ := hv104.shape'
                        go_wp2_with fail
                        refine hK.out _ _ (hS1.trans' hk104) (fun hS2 => ?_)
                        clear hK K
                        refine wpAnyL_on (i := 5) rfl (fun K hK => ?_)
                        go_simp
                        refine hK.out _ _ (Kp.alloc' hS2 (.cells #[.bool false, .slice none 0 0] 81)) (fun hS3 => ?_)
                        clear hK K
                        have NB5 : Blk (w104.alloc (.cells #[.bool false, .slice none 0 0] 81)) w104.heap.size #[.bool false, .slice none 0 0] 81 := Blk.new w104 _ _
                        have ge5 : y82.heap.size ≤ w104.heap.size := hS2.size
                        replace hv104 := hv104.keep (kp_alloc w104 (.cells #[.bool false, .slice none 0 0] 81))
                        try simp only [sq]
                        generalize hA5 : w104.heap.size = A5 at *
                        generalize w104.alloc (.cells #[.bool false, .slice none 0 0] 81) = wn5 at *
                        have st_c := NB5.cell
                        have st_f := NB5.frozen
                        have st_l := NB5.lt
                        refine wpAnyL_last (i := 6) rfl (by kernel_rfl) (by kernel_rfl) (by kernel_rfl) (fun K hK => ?_)
                        go_simp
                        refine hK.out _ _ ?_
                        clear hK K
                        go_wp2_with fail
                        go_meet
                        case rel => exact ⟨A5, b104, ao104, n104, c104, rfl, (by omega), (bl2 (.bool b104) (.slice ao104 n104 c104) NB5), hv104.soft (sf2 (E := 3) (.bool b104) (.slice ao104 n104 c104) NB5 (by decide)), (kp2 (A := A5) (.bool b104) (.slice ao104 n104 c104) hS3 (by omega))⟩
                       refine AllReadyL.cons rfl (fun K hK => ?_) ?_
                       ·go_simp
                        refine hK.out _ _ (Kp.alloc' hS1 (.cells #[.bool false, .slice none 0 0] 81)) (fun hS2 => ?_)
                        clear hK K
                        have NB5 : Blk (w103.alloc (.cells #[.bool false, .slice none 0 0] 81)) w103.heap.size #[.bool false, .slice none 0 0] 81 := Blk.new w103 _ _
                        have ge5 : y82.heap.size ≤ w103.heap.size := hS1.size
                        replace hv103 := hv103.keep (kp_alloc w103 (.cells #[.bool false, .slice none 0 0] 81))
                        try simp only [sq]
                        generalize hA5 : w103.heap.size = A5 at *
                        generalize w103.alloc (.cells #[.bool false, .slice none 0 0] 81) = wn5 at *
                        refine wpAnyL_on (i := 4) rfl (fun K hK => ?_)
                        go_simp
                        refine (rminus_any zc (za * x1) _ _ _ (hzc.keep hS2) hv103 (fc.fit (by decide)) (fax.fit (by decide))).mono ?_
                        rintro e w104 ⟨v104, rfl, hv104, hk104⟩
                        obtain ⟨b104, ao104, n104, c104, rfl⟩ := hv104.shape'
                        replace NB5 := NB5.keep hk104
                        go_wp2_with fail
                        refine hK.out _ _ (hS2.trans' hk104) (fun hS3 => ?_)
                        clear hK K
                        have st_c := NB5.cell
                        have st_f := NB5.frozen
                        have st_l := NB5.lt
                        refine wpAnyL_last (i := 6) rfl (by kernel_rfl) (by kernel_rfl) (by kernel_rfl) (fun K hK => ?_)
                        go_simp
                        refine hK.out _ _ ?_
                        clear hK K
                        go_wp2_with fail
                        go_meet
                        case rel => exact ⟨A5, b104, ao104, n104, c104, rfl, (by omega), (bl2 (.bool b104) (.slice ao104 n104 c104) NB5), hv104.soft (sf2 (E := 3) (.bool b104) (.slice ao104 n104 c104) NB5 (by decide)), (kp2 (A := A5) (.bool b104) (.slice ao104 n104 c104) hS3 (by omega))⟩
                       exact AllReadyL.nil
                      refine AllReadyL.cons rfl (fun K hK => ?_) ?_
                      ·go_simp
                       refine hK.out _ _ (Kp.alloc' hS0 (.cells #[.bool false, .slice none 0 0] 81)) (fun hS1 => ?_)
                       clear hK K
                       have NB5 : Blk (wd.alloc (.cells #[.bool false, .slice none 0 0] 81)) wd.heap.size #[.bool false, .slice none 0 0] 81 := Blk.new wd _ _
                       have ge5 : y82.heap.size ≤ wd.heap.size := hS0.size
                       try simp only [sq]
                       generalize hA5 : wd.heap.size = A5 at *
                       generalize wd.alloc (.cells #[.bool false, .slice none 0 0] 81) = wn5 at *
                       refine wpAnyL_on (i := 3) rfl (fun K hK => ?_)
                       go_simp
                       refine (rtimes_any za x1 _ _ _ (hza.keep hS1) (hy1.keep hS1) (fa.fit (by decide)) (fy.fit (by decide))).mono ?_
                       rintro e w103 ⟨v103, rfl, hv103, hk103⟩
                       obtain ⟨b103, ao103, n103, c103, rfl⟩ := hv103.shape'
                       replace NB5 := NB5.keep hk103
                       go_wp2_with fail
                       refine hK.out _ _ (hS1.trans' hk103) (fun hS2 => ?_)
                       clear hK K
                       refine wpAnyL_on (i := 4) rfl (fun K hK => ?_)
                       go_simp
                       refine (rminus_any zc (za * x1) _ _ _ (hzc.keep hS2) hv103 (fc.fit (by decide)) (fax.fit (by decide))).mono ?_
                       rintro e w104 ⟨v104, rfl, hv104, hk104⟩
                       obtain ⟨b104, ao104, n104, c104, rfl⟩ := hv104.shape'
                       replace NB5 := NB5.keep hk104
                       go_wp2_with fail
                       refine hK.out _ _ (hS2.trans' hk104) (fun hS3 => ?_)
                       clear hK K
                       have st_c := NB5.cell
                       have st_f := NB5.frozen
                       have st_l := NB5.lt
                       refine wpAnyL_last (i := 6) rfl (by kernel_rfl) (by kernel_rfl) (by kernel_rfl) (fun K hK => ?_)
                       go_simp
                       refine hK.out _ _ ?_
                       clear hK K
                       go_wp2_with fail
                       go_meet
                       case rel => exact ⟨A5, b104, ao104, n104, c104, rfl, (by omega), (bl2 (.bool b104) (.slice ao104 n104 c104) NB5), hv104.soft (sf2 (E := 3) (.bool b104) (.slice ao104 n104 c104) NB5 (by decide)), (kp2 (A := A5) (.bool b104) (.slice ao104 n104 c104) hS3 (by omega))⟩
                      exact AllReadyL.nil
                    case rest =>
                     as_aux_lemma =>
                      obtain ⟨Au, b13, ao13, n13, c13, rfl, geu, Bu, hu, hkc⟩ := hcut
                      replace Ba := Ba.keep hkc
                      replace Bb := Bb.keep hkc
                      replace Bc := Bc.keep hkc
                      replace By := By.keep hkc
                      replace hza := hza.keep hkc
                      replace hzb := hzb.keep hkc
                      replace hzc := hzc.keep hkc
                      replace hy1 := hy1.keep hkc
                      replace hkw := hkw.trans' hkc
                      have neau : Aa ≠ Au := by omega
                      have nebu : Ab ≠ Au := by omega
                      have necu : Ac ≠ Au := by omega
                      have neyu : Ay ≠ Au := by omega
                      have gw5 : ∀ A : Nat, y82.heap.size ≤ A → w.heap.size ≤ A := fun A hA => Nat.le_trans hkb hA
                      have gwu := gw5 _ geu
                      clear hkc gw5 hkb ltaz ltbz ltcz ltyz geu
                      have hkb := hkw.size
                      generalize wc = y5 at *
                      clear Ba Bc hza hzc
                      clear fax
                      have HX2 := Hid.mk HX.out.2
                      clear HX
                      generalize zc - za * x1 = U at *
                      go_wp2_with fail
                      have ltbz := Bb.lt
                      have ltyz := By.lt
                      have ltuz := Bu.lt
                      go_cut [24] from 140 (fun p24 wx => ∃ (qv : Nat) (b14 : Bool) (ao14 : Option Addr) (n14 c14 : Nat), p24 = .pointer (some ⟨qv, 0, none⟩) ∧ y5.heap.size ≤ qv ∧ Blk wx qv #[.bool b14, .slice ao14 n14 c14] 81 ∧ IN wx (.agg #[.bool b14, .slice ao14 n14 c14]) (U.tdiv (zb.natAbs : Int)) ∧ Kp y5 wx)
                      case first =>
                       as_aux_lemma =>
                        try clear hkw; try clear hkb; try clear HNZ; try clear Hza; try clear Hzb; try clear Hzc; try clear h1; try clear h2; try clear h3; try clear lnb; try clear HNO; try clear HLR; try clear HGP; try clear HX; try clear HX2; try clear HM; try clear e2; try clear ltbz; try clear ltyz; try clear ltuz; try clear hy1; try clear By
                        refine wp_region_l (S := fun w' => Kp y5 w') (by kernel_rfl) (Kp.drew' (Below.refl _ _)) (fun hS0 => ?_)
                        generalize y5.drew = wd at *
                        refine wpAnyL_tk (i := 0) (k := 3) (v := .agg #[.bool b13, .slice ao13 n13 c13]) rfl ?_ hS0 ?_
                        ·intro w' hw'; have hc := ((Bu).keep hw').cell; go_simp
                        simp only [sq]
                        refine wpAnyL_tk (i := 1) (k := 2) (v := .agg #[.bool b2, .slice ao2 n2 c2]) rfl ?_ hS0 ?_
                        ·intro w' hw'; have hc := ((Bb).keep hw').cell; go_simp
                        simp only [sq]
                        refine wpAnyL_ready (rs := [2, 4]) (by kernel_rfl) (by simp) ?_
                        refine AllReadyL.cons rfl (fun K hK => ?_) ?_
                        ·go_simp
                         refine (size_any zb _ _ (hzb.keep hS0)).mono ?_
                         rintro e w102 ⟨v102, rfl, hv102, hk102⟩
                         obtain ⟨b102, ao102, n102, c102, rfl⟩ := hv102.shape'
                         go_wp2_with fail
                         refine hK.out _ _ (hS0.trans' hk102) (fun hS1 => ?_)
                         clear hK K
                         refine wpAnyL_ready (rs := [3, 4]) (by kernel_rfl) (by simp) ?_
                         refine AllReadyL.cons rfl (fun K hK => ?_) ?_
                         ·go_simp
                          refine (rexact_any U (zb.natAbs : Int) 81 _ _ _ (hu.keep hS1) hv102 b0 (by decide) fu (fb.abs.mono (by decide))).mono ?_
                          rintro e w103 ⟨v103, rfl, hv103, hk103⟩
                          obtain ⟨b103, ao103, n103, c103, rfl⟩ := hv103.shape'
                          go_wp2_with fail
                          refine hK.out _ _ (hS1.trans' hk103) (fun hS2 => ?_)
                          clear hK K
                          refine wpAnyL_on (i := 4) rfl (fun K hK => ?_)
                          go_simp
                          refine hK.out _ _ (Kp.alloc' hS2 (.cells #[.bool false, .slice none 0 0] 81)) (fun hS3 => ?_)
                          clear hK K
                          have NB4 : Blk (w103.alloc (.cells #[.bool false, .slice none 0 0] 81)) w103.heap.size #[.bool false, .slice none 0 0] 81 := Blk.new w103 _ _
                          have ge4 : y5.heap.size ≤ w103.heap.size := hS2.size
                          replace hv103 := hv103.keep (kp_alloc w103 (.cells #[.bool false, .slice none 0 0] 81))
                          try simp only [sq]
                          generalize hA4 : w103.heap.size = A4 at *
                          generalize w103.alloc (.cells #[.bool false, .slice none 0 0] 81) = wn4 at *
                          have st_c := NB4.cell
                          have st_f := NB4.frozen
                          have st_l := NB4.lt
                          refine wpAnyL_last (i := 5) rfl (by kernel_rfl) (by kernel_rfl) (by kernel_rfl) (fun K hK => ?_)
                          go_simp
                          refine hK.out _ _ ?_
                          clear hK K
                          go_wp2_with fail
                          go_meet
                          case rel => exact ⟨A4, b103, ao103, n103, c103, rfl, (by omega), (bl2 (.bool b103) (.slice ao103 n103 c103) NB4), hv103.soft (sf2 (E := 3) (.bool b103) (.slice ao103 n103 c103) NB4 (by decide)), (kp2 (A := A4) (.bool b103) (.slice ao103 n103 c103) hS3 (by omega))⟩
                         refine AllReadyL.cons rfl (fun K hK => ?_) ?_
                         ·go_simp
                          refine hK.out _ _ (Kp.alloc' hS1 (.cells #[.bool false, .slice none 0 0] 81)) (fun hS2 => ?_)
                          clear hK K
                          have NB4 : Blk (w102.alloc (.cells #[.bool false, .slice none 0 0] 81)) w102.heap.size #[.bool false, .slice none 0 0] 81 := Blk.new w102 _ _
                          have ge4 : y5.heap.size ≤ w102.heap.size := hS1.size
                          replace hv102 := hv102.keep (kp_alloc w102 (.cells #[.bool false, .slice none 0 0] 81))
                          try simp only [sq]
                          generalize hA4 : w102.heap.size = A4 at *
                          generalize w102.alloc (.cells #[.bool false, .slice none 0 0] 81) = wn4 at *
                          refine wpAnyL_on (i := 3) rfl (fun K hK => ?_)
                          go_simp
                          refine (rexact_any U (zb.natAbs : Int) 81 _ _ _ (hu.keep hS2) hv102 b0 (by decide) fu (fb.abs.mono (by decide))).mono ?_
                          rintro e w103 ⟨v103, rfl, hv103, hk103⟩
                          obtain ⟨b103, ao103, n103, c103, rfl⟩ := hv103.shape'
                          replace NB4 := NB4.keep hk103
                          go_wp2_with fail
                          refine hK.out _ _ (hS2.trans' hk103) (fun hS3 => ?_)
                          clear hK K
                          have st_c := NB4.cell
                          have st_f := NB4.frozen
                          have st_l := NB4.lt
                          refine wpAnyL_last (i := 5) rfl (by kernel_rfl) (by kernel_rfl) (by kernel_rfl) (fun K hK => ?_)
                          go_simp
                          refine hK.out _ _ ?_
                          clear hK K
                          go_wp2_with fail
                          go_meet
                          case rel => exact ⟨A4, b103, ao103, n103, c103, rfl, (by omega), (bl2 (.bool b103) (.slice ao103 n103 c103) NB4), hv103.soft (sf2 (E := 3) (.bool b103) (.slice ao103 n103 c103) NB4 (by decide)), (kp2 (A := A4) (.bool b103) (.slice ao103 n103 c103) hS3 (by omega))⟩
                         exact AllReadyL.nil
                        refine AllReadyL.cons rfl (fun K hK => ?_) ?_
                        ·go_simp
                         refine hK.out _ _ (Kp.alloc' hS0 (.cells #[.bool false, .slice none 0 0] 81)) (fun hS1 => ?_)
                         clear hK K
                         have NB4 : Blk (wd.alloc (.cells #[.bool false, .slice none 0 0] 81)) wd.heap.size #[.bool false, .slice none 0 0] 81 := Blk.new wd _ _
                         have ge4 : y5.heap.size ≤ wd.heap.size := hS0.size
                         try simp only [sq]
                         generalize hA4 : wd.heap.size = A4 at *
                         generalize wd.alloc (.cells #[.bool false, .slice none 0 0] 81) = wn4 at *
                         refine wpAnyL_on (i := 2) rfl (fun K hK => ?_)
                         go_simp
                         refine (size_any zb _ _ (hzb.keep hS1)).mono ?_
                         rintro e w102 ⟨v102, rfl, hv102, hk102⟩
                         obtain ⟨b102, ao102, n102, c102, rfl⟩ := hv102.shape'
                         replace NB4 := NB4.keep hk102
                         go_wp2_with fail
                         refine hK.out _ _ (hS1.trans' hk102) (fun hS2 => ?_)
                         clear hK K
                         refine wpAnyL_on (i := 3) rfl (fun K hK => ?_)
                         go_simp
                         refine (rexact_any U (zb.natAbs : Int) 81 _ _ _ (hu.keep hS2) hv102 b0 (by decide) fu (fb.abs.mono (by decide))).mono ?_
                         rintro e w103 ⟨v103, rfl, hv103, hk103⟩
                         obtain ⟨b103, ao103, n103, c103, rfl⟩ := hv103.shape'
                         replace NB4 := NB4.keep hk103
                         go_wp2_with fail
                         refine hK.out _ _ (hS2.trans' hk103) (fun hS3 => ?_)
                         clear hK K
                         have st_c := NB4.cell
                         have st_f := NB4.frozen
                         have st_l := NB4.lt
                         refine wpAnyL_last (i := 5) rfl (by kernel_rfl) (by kernel_rfl) (by kernel_rfl) (fun K hK => ?_)
                         go_simp
                         refine hK.out _ _ ?_
                         clear hK K
                         go_wp2_with fail
                         go_meet
                         case rel => exact ⟨A4, b103, ao103, n103, c103, rfl, (by omega), (bl2 (.bool b103) (.slice ao103 n103 c103) NB4), hv103.soft (sf2 (E := 3) (.bool b103) (.slice ao103 n103 c103) NB4 (by decide)), (kp2 (A := A4) (.bool b103) (.slice ao103 n103 c103) hS3 (by omega))⟩
                        exact AllReadyL.nil
                      case rest =>
                       as_aux_lemma =>
                        obtain ⟨Av, b14, ao14, n14, c14, rfl, gev, Bv, hv, hkc⟩ := hcut
                        replace Bb := Bb.keep hkc
                        replace By := By.keep hkc
                        replace Bu := Bu.keep hkc
                        replace hzb := hzb.keep hkc
                        replace hy1 := hy1.keep hkc
                        replace hu := hu.keep hkc
                        replace hkw := hkw.trans' hkc
                        have nebv : Ab ≠ Av := by omega
                        have neyv : Ay ≠ Av := by omega
                        have neuv : Au ≠ Av := by omega
                        have gw6 : ∀ A : Nat, y5.heap.size ≤ A → w.heap.size ≤ A := fun A hA => Nat.le_trans hkb hA
                        have gwv := gw6 _ gev
                        clear hkc gw6 hkb ltbz ltyz ltuz gev
                        have hkb := hkw.size
                        generalize wc = y6 at *
                        clear Bu hu
                        have ebb := Hid.mk hzb.neg
                        have fv : Ft 81 (U.tdiv (zb.natAbs : Int)) := fu.le (tdiv_le _ _)
                        have bc := Bb.cell
                        have bll := Bb.lt
                        go_upto_if 145 with fail
                        go_cut [] from 140 (fun wx => ∃ (b15 : Bool) (ao15 : Option Addr) (n15 c15 : Nat), Blk wx Av #[.bool b15, .slice ao15 n15 c15] 81 ∧ IN wx (.agg #[.bool b15, .slice ao15 n15 c15]) (U.tdiv zb) ∧ Blk wx Ay #[.bool b12, .slice ao12 n12 c12] 81 ∧ IN wx (.agg #[.bool b12, .slice ao12 n12 c12]) x1 ∧ Kp w wx)
                        case first =>
                         by_cases hq : zb < 0
                         ·have ef : U.tdiv zb = -(U.tdiv (zb.natAbs : Int)) := by rw [← ltdiv_abs, if_pos hq]
                          have eb2 : b2 = true := by rw [ebb.out]; exact decide_eq_true hq
                          have EF := Hid.mk ef
                          subst eb2
                          clear ef hq ebb HX2
                          have vc := Bv.cell
                          have vl := Bv.lt
                          go_wp2_with fail
                          refine (less_any _ _ _ hv).mono ?_
                          rintro e w73 ⟨v15, rfl, hn15, hk73⟩
                          obtain ⟨b15, ao15, n15, c15, rfl⟩ := hn15.shape'
                          clear vc vl bc bll
                          replace Bb := Bb.keep hk73
                          replace By := By.keep hk73
                          replace Bv := Bv.keep hk73
                          replace hy1 := hy1.keep hk73
                          replace hkw := hkw.trans' hk73
                          clear hk73
                          have vc := Bv.cell
                          have vf := Bv.frozen
                          have vl := Bv.lt
                          go_wp2_with fail
                          go_meet
                          case rel => exact ⟨b15, ao15, n15, c15, (bl2 (.bool b15) (.slice ao15 n15 c15) Bv), by rw [EF.out]; exact hn15.soft (sf2 (E := 3) (.bool b15) (.slice ao15 n15 c15) Bv (by decide)), (ot2 (A := Av) (.bool b15) (.slice ao15 n15 c15) By (by omega)), hy1.soft (sf2 (E := 3) (.bool b15) (.slice ao15 n15 c15) Bv (by decide)), (kp2 (A := Av) (.bool b15) (.slice ao15 n15 c15) hkw (by omega))⟩
                         ·have ef : U.tdiv zb = U.tdiv (zb.natAbs : Int) := by rw [← ltdiv_abs, if_neg hq]
                          have eb2 : b2 = false := by rw [ebb.out]; exact decide_eq_false hq
                          have EF := Hid.mk ef
                          subst eb2
                          clear ef hq ebb HX2
                          go_wp2_with fail
                          go_meet
                          case rel => exact ⟨b14, ao14, n14, c14, Bv, by rw [EF.out]; exact hv, By, hy1, hkw⟩
                        case rest =>
                         clear bc bll ebb
                         obtain ⟨b15, ao15, n15, c15, Bv, hv1, By, hy1, hkw⟩ := hcut
                         clear hv Bb hzb
                         generalize wc = y83 at *
                         have fV : Ft 81 (U.tdiv zb) := fu.le (tdiv_le _ _)
                         have HO : Hid (OutL sa sb sc (strOf (itoa x1)) (strOf (itoa (U.tdiv zb))) 0) := Or.inr ⟨h1, h2, h3, za, zb, zc, Hza.out, Hzb.out, Hzc.out, Or.inr (Or.inr ⟨HNZ.out, x1, U.tdiv zb, HX2.out, rfl, rfl, rfl⟩)⟩
                         have hT1 := Hid.mk (fun (W : World) (hk : Kp y83 W) => text_ref x1 _ W (hy1.keep hk) (fy.fit (by decide)))
                         have hT2 := Hid.mk (fun (W : World) (hk : Kp y83 W) => text_ref (U.tdiv zb) _ W (hv1.keep hk) (fV.fit (by decide)))
                         clear HX2
                         generalize strOf (itoa x1) = S1 at *
                         generalize strOf (itoa (U.tdiv zb)) = S2 at *
                         go_wp2_with fail
                         refine wp_region_l (S := fun w' => Kp y83 w') (by kernel_rfl) (Kp.drew' (Below.refl _ _)) (fun hS0 => ?_)
                         generalize y83.drew = wd at *
                         refine wpAnyL_tk (i := 0) (k := 1) (v := .agg #[.bool b12, .slice ao12 n12 c12]) rfl ?_ hS0 ?_
                         ·intro w' hw'; have hc := ((By).keep hw').cell; go_simp
                         simp only [sq]
                         refine wpAnyL_tk (i := 2) (k := 3) (v := .agg #[.bool b15, .slice ao15 n15 c15]) rfl ?_ hS0 ?_
                         ·intro w' hw'; have hc := ((Bv).keep hw').cell; go_simp
                         simp only [sq]
                         refine wpAnyL_on (i := 1) rfl (fun K hK => ?_)
                         go_simp
                         refine (hT1.out _ hS0).mono ?_
                         rintro e w101 ⟨rfl, hk101⟩
                         go_wp2_with fail
                         refine hK.out _ _ (hS0.trans' hk101) (fun hS1 => ?_)
                         clear hK K
                         refine wpAnyL_on (i := 3) rfl (fun K hK => ?_)
                         go_simp
                         refine (hT2.out _ hS1).mono ?_
                         rintro e w103 ⟨rfl, hk103⟩
                         go_wp2_with fail
                         refine hK.out _ _ (hS1.trans' hk103) (fun hS2 => ?_)
                         clear hK K
                         refine wpAnyL_tk (i := 4) (k := 5) (v := .string S1) rfl ?_ hS2 ?_
                         ·intro w' hw'; go_simp
                         simp only [sq]
                         refine wpAnyL_tk (i := 5) (k := 6) (v := .string S2) rfl ?_ hS2 ?_
                         ·intro w' hw'; go_simp
                         simp only [sq]
                         refine wpAnyL_last (i := 6) rfl (by kernel_rfl) (by kernel_rfl) (by kernel_rfl) (fun K hK => ?_)
                         go_simp
                         refine hK.out _ _ ?_
                         clear hK K
                         go_wp2_with fail
                         refine bodyPost_ret (v := .tuple #[.string S1, .string S2, .int .i64 0]) (by simp [results, Tryd.results21, go_sem]) rfl ?_
                         exact ⟨_, _, _, rfl, HO, hkw.trans' hS2⟩
         ·have HO : Hid (OutL sa sb sc ⟨#[]⟩ ⟨#[]⟩ 8) := Or.inr ⟨h1, h2, h3, za, zb, zc, Hza.out, Hzb.out, Hzc.out, Or.inr (Or.inl ⟨HNZ.out, HNO.out hl, rfl, rfl, rfl⟩)⟩
          have e6 : decide (0 < (n6 : Int)) = true := by
           have h9 : n6 ≠ 0 := fun h => hl (lnf.1.1 h)
           simp; omega
          have e7 : (0 : Int) < (n6 : Int) := of_decide_eq_true e6
          clear hl lnf HNO HLR HGP
          go_wp2_with fail
          refine bodyPost_ret (v := .tuple #[.string ⟨#[]⟩, .string ⟨#[]⟩, .int .i64 8]) (by simp [results, Tryd.results21, go_sem]) rfl ?_
          exact ⟨_, _, _, rfl, HO, hkw⟩

end Go.Proofs.YtjahbjjekednfabDoor
