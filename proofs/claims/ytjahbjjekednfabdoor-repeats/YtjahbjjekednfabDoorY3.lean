import Derived.Test.YtjahbjjekednfabDoorY2
namespace Go.Proofs.YtjahbjjekednfabDoor
open Go.RowKit

set_option maxHeartbeats 6400000 in
set_option maxRecDepth 100000 in
/-- surdkeep.Repeats. -/
theorem repeats_any (s : ByteArray) (w : World) (ht : Tens w) : Calls Tryd.prog 3 #[.string s] w (RetV w (.bool true)) := by
 obtain ⟨r, hr⟩ := rk_all s
 obtain ⟨x, y, er, ho⟩ := outD_ex r
 have HA := alive_any
 have HV := Hid.mk (fun (W : World) (hT : Tens W) => sval_any s r W hr hT)
 have HD := Hid.mk (fun (W : World) => speriod_any s r x y er W hr ho)
 by_cases he : r.e = 0
 ·have hcn := rk_cn hr he
  have hV : valV r = formV r.v := if_pos he
  rw [hV, he] at HV
  unfold formV at HV
  have hd0 := hcn.ok.d0
  generalize strOf (Go.Lib.itoa r.v.p) = s1 at HV
  generalize strOf (Go.Lib.itoa r.v.q) = s2 at HV
  generalize strOf (Go.Lib.itoa r.v.r) = s3 at HV
  have h00 : ((0 : Int) != 0) = false := by simp
  rcases ho with ⟨k, _⟩ | ⟨_, k, rfl, rfl, rfl⟩ | ⟨_, k, _, rfl, rfl, rfl⟩ | ⟨_, k, i, J, hJ, hR, rfl, rfl, rfl⟩
  ·exact absurd he k
  ·have hD : (r.v.d == 1) = true := by simp [k]
   have h66 : ((6 : Int) == 6) = true := by simp
   clear hcn hV k hd0
   generalize r.v.d = D at *
   go_enter Tryd.func3, Tryd.ntmps3
   go_wp2_with fail
   refine (HA w ht).mono ?_
   rintro e w1 ⟨rfl, hk1⟩
   go_wp2_with fail
   refine (HV.out w1 (ht.keep hk1)).mono ?_
   rintro e w2 ⟨rfl, hk2⟩
   have B1 := Blk.new w2 #[.string s1, .string s2, .string s3, .int .i64 D] 24
   go_wp2_with fail
   refine (HD.out _).mono ?_
   rintro e w3 ⟨rfl, hk3⟩
   replace B1 := B1.keep hk3
   have b1c := B1.cell
   have b1l := B1.lt
   have hk := ((hk1.trans' hk2).alloc' (.cells #[.string s1, .string s2, .string s3, .int .i64 D] 24)).trans' hk3
   clear hk1 hk2 hk3
   go_wp2_with fail
   go_ret
   exact ⟨rfl, hk⟩
  ·have hD : (r.v.d == 1) = false := by simp [k]
   have hD1 : 1 < r.v.d := by omega
   clear hcn hV k hd0
   generalize r.v.d = D at *
   go_enter Tryd.func3, Tryd.ntmps3
   go_wp2_with fail
   refine (HA w ht).mono ?_
   rintro e w1 ⟨rfl, hk1⟩
   go_wp2_with fail
   refine (HV.out w1 (ht.keep hk1)).mono ?_
   rintro e w2 ⟨rfl, hk2⟩
   have B1 := Blk.new w2 #[.string s1, .string s2, .string s3, .int .i64 D] 24
   go_wp2_with fail
   refine (HD.out _).mono ?_
   rintro e w3 ⟨rfl, hk3⟩
   replace B1 := B1.keep hk3
   have b1c := B1.cell
   have b1l := B1.lt
   have hk := ((hk1.trans' hk2).alloc' (.cells #[.string s1, .string s2, .string s3, .int .i64 D] 24)).trans' hk3
   clear hk1 hk2 hk3
   go_wp2_with fail
   go_ret
   exact ⟨rfl, hk⟩
  ·have hD : (r.v.d == 1) = false := by simp [k]
   obtain ⟨ss, hss, HH⟩ := hun_of hcn k hR
   have hOT : OutT r 100 (tms (p0 r.v) (q0 r.v) (n0 r.v) 100) false 0 := Or.inr (Or.inr ⟨he, by decide, by decide, 100, ⟨Nat.le_refl _, fun i _ => rs_irr hcn k i, Or.inl rfl⟩, rfl, (decide_eq_false (rs_irr hcn k 100)).symm, rfl⟩)
   have HT : Hid (∀ (W : World), Tens W → Calls Tryd.prog 12 #[.string s, .int .i64 100] W (fun e w' => ∃ v, e = .returned (.tuple #[v, .bool false, .int .i64 0]) ∧ Hid (RowS w' v ss) ∧ Kp W w')) := fun W hT => (sterms_any s 100 r _ _ _ W hr (by decide) (by decide) hOT hT).mono fun e w' ⟨v, h1, h2, h3⟩ => ⟨v, h1, RowS.of_owns (by rw [← hss]; exact h2), h3⟩
   have hlt := hR.lt
   replace HH := Hid.mk HH
   clear hcn hV k hd0 hOT hss hR
   obtain ⟨l, rfl⟩ : ∃ l, J = i + l := ⟨J - i, by omega⟩
   rw [show i + l - i = l by omega] at HH
   rw [show ((i + l : Nat) : Int) - (i : Int) = (l : Int) by omega] at HD
   have hl1 : 1 ≤ l := by omega
   have hi2 : (i : Int) + (l : Int) ≤ 200 := by omega
   have HC := Hid.mk (fun (v : Value) (W : World) (h : RowS W v ss) => HH.out.calls (by omega) (by omega) h)
   have hlen := HH.out.len
   generalize r.v.d = D at *
   go_enter Tryd.func3, Tryd.ntmps3
   go_wp2_with fail
   refine (HA w ht).mono ?_
   rintro e w1 ⟨rfl, hk1⟩
   go_wp2_with fail
   refine (HV.out w1 (ht.keep hk1)).mono ?_
   rintro e w2 ⟨rfl, hk2⟩
   have B1 := Blk.new w2 #[.string s1, .string s2, .string s3, .int .i64 D] 24
   go_wp2_with fail
   refine (HD.out _).mono ?_
   rintro e w3 ⟨rfl, hk3⟩
   replace B1 := B1.keep hk3
   have b1c := B1.cell
   have b1l := B1.lt
   have hk := ((hk1.trans' hk2).alloc' (.cells #[.string s1, .string s2, .string s3, .int .i64 D] 24)).trans' hk3
   clear hk1 hk2 hk3
   go_wp2_with fail
   refine (HT.out w3 (ht.keep hk)).mono ?_
   rintro e w4 ⟨v4, rfl, hRS, hk4⟩
   replace hk := hk.trans' hk4
   have hRP := HC.out v4 w4 hRS.out
   obtain ⟨ao, cap, g, rfl, hc1, hc2, hc3, hc4⟩ := id hRS.out
   rw [hlen] at hc1 hc3 hc4 hRP
   obtain ⟨rfl, hg⟩ := hc3 (by decide)
   rw [hlen] at hRS
   have HC4 := Hid.mk hc4
   clear hc3 hc4 b1c b1l B1 hk4 HC
   rw [hlen]
   go_wp2_with fail
   refine hRP.mono ?_
   rintro e w5 ⟨rfl, hk5⟩
   replace hk := hk.trans' hk5
   replace hRS := Hid.mk (hRS.out.keep hk5)
   go_wp2_with fail
   go_cut [125] (fun c wx => c = .bool false ∧ Kp w5 wx)
   case first =>
    by_cases hi0 : 0 < i
    ·obtain ⟨c, rfl⟩ : ∃ c, i = c + 1 := ⟨i - 1, by omega⟩
     have HAH := Hid.mk (HH.out.ahead hi0)
     rw [show c + 1 - 1 = c by omega] at HAH
     have hi0i : (0 : Int) < (c : Int) + 1 := by omega
     by_cases hi1 : c + l < 100
     ·have hne := ba_ne (HAH.out hi1)
      have d1 := (World.cell?_of_block (w := w4) (a := ⟨g, c, none⟩) (hk5.block g hg)).trans (HC4.out c (by omega))
      have d2 := (World.cell?_of_block (w := w4) (a := ⟨g, c + l, none⟩) (hk5.block g hg)).trans (HC4.out (c + l) hi1)
      have hi1i : (c : Int) + (l : Int) < 100 := by omega
      have hci : (c : Int) < 100 := by omega
      have hn : ((c : Int) + (l : Int)).toNat = c + l := by omega
      clear HAH
      generalize ss.getD c ByteArray.empty = S at *
      generalize ss.getD (c + l) ByteArray.empty = S' at *
      go_quiet (fail)
      go_wp2_with fail
      go_meet
      case rel => exact ⟨rfl, Kp.drewN (Below.refl _ _) _⟩
     ·have hi1i : ¬ (c : Int) + (l : Int) < 100 := by omega
      clear HAH
      go_quiet (fail)
      go_wp2_with fail
      go_meet
      case rel => exact ⟨rfl, Kp.drewN (Below.refl _ _) _⟩
    ·have hi0e : i = 0 := by omega
     subst hi0e
     go_quiet (fail)
     go_wp2_with fail
     go_meet
     case rel => exact ⟨rfl, Kp.drewN (Below.refl _ _) _⟩
   case rest =>
    obtain ⟨rfl, hkc⟩ := hcut
    replace hk := hk.trans' hkc
    replace hRS := Hid.mk (hRS.out.keep hkc)
    clear hk5 HC4 hg hkc hRP
    go_wp2_with fail
    go_loopw [13, 14] (fun k _ wr => ∃ j : Nat, 1 ≤ j ∧ j ≤ l ∧ k = .int .i64 j ∧ Kp w wr ∧ Hid (RowS wr (.slice (some ⟨g, 0, none⟩) 100 cap) ss)) (fun k _ _ => l + 1 - (intOf k).toNat)
    case atStart => exact ⟨1, by omega, by omega, rfl, hk, hRS⟩
    case round =>
     clear hk hRS
     obtain ⟨j, hj1, hjl, rfl, hk, hRS⟩ := hrel
     by_cases h1 : j < l
     ·have h1i : (j : Int) < (l : Int) := by omega
      by_cases h2 : i + 2 * l ≤ 100
      ·have h2i : (i : Int) + 2 * (l : Int) ≤ 100 := by omega
       have hN := HH.out.not (k := j) hj1 h1 h2 hRS.out
       have hj0 : (j : Int) ≠ 0 := by omega
       have hr0 : 0 ≤ (l : Int).tmod (j : Int) := Int.tmod_nonneg _ (by omega)
       have hr1 : (l : Int).tmod (j : Int) < (j : Int) := Int.tmod_lt_of_pos _ (by omega)
       go_wp2_with fail
       refine hN.mono ?_
       rintro e w6 ⟨rfl, hk6⟩
       replace hk := hk.trans' hk6
       replace hRS := Hid.mk (hRS.out.keep hk6)
       clear hN hk6
       by_cases hm : (l : Int).tmod (j : Int) = 0
       ·have hmb : ((l : Int).tmod (j : Int) == 0) = true := by simp [hm]
        go_wp2_with fail
        go_roundw
        case rel => exact ⟨j + 1, by omega, by omega, by go_num, hk, hRS⟩
        case measure => simp [intOf]; omega
       ·have hmb : ((l : Int).tmod (j : Int) == 0) = false := by simp [hm]
        go_wp2_with fail
        go_roundw
        case rel => exact ⟨j + 1, by omega, by omega, by go_num, hk, hRS⟩
        case measure => simp [intOf]; omega
      ·have h2i : ¬ (i : Int) + 2 * (l : Int) ≤ 100 := by omega
       go_wp2_with fail
       go_ret
       exact ⟨rfl, hk⟩
     ·have h1i : ¬ (j : Int) < (l : Int) := by omega
      go_wp2_with fail
      go_ret
      exact ⟨rfl, hk⟩
 ·have hV : valV r = noV := if_neg he
  rw [hV] at HV
  unfold noV at HV
  have hb : (r.e != 0) = true := by simp [he]
  have hb2 : (r.e == r.e) = true := by simp
  obtain ⟨rfl, rfl, rfl⟩ : x = 0 ∧ y = 0 ∧ er = r.e := by
   rcases ho with ⟨_, h⟩ | ⟨k, _⟩ | ⟨k, _⟩ | ⟨k, _⟩
   ·exact h
   ·exact absurd k he
   ·exact absurd k he
   ·exact absurd k he
  clear he hV ho
  generalize r.e = E at *
  go_enter Tryd.func3, Tryd.ntmps3
  go_wp2_with fail
  refine (HA w ht).mono ?_
  rintro e w1 ⟨rfl, hk1⟩
  go_wp2_with fail
  refine (HV.out w1 (ht.keep hk1)).mono ?_
  rintro e w2 ⟨rfl, hk2⟩
  have B1 := Blk.new w2 #[.string ⟨#[]⟩, .string ⟨#[]⟩, .string ⟨#[]⟩, .int .i64 0] 24
  go_wp2_with fail
  refine (HD.out _).mono ?_
  rintro e w3 ⟨rfl, hk3⟩
  replace B1 := B1.keep hk3
  have b1c := B1.cell
  have b1l := B1.lt
  have hk := ((hk1.trans' hk2).alloc' (.cells #[.string ⟨#[]⟩, .string ⟨#[]⟩, .string ⟨#[]⟩, .int .i64 0] 24)).trans' hk3
  clear hk1 hk2 hk3
  go_wp2_with fail
  go_ret
  exact ⟨rfl, hk⟩

end Go.Proofs.YtjahbjjekednfabDoor
