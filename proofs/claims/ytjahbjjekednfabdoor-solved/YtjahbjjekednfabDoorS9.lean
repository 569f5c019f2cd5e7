import Derived.Test.YtjahbjjekednfabDoorK2
import Derived.Test.YtjahbjjekednfabDoorS7
import Derived.Test.YtjahbjjekednfabDoorD4
import Derived.Test.YtjahbjjekednfabDoorS2
import Derived.Test.YtjahbjjekednfabDoorT5
import Derived.Deep.Cut
import Derived.Deep.LoopGhost
namespace Go.Proofs.YtjahbjjekednfabDoor
open Go.RowKit

theorem lq_pos {d m : Nat} (m1 : 1 ≤ m) (h0 : m * m < d) (h1 : d < (m + 1) * (m + 1)) : ∀ k, 1 ≤ (cv 0 1 d (k + 1)).lq
 | 0 => by
  show 1 ≤ tm 0 1 d 0 * 0 + 1
  omega
 | k + 1 => by
  have ih := lq_pos m1 h0 h1 k
  have t1 := rdc_tm m1 h0 h1 (k + 1)
  have a2 := (rdc_lq m1 h0 h1 (k + 1)).2.1
  show 1 ≤ tm 0 1 d (k + 1) * (cv 0 1 d (k + 1)).lq + (cv 0 1 d (k + 1)).aq
  have : 1 * 1 ≤ tm 0 1 d (k + 1) * (cv 0 1 d (k + 1)).lq := Int.mul_le_mul t1 ih (by omega) (by omega)
  omega
theorem pell_facts {d m J : Nat} (m1 : 1 ≤ m) (h0 : m * m < d) (h1 : d < (m + 1) * (m + 1)) (hJ : PellAt d J) : 1 ≤ (cv 0 1 d J).lp ∧ 1 ≤ (cv 0 1 d J).lq ∧ (cv 0 1 d J).lp * (cv 0 1 d J).lp = d * ((cv 0 1 d J).lq * (cv 0 1 d J).lq) + 1 ∧
  ∀ k r : Nat, 1 ≤ k → (k : Int) < (cv 0 1 d J).lq → (r : Int) * r ≠ d * k * k + 1 := by
 have hy := hJ.yes
 unfold Slv at hy
 have hq : 1 ≤ (cv 0 1 d J).lq := by
  have := lq_pos m1 h0 h1 (J - 1)
  rwa [show J - 1 + 1 = J by have := hJ.pos; omega] at this
 have hp := (rdc_lq m1 h0 h1 J).2.2.1
 have he : (cv 0 1 d J).lp * (cv 0 1 d J).lp = d * ((cv 0 1 d J).lq * (cv 0 1 d J).lq) + 1 := by grind
 refine ⟨?_, hq, he, fun k r hk hlt e => ?_⟩
 ·refine Int.not_lt.1 fun hc => ?_
  have h2 : (cv 0 1 d J).lp = 0 := by omega
  rw [h2] at he
  have h3 : 0 ≤ (d : Int) * ((cv 0 1 d J).lq * (cv 0 1 d J).lq) := Int.mul_nonneg (by omega) (Int.mul_nonneg (by omega) (by omega))
  omega
 ·have hr : 1 ≤ (r : Int) := by
   refine Int.not_lt.1 fun hc => ?_
   have h2 : (r : Int) = 0 := by omega
   rw [h2] at e
   have h3 : 0 ≤ (d : Int) * k * k := Int.mul_nonneg (Int.mul_nonneg (by omega) (by omega)) (by omega)
   omega
  have := pell_least m1 h0 h1 hJ (x := r) (y := k) hr (by omega) (by rw [e]; grind)
  omega
theorem dec_len {u k : Nat} (h : u < 10 ^ (k + 1)) : (Go.Lib.decDigits u).length ≤ k + 1 := by
 obtain ⟨j, hj, _⟩ := pad_dec k u h
 omega
/-- What the text of a number above 0 is. -/
theorem num_text {z : Int} {k : Nat} (hz : 1 ≤ z) (hk : Ft (k + 1) z) : Digs (bl (strOf (Go.Lib.itoa z))) ∧ 1 ≤ (strOf (Go.Lib.itoa z)).size ∧ (strOf (Go.Lib.itoa z)).size ≤ k + 1 ∧ byteAt (strOf (Go.Lib.itoa z)) 0 ≠ 48 ∧ val 10 (dgs (strOf (Go.Lib.itoa z)) (strOf (Go.Lib.itoa z)).size) = z := by
 have hl : (strOf (Go.Lib.itoa z)).size ≤ k + 1 := by
  rw [strOf_size]
  unfold Go.Lib.itoa
  rw [if_neg (by omega)]
  refine dec_len ?_
  unfold Ft at hk
  omega
 have hn : NumT (strOf (Go.Lib.itoa z)) z := rfl
 generalize Go.Lib.itoa z = t at *
 rcases numT_of hn with ⟨_, h2, h3⟩ | ⟨h2, _⟩
 ·rcases h2 with rfl | ⟨h4, h5, h6⟩
  ·have : decN (bi [48]) = 0 := by decide
   omega
  ·have hs : (strOf t).size = t.length := strOf_size t
   have hp : 1 ≤ t.length := List.length_pos_iff.2 h4
   refine ⟨h5, by omega, hl, ?_, ?_⟩
   ·intro e
    apply h6
    rw [byteAt_bl, bl_strOf] at e
    cases t with
    | nil => exact absurd rfl h4
    | cons c t =>
     have e2 : (c.toNat : Int) = 48 := e
     have e3 : c.toNat = 48 := by omega
     show some c = some 48
     rw [show c = 48 from UInt8.toNat_inj.1 e3]
   ·rw [dgs_val _ (Nat.le_refl _), Nat.sub_self, List.drop_zero, bl_strOf]
    exact h3.symm
 ·omega

end Go.Proofs.YtjahbjjekednfabDoor

namespace Go.Proofs.YtjahbjjekednfabDoor
open Go.RowKit

set_option maxHeartbeats 6400000 in
set_option maxRecDepth 100000 in
/-- surdkeep.Solved. -/
theorem solved_any (d : Int) (inn : Bool) (w : World) (h0 : -9223372036854775808 ≤ d) (h1 : d ≤ 9223372036854775807) (ht : Tens w) : Calls Tryd.prog 7 #[.int .i64 d, .bool inn] w (RetV w (.bool true)) := by
 have HPK := fun W => pick_any d 2001 W h0 h1 (by decide) (by decide)
 have pb := pk_bd d (show (0 : Int) < 2001 by decide)
 generalize pk d 2001 = P at *
 go_enter Tryd.func7, Tryd.ntmps7
 go_upto_if 21 with fail
 go_cut [0] from 21 (fun x wx => ∃ D : Int, x = .int .i64 D ∧ -9223372036854775808 ≤ D ∧ D ≤ 9223372036854775807 ∧ Kp w wx)
 case first =>
  cases inn with
  | true =>
   go_wp2_with fail
   refine (HPK _).mono ?_
   rintro e w1 ⟨rfl, hk1⟩
   go_wp2_with fail
   go_meet
   case rel => exact ⟨P, rfl, by omega, by omega, hk1⟩
  | false =>
   go_wp2_with fail
   go_meet
   case rel => exact ⟨d, rfl, h0, h1, Below.refl _ _⟩
 case rest =>
  obtain ⟨D, rfl, hD0, hD1, hkw⟩ := hcut
  clear HPK pb h0 h1
  generalize wc = wa at *
  have HPL := spell_any D wa (ht.keep hkw) (fun n _ hn hs => pell_ex hn hs)
  go_wp2_with fail
  refine HPL.mono ?_
  rintro e w2 ⟨s1, s2, er, rfl, HO, hk2⟩
  replace hkw := hkw.trans' hk2
  clear HPL hk2
  rcases HO.out with ⟨rfl, rfl, rfl, hbad⟩ | ⟨rfl, h2, h3, hs, J, hJ, rfl, rfl⟩
  ·clear HO
   by_cases hlo : D < 2
   ·clear hbad
    go_wp2_with fail
    go_ret
    exact ⟨rfl, hkw⟩
   ·by_cases hhi : 2000 < D
    ·clear hbad
     go_wp2_with fail
     go_ret
     exact ⟨rfl, hkw⟩
    ·obtain ⟨n, rfl⟩ : ∃ n : Nat, D = n := ⟨D.toNat, by omega⟩
     obtain ⟨r, hr⟩ : ∃ r : Nat, r * r = n := by
      rcases hbad with h | h | ⟨m, hm⟩
      ·omega
      ·omega
      ·exact ⟨m, by omega⟩
     have HW := fun W => whole_any n r W (by omega) (by omega) (by rw [← hr]; exact Nat.mul_lt_mul_of_lt_of_lt (by omega) (by omega))
     have hrr : ((r : Int) * (r : Int) == (n : Int)) = true := by rw [beq_iff_eq, ← Int.natCast_mul, hr]
     have hrb : (r : Int) * (r : Int) ≤ 2000 := by rw [← Int.natCast_mul, hr]; omega
     have hrb0 : 0 ≤ (r : Int) * (r : Int) := by rw [← Int.natCast_mul]; omega
     clear hbad hr
     go_wp2_with fail
     refine (HW _).mono ?_
     rintro e w3 ⟨rfl, hk3⟩
     go_wp2_with fail
     go_ret
     exact ⟨rfl, hkw.trans' hk3⟩
  ·obtain ⟨n, rfl⟩ : ∃ n : Nat, D = n := ⟨D.toNat, by omega⟩
   have hs' : ∀ m, m * m ≠ n := fun m hm => hs m (by rw [hm])
   have hk := kq_ok (d := n) 50 0 (by omega) (by omega)
   generalize kq n 50 0 = m at hk
   have q0 : m * m < n := by have := hs' m; omega
   have q1 := hk.2
   have m1 : 1 ≤ m := by
    refine Nat.pos_of_ne_zero fun e => ?_
    rw [e] at q1
    omega
   have mB : m ≤ 45 := by
    refine Nat.not_lt.1 fun h => ?_
    have : 46 * 46 ≤ m * m := Nat.mul_le_mul h h
    omega
   have HW := fun W => whole_any n m W (by omega) (by omega) q1
   have hmm : ((m : Int) * (m : Int) == (n : Int)) = false := by
    rw [beq_eq_false_iff_ne, ← Int.natCast_mul]
    omega
   have hmb : (m : Int) * (m : Int) ≤ 2000 := by rw [← Int.natCast_mul]; omega
   have hmb0 : 0 ≤ (m : Int) * (m : Int) := by rw [← Int.natCast_mul]; omega
   obtain ⟨a1, a2, a3, a4⟩ := pell_facts m1 q0 q1 hJ
   obtain ⟨f1, f2⟩ := pellAt_fit (d := n) (by omega) hJ
   obtain ⟨x1, x2, x3, x4, x5⟩ := num_text (k := 114) a1 f1
   obtain ⟨y1, y2, y3, y4, y5⟩ := num_text (k := 114) a2 f2
   obtain ⟨z1, z2, z3, z4, z5⟩ := num_text (z := (n : Int)) (k := 9) (by omega) (ft_small (by omega))
   have HX := fun W => figures_any _ W x1 x2 (by omega) x4
   have HY := fun W => figures_any _ W y1 y2 (by omega) y4
   have HZ := fun W => figures_any _ W z1 z2 (by omega) z4
   have HIT := fun W (hT : Tens W) => itoa_at (n : Int) (by omega) (by omega) W hT
   have dX := dgs_dig x1 _ (Nat.le_refl _)
   have dY := dgs_dig y1 _ (Nat.le_refl _)
   have dZ := dgs_dig z1 _ (Nat.le_refl _)
   have lX := dgs_len (strOf (Go.Lib.itoa (cv 0 1 n J).lp)) (Nat.le_refl _)
   have lY := dgs_len (strOf (Go.Lib.itoa (cv 0 1 n J).lq)) (Nat.le_refl _)
   have lZ := dgs_len (strOf (Go.Lib.itoa (n : Int))) (Nat.le_refl _)
   have HSM : Hid (∀ W, (9 < (strOf (Go.Lib.itoa (cv 0 1 n J).lq)).size ∧ Calls Tryd.prog 25 #[.string (strOf (Go.Lib.itoa (cv 0 1 n J).lq))] W (RetV W (.tuple #[.int .i64 0, .bool false]))) ∨ ((strOf (Go.Lib.itoa (cv 0 1 n J).lq)).size ≤ 9 ∧ Calls Tryd.prog 25 #[.string (strOf (Go.Lib.itoa (cv 0 1 n J).lq))] W (RetV W (.tuple #[.int .i64 (cv 0 1 n J).lq, .bool true])))) := fun W => by
    by_cases hc : 9 < (strOf (Go.Lib.itoa (cv 0 1 n J).lq)).size
    ·exact Or.inl ⟨hc, small_long _ W hc⟩
    ·exact Or.inr ⟨by omega, small_num _ _ W rfl (by omega)⟩
   have HBIG : Hid (9 < (strOf (Go.Lib.itoa (cv 0 1 n J).lq)).size → 2001 ≤ (cv 0 1 n J).lq) := fun hc => by
    refine Int.not_lt.1 fun hlt => ?_
    obtain ⟨_, _, e3, _⟩ := num_text (z := (cv 0 1 n J).lq) (k := 3) a2 (by unfold Ft; omega)
    omega
   have HSMB : Hid ((strOf (Go.Lib.itoa (cv 0 1 n J).lq)).size ≤ 9 → (cv 0 1 n J).lq < 1000000000) := fun hc => by
    have e4 := Dig.val_lt (B := 10) (by decide) dY
    rw [y5, lY] at e4
    have e5 : (10 : Int) ^ (strOf (Go.Lib.itoa (cv 0 1 n J).lq)).size ≤ 10 ^ 9 := pow_mono (by decide) hc
    have e6 : (10 : Int) ^ 9 = 1000000000 := by decide
    omega
   have hszx : (strOf (Go.Lib.itoa (cv 0 1 n J).lp)).size ≤ 115 := x3
   have hszy : (strOf (Go.Lib.itoa (cv 0 1 n J).lq)).size ≤ 115 := y3
   have hszz : (strOf (Go.Lib.itoa (n : Int))).size ≤ 10 := z3
   have HV : Hid (val 10 (dgs (strOf (Go.Lib.itoa (cv 0 1 n J).lp)) (strOf (Go.Lib.itoa (cv 0 1 n J).lp)).size) * val 10 (dgs (strOf (Go.Lib.itoa (cv 0 1 n J).lp)) (strOf (Go.Lib.itoa (cv 0 1 n J).lp)).size) = val 10 (dgs (strOf (Go.Lib.itoa (n : Int))) (strOf (Go.Lib.itoa (n : Int))).size) * (val 10 (dgs (strOf (Go.Lib.itoa (cv 0 1 n J).lq)) (strOf (Go.Lib.itoa (cv 0 1 n J).lq)).size) * val 10 (dgs (strOf (Go.Lib.itoa (cv 0 1 n J).lq)) (strOf (Go.Lib.itoa (cv 0 1 n J).lq)).size)) + 1) := by
    unfold Hid
    rw [x5, y5, z5]
    exact a3
   have HA4 := Hid.mk a4
   have MM : Hid ((m : Int) * (m : Int) ≤ (n : Int)) := by unfold Hid; rw [← Int.natCast_mul]; omega
   have hlq1 : 1 ≤ (cv 0 1 n J).lq := a2
   clear HO hs hs' hk q0 q1 a1 a2 a3 a4 f1 f2 x1 x2 x3 x4 x5 y1 y2 y3 y4 y5 z1 z2 z3 z4 z5 hJ
   generalize strOf (Go.Lib.itoa (cv 0 1 n J).lp) = SX at *
   generalize strOf (Go.Lib.itoa (cv 0 1 n J).lq) = SY at *
   generalize strOf (Go.Lib.itoa (n : Int)) = SZ at *
   generalize (cv 0 1 n J).lq = LQ at *
   unfold RetFg at HX HY HZ
   generalize dgs SX SX.size = A at *
   generalize dgs SY SY.size = B at *
   generalize dgs SZ SZ.size = F at *
   replace dX := Hid.mk dX
   replace dY := Hid.mk dY
   replace dZ := Hid.mk dZ
   have bX : A.length ≤ 115 := by omega
   have bY : B.length ≤ 115 := by omega
   have bZ : F.length ≤ 10 := by omega
   clear lX lY lZ
   go_wp2_with fail
   refine (HW _).mono ?_
   rintro e w3 ⟨rfl, hk3⟩
   replace hkw := hkw.trans' hk3
   go_wp2_with fail
   refine (HX _).mono ?_
   rintro e w4 ⟨va, rfl, ra, hk4⟩
   obtain ⟨aoa, ca, rfl, _, _⟩ := ra.slice
   replace hkw := hkw.trans' hk4
   go_wp2_with fail
   refine (HY _).mono ?_
   rintro e w5 ⟨vb, rfl, rb, hk5⟩
   obtain ⟨aob, cb, rfl, _, _⟩ := rb.slice
   replace ra := ra.keep hk5
   replace hkw := hkw.trans' hk5
   clear hk3 hk4 hk5 HW HX HY
   go_wp2_with fail
   refine (HIT _ (ht.keep hkw)).mono ?_
   rintro e w6 ⟨rfl, hk6⟩
   replace ra := ra.keep hk6
   replace rb := rb.keep hk6
   replace hkw := hkw.trans' hk6
   go_wp2_with fail
   refine (HZ _).mono ?_
   rintro e w7 ⟨vf, rfl, rf, hk7⟩
   obtain ⟨aof, cf, rfl, _, _⟩ := rf.slice
   replace ra := ra.keep hk7
   replace rb := rb.keep hk7
   replace hkw := hkw.trans' hk7
   clear hk6 hk7 HIT HZ
   go_wp2_with fail
   refine (kprod_any _ _ A A _ ra ra dX.out dX.out (by omega) (by omega)).mono ?_
   rintro e w8 ⟨vp, rfl, rp, hk8⟩
   replace rb := rb.keep hk8
   replace rf := rf.keep hk8
   replace hkw := hkw.trans' hk8
   have pd1 := prod_done dX.out dX.out (by omega)
   have pl1 : (crr (pTo A A A.length) (A.length + A.length)).length = A.length + A.length + 1 := by rw [crr_length, pTo_length]
   generalize crr (pTo A A A.length) (A.length + A.length) = AA at *
   obtain ⟨aop, cp, rfl, _, _⟩ := rp.slice
   replace pd1 := Hid.mk pd1
   replace pl1 := Hid.mk pl1
   clear hk8
   go_wp2_with fail
   refine (kprod_any _ _ B B _ rb rb dY.out dY.out (by omega) (by omega)).mono ?_
   rintro e w9 ⟨vq, rfl, rq, hk9⟩
   replace rp := rp.keep hk9
   replace rf := rf.keep hk9
   replace hkw := hkw.trans' hk9
   have pd2 := prod_done dY.out dY.out (by omega)
   have pl2 : (crr (pTo B B B.length) (B.length + B.length)).length = B.length + B.length + 1 := by rw [crr_length, pTo_length]
   generalize crr (pTo B B B.length) (B.length + B.length) = BB at *
   obtain ⟨aoq, cq, rfl, _, _⟩ := rq.slice
   replace pd2 := Hid.mk pd2
   have bBB : BB.length ≤ 231 := by omega
   clear hk9 pl2
   go_wp2_with fail
   refine (kprod_any _ _ F BB _ rf rq dZ.out pd2.out.1 (by omega) (by omega)).mono ?_
   rintro e w10 ⟨vr, rfl, rr, hk10⟩
   replace rp := rp.keep hk10
   replace hkw := hkw.trans' hk10
   have pd3 := prod_done dZ.out pd2.out.1 (by omega)
   have pl3 : (crr (pTo F BB F.length) (F.length + BB.length)).length = F.length + BB.length + 1 := by rw [crr_length, pTo_length]
   generalize crr (pTo F BB F.length) (F.length + BB.length) = CC at *
   obtain ⟨aor, cr, rfl, _, _⟩ := rr.slice
   have hone : val 10 AA = val 10 CC + 1 := by
    rw [pd1.out.2, pd3.2, pd2.out.2]
    exact HV.out
   have hON := one_any _ _ AA CC _ rp rr pd1.out.1 pd3.1 (by have := pl1.out; omega) (by omega) hone
   clear pd1 pd2 pd3 pl1 pl3 hone HV hk10 dX dY dZ
   go_wp2_with fail
   refine hON.mono ?_
   rintro e w11 ⟨rfl, hk11⟩
   replace hkw := hkw.trans' hk11
   clear hON hk11 rp rr rq rf ra rb
   go_wp2_with fail
   rcases HSM.out w11 with ⟨hl, hC⟩ | ⟨hl, hC⟩
   ·have hbig := HBIG.out hl
    clear HSM HBIG HSMB hl
    refine hC.mono ?_
    rintro e w12 ⟨rfl, hk12⟩
    replace hkw := hkw.trans' hk12
    clear hC hk12
    go_wp2_with fail
    go_loopg [18, 19, 20] 2001 (fun g k _ _ wr => ∃ j : Nat, k = .int .i64 j ∧ 1 ≤ j ∧ j ≤ 2001 ∧ j + g = 2002 ∧ Kp w wr)
    case atStart => exact ⟨1, rfl, by omega, by omega, rfl, hkw⟩
    case round =>
     obtain ⟨j, rfl, hj1, hj2, hjg, hkr⟩ := hrel
     by_cases hc : (j : Int) < 2001 ∧ j ≤ 2000
     ·obtain ⟨hc1, hc2⟩ := hc
      have hc2i : (j : Int) ≤ 2000 := by omega
      have HNS := Hid.mk (fun r : Nat => HA4.out j r hj1 (by omega))
      have e0 : (n : Int) * (j : Int) * (j : Int) = ((n * j * j : Nat) : Int) := by rw [Int.natCast_mul, Int.natCast_mul]
      have b0 : n * j * j ≤ 2000 * 2000 * 2000 := Nat.mul_le_mul (Nat.mul_le_mul (by omega) hc2) hc2
      have b1 : n * j ≤ 2000 * 2000 := Nat.mul_le_mul (by omega) hc2
      have h11 : (n : Int) * (j : Int) ≤ 4000000 := by rw [← Int.natCast_mul]; omega
      have h10 : 0 ≤ (n : Int) * (j : Int) := by rw [← Int.natCast_mul]; omega
      have h12 : (n : Int) * (j : Int) * (j : Int) ≤ 8000000000 := by rw [e0]; omega
      have h13 : 0 ≤ (n : Int) * (j : Int) * (j : Int) := by rw [e0]; omega
      have b2 : m * j ≤ 45 * 2000 := Nat.mul_le_mul mB hc2
      have h14 : (m : Int) * (j : Int) ≤ 90000 := by rw [← Int.natCast_mul]; omega
      have h15 : 0 ≤ (m : Int) * (j : Int) := by rw [← Int.natCast_mul]; omega
      have HE1 : Hid ((m : Int) * (j : Int) = ((m * j : Nat) : Int)) := by unfold Hid; rw [Int.natCast_mul]
      have HST : Hid (((m * j : Nat) : Int) * ((m * j : Nat) : Int) ≤ (n : Int) * (j : Int) * (j : Int) + 1) := by
       unfold Hid
       have g1 : (m : Int) * (m : Int) * ((j : Int) * (j : Int)) ≤ (n : Int) * ((j : Int) * (j : Int)) := Int.mul_le_mul_of_nonneg_right MM.out (Int.mul_nonneg (by omega) (by omega))
       rw [Int.natCast_mul]
       grind
      clear e0 b0 b1
      go_wp2_with fail
      generalize (n : Int) * (j : Int) * (j : Int) = NN at *
      go_loopg [20] 91000 (fun g x wq => ∃ r : Nat, x = .int .i64 r ∧ r ≤ 90000 ∧ 91000 - r ≤ g ∧ Hid ((r : Int) * (r : Int) ≤ NN + 1) ∧ Kp w wq)
      case atStart => exact ⟨m * j, by rw [HE1.out], by omega, by omega, HST, hkr⟩
      case round =>
       clear hkr HST
       obtain ⟨r, rfl, hr9, hrg, HRR, hkr⟩ := hrel
       have hr0 : 0 ≤ (r : Int) * (r : Int) := by rw [← Int.natCast_mul]; omega
       have hr1 : (r : Int) * (r : Int) ≤ 8000000001 := by have := HRR.out; omega
       have hrs : ((r : Int) + 1) * ((r : Int) + 1) = (r : Int) * (r : Int) + 2 * r + 1 := by grind
       have hq1 : ((r : Int) + 1) * ((r : Int) + 1) ≤ 8000200000 := by rw [hrs]; omega
       have hq0 : 0 ≤ ((r : Int) + 1) * ((r : Int) + 1) := by rw [hrs]; omega
       clear hrs
       by_cases hle : ((r : Int) + 1) * ((r : Int) + 1) ≤ NN + 1
       ·have HR2 : Hid (((r + 1 : Nat) : Int) * ((r + 1 : Nat) : Int) ≤ NN + 1) := hle
        have hr8 : r + 1 ≤ 90000 := by
         refine Nat.not_lt.1 fun hgt => ?_
         have : 90001 * 90001 ≤ (r + 1) * (r + 1) := Nat.mul_le_mul hgt hgt
         have e5 : ((r : Int) + 1) * ((r : Int) + 1) = (((r + 1) * (r + 1) : Nat) : Int) := by rw [Int.natCast_mul]; rfl
         rw [e5] at hle
         omega
        go_wp2_with fail
        go_roundg (91000 - (r + 1))
        case rel => exact ⟨r + 1, by go_num, hr8, Nat.le_refl _, HR2, hkr⟩
        case measure => omega
       ·have hne : ((r : Int) * (r : Int) == NN + 1) = false := by
         rw [beq_eq_false_iff_ne]
         exact HNS.out r
        go_wp2_with fail
        go_roundg (2002 - (j + 1))
        case rel => exact ⟨j + 1, by go_num, by omega, by omega, by omega, hkr⟩
        case measure => omega
     ·by_cases hc1 : (j : Int) < 2001
      ·have hc2 : ¬ (j : Int) ≤ 2000 := fun k => hc ⟨hc1, by omega⟩
       clear hc
       go_wp2_with fail
       go_ret
       exact ⟨rfl, hkr⟩
      ·clear hc
       go_wp2_with fail
       go_ret
       exact ⟨rfl, hkr⟩
   ·have hsm := HSMB.out hl
    clear HSM HBIG HSMB hl
    refine hC.mono ?_
    rintro e w12 ⟨rfl, hk12⟩
    replace hkw := hkw.trans' hk12
    clear hC hk12
    go_wp2_with fail
    go_loopg [18, 19, 20] 2001 (fun g k _ _ wr => ∃ j : Nat, k = .int .i64 j ∧ 1 ≤ j ∧ j ≤ 2001 ∧ j + g = 2002 ∧ Kp w wr)
    case atStart => exact ⟨1, rfl, by omega, by omega, rfl, hkw⟩
    case round =>
     obtain ⟨j, rfl, hj1, hj2, hjg, hkr⟩ := hrel
     by_cases hc : (j : Int) < LQ ∧ j ≤ 2000
     ·obtain ⟨hc1, hc2⟩ := hc
      have hc2i : (j : Int) ≤ 2000 := by omega
      have HNS := Hid.mk (fun r : Nat => HA4.out j r hj1 (by omega))
      have e0 : (n : Int) * (j : Int) * (j : Int) = ((n * j * j : Nat) : Int) := by rw [Int.natCast_mul, Int.natCast_mul]
      have b0 : n * j * j ≤ 2000 * 2000 * 2000 := Nat.mul_le_mul (Nat.mul_le_mul (by omega) hc2) hc2
      have b1 : n * j ≤ 2000 * 2000 := Nat.mul_le_mul (by omega) hc2
      have h11 : (n : Int) * (j : Int) ≤ 4000000 := by rw [← Int.natCast_mul]; omega
      have h10 : 0 ≤ (n : Int) * (j : Int) := by rw [← Int.natCast_mul]; omega
      have h12 : (n : Int) * (j : Int) * (j : Int) ≤ 8000000000 := by rw [e0]; omega
      have h13 : 0 ≤ (n : Int) * (j : Int) * (j : Int) := by rw [e0]; omega
      have b2 : m * j ≤ 45 * 2000 := Nat.mul_le_mul mB hc2
      have h14 : (m : Int) * (j : Int) ≤ 90000 := by rw [← Int.natCast_mul]; omega
      have h15 : 0 ≤ (m : Int) * (j : Int) := by rw [← Int.natCast_mul]; omega
      have HE1 : Hid ((m : Int) * (j : Int) = ((m * j : Nat) : Int)) := by unfold Hid; rw [Int.natCast_mul]
      have HST : Hid (((m * j : Nat) : Int) * ((m * j : Nat) : Int) ≤ (n : Int) * (j : Int) * (j : Int) + 1) := by
       unfold Hid
       have g1 : (m : Int) * (m : Int) * ((j : Int) * (j : Int)) ≤ (n : Int) * ((j : Int) * (j : Int)) := Int.mul_le_mul_of_nonneg_right MM.out (Int.mul_nonneg (by omega) (by omega))
       rw [Int.natCast_mul]
       grind
      clear e0 b0 b1
      go_wp2_with fail
      generalize (n : Int) * (j : Int) * (j : Int) = NN at *
      go_loopg [20] 91000 (fun g x wq => ∃ r : Nat, x = .int .i64 r ∧ r ≤ 90000 ∧ 91000 - r ≤ g ∧ Hid ((r : Int) * (r : Int) ≤ NN + 1) ∧ Kp w wq)
      case atStart => exact ⟨m * j, by rw [HE1.out], by omega, by omega, HST, hkr⟩
      case round =>
       clear hkr HST
       obtain ⟨r, rfl, hr9, hrg, HRR, hkr⟩ := hrel
       have hr0 : 0 ≤ (r : Int) * (r : Int) := by rw [← Int.natCast_mul]; omega
       have hr1 : (r : Int) * (r : Int) ≤ 8000000001 := by have := HRR.out; omega
       have hrs : ((r : Int) + 1) * ((r : Int) + 1) = (r : Int) * (r : Int) + 2 * r + 1 := by grind
       have hq1 : ((r : Int) + 1) * ((r : Int) + 1) ≤ 8000200000 := by rw [hrs]; omega
       have hq0 : 0 ≤ ((r : Int) + 1) * ((r : Int) + 1) := by rw [hrs]; omega
       clear hrs
       by_cases hle : ((r : Int) + 1) * ((r : Int) + 1) ≤ NN + 1
       ·have HR2 : Hid (((r + 1 : Nat) : Int) * ((r + 1 : Nat) : Int) ≤ NN + 1) := hle
        have hr8 : r + 1 ≤ 90000 := by
         refine Nat.not_lt.1 fun hgt => ?_
         have : 90001 * 90001 ≤ (r + 1) * (r + 1) := Nat.mul_le_mul hgt hgt
         have e5 : ((r : Int) + 1) * ((r : Int) + 1) = (((r + 1) * (r + 1) : Nat) : Int) := by rw [Int.natCast_mul]; rfl
         rw [e5] at hle
         omega
        go_wp2_with fail
        go_roundg (91000 - (r + 1))
        case rel => exact ⟨r + 1, by go_num, hr8, Nat.le_refl _, HR2, hkr⟩
        case measure => omega
       ·have hne : ((r : Int) * (r : Int) == NN + 1) = false := by
         rw [beq_eq_false_iff_ne]
         exact HNS.out r
        go_wp2_with fail
        go_roundg (2002 - (j + 1))
        case rel => exact ⟨j + 1, by go_num, by omega, by omega, by omega, hkr⟩
        case measure => omega
     ·by_cases hc1 : (j : Int) < LQ
      ·have hc2 : ¬ (j : Int) ≤ 2000 := fun k => hc ⟨hc1, by omega⟩
       clear hc
       go_wp2_with fail
       go_ret
       exact ⟨rfl, hkr⟩
      ·clear hc
       go_wp2_with fail
       go_ret
       exact ⟨rfl, hkr⟩

end Go.Proofs.YtjahbjjekednfabDoor
