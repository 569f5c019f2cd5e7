import Derived.Test.YtjahbjjekednfabDoorS2
import Derived.Deep.Cut
namespace Go.Proofs.YtjahbjjekednfabDoor
open Go.RowKit

theorem outL_num {A B C : Int} {s1 s2 : ByteArray} {er : Int} (hA : A.natAbs < 100000000) (hB : B.natAbs < 100000000) (hC : C.natAbs < 100000000)
  (h : OutL (strOf (Go.Lib.itoa A)) (strOf (Go.Lib.itoa B)) (strOf (Go.Lib.itoa C)) s1 s2 er) :
  (A = 0 ∧ B = 0 ∧ s1 = ⟨#[]⟩ ∧ s2 = ⟨#[]⟩ ∧ er = 5) ∨ (¬ (A = 0 ∧ B = 0) ∧ (∀ x y, A * x + B * y ≠ C) ∧ s1 = ⟨#[]⟩ ∧ s2 = ⟨#[]⟩ ∧ er = 8) ∨
   (¬ (A = 0 ∧ B = 0) ∧ ∃ x y, Sol A B C x y ∧ s1 = strOf (Go.Lib.itoa x) ∧ s2 = strOf (Go.Lib.itoa y) ∧ er = 0) := by
 have lA := itoa_len hA
 have lB := itoa_len hB
 have lC := itoa_len hC
 rcases h with ⟨h1, _⟩ | ⟨_, _, _, a, b, c, ha, hb, hc, h4⟩
 ·exfalso
  rcases h1 with e | e | e | e | e | e
  ·omega
  ·omega
  ·omega
  ·exact e A rfl
  ·exact e B rfl
  ·exact e C rfl
 ·obtain rfl := numT_uni (z := A) rfl ha
  obtain rfl := numT_uni (z := B) rfl hb
  obtain rfl := numT_uni (z := C) rfl hc
  exact h4
theorem mul_bd {a b m n : Int} (ha : a.natAbs ≤ m.natAbs) (hb : b.natAbs ≤ n.natAbs) : (a * b).natAbs ≤ m.natAbs * n.natAbs := by
 rw [Int.natAbs_mul]
 exact Nat.mul_le_mul ha hb
/-- How great the solution is. -/
theorem sol_bd {A B C x y : Int} (hA : A.natAbs ≤ 10000000) (hB : B.natAbs ≤ 10000000) (hC : C.natAbs ≤ 10000000) (h0 : ¬ (A = 0 ∧ B = 0)) (h : Sol A B C x y) : x.natAbs ≤ 10000000 ∧ y.natAbs ≤ 20000000 := by
 have e := h.eq
 by_cases hb : B = 0
 ·have hy := h.z hb
  subst hy hb
  have ha : A ≠ 0 := fun k => h0 ⟨k, rfl⟩
  refine ⟨?_, by simp⟩
  have e2 : A * x = C := by omega
  have h2 : C.natAbs = A.natAbs * x.natAbs := by rw [← e2, Int.natAbs_mul]
  have h3 : 1 * x.natAbs ≤ A.natAbs * x.natAbs := Nat.mul_le_mul_right _ (by omega)
  omega
 ·obtain ⟨x0, x1⟩ := h.r hb
  have hg : Int.gcd A B ≠ 0 := fun k => hb (Int.gcd_eq_zero_iff.1 k).2
  have hxb : x < B.natAbs := by
   have : x * 1 ≤ x * (Int.gcd A B : Int) := Int.mul_le_mul_of_nonneg_left (by omega) x0
   omega
  refine ⟨by omega, ?_⟩
  have e2 : B * y = C - A * x := by omega
  have h2 : B.natAbs * y.natAbs = (C - A * x).natAbs := by rw [← e2, Int.natAbs_mul]
  have h3 : (C - A * x).natAbs ≤ C.natAbs + (A * x).natAbs := by omega
  have h4 : (A * x).natAbs ≤ 10000000 * B.natAbs := by
   rw [Int.natAbs_mul]
   exact Nat.mul_le_mul hA (by omega)
  refine Nat.not_lt.1 fun hc => ?_
  have h5 : B.natAbs * 20000001 ≤ B.natAbs * y.natAbs := Nat.mul_le_mul_left _ hc
  omega
theorem sol_step {A B C x y : Int} (hb : B ≠ 0) (h : Sol A B C x y) : 0 ≤ x ∧ (0 < B → 0 < B.tdiv (Int.gcd A B : Int) ∧ x < B.tdiv (Int.gcd A B : Int)) ∧ (B < 0 → B.tdiv (Int.gcd A B : Int) < 0 ∧ x < -(B.tdiv (Int.gcd A B : Int))) := by
 obtain ⟨x0, x1⟩ := h.r hb
 have hg : Int.gcd A B ≠ 0 := fun k => hb (Int.gcd_eq_zero_iff.1 k).2
 have e := Int.mul_tdiv_cancel' (Int.gcd_dvd_right A B)
 generalize B.tdiv (Int.gcd A B : Int) = N at *
 have hg0 : (0 : Int) < (Int.gcd A B : Int) := by omega
 generalize (Int.gcd A B : Int) = g at *
 clear h
 refine ⟨x0, fun hp => ?_, fun hn => ?_⟩
 ·have n0 : 0 < N := by
   refine Int.not_le.1 fun k => ?_
   have := Int.mul_nonpos_of_nonneg_of_nonpos (show 0 ≤ g by omega) k
   omega
  refine ⟨n0, Int.lt_of_mul_lt_mul_right (a := g) ?_ (by omega)⟩
  rw [Int.mul_comm N, e]
  omega
 ·have n0 : N < 0 := by
   refine Int.not_le.1 fun k => ?_
   have := Int.mul_nonneg (show 0 ≤ g by omega) k
   omega
  refine ⟨n0, Int.lt_of_mul_lt_mul_right (a := g) ?_ (by omega)⟩
  have e2 : -N * g = -(g * N) := by grind
  rw [e2, e]
  omega

set_option maxHeartbeats 6400000 in
set_option maxRecDepth 100000 in
/-- surdkeep.Met. -/
theorem met_any (a b c : Int) (w : World) (ha0 : -9223372036854775808 ≤ a) (ha1 : a ≤ 9223372036854775807) (hb0 : -9223372036854775808 ≤ b) (hb1 : b ≤ 9223372036854775807) (hc0 : -9223372036854775808 ≤ c) (hc1 : c ≤ 9223372036854775807) (ht : Tens w) :
  Calls Tryd.prog 8 #[.int .i64 a, .int .i64 b, .int .i64 c] w (RetV w (.bool true)) := by
 have HPa := fun W => pick_any a 20000001 W ha0 ha1 (by decide) (by decide)
 have HPb := fun W => pick_any b 20000001 W hb0 hb1 (by decide) (by decide)
 have HPc := fun W => pick_any c 20000001 W hc0 hc1 (by decide) (by decide)
 have pa := pk_bd a (show (0 : Int) < 20000001 by decide)
 have pb := pk_bd b (show (0 : Int) < 20000001 by decide)
 have pc := pk_bd c (show (0 : Int) < 20000001 by decide)
 generalize pk a 20000001 = PA at *
 generalize pk b 20000001 = PB at *
 generalize pk c 20000001 = PC at *
 clear ha0 ha1 hb0 hb1 hc0 hc1
 go_enter Tryd.func8, Tryd.ntmps8
 go_wp2_with fail
 refine (HPa _).mono ?_
 rintro e w1 ⟨rfl, hk1⟩
 go_wp2_with fail
 refine (HPb _).mono ?_
 rintro e w2 ⟨rfl, hk2⟩
 go_wp2_with fail
 refine (HPc _).mono ?_
 rintro e w3 ⟨rfl, hk3⟩
 have hkw := (hk1.trans' hk2).trans' hk3
 clear HPa HPb HPc hk1 hk2 hk3
 have hA : (PA - 10000000).natAbs ≤ 10000000 := by omega
 have hB : (PB - 10000000).natAbs ≤ 10000000 := by omega
 have hC : (PC - 10000000).natAbs ≤ 10000000 := by omega
 go_wp2_with fail
 clear pa pb pc
 generalize PA - 10000000 = A at *
 generalize PB - 10000000 = B at *
 generalize PC - 10000000 = C at *
 have HIa := fun W (hT : Tens W) => itoa_at A (by omega) (by omega) W hT
 have HIb := fun W (hT : Tens W) => itoa_at B (by omega) (by omega) W hT
 have HIc := fun W (hT : Tens W) => itoa_at C (by omega) (by omega) W hT
 have HL := fun W (hT : Tens W) => sline_any (strOf (Go.Lib.itoa A)) (strOf (Go.Lib.itoa B)) (strOf (Go.Lib.itoa C)) W hT
 have HOUT := Hid.mk (fun (s1 s2 : ByteArray) (er : Int) h => outL_num (A := A) (B := B) (C := C) (s1 := s1) (s2 := s2) (er := er) (by omega) (by omega) (by omega) h)
 generalize strOf (Go.Lib.itoa A) = SA at *
 generalize strOf (Go.Lib.itoa B) = SB at *
 generalize strOf (Go.Lib.itoa C) = SC at *
 refine (HIa _ (ht.keep hkw)).mono ?_
 rintro e w4 ⟨rfl, hk4⟩
 replace hkw := hkw.trans' hk4
 go_wp2_with fail
 refine (HIb _ (ht.keep hkw)).mono ?_
 rintro e w5 ⟨rfl, hk5⟩
 replace hkw := hkw.trans' hk5
 go_wp2_with fail
 refine (HIc _ (ht.keep hkw)).mono ?_
 rintro e w6 ⟨rfl, hk6⟩
 replace hkw := hkw.trans' hk6
 go_wp2_with fail
 refine (HL _ (ht.keep hkw)).mono ?_
 rintro e w7 ⟨s1, s2, er, rfl, HO, hk7⟩
 replace hkw := hkw.trans' hk7
 clear HIa HIb HIc HL hk4 hk5 hk6 hk7
 rcases HOUT.out s1 s2 er HO.out with ⟨rfl, rfl, rfl, rfl, rfl⟩ | ⟨hz, hno, rfl, rfl, rfl⟩ | ⟨hz, x, y, hS, rfl, rfl, rfl⟩
 ·clear HOUT HO
  go_wp2_with fail
  go_ret
  exact ⟨rfl, hkw⟩
 ·have hg : Int.gcd A B ≠ 0 := fun k => hz (Int.gcd_eq_zero_iff.1 k)
  have hm : C.tmod (Int.gcd A B : Int) ≠ 0 := fun k => by
   obtain ⟨x, y, e⟩ := line_ex (Int.dvd_of_tmod_eq_zero k)
   exact hno x y e
  have HSH := fun W => shared_any A B W (by omega) (by omega)
  have hg0 : (0 : Int) < (Int.gcd A B : Int) := by omega
  clear hg hno HOUT HO
  generalize (Int.gcd A B : Int) = g at *
  have hgz : (g == 0) = false := by simp; omega
  have hmb : (C.tmod g != 0) = true := by simpa using hm
  clear hm
  go_upto_region 5 with fail
  go_cut [41] from 36 (fun cc wx => cc = .bool false ∧ wx = w7)
  case first =>
   by_cases hA0 : A = 0
   ·subst hA0
    have hB0 : (B == 0) = false := by
     rw [beq_eq_false_iff_ne]
     exact fun k => hz ⟨rfl, k⟩
    clear hz
    go_wp2_with fail
    go_meet
    case rel => exact ⟨rfl, rfl⟩
   ·have hA1 : (A == 0) = false := by rw [beq_eq_false_iff_ne]; exact hA0
    clear hz hA0
    go_wp2_with fail
    go_meet
    case rel => exact ⟨rfl, rfl⟩
  case rest =>
   obtain ⟨rfl, rfl⟩ := hcut
   clear hz
   go_wp2_with fail
   refine (HSH _).mono ?_
   rintro e w8 ⟨rfl, hk8⟩
   go_wp2_with fail
   go_ret
   exact ⟨rfl, hkw.trans' hk8⟩
 ·have hg : Int.gcd A B ≠ 0 := fun k => hz (Int.gcd_eq_zero_iff.1 k)
  have hm : C.tmod (Int.gcd A B : Int) = 0 := by
   refine Int.tmod_eq_zero_of_dvd ?_
   rw [← hS.eq]
   exact Int.dvd_add (Int.dvd_trans (Int.gcd_dvd_left A B) (Int.dvd_mul_right _ _)) (Int.dvd_trans (Int.gcd_dvd_right A B) (Int.dvd_mul_right _ _))
  have HSH := fun W => shared_any A B W (by omega) (by omega)
  have hg0 : (0 : Int) < (Int.gcd A B : Int) := by omega
  obtain ⟨bx, bY⟩ := sol_bd hA hB hC hz hS
  have HS1 := fun W => small_num (strOf (Go.Lib.itoa x)) x W rfl (itoa_len (by omega))
  have HS2 := fun W => small_num (strOf (Go.Lib.itoa y)) y W rfl (itoa_len (by omega))
  have HST := Hid.mk (fun hb => sol_step (A := A) (C := C) (x := x) (y := y) (B := B) hb hS)
  have HZ := Hid.mk hS.z
  have hgB : (Int.gcd A B : Int) ≤ 10000000 := by
   have h1 := Int.gcd_dvd_left A B
   have h2 := Int.gcd_dvd_right A B
   by_cases k : A = 0
   ·have : B ≠ 0 := fun e => hz ⟨k, e⟩
    have h3 := Int.natAbs_dvd_natAbs.2 h2
    have h4 := Nat.le_of_dvd (by omega) h3
    omega
   ·have h3 := Int.natAbs_dvd_natAbs.2 h1
    have h4 := Nat.le_of_dvd (by omega) h3
    omega
  have hEq : ((A * x + B * y) != C) = false := by rw [hS.eq]; simp
  have hP1 : (A * x).natAbs ≤ 100000000000000 := by
   have := mul_bd (m := 10000000) (n := 10000000) hA bx
   exact this
  have hP2 : (B * y).natAbs ≤ 200000000000000 := by
   have := mul_bd (m := 10000000) (n := 20000000) hB bY
   exact this
  clear hg hS HOUT HO
  generalize (Int.gcd A B : Int) = g at *
  generalize strOf (Go.Lib.itoa x) = S1 at *
  generalize strOf (Go.Lib.itoa y) = S2 at *
  have hgz : (g == 0) = false := by simp; omega
  have hmb : (C.tmod g != 0) = false := by rw [hm]; rfl
  clear hm
  generalize hP : A * x = P1 at *
  generalize hQ : B * y = P2 at *
  replace hP := Hid.mk hP
  replace hQ := Hid.mk hQ
  go_upto_region 5 with fail
  go_cut [41] from 36 (fun cc wx => cc = .bool false ∧ wx = w7)
  case first =>
   by_cases hA0 : A = 0
   ·have hA1 : (A == 0) = true := by rw [hA0]; rfl
    have hB0 : (B == 0) = false := by
     rw [beq_eq_false_iff_ne]
     exact fun k => hz ⟨hA0, k⟩
    clear hz hA0
    go_wp2_with fail
    go_meet
    case rel => exact ⟨rfl, rfl⟩
   ·have hA1 : (A == 0) = false := by rw [beq_eq_false_iff_ne]; exact hA0
    clear hz hA0
    go_wp2_with fail
    go_meet
    case rel => exact ⟨rfl, rfl⟩
  case rest =>
   obtain ⟨rfl, rfl⟩ := hcut
   clear hz
   go_wp2_with fail
   refine (HSH _).mono ?_
   rintro e w8 ⟨rfl, hk8⟩
   go_wp2_with fail
   refine (HS1 _).mono ?_
   rintro e w9 ⟨rfl, hk9⟩
   go_wp2_with fail
   refine (HS2 _).mono ?_
   rintro e w10 ⟨rfl, hk10⟩
   have hkE := ((hkw.trans' hk8).trans' hk9).trans' hk10
   have hXp : A * x = P1 := hP.out
   have hXq : B * y = P2 := hQ.out
   by_cases hB0 : B = 0
   ·have hy := HZ.out hB0
    have hyb : (y == 0) = true := by rw [hy]; rfl
    have hBb : (B == 0) = true := by rw [hB0]; rfl
    clear hB0 hy HZ HST
    go_wp2_with fail
    go_ret
    exact ⟨by first | rfl | simp [hyb], hkE⟩
   ·obtain ⟨k0, k1, k2⟩ := HST.out hB0
    have hBb : (B == 0) = false := by rw [beq_eq_false_iff_ne]; exact hB0
    have hN : (B.tdiv g).natAbs ≤ 10000000 := Nat.le_trans (tdiv_le B g) hB
    by_cases hs : 0 < B
    ·obtain ⟨k3, k4⟩ := k1 hs
     clear k1 k2 HZ HST hB0 hs
     go_wp2_with fail
     go_ret
     exact ⟨rfl, hkE⟩
    ·obtain ⟨k3, k4⟩ := k2 (by omega)
     clear k1 k2 HZ HST hB0 hs
     go_wp2_with fail
     go_ret
     exact ⟨rfl, hkE⟩

end Go.Proofs.YtjahbjjekednfabDoor
