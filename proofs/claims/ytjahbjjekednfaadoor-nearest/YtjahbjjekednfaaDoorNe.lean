import Derived.Test.YtjahbjjekednfaaDoorGp1
import Derived.Test.YtjahbjjekednfaaDoorBz
import Derived.Test.YtjahbjjekednfaaDoorAl
import Derived.Test.YtjahbjjekednfaaDoorSt
import Derived.Deep.DeepCutAuto
namespace Go.Proofs.YtjahbjjekednfaaDoor
open Go.RowKit

set_option maxHeartbeats 3200000 in
set_option maxRecDepth 100000 in
theorem ne_err (s : ByteArray) (n q up m E C : Int) (s1 s2 : ByteArray) (w : World) (e1 : s1 = ⟨#[]⟩) (e2 : s2 = ⟨#[]⟩) (m0 : 0 ≤ m) (m1 : m < 1000) (hE : (E != 0) = true)
 (HA : ∀ (w : World), Tens w → Calls Tryd.prog 12 #[] w (RetV w (.bool true))) (ht : Tens w)
 (HCk : Hid (∀ W, Calls Tryd.prog 18 #[.string s] W (RetV W (.tuple #[.int .i64 E, .int .i64 C])))) (HPk : Hid (∀ W, Calls Tryd.prog 19 #[.int .i64 n, .int .i64 1000] W (RetV W (.int .i64 m))))
 (HBe : Hid (∀ W, Tens W → Calls Tryd.prog 24 #[.string s, .int .i64 (1 + m)] W (RetV W (.tuple #[.string s1, .string s2, .int .i64 E])))) :
 Calls Tryd.prog 8 #[.string s, .int .i64 n, .int .i64 q, .int .i64 up] w (RetV w (.bool true)) := by
 subst e1 e2
 have hEE : (E != E) = false := by simp
 go_enter Tryd.func8, Tryd.ntmps8
 go_wp2_with fail
 refine (HA w ht).mono ?_
 rintro e w1 ⟨rfl, hk1⟩
 go_wp2_with fail
 refine (HCk.out _).mono ?_
 rintro e w2 ⟨rfl, hk2⟩
 go_wp2_with fail
 refine (HPk.out _).mono ?_
 rintro e w3 ⟨rfl, hk3⟩
 go_wp2_with fail
 refine (HBe.out _ (ht.keep ((hk1.trans' hk2).trans' hk3))).mono ?_
 rintro e w4 ⟨rfl, hk4⟩
 have hk := ((hk1.trans' hk2).trans' hk3).trans' hk4
 clear hk1 hk2 hk3 hk4
 go_wp2_with fail
 go_ret
 exact ⟨rfl, hk⟩

set_option maxHeartbeats 3200000 in
set_option maxRecDepth 100000 in
theorem ne_long (s : ByteArray) (n q up m E C : Int) (s1 s2 : ByteArray) (A B : Int) (b1 : Bool) (w : World) (m0 : 0 ≤ m) (m1 : m < 1000) (hE : E = 0) (B0 : 1 ≤ B) (B1 : B ≤ 1 + m) (hb : b1 = false ∨ (b1 = true ∧ 60 < s.size))
 (HA : ∀ (w : World), Tens w → Calls Tryd.prog 12 #[] w (RetV w (.bool true))) (ht : Tens w)
 (HCk : Hid (∀ W, Calls Tryd.prog 18 #[.string s] W (RetV W (.tuple #[.int .i64 E, .int .i64 C])))) (HPk : Hid (∀ W, Calls Tryd.prog 19 #[.int .i64 n, .int .i64 1000] W (RetV W (.int .i64 m))))
 (HBe : Hid (∀ W, Tens W → Calls Tryd.prog 24 #[.string s, .int .i64 (1 + m)] W (RetV W (.tuple #[.string s1, .string s2, .int .i64 E]))))
 (HS1 : Hid (∀ W, Calls Tryd.prog 23 #[.string s1] W (RetV W (.tuple #[.int .i64 A, .bool b1])))) (HS2 : Hid (∀ W, Calls Tryd.prog 23 #[.string s2] W (RetV W (.tuple #[.int .i64 B, .bool true])))) :
 Calls Tryd.prog 8 #[.string s, .int .i64 n, .int .i64 q, .int .i64 up] w (RetV w (.bool true)) := by
 subst hE
 rcases hb with rfl | ⟨rfl, hl⟩
 ·go_enter Tryd.func8, Tryd.ntmps8
  go_wp2_with fail
  refine (HA w ht).mono ?_
  rintro e w1 ⟨rfl, hk1⟩
  go_wp2_with fail
  refine (HCk.out _).mono ?_
  rintro e w2 ⟨rfl, hk2⟩
  go_wp2_with fail
  refine (HPk.out _).mono ?_
  rintro e w3 ⟨rfl, hk3⟩
  go_wp2_with fail
  refine (HBe.out _ (ht.keep ((hk1.trans' hk2).trans' hk3))).mono ?_
  rintro e w4 ⟨rfl, hk4⟩
  have hk := ((hk1.trans' hk2).trans' hk3).trans' hk4
  clear hk1 hk2 hk3 hk4
  go_wp2_with fail
  refine (HS2.out _).mono ?_
  rintro e w5 ⟨rfl, hk5⟩
  replace hk := hk.trans' hk5
  clear hk5
  go_wp2_with fail
  refine (HS1.out _).mono ?_
  rintro e w6 ⟨rfl, hk6⟩
  replace hk := hk.trans' hk6
  clear hk6
  go_wp2_with fail
  go_ret
  exact ⟨rfl, hk⟩
 ·have hli : (60 : Int) < (s.size : Int) := by omega
  go_enter Tryd.func8, Tryd.ntmps8
  go_wp2_with fail
  refine (HA w ht).mono ?_
  rintro e w1 ⟨rfl, hk1⟩
  go_wp2_with fail
  refine (HCk.out _).mono ?_
  rintro e w2 ⟨rfl, hk2⟩
  go_wp2_with fail
  refine (HPk.out _).mono ?_
  rintro e w3 ⟨rfl, hk3⟩
  go_wp2_with fail
  refine (HBe.out _ (ht.keep ((hk1.trans' hk2).trans' hk3))).mono ?_
  rintro e w4 ⟨rfl, hk4⟩
  have hk := ((hk1.trans' hk2).trans' hk3).trans' hk4
  clear hk1 hk2 hk3 hk4
  go_wp2_with fail
  refine (HS2.out _).mono ?_
  rintro e w5 ⟨rfl, hk5⟩
  replace hk := hk.trans' hk5
  clear hk5
  go_wp2_with fail
  refine (HS1.out _).mono ?_
  rintro e w6 ⟨rfl, hk6⟩
  replace hk := hk.trans' hk6
  clear hk6
  go_wp2_with fail
  go_ret
  exact ⟨rfl, hk⟩

set_option maxHeartbeats 6400000 in
set_option maxRecDepth 100000 in
theorem ne_main (s : ByteArray) (n q up m E C : Int) (s1 s2 s3 d1 d2 : ByteArray) (A B k0 u0 o g : Int) (b1 bt : Bool) (w : World) (m0 : 0 ≤ m) (m1 : m < 1000) (hE : E = 0) (B0 : 1 ≤ B) (B1 : B ≤ 1 + m) (hb : b1 = true) (hl : s.size ≤ 60) (hA : A.natAbs < 1000000000) (k00 : 0 ≤ k0) (k01 : k0 < 1 + m) (u00 : 0 ≤ u0) (u01 : u0 < 5)
 (HX : Hid (g = 2 ∨ (g = 0 ∧ o = -1) ∨ (g = 0 ∧ o = 0 ∧ B < 1 + k0) ∨ (g = 0 ∧ o = 0 ∧ B = 1 + k0 ∧ A ≤ (A * (1 + k0)).tdiv B + u0 - 2)))
 (HA : ∀ (w : World), Tens w → Calls Tryd.prog 12 #[] w (RetV w (.bool true))) (ht : Tens w)
 (HCk : Hid (∀ W, Calls Tryd.prog 18 #[.string s] W (RetV W (.tuple #[.int .i64 E, .int .i64 C])))) (HPk : Hid (∀ W, Calls Tryd.prog 19 #[.int .i64 n, .int .i64 1000] W (RetV W (.int .i64 m))))
 (HBe : Hid (∀ W, Tens W → Calls Tryd.prog 24 #[.string s, .int .i64 (1 + m)] W (RetV W (.tuple #[.string s1, .string s2, .int .i64 E]))))
 (HS1 : Hid (∀ W, Calls Tryd.prog 23 #[.string s1] W (RetV W (.tuple #[.int .i64 A, .bool b1])))) (HS2 : Hid (∀ W, Calls Tryd.prog 23 #[.string s2] W (RetV W (.tuple #[.int .i64 B, .bool true]))))
 (HCo : Hid (∀ W, Calls Tryd.prog 25 #[.int .i64 A, .int .i64 B] W (RetV W (.bool false)))) (HPq : Hid (∀ W, Calls Tryd.prog 19 #[.int .i64 q, .int .i64 (1 + m)] W (RetV W (.int .i64 k0)))) (HPu : Hid (∀ W, Calls Tryd.prog 19 #[.int .i64 up, .int .i64 5] W (RetV W (.int .i64 u0))))
 (HG1 : Hid (∀ W, Tens W → Calls Tryd.prog 26 #[.string s, .string s1, .int .i64 B] W (RetV W (.tuple #[.string d1, .bool true])))) (HIt : Hid (∀ W, Tens W → Calls Tryd.prog 27 #[.int .i64 ((A * (1 + k0)).tdiv B + u0 - 2)] W (RetV W (.string s3))))
 (HG2 : Hid (∀ W, Tens W → Calls Tryd.prog 26 #[.string s, .string s3, .int .i64 (1 + k0)] W (RetV W (.tuple #[.string d2, .bool true]))))
 (HC : Hid (∀ W, Calls Tryd.prog 17 #[.string d1, .string d2] W (RetV W (.tuple #[.int .i64 o, .int .i64 g])))) (HCt : Hid (∀ W, Calls Tryd.prog 25 #[.int .i64 ((A * (1 + k0)).tdiv B + u0 - 2), .int .i64 (1 + k0)] W (RetV W (.bool bt)))) :
 Calls Tryd.prog 8 #[.string s, .int .i64 n, .int .i64 q, .int .i64 up] w (RetV w (.bool true)) := by
 subst hE hb
 have hli : ¬ (60 : Int) < (s.size : Int) := by omega
 have a1 : (A * (1 + k0)).natAbs ≤ 1000000000 * 1000 := by rw [Int.natAbs_mul]; exact Nat.mul_le_mul (by omega) (by omega)
 have a2 : ((A * (1 + k0)).tdiv B).natAbs ≤ (A * (1 + k0)).natAbs := by rw [Int.natAbs_tdiv]; exact Nat.div_le_self _ _
 have hB0 : (B == 0) = false := by simp; omega
 have hBn : B ≠ 0 := by omega
 go_enter Tryd.func8, Tryd.ntmps8
 go_wp2_with fail
 refine (HA w ht).mono ?_
 rintro e w1 ⟨rfl, hk1⟩
 go_wp2_with fail
 refine (HCk.out _).mono ?_
 rintro e w2 ⟨rfl, hk2⟩
 go_wp2_with fail
 refine (HPk.out _).mono ?_
 rintro e w3 ⟨rfl, hk3⟩
 go_wp2_with fail
 refine (HBe.out _ (ht.keep ((hk1.trans' hk2).trans' hk3))).mono ?_
 rintro e w4 ⟨rfl, hk4⟩
 have hk := ((hk1.trans' hk2).trans' hk3).trans' hk4
 clear hk1 hk2 hk3 hk4
 go_wp2_with fail
 refine (HS2.out _).mono ?_
 rintro e w5 ⟨rfl, hk5⟩
 replace hk := hk.trans' hk5
 clear hk5
 go_wp2_with fail
 refine (HS1.out _).mono ?_
 rintro e w6 ⟨rfl, hk6⟩
 replace hk := hk.trans' hk6
 clear hk6
 go_wp2_with fail
 refine (HCo.out _).mono ?_
 rintro e w7 ⟨rfl, hk7⟩
 go_wp2_with fail
 refine (HPq.out _).mono ?_
 rintro e w8 ⟨rfl, hk8⟩
 replace hk := (hk.trans' hk7).trans' hk8
 clear hk7 hk8
 go_wp2_with fail
 refine wp_region_l (S := fun w' => Kp w8 w') (by kernel_rfl) (Kp.drew' (Below.refl _ _)) (fun hS0 => ?_)
 generalize w8.drew = wd at *
 refine wpAnyL_tk (i := 0) (k := 2) (v := .int .i64 A) rfl ?_ hS0 ?_
 ·intro w' hw'; go_simp
 simp only [sq]
 refine wpAnyL_tk (i := 1) (k := 2) (v := .int .i64 (1 + k0)) rfl ?_ hS0 ?_
 ·intro w' hw'; go_simp
 simp only [sq]
 refine wpAnyL_tk (i := 2) (k := 4) (v := .int .i64 (A * (1 + k0))) rfl ?_ hS0 ?_
 ·intro w' hw'
  go_simp
  rw [IntKind.wrap_i64] <;> omega
 simp only [sq]
 refine wpAnyL_tk (i := 3) (k := 4) (v := .int .i64 B) rfl ?_ hS0 ?_
 ·intro w' hw'; go_simp
 simp only [sq]
 refine wpAnyL_tk (i := 4) (k := 7) (v := .int .i64 ((A * (1 + k0)).tdiv B)) rfl ?_ hS0 ?_
 ·intro w' hw'
  go_simp
  try (rw [IntKind.wrap_i64] <;> omega)
 simp only [sq]
 refine wpAnyL_tk (i := 5) (k := 6) (v := .int .i64 up) rfl ?_ hS0 ?_
 ·intro w' hw'; go_simp
 simp only [sq]
 refine wpAnyL_on (i := 6) rfl (fun K hK => ?_)
 go_simp
 refine (HPu.out _).mono ?_
 rintro e w9 ⟨rfl, hk9⟩
 go_wp2_with fail
 refine hK.out _ _ (hS0.trans' hk9) (fun hS1 => ?_)
 clear hK K
 refine wpAnyL_tk (i := 7) (k := 8) (v := .int .i64 ((A * (1 + k0)).tdiv B + u0)) rfl ?_ hS1 ?_
 ·intro w' hw'
  go_simp
  try (rw [IntKind.wrap_i64] <;> omega)
 simp only [sq]
 refine wpAnyL_tk (i := 8) (k := 9) (v := .int .i64 ((A * (1 + k0)).tdiv B + u0 - 2)) rfl ?_ hS1 ?_
 ·intro w' hw'
  go_simp
  try (rw [IntKind.wrap_i64] <;> omega)
 simp only [sq]
 refine wpAnyL_last (i := 9) rfl (by kernel_rfl) (by kernel_rfl) (by kernel_rfl) (fun K hK => ?_)
 go_simp
 refine hK.out _ _ ?_
 clear hK K
 replace hk := hk.trans' hS1
 clear hS0 hS1 hk9
 have hT0 : -2000000000000 ≤ (A * (1 + k0)).tdiv B + u0 - 2 := by omega
 have hT1 : (A * (1 + k0)).tdiv B + u0 - 2 ≤ 2000000000000 := by omega
 generalize (A * (1 + k0)).tdiv B + u0 - 2 = T at *
 clear a1 a2
 go_wp2_with fail
 refine (HG1.out _ (ht.keep hk)).mono ?_
 rintro e w10 ⟨rfl, hk10⟩
 replace hk := hk.trans' hk10
 clear hk10
 go_wp2_with fail
 refine (HIt.out _ (ht.keep hk)).mono ?_
 rintro e w11 ⟨rfl, hk11⟩
 replace hk := hk.trans' hk11
 clear hk11
 go_wp2_with fail
 refine (HG2.out _ (ht.keep hk)).mono ?_
 rintro e w12 ⟨rfl, hk12⟩
 replace hk := hk.trans' hk12
 clear hk12
 go_wp2_with fail
 refine (HC.out _).mono ?_
 rintro e w13 ⟨rfl, hk13⟩
 replace hk := hk.trans' hk13
 clear hk13
 rcases HX.out with rfl | ⟨rfl, rfl⟩ | ⟨rfl, rfl, hK⟩ | ⟨rfl, rfl, hK, hT⟩
 ·clear HX
  go_wp2_with fail
  go_ret
  exact ⟨rfl, hk⟩
 ·clear HX
  go_wp2_with fail
  refine (HCt.out _).mono ?_
  rintro e w14 ⟨rfl, hk14⟩
  go_wp2_with fail
  go_ret
  exact ⟨rfl, hk.trans' hk14⟩
 ·clear HX
  cases bt
  ·go_wp2_with fail
   refine (HCt.out _).mono ?_
   rintro e w14 ⟨rfl, hk14⟩
   go_wp2_with fail
   go_ret
   exact ⟨rfl, hk.trans' hk14⟩
  ·go_wp2_with fail
   refine (HCt.out _).mono ?_
   rintro e w14 ⟨rfl, hk14⟩
   go_wp2_with fail
   go_ret
   exact ⟨rfl, hk.trans' hk14⟩
 ·clear HX
  subst hK
  cases bt
  ·go_wp2_with fail
   refine (HCt.out _).mono ?_
   rintro e w14 ⟨rfl, hk14⟩
   go_wp2_with fail
   go_ret
   exact ⟨rfl, hk.trans' hk14⟩
  ·go_wp2_with fail
   refine (HCt.out _).mono ?_
   rintro e w14 ⟨rfl, hk14⟩
   go_wp2_with fail
   go_ret
   exact ⟨rfl, hk.trans' hk14⟩

end Go.Proofs.YtjahbjjekednfaaDoor

namespace Go.Proofs.YtjahbjjekednfaaDoor
open Go.RowKit

theorem itoa_long {z : Int} {k : Nat} (h : z.natAbs < 10 ^ (k + 1)) : (strOf (Go.Lib.itoa z)).size ≤ k + 2 := by
 rw [strOf_size]
 obtain ⟨j, hj, _⟩ := pad_dec k z.natAbs h
 unfold Go.Lib.itoa
 split
 ·simp only [List.length_cons]
  omega
 ·have e : z.toNat = z.natAbs := by omega
  simp only [e]
  omega
/-- surdkeep.Nearest. -/
theorem nearest_any (s : ByteArray) (n q up : Int) (w : World) (n0 : -9223372036854775808 ≤ n) (n1 : n ≤ 9223372036854775807) (q0 : -9223372036854775808 ≤ q) (q1 : q ≤ 9223372036854775807) (u0 : -9223372036854775808 ≤ up) (u1 : up ≤ 9223372036854775807) (ht : Tens w) :
 Calls Tryd.prog 8 #[.string s, .int .i64 n, .int .i64 q, .int .i64 up] w (RetV w (.bool true)) := by
 obtain ⟨r, hr⟩ := rk_all s
 have pb := pk_bd n (show (0 : Int) < 1000 by decide)
 have HPk : Hid (∀ W, Calls Tryd.prog 19 #[.int .i64 n, .int .i64 1000] W (RetV W (.int .i64 (pk n 1000)))) := fun W => pick_any n 1000 W n0 n1 (by decide) (by decide)
 have HCk : Hid (∀ W, Calls Tryd.prog 18 #[.string s] W (RetV W (.tuple #[.int .i64 r.e, .int .i64 r.k]))) := fun W => check_any s r W hr
 generalize pk n 1000 = m at *
 by_cases he : r.e = 0
 ·have hcn := rk_cn hr he
  obtain ⟨J, hJ⟩ := bat_ex hcn (1 + m)
  have hbst := bst_ok hcn (by omega) hJ
  have HBe : Hid (∀ W, Tens W → Calls Tryd.prog 24 #[.string s, .int .i64 (1 + m)] W (RetV W (.tuple #[.string (strOf (Go.Lib.itoa (bst r.v (1 + m) J).1)), .string (strOf (Go.Lib.itoa (bst r.v (1 + m) J).2)), .int .i64 0]))) := fun W hT => sbest_any s (1 + m) r _ _ _ W hr (by omega) (by omega) (Or.inr (Or.inr ⟨he, by omega, by omega, J, hJ, rfl, rfl, rfl⟩)) hT
  rw [he] at HCk
  generalize (bst r.v (1 + m) J).1 = P at *
  generalize (bst r.v (1 + m) J).2 = B at *
  obtain ⟨hB1, hB2, hcf, hN⟩ := hbst
  have sB : (strOf (Go.Lib.itoa B)).size ≤ 9 := itoa_len (by omega)
  have HS2 : Hid (∀ W, Calls Tryd.prog 23 #[.string (strOf (Go.Lib.itoa B))] W (RetV W (.tuple #[.int .i64 B, .bool true]))) := fun W => small_num _ B W rfl sB
  obtain ⟨z1, b1, S1, T1⟩ := small_ex P
  by_cases hmain : b1 = true ∧ s.size ≤ 60
  ·obtain ⟨rfl, c1⟩ := T1 hmain.1
   have hA := sz_bd c1
   have kb := pk_bd q (show (0 : Int) < 1 + m by omega)
   have ub := pk_bd up (show (0 : Int) < 5 by decide)
   have HPq : Hid (∀ W, Calls Tryd.prog 19 #[.int .i64 q, .int .i64 (1 + m)] W (RetV W (.int .i64 (pk q (1 + m))))) := fun W => pick_any q (1 + m) W q0 q1 (by omega) (by omega)
   have HPu : Hid (∀ W, Calls Tryd.prog 19 #[.int .i64 up, .int .i64 5] W (RetV W (.int .i64 (pk up 5)))) := fun W => pick_any up 5 W u0 u1 (by decide) (by decide)
   generalize pk q (1 + m) = k0 at *
   generalize pk up 5 = v0 at *
   have a1 : (z1 * (1 + k0)).natAbs ≤ 1000000000 * 1000 := by rw [Int.natAbs_mul]; exact Nat.mul_le_mul (by omega) (by omega)
   have a2 : ((z1 * (1 + k0)).tdiv B).natAbs ≤ (z1 * (1 + k0)).natAbs := by rw [Int.natAbs_tdiv]; exact Nat.div_le_self _ _
   have hT : ((z1 * (1 + k0)).tdiv B + v0 - 2).natAbs < 10 ^ (12 + 1) := by omega
   have sT : (strOf (Go.Lib.itoa ((z1 * (1 + k0)).tdiv B + v0 - 2))).size ≤ 14 := itoa_long hT
   have sK : (strOf (Go.Lib.itoa (1 + k0))).size ≤ 9 := itoa_len (by omega)
   obtain ⟨v1, w1⟩ := qt_ex z1 hB1 (by omega) (by omega)
   obtain ⟨v2, w2⟩ := qt_ex ((z1 * (1 + k0)).tdiv B + v0 - 2) (K := 1 + k0) (by omega) (by omega) (by omega)
   have HIt : Hid (∀ W, Tens W → Calls Tryd.prog 27 #[.int .i64 ((z1 * (1 + k0)).tdiv B + v0 - 2)] W (RetV W (.string (strOf (Go.Lib.itoa ((z1 * (1 + k0)).tdiv B + v0 - 2)))))) := fun W hW => itoa_at _ (by omega) (by omega) W hW
   obtain ⟨r2, hr2⟩ := rk_all (qt z1 B)
   obtain ⟨r3, hr3⟩ := rk_all (qt ((z1 * (1 + k0)).tdiv B + v0 - 2) (1 + k0))
   obtain ⟨e2, f2⟩ := w1.rk r2 hr2
   obtain ⟨e3, f3⟩ := w2.rk r3 hr3
   have HG1 : Hid (∀ W, Tens W → Calls Tryd.prog 26 #[.string s, .string (strOf (Go.Lib.itoa z1)), .int .i64 B] W (RetV W (.tuple #[.string (gp s (qt z1 B) (qcmp r.v r2.v)), .bool true]))) := fun W hW => gap_any s _ B r r2 W hr he hr2 e2 hB1 (by omega) hmain.2 (by omega) (by omega) hW
   have HG2 : Hid (∀ W, Tens W → Calls Tryd.prog 26 #[.string s, .string (strOf (Go.Lib.itoa ((z1 * (1 + k0)).tdiv B + v0 - 2))), .int .i64 (1 + k0)] W (RetV W (.tuple #[.string (gp s (qt ((z1 * (1 + k0)).tdiv B + v0 - 2) (1 + k0)) (qcmp r.v r3.v)), .bool true]))) := fun W hW => gap_any s _ (1 + k0) r r3 W hr he hr3 e3 (by omega) (by omega) hmain.2 (by omega) (by omega) hW
   obtain ⟨r4, hr4⟩ := rk_all (gp s (qt z1 B) (qcmp r.v r2.v))
   obtain ⟨r5, hr5⟩ := rk_all (gp s (qt ((z1 * (1 + k0)).tdiv B + v0 - 2) (1 + k0)) (qcmp r.v r3.v))
   have HC : Hid (∀ W, Calls Tryd.prog 17 #[.string (gp s (qt z1 B) (qcmp r.v r2.v)), .string (gp s (qt ((z1 * (1 + k0)).tdiv B + v0 - 2) (1 + k0)) (qcmp r.v r3.v))] W (RetV W (.tuple #[.int .i64 (cmpOut (qcmp r4.v r5.v) r4 r5).1, .int .i64 (cmpOut (qcmp r4.v r5.v) r4 r5).2]))) := fun W => scompare_any _ _ r4 r5 W hr4 hr5
   have z1s : (qt z1 B).size ≤ 36 := by
    unfold qt
    rw [ByteArray.size_append, ByteArray.size_append]
    have : (⟨#[47]⟩ : ByteArray).size = 1 := rfl
    omega
   have z2s : (qt ((z1 * (1 + k0)).tdiv B + v0 - 2) (1 + k0)).size ≤ 36 := by
    unfold qt
    rw [ByteArray.size_append, ByteArray.size_append]
    have : (⟨#[47]⟩ : ByteArray).size = 1 := rfl
    omega
   obtain ⟨bc, hbc, HCo⟩ := common_any z1 B hB1 (by omega)
   obtain ⟨bt, _, HCt⟩ := common_any ((z1 * (1 + k0)).tdiv B + v0 - 2) (1 + k0) (by omega) (by omega)
   have hg : Int.gcd z1 B = 1 := by
    have h1 : Int.gcd (Int.gcd B z1) 0 = 1 := hcf.g
    rw [Int.gcd_zero_right, Int.natAbs_natCast, Int.gcd_comm] at h1
    exact h1
   obtain rfl := hbc hg
   have g1 := gp_rk hr he hmain.2 z1s w1 hr4
   have g2 := gp_rk hr he hmain.2 z2s w2 hr5
   have hNr := hN ((z1 * (1 + k0)).tdiv B + v0 - 2) (1 + k0) (by omega) (by omega)
   refine ne_main s n q up m 0 r.k _ _ _ _ _ z1 B k0 v0 _ _ b1 bt w pb.1 pb.2 rfl hB1 hB2 hmain.1 hmain.2 hA kb.1 kb.2 ub.1 ub.2 ?_ alive_any ht HCk HPk HBe S1 HS2 HCo HPq HPu HG1 HIt HG2 HC HCt
   rcases g1 with ⟨x1, x2, x3, x4⟩ | ⟨x1, x2⟩
   ·rcases g2 with ⟨y1, y2, y3, y4⟩ | ⟨y1, _⟩
    ·have e : cmpOut (qcmp r4.v r5.v) r4 r5 = (qcmp r4.v r5.v, 0) := by unfold cmpOut; rw [if_neg (by omega), if_neg (by omega)]
     rw [e]
     rw [f2] at x4
     rw [f3] at y4
     rcases near_fin x3 y3 hNr (gp_ab hcn w1 x4) (gp_ab hcn w2 y4) with k | ⟨k, k' | k'⟩
     ·exact Or.inr (Or.inl ⟨rfl, k⟩)
     ·exact Or.inr (Or.inr (Or.inl ⟨rfl, k, k'⟩))
     ·exact Or.inr (Or.inr (Or.inr ⟨rfl, k, k'⟩))
    ·exact absurd x1 y1
   ·have e : cmpOut (qcmp r4.v r5.v) r4 r5 = (0, r4.e) := by unfold cmpOut; rw [if_pos (by omega)]
    rw [e]
    exact Or.inl x2
  ·refine ne_long s n q up m 0 r.k _ _ z1 B b1 w pb.1 pb.2 rfl hB1 hB2 ?_ alive_any ht HCk HPk HBe S1 HS2
   cases b1
   ·exact Or.inl rfl
   ·exact Or.inr ⟨rfl, Nat.not_le.1 fun k => hmain ⟨rfl, k⟩⟩
 ·have HBe : Hid (∀ W, Tens W → Calls Tryd.prog 24 #[.string s, .int .i64 (1 + m)] W (RetV W (.tuple #[.string ⟨#[]⟩, .string ⟨#[]⟩, .int .i64 r.e]))) := fun W hT => sbest_any s (1 + m) r _ _ _ W hr (by omega) (by omega) (Or.inl ⟨he, rfl, rfl, rfl⟩) hT
  exact ne_err s n q up m r.e r.k _ _ w rfl rfl pb.1 pb.2 (by simp [he]) alive_any ht HCk HPk HBe

end Go.Proofs.YtjahbjjekednfaaDoor
