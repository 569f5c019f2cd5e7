import Derived.Test.YtjahbjjekednfaaDoorK8
import Derived.Test.YtjahbjjekednfaaDoorN2
import Derived.Test.YtjahbjjekednfaaDoorS1
import Derived.Test.YtjahbjjekednfaaDoorC9
namespace Go.Proofs.YtjahbjjekednfaaDoor
open Go.RowKit

set_option maxHeartbeats 3200000 in
set_option maxRecDepth 100000 in
theorem sq_err (s : ByteArray) (k n E C : Int) (s1 s2 s3 s4 : ByteArray) (w : World) (e1 : s1 = ⟨#[]⟩) (e2 : s2 = ⟨#[]⟩) (e3 : s3 = ⟨#[]⟩) (e4 : s4 = ⟨#[]⟩) (n0 : 0 ≤ n) (n1 : n < 16) (hE : (E != 0) = true)
 (HA : ∀ (w : World), Tens w → Calls Tryd.prog 12 #[] w (RetV w (.bool true))) (ht : Tens w)
 (HCk : Hid (∀ W, Calls Tryd.prog 18 #[.string s] W (RetV W (.tuple #[.int .i64 E, .int .i64 C])))) (HPk : Hid (∀ W, Calls Tryd.prog 19 #[.int .i64 k, .int .i64 16] W (RetV W (.int .i64 n))))
 (HN1 : Hid (∀ W, Tens W → Calls Tryd.prog 22 #[.string s, .int .i64 n] W (RetV W (.tuple #[.string s1, .string s2, .int .i64 E])))) (HN2 : Hid (∀ W, Tens W → Calls Tryd.prog 22 #[.string s, .int .i64 (n + 1)] W (RetV W (.tuple #[.string s3, .string s4, .int .i64 E])))) :
 Calls Tryd.prog 7 #[.string s, .int .i64 k] w (RetV w (.bool true)) := by
 subst e1 e2 e3 e4
 have hEE : (E != E) = false := by simp
 go_enter Tryd.func7, Tryd.ntmps7
 go_wp2_with fail
 refine (HA w ht).mono ?_
 rintro e w1 ⟨rfl, hk1⟩
 go_wp2_with fail
 refine (HCk.out _).mono ?_
 rintro e w2 ⟨rfl, hk2⟩
 go_wp2_with fail
 refine (HPk.out _).mono ?_
 rintro e w3 ⟨rfl, hk3⟩
 go_wp2_with fail
 refine (HN1.out _ (ht.keep ((hk1.trans' hk2).trans' hk3))).mono ?_
 rintro e w4 ⟨rfl, hk4⟩
 go_wp2_with fail
 refine (HN2.out _ (ht.keep (((hk1.trans' hk2).trans' hk3).trans' hk4))).mono ?_
 rintro e w5 ⟨rfl, hk5⟩
 have hk := (((hk1.trans' hk2).trans' hk3).trans' hk4).trans' hk5
 clear hk1 hk2 hk3 hk4 hk5
 go_wp2_with fail
 go_ret
 exact ⟨rfl, hk⟩

set_option maxHeartbeats 6400000 in
set_option maxRecDepth 100000 in
theorem sq_long (s : ByteArray) (k n E C : Int) (s1 s2 s3 s4 : ByteArray) (z1 z2 z3 z4 : Int) (b1 b2 b3 b4 : Bool) (w : World) (n0 : 0 ≤ n) (n1 : n < 16) (hE : E = 0) (hb : ¬ (b1 = true ∧ b2 = true ∧ b3 = true ∧ b4 = true))
 (HA : ∀ (w : World), Tens w → Calls Tryd.prog 12 #[] w (RetV w (.bool true))) (ht : Tens w)
 (HCk : Hid (∀ W, Calls Tryd.prog 18 #[.string s] W (RetV W (.tuple #[.int .i64 E, .int .i64 C])))) (HPk : Hid (∀ W, Calls Tryd.prog 19 #[.int .i64 k, .int .i64 16] W (RetV W (.int .i64 n))))
 (HN1 : Hid (∀ W, Tens W → Calls Tryd.prog 22 #[.string s, .int .i64 n] W (RetV W (.tuple #[.string s1, .string s2, .int .i64 E])))) (HN2 : Hid (∀ W, Tens W → Calls Tryd.prog 22 #[.string s, .int .i64 (n + 1)] W (RetV W (.tuple #[.string s3, .string s4, .int .i64 E]))))
 (HS1 : Hid (∀ W, Calls Tryd.prog 23 #[.string s1] W (RetV W (.tuple #[.int .i64 z1, .bool b1]))))
 (HS2 : Hid (∀ W, Calls Tryd.prog 23 #[.string s2] W (RetV W (.tuple #[.int .i64 z2, .bool b2]))))
 (HS3 : Hid (∀ W, Calls Tryd.prog 23 #[.string s3] W (RetV W (.tuple #[.int .i64 z3, .bool b3]))))
 (HS4 : Hid (∀ W, Calls Tryd.prog 23 #[.string s4] W (RetV W (.tuple #[.int .i64 z4, .bool b4])))) :
 Calls Tryd.prog 7 #[.string s, .int .i64 k] w (RetV w (.bool true)) := by
 subst hE
 have hor : b1 = false ∨ (b1 = true ∧ b2 = false) ∨ (b1 = true ∧ b2 = true ∧ b3 = false) ∨ (b1 = true ∧ b2 = true ∧ b3 = true ∧ b4 = false) := by
  cases b1 <;> cases b2 <;> cases b3 <;> cases b4 <;> simp_all
 clear hb
 rcases hor with h1 | ⟨h1, h2⟩ | ⟨h1, h2, h3⟩ | ⟨h1, h2, h3, h4⟩
 ·subst h1
  go_enter Tryd.func7, Tryd.ntmps7
  go_wp2_with fail
  refine (HA w ht).mono ?_
  rintro e w1 ⟨rfl, hk1⟩
  go_wp2_with fail
  refine (HCk.out _).mono ?_
  rintro e w2 ⟨rfl, hk2⟩
  go_wp2_with fail
  refine (HPk.out _).mono ?_
  rintro e w3 ⟨rfl, hk3⟩
  go_wp2_with fail
  refine (HN1.out _ (ht.keep ((hk1.trans' hk2).trans' hk3))).mono ?_
  rintro e w4 ⟨rfl, hk4⟩
  go_wp2_with fail
  refine (HN2.out _ (ht.keep (((hk1.trans' hk2).trans' hk3).trans' hk4))).mono ?_
  rintro e w5 ⟨rfl, hk5⟩
  have hk := (((hk1.trans' hk2).trans' hk3).trans' hk4).trans' hk5
  clear hk1 hk2 hk3 hk4 hk5
  go_wp2_with fail
  refine (HS1.out _).mono ?_
  rintro e w6 ⟨rfl, hk6⟩
  go_wp2_with fail
  refine (HS2.out _).mono ?_
  rintro e w7 ⟨rfl, hk7⟩
  go_wp2_with fail
  refine (HS3.out _).mono ?_
  rintro e w8 ⟨rfl, hk8⟩
  go_wp2_with fail
  refine (HS4.out _).mono ?_
  rintro e w9 ⟨rfl, hk9⟩
  replace hk := (((hk.trans' hk6).trans' hk7).trans' hk8).trans' hk9
  clear hk6 hk7 hk8 hk9
  go_wp2_with fail
  go_ret
  exact ⟨rfl, hk⟩
 ·subst h1 h2
  go_enter Tryd.func7, Tryd.ntmps7
  go_wp2_with fail
  refine (HA w ht).mono ?_
  rintro e w1 ⟨rfl, hk1⟩
  go_wp2_with fail
  refine (HCk.out _).mono ?_
  rintro e w2 ⟨rfl, hk2⟩
  go_wp2_with fail
  refine (HPk.out _).mono ?_
  rintro e w3 ⟨rfl, hk3⟩
  go_wp2_with fail
  refine (HN1.out _ (ht.keep ((hk1.trans' hk2).trans' hk3))).mono ?_
  rintro e w4 ⟨rfl, hk4⟩
  go_wp2_with fail
  refine (HN2.out _ (ht.keep (((hk1.trans' hk2).trans' hk3).trans' hk4))).mono ?_
  rintro e w5 ⟨rfl, hk5⟩
  have hk := (((hk1.trans' hk2).trans' hk3).trans' hk4).trans' hk5
  clear hk1 hk2 hk3 hk4 hk5
  go_wp2_with fail
  refine (HS1.out _).mono ?_
  rintro e w6 ⟨rfl, hk6⟩
  go_wp2_with fail
  refine (HS2.out _).mono ?_
  rintro e w7 ⟨rfl, hk7⟩
  go_wp2_with fail
  refine (HS3.out _).mono ?_
  rintro e w8 ⟨rfl, hk8⟩
  go_wp2_with fail
  refine (HS4.out _).mono ?_
  rintro e w9 ⟨rfl, hk9⟩
  replace hk := (((hk.trans' hk6).trans' hk7).trans' hk8).trans' hk9
  clear hk6 hk7 hk8 hk9
  go_wp2_with fail
  go_ret
  exact ⟨rfl, hk⟩
 ·subst h1 h2 h3
  go_enter Tryd.func7, Tryd.ntmps7
  go_wp2_with fail
  refine (HA w ht).mono ?_
  rintro e w1 ⟨rfl, hk1⟩
  go_wp2_with fail
  refine (HCk.out _).mono ?_
  rintro e w2 ⟨rfl, hk2⟩
  go_wp2_with fail
  refine (HPk.out _).mono ?_
  rintro e w3 ⟨rfl, hk3⟩
  go_wp2_with fail
  refine (HN1.out _ (ht.keep ((hk1.trans' hk2).trans' hk3))).mono ?_
  rintro e w4 ⟨rfl, hk4⟩
  go_wp2_with fail
  refine (HN2.out _ (ht.keep (((hk1.trans' hk2).trans' hk3).trans' hk4))).mono ?_
  rintro e w5 ⟨rfl, hk5⟩
  have hk := (((hk1.trans' hk2).trans' hk3).trans' hk4).trans' hk5
  clear hk1 hk2 hk3 hk4 hk5
  go_wp2_with fail
  refine (HS1.out _).mono ?_
  rintro e w6 ⟨rfl, hk6⟩
  go_wp2_with fail
  refine (HS2.out _).mono ?_
  rintro e w7 ⟨rfl, hk7⟩
  go_wp2_with fail
  refine (HS3.out _).mono ?_
  rintro e w8 ⟨rfl, hk8⟩
  go_wp2_with fail
  refine (HS4.out _).mono ?_
  rintro e w9 ⟨rfl, hk9⟩
  replace hk := (((hk.trans' hk6).trans' hk7).trans' hk8).trans' hk9
  clear hk6 hk7 hk8 hk9
  go_wp2_with fail
  go_ret
  exact ⟨rfl, hk⟩
 ·subst h1 h2 h3 h4
  go_enter Tryd.func7, Tryd.ntmps7
  go_wp2_with fail
  refine (HA w ht).mono ?_
  rintro e w1 ⟨rfl, hk1⟩
  go_wp2_with fail
  refine (HCk.out _).mono ?_
  rintro e w2 ⟨rfl, hk2⟩
  go_wp2_with fail
  refine (HPk.out _).mono ?_
  rintro e w3 ⟨rfl, hk3⟩
  go_wp2_with fail
  refine (HN1.out _ (ht.keep ((hk1.trans' hk2).trans' hk3))).mono ?_
  rintro e w4 ⟨rfl, hk4⟩
  go_wp2_with fail
  refine (HN2.out _ (ht.keep (((hk1.trans' hk2).trans' hk3).trans' hk4))).mono ?_
  rintro e w5 ⟨rfl, hk5⟩
  have hk := (((hk1.trans' hk2).trans' hk3).trans' hk4).trans' hk5
  clear hk1 hk2 hk3 hk4 hk5
  go_wp2_with fail
  refine (HS1.out _).mono ?_
  rintro e w6 ⟨rfl, hk6⟩
  go_wp2_with fail
  refine (HS2.out _).mono ?_
  rintro e w7 ⟨rfl, hk7⟩
  go_wp2_with fail
  refine (HS3.out _).mono ?_
  rintro e w8 ⟨rfl, hk8⟩
  go_wp2_with fail
  refine (HS4.out _).mono ?_
  rintro e w9 ⟨rfl, hk9⟩
  replace hk := (((hk.trans' hk6).trans' hk7).trans' hk8).trans' hk9
  clear hk6 hk7 hk8 hk9
  go_wp2_with fail
  go_ret
  exact ⟨rfl, hk⟩

set_option maxHeartbeats 6400000 in
set_option maxRecDepth 100000 in
theorem sq_end (s : ByteArray) (k n C : Int) (s1 s2 s3 s4 : ByteArray) (z1 z2 z3 z4 g : Int) (b1 b2 b3 b4 : Bool) (w : World) (n0 : 0 ≤ n) (n1 : n < 16) (hb : b1 = true ∧ b2 = true ∧ b3 = true ∧ b4 = true) (hz : 1 ≤ z2) (ls1 : s1.size ≤ 9) (ls2 : s2.size ≤ 9) (h3 : z3 = z1) (h4 : z4 = z2) (hg : g = 0)
 (HA : ∀ (w : World), Tens w → Calls Tryd.prog 12 #[] w (RetV w (.bool true))) (ht : Tens w)
 (HCk : Hid (∀ W, Calls Tryd.prog 18 #[.string s] W (RetV W (.tuple #[.int .i64 0, .int .i64 C])))) (HPk : Hid (∀ W, Calls Tryd.prog 19 #[.int .i64 k, .int .i64 16] W (RetV W (.int .i64 n))))
 (HN1 : Hid (∀ W, Tens W → Calls Tryd.prog 22 #[.string s, .int .i64 n] W (RetV W (.tuple #[.string s1, .string s2, .int .i64 0])))) (HN2 : Hid (∀ W, Tens W → Calls Tryd.prog 22 #[.string s, .int .i64 (n + 1)] W (RetV W (.tuple #[.string s3, .string s4, .int .i64 0]))))
 (HS1 : Hid (∀ W, Calls Tryd.prog 23 #[.string s1] W (RetV W (.tuple #[.int .i64 z1, .bool b1]))))
 (HS2 : Hid (∀ W, Calls Tryd.prog 23 #[.string s2] W (RetV W (.tuple #[.int .i64 z2, .bool b2]))))
 (HS3 : Hid (∀ W, Calls Tryd.prog 23 #[.string s3] W (RetV W (.tuple #[.int .i64 z3, .bool b3]))))
 (HS4 : Hid (∀ W, Calls Tryd.prog 23 #[.string s4] W (RetV W (.tuple #[.int .i64 z4, .bool b4]))))
 (HC : Hid (∀ W, Calls Tryd.prog 17 #[.string s, .string (s1 ++ ⟨#[47]⟩ ++ s2)] W (RetV W (.tuple #[.int .i64 g, .int .i64 0])))) :
 Calls Tryd.prog 7 #[.string s, .int .i64 k] w (RetV w (.bool true)) := by
 obtain ⟨rfl, rfl, rfl, rfl⟩ := hb
 subst h3 h4 hg
 go_enter Tryd.func7, Tryd.ntmps7
 go_wp2_with fail
 refine (HA w ht).mono ?_
 rintro e w1 ⟨rfl, hk1⟩
 go_wp2_with fail
 refine (HCk.out _).mono ?_
 rintro e w2 ⟨rfl, hk2⟩
 go_wp2_with fail
 refine (HPk.out _).mono ?_
 rintro e w3 ⟨rfl, hk3⟩
 go_wp2_with fail
 refine (HN1.out _ (ht.keep ((hk1.trans' hk2).trans' hk3))).mono ?_
 rintro e w4 ⟨rfl, hk4⟩
 go_wp2_with fail
 refine (HN2.out _ (ht.keep (((hk1.trans' hk2).trans' hk3).trans' hk4))).mono ?_
 rintro e w5 ⟨rfl, hk5⟩
 have hk := (((hk1.trans' hk2).trans' hk3).trans' hk4).trans' hk5
 clear hk1 hk2 hk3 hk4 hk5
 go_wp2_with fail
 refine (HS1.out _).mono ?_
 rintro e w6 ⟨rfl, hk6⟩
 go_wp2_with fail
 refine (HS2.out _).mono ?_
 rintro e w7 ⟨rfl, hk7⟩
 go_wp2_with fail
 refine (HS3.out _).mono ?_
 rintro e w8 ⟨rfl, hk8⟩
 go_wp2_with fail
 refine (HS4.out _).mono ?_
 rintro e w9 ⟨rfl, hk9⟩
 replace hk := (((hk.trans' hk6).trans' hk7).trans' hk8).trans' hk9
 clear hk6 hk7 hk8 hk9
 go_wp2_with fail
 refine (HC.out _).mono ?_
 rintro e w10 ⟨rfl, hk10⟩
 replace hk := hk.trans' hk10
 clear hk10
 go_wp2_with fail
 go_ret
 exact ⟨rfl, hk⟩

set_option maxHeartbeats 6400000 in
set_option maxRecDepth 100000 in
theorem sq_on (s : ByteArray) (k n C : Int) (s1 s2 s3 s4 : ByteArray) (z1 z2 z3 z4 g : Int) (b1 b2 b3 b4 : Bool) (w : World) (n0 : 0 ≤ n) (n1 : n < 16) (hb : b1 = true ∧ b2 = true ∧ b3 = true ∧ b4 = true) (hz : 1 ≤ z2) (ls1 : s1.size ≤ 9) (ls2 : s2.size ≤ 9) (hne : ¬ (z1 = z3 ∧ z2 = z4))
 (l1 : z1.natAbs < 1000000000) (l2 : z2.natAbs < 1000000000) (l3 : z3.natAbs < 1000000000) (l4 : z4.natAbs < 1000000000) (hd : z3 * z2 - z1 * z4 = g) (hy : z2 ≤ z4) (hy' : n ≠ 0 → z2 < z4) (hg : (n % 2 = 0 ∧ g = 1) ∨ (n % 2 = 1 ∧ g = -1))
 (HA : ∀ (w : World), Tens w → Calls Tryd.prog 12 #[] w (RetV w (.bool true))) (ht : Tens w)
 (HCk : Hid (∀ W, Calls Tryd.prog 18 #[.string s] W (RetV W (.tuple #[.int .i64 0, .int .i64 C])))) (HPk : Hid (∀ W, Calls Tryd.prog 19 #[.int .i64 k, .int .i64 16] W (RetV W (.int .i64 n))))
 (HN1 : Hid (∀ W, Tens W → Calls Tryd.prog 22 #[.string s, .int .i64 n] W (RetV W (.tuple #[.string s1, .string s2, .int .i64 0])))) (HN2 : Hid (∀ W, Tens W → Calls Tryd.prog 22 #[.string s, .int .i64 (n + 1)] W (RetV W (.tuple #[.string s3, .string s4, .int .i64 0]))))
 (HS1 : Hid (∀ W, Calls Tryd.prog 23 #[.string s1] W (RetV W (.tuple #[.int .i64 z1, .bool b1]))))
 (HS2 : Hid (∀ W, Calls Tryd.prog 23 #[.string s2] W (RetV W (.tuple #[.int .i64 z2, .bool b2]))))
 (HS3 : Hid (∀ W, Calls Tryd.prog 23 #[.string s3] W (RetV W (.tuple #[.int .i64 z3, .bool b3]))))
 (HS4 : Hid (∀ W, Calls Tryd.prog 23 #[.string s4] W (RetV W (.tuple #[.int .i64 z4, .bool b4]))))
 (HC : Hid (∀ W, Calls Tryd.prog 17 #[.string s, .string (s1 ++ ⟨#[47]⟩ ++ s2)] W (RetV W (.tuple #[.int .i64 g, .int .i64 0])))) :
 Calls Tryd.prog 7 #[.string s, .int .i64 k] w (RetV w (.bool true)) := by
 obtain ⟨rfl, rfl, rfl, rfl⟩ := hb
 have m1 : (z3 * z2).natAbs ≤ 1000000000 * 1000000000 := by rw [Int.natAbs_mul]; exact Nat.mul_le_mul (by omega) (by omega)
 have m2 : (z1 * z4).natAbs ≤ 1000000000 * 1000000000 := by rw [Int.natAbs_mul]; exact Nat.mul_le_mul (by omega) (by omega)
 have m3 : -1000000000000000000 ≤ z3 * z2 ∧ z3 * z2 ≤ 1000000000000000000 := by omega
 have m4 : -1000000000000000000 ≤ z1 * z4 ∧ z1 * z4 ≤ 1000000000000000000 := by omega
 obtain ⟨m5, m6⟩ := m3
 obtain ⟨m7, m8⟩ := m4
 clear m1 m2 l1 l2 l3 l4
 have hrem : n.tmod 2 = n % 2 := Int.tmod_eq_emod_of_nonneg n0
 have HNE : (z1 == z3 && z2 == z4) = false := by
  rw [Bool.eq_false_iff]
  intro h
  simp only [Bool.and_eq_true, beq_iff_eq] at h
  exact hne h
 have hor : (z1 == z3) = false ∨ ((z1 == z3) = true ∧ (z2 == z4) = false) := by
  cases h1 : (z1 == z3)
  ·exact Or.inl rfl
  ·rw [h1] at HNE
   exact Or.inr ⟨rfl, by simpa using HNE⟩
 clear HNE hne
 rcases hg with ⟨hp, rfl⟩ | ⟨hp, rfl⟩
 ·rw [hp] at hrem
  clear hp
  by_cases hn0 : n = 0
  ·subst hn0
   clear hy' hrem
   rcases hor with h1 | ⟨h1, h2⟩
   ·go_enter Tryd.func7, Tryd.ntmps7
    go_wp2_with fail
    refine (HA w ht).mono ?_
    rintro e w1 ⟨rfl, hk1⟩
    go_wp2_with fail
    refine (HCk.out _).mono ?_
    rintro e w2 ⟨rfl, hk2⟩
    go_wp2_with fail
    refine (HPk.out _).mono ?_
    rintro e w3 ⟨rfl, hk3⟩
    go_wp2_with fail
    refine (HN1.out _ (ht.keep ((hk1.trans' hk2).trans' hk3))).mono ?_
    rintro e w4 ⟨rfl, hk4⟩
    go_wp2_with fail
    refine (HN2.out _ (ht.keep (((hk1.trans' hk2).trans' hk3).trans' hk4))).mono ?_
    rintro e w5 ⟨rfl, hk5⟩
    have hk := (((hk1.trans' hk2).trans' hk3).trans' hk4).trans' hk5
    clear hk1 hk2 hk3 hk4 hk5
    go_wp2_with fail
    refine (HS1.out _).mono ?_
    rintro e w6 ⟨rfl, hk6⟩
    go_wp2_with fail
    refine (HS2.out _).mono ?_
    rintro e w7 ⟨rfl, hk7⟩
    go_wp2_with fail
    refine (HS3.out _).mono ?_
    rintro e w8 ⟨rfl, hk8⟩
    go_wp2_with fail
    refine (HS4.out _).mono ?_
    rintro e w9 ⟨rfl, hk9⟩
    replace hk := (((hk.trans' hk6).trans' hk7).trans' hk8).trans' hk9
    clear hk6 hk7 hk8 hk9
    go_wp2_with fail
    refine (HC.out _).mono ?_
    rintro e w10 ⟨rfl, hk10⟩
    replace hk := hk.trans' hk10
    clear hk10
    go_wp2_with fail
    go_ret
    exact ⟨rfl, hk⟩
   ·go_enter Tryd.func7, Tryd.ntmps7
    go_wp2_with fail
    refine (HA w ht).mono ?_
    rintro e w1 ⟨rfl, hk1⟩
    go_wp2_with fail
    refine (HCk.out _).mono ?_
    rintro e w2 ⟨rfl, hk2⟩
    go_wp2_with fail
    refine (HPk.out _).mono ?_
    rintro e w3 ⟨rfl, hk3⟩
    go_wp2_with fail
    refine (HN1.out _ (ht.keep ((hk1.trans' hk2).trans' hk3))).mono ?_
    rintro e w4 ⟨rfl, hk4⟩
    go_wp2_with fail
    refine (HN2.out _ (ht.keep (((hk1.trans' hk2).trans' hk3).trans' hk4))).mono ?_
    rintro e w5 ⟨rfl, hk5⟩
    have hk := (((hk1.trans' hk2).trans' hk3).trans' hk4).trans' hk5
    clear hk1 hk2 hk3 hk4 hk5
    go_wp2_with fail
    refine (HS1.out _).mono ?_
    rintro e w6 ⟨rfl, hk6⟩
    go_wp2_with fail
    refine (HS2.out _).mono ?_
    rintro e w7 ⟨rfl, hk7⟩
    go_wp2_with fail
    refine (HS3.out _).mono ?_
    rintro e w8 ⟨rfl, hk8⟩
    go_wp2_with fail
    refine (HS4.out _).mono ?_
    rintro e w9 ⟨rfl, hk9⟩
    replace hk := (((hk.trans' hk6).trans' hk7).trans' hk8).trans' hk9
    clear hk6 hk7 hk8 hk9
    go_wp2_with fail
    refine (HC.out _).mono ?_
    rintro e w10 ⟨rfl, hk10⟩
    replace hk := hk.trans' hk10
    clear hk10
    go_wp2_with fail
    go_ret
    exact ⟨rfl, hk⟩
  ·have hy2 := hy' hn0
   have hnb : (n == 0) = false := by simp [hn0]
   clear hy' hn0
   rcases hor with h1 | ⟨h1, h2⟩
   ·go_enter Tryd.func7, Tryd.ntmps7
    go_wp2_with fail
    refine (HA w ht).mono ?_
    rintro e w1 ⟨rfl, hk1⟩
    go_wp2_with fail
    refine (HCk.out _).mono ?_
    rintro e w2 ⟨rfl, hk2⟩
    go_wp2_with fail
    refine (HPk.out _).mono ?_
    rintro e w3 ⟨rfl, hk3⟩
    go_wp2_with fail
    refine (HN1.out _ (ht.keep ((hk1.trans' hk2).trans' hk3))).mono ?_
    rintro e w4 ⟨rfl, hk4⟩
    go_wp2_with fail
    refine (HN2.out _ (ht.keep (((hk1.trans' hk2).trans' hk3).trans' hk4))).mono ?_
    rintro e w5 ⟨rfl, hk5⟩
    have hk := (((hk1.trans' hk2).trans' hk3).trans' hk4).trans' hk5
    clear hk1 hk2 hk3 hk4 hk5
    go_wp2_with fail
    refine (HS1.out _).mono ?_
    rintro e w6 ⟨rfl, hk6⟩
    go_wp2_with fail
    refine (HS2.out _).mono ?_
    rintro e w7 ⟨rfl, hk7⟩
    go_wp2_with fail
    refine (HS3.out _).mono ?_
    rintro e w8 ⟨rfl, hk8⟩
    go_wp2_with fail
    refine (HS4.out _).mono ?_
    rintro e w9 ⟨rfl, hk9⟩
    replace hk := (((hk.trans' hk6).trans' hk7).trans' hk8).trans' hk9
    clear hk6 hk7 hk8 hk9
    go_wp2_with fail
    refine (HC.out _).mono ?_
    rintro e w10 ⟨rfl, hk10⟩
    replace hk := hk.trans' hk10
    clear hk10
    go_wp2_with fail
    go_ret
    exact ⟨rfl, hk⟩
   ·go_enter Tryd.func7, Tryd.ntmps7
    go_wp2_with fail
    refine (HA w ht).mono ?_
    rintro e w1 ⟨rfl, hk1⟩
    go_wp2_with fail
    refine (HCk.out _).mono ?_
    rintro e w2 ⟨rfl, hk2⟩
    go_wp2_with fail
    refine (HPk.out _).mono ?_
    rintro e w3 ⟨rfl, hk3⟩
    go_wp2_with fail
    refine (HN1.out _ (ht.keep ((hk1.trans' hk2).trans' hk3))).mono ?_
    rintro e w4 ⟨rfl, hk4⟩
    go_wp2_with fail
    refine (HN2.out _ (ht.keep (((hk1.trans' hk2).trans' hk3).trans' hk4))).mono ?_
    rintro e w5 ⟨rfl, hk5⟩
    have hk := (((hk1.trans' hk2).trans' hk3).trans' hk4).trans' hk5
    clear hk1 hk2 hk3 hk4 hk5
    go_wp2_with fail
    refine (HS1.out _).mono ?_
    rintro e w6 ⟨rfl, hk6⟩
    go_wp2_with fail
    refine (HS2.out _).mono ?_
    rintro e w7 ⟨rfl, hk7⟩
    go_wp2_with fail
    refine (HS3.out _).mono ?_
    rintro e w8 ⟨rfl, hk8⟩
    go_wp2_with fail
    refine (HS4.out _).mono ?_
    rintro e w9 ⟨rfl, hk9⟩
    replace hk := (((hk.trans' hk6).trans' hk7).trans' hk8).trans' hk9
    clear hk6 hk7 hk8 hk9
    go_wp2_with fail
    refine (HC.out _).mono ?_
    rintro e w10 ⟨rfl, hk10⟩
    replace hk := hk.trans' hk10
    clear hk10
    go_wp2_with fail
    go_ret
    exact ⟨rfl, hk⟩
 ·rw [hp] at hrem
  have hn0 : n ≠ 0 := by omega
  have hy2 := hy' hn0
  have hnb : (n == 0) = false := by simp [hn0]
  clear hy' hn0 hp
  rcases hor with h1 | ⟨h1, h2⟩
  ·go_enter Tryd.func7, Tryd.ntmps7
   go_wp2_with fail
   refine (HA w ht).mono ?_
   rintro e w1 ⟨rfl, hk1⟩
   go_wp2_with fail
   refine (HCk.out _).mono ?_
   rintro e w2 ⟨rfl, hk2⟩
   go_wp2_with fail
   refine (HPk.out _).mono ?_
   rintro e w3 ⟨rfl, hk3⟩
   go_wp2_with fail
   refine (HN1.out _ (ht.keep ((hk1.trans' hk2).trans' hk3))).mono ?_
   rintro e w4 ⟨rfl, hk4⟩
   go_wp2_with fail
   refine (HN2.out _ (ht.keep (((hk1.trans' hk2).trans' hk3).trans' hk4))).mono ?_
   rintro e w5 ⟨rfl, hk5⟩
   have hk := (((hk1.trans' hk2).trans' hk3).trans' hk4).trans' hk5
   clear hk1 hk2 hk3 hk4 hk5
   go_wp2_with fail
   refine (HS1.out _).mono ?_
   rintro e w6 ⟨rfl, hk6⟩
   go_wp2_with fail
   refine (HS2.out _).mono ?_
   rintro e w7 ⟨rfl, hk7⟩
   go_wp2_with fail
   refine (HS3.out _).mono ?_
   rintro e w8 ⟨rfl, hk8⟩
   go_wp2_with fail
   refine (HS4.out _).mono ?_
   rintro e w9 ⟨rfl, hk9⟩
   replace hk := (((hk.trans' hk6).trans' hk7).trans' hk8).trans' hk9
   clear hk6 hk7 hk8 hk9
   go_wp2_with fail
   refine (HC.out _).mono ?_
   rintro e w10 ⟨rfl, hk10⟩
   replace hk := hk.trans' hk10
   clear hk10
   go_wp2_with fail
   go_ret
   exact ⟨rfl, hk⟩
  ·go_enter Tryd.func7, Tryd.ntmps7
   go_wp2_with fail
   refine (HA w ht).mono ?_
   rintro e w1 ⟨rfl, hk1⟩
   go_wp2_with fail
   refine (HCk.out _).mono ?_
   rintro e w2 ⟨rfl, hk2⟩
   go_wp2_with fail
   refine (HPk.out _).mono ?_
   rintro e w3 ⟨rfl, hk3⟩
   go_wp2_with fail
   refine (HN1.out _ (ht.keep ((hk1.trans' hk2).trans' hk3))).mono ?_
   rintro e w4 ⟨rfl, hk4⟩
   go_wp2_with fail
   refine (HN2.out _ (ht.keep (((hk1.trans' hk2).trans' hk3).trans' hk4))).mono ?_
   rintro e w5 ⟨rfl, hk5⟩
   have hk := (((hk1.trans' hk2).trans' hk3).trans' hk4).trans' hk5
   clear hk1 hk2 hk3 hk4 hk5
   go_wp2_with fail
   refine (HS1.out _).mono ?_
   rintro e w6 ⟨rfl, hk6⟩
   go_wp2_with fail
   refine (HS2.out _).mono ?_
   rintro e w7 ⟨rfl, hk7⟩
   go_wp2_with fail
   refine (HS3.out _).mono ?_
   rintro e w8 ⟨rfl, hk8⟩
   go_wp2_with fail
   refine (HS4.out _).mono ?_
   rintro e w9 ⟨rfl, hk9⟩
   replace hk := (((hk.trans' hk6).trans' hk7).trans' hk8).trans' hk9
   clear hk6 hk7 hk8 hk9
   go_wp2_with fail
   refine (HC.out _).mono ?_
   rintro e w10 ⟨rfl, hk10⟩
   replace hk := hk.trans' hk10
   clear hk10
   go_wp2_with fail
   go_ret
   exact ⟨rfl, hk⟩

theorem sz_bd {z : Int} (h : (strOf (Go.Lib.itoa z)).size ≤ 9) : z.natAbs < 1000000000 := by
 have key : ∀ t : List UInt8, t.length ≤ 9 → Digs (bi t) → 0 ≤ decN (bi t) ∧ decN (bi t) < 1000000000 := by
  intro t hl hD
  have h1 := chk_bd hD 0 (bi t).length
  have h2 : chk (bi t) 0 (bi t).length = decN (bi t) := by
   unfold chk
   rw [List.take_length, List.drop_zero]
  rw [h2] at h1
  have hl' : (bi t).length ≤ 9 := by simpa [bi] using hl
  have h3 : (10 : Int) ^ ((bi t).length - 0) ≤ 10 ^ 9 := by
   have := Nat.pow_le_pow_right (n := 10) (by decide) (show (bi t).length - 0 ≤ 9 by omega)
   exact_mod_cast this
  omega
 have hT : NumT (strOf (Go.Lib.itoa z)) z := rfl
 rw [strOf_size] at h
 generalize Go.Lib.itoa z = t at *
 rcases numT_of hT with ⟨_, h2, h3⟩ | ⟨_, t', h1, h2, h3, _, h5⟩
 ·rcases h2 with rfl | ⟨_, h5, _⟩
  ·have : decN (bi [48]) = 0 := by decide
   omega
  ·have := key t h h5
   omega
 ·subst h1
  rw [List.length_cons] at h
  have := key t' (by omega) h3
  omega
/-- What small tells of a whole number's text. -/
theorem small_ex (z : Int) : ∃ (x : Int) (b : Bool), (∀ W, Calls Tryd.prog 23 #[.string (strOf (Go.Lib.itoa z))] W (RetV W (.tuple #[.int .i64 x, .bool b]))) ∧ (b = true → x = z ∧ (strOf (Go.Lib.itoa z)).size ≤ 9) := by
 by_cases h : (strOf (Go.Lib.itoa z)).size ≤ 9
 ·exact ⟨z, true, fun W => small_num _ z W rfl h, fun _ => ⟨rfl, h⟩⟩
 ·exact ⟨0, false, fun W => small_long _ W (by omega), fun h => by cases h⟩
/-- surdkeep.Squeezed. -/
theorem squeezed_any (s : ByteArray) (k : Int) (w : World) (hk0 : -9223372036854775808 ≤ k) (hk1 : k ≤ 9223372036854775807) (ht : Tens w) : Calls Tryd.prog 7 #[.string s, .int .i64 k] w (RetV w (.bool true)) := by
 obtain ⟨r, hr⟩ := rk_all s
 have pb := pk_bd k (show (0 : Int) < 16 by decide)
 have HPk : Hid (∀ W, Calls Tryd.prog 19 #[.int .i64 k, .int .i64 16] W (RetV W (.int .i64 (pk k 16)))) := fun W => pick_any k 16 W hk0 hk1 (by decide) (by decide)
 have HCk : Hid (∀ W, Calls Tryd.prog 18 #[.string s] W (RetV W (.tuple #[.int .i64 r.e, .int .i64 r.k]))) := fun W => check_any s r W hr
 generalize pk k 16 = n at *
 obtain ⟨m, rfl⟩ := Int.eq_ofNat_of_zero_le pb.1
 by_cases he : r.e = 0
 ·have hcn := rk_cn hr he
  obtain ⟨K, hK⟩ := exq_ex (p0 r.v) (q0 r.v) (n0 r.v) (m + 1)
  obtain ⟨K', hK'⟩ := exq_ex (p0 r.v) (q0 r.v) (n0 r.v) (m + 2)
  obtain ⟨q1, q2, q3⟩ := squeeze hcn hK hK' rfl rfl rfl rfl
  have HN1 : Hid (∀ W, Tens W → Calls Tryd.prog 22 #[.string s, .int .i64 (m : Int)] W (RetV W (.tuple #[.string (strOf (Go.Lib.itoa (cv (p0 r.v) (q0 r.v) (n0 r.v) K).lp)), .string (strOf (Go.Lib.itoa (cv (p0 r.v) (q0 r.v) (n0 r.v) K).lq)), .int .i64 0]))) := fun W hT => snear_any s m r _ _ _ W hr (by omega) (by omega) (Or.inr (Or.inr ⟨he, by omega, by omega, K, by rw [Int.toNat_natCast]; exact hK, rfl, rfl, rfl⟩)) hT
  have HN2 : Hid (∀ W, Tens W → Calls Tryd.prog 22 #[.string s, .int .i64 ((m : Int) + 1)] W (RetV W (.tuple #[.string (strOf (Go.Lib.itoa (cv (p0 r.v) (q0 r.v) (n0 r.v) K').lp)), .string (strOf (Go.Lib.itoa (cv (p0 r.v) (q0 r.v) (n0 r.v) K').lq)), .int .i64 0]))) := fun W hT => snear_any s ((m : Int) + 1) r _ _ _ W hr (by omega) (by omega) (Or.inr (Or.inr ⟨he, by omega, by omega, K', by rw [show ((m : Int) + 1).toNat + 1 = m + 2 by omega]; exact hK', rfl, rfl, rfl⟩)) hT
  rw [he] at HCk
  generalize (cv (p0 r.v) (q0 r.v) (n0 r.v) K).lp = A at *
  generalize (cv (p0 r.v) (q0 r.v) (n0 r.v) K).lq = B at *
  generalize (cv (p0 r.v) (q0 r.v) (n0 r.v) K').lp = X at *
  generalize (cv (p0 r.v) (q0 r.v) (n0 r.v) K').lq = Y at *
  obtain ⟨z1, b1, S1, T1⟩ := small_ex A
  obtain ⟨z2, b2, S2, T2⟩ := small_ex B
  obtain ⟨z3, b3, S3, T3⟩ := small_ex X
  obtain ⟨z4, b4, S4, T4⟩ := small_ex Y
  by_cases hb : b1 = true ∧ b2 = true ∧ b3 = true ∧ b4 = true
  ·obtain ⟨rfl, c1⟩ := T1 hb.1
   obtain ⟨rfl, c2⟩ := T2 hb.2.1
   obtain ⟨rfl, c3⟩ := T3 hb.2.2.1
   obtain ⟨rfl, c4⟩ := T4 hb.2.2.2
   obtain ⟨r2, hr2⟩ := rk_all (strOf (Go.Lib.itoa z1) ++ ⟨#[47]⟩ ++ strOf (Go.Lib.itoa z2))
   obtain ⟨f1, f2⟩ := frac_rk q2 c1 c2 hr2
   have HC : Hid (∀ W, Calls Tryd.prog 17 #[.string s, .string (strOf (Go.Lib.itoa z1) ++ ⟨#[47]⟩ ++ strOf (Go.Lib.itoa z2))] W (RetV W (.tuple #[.int .i64 (qcmp r.v (fr z1 z2)), .int .i64 0]))) := fun W => by
    have := scompare_any s _ r r2 W hr hr2
    rw [f2] at this
    have e : cmpOut (qcmp r.v (fr z1 z2)) r r2 = (qcmp r.v (fr z1 z2), 0) := by unfold cmpOut; rw [if_neg (by omega), if_neg (by omega)]
    rw [e] at this
    exact this
   rcases q3 with ⟨rfl, rfl, hg⟩ | ⟨hne, hg, hd, hy, hy'⟩
   ·exact sq_end s k m r.k _ _ _ _ z1 z2 z1 z2 _ b1 b2 b3 b4 w (by omega) (by omega) hb q1 c1 c2 rfl rfl hg alive_any ht HCk HPk HN1 HN2 S1 S2 S3 S4 HC
   ·refine sq_on s k m r.k _ _ _ _ z1 z2 z3 z4 _ b1 b2 b3 b4 w (by omega) (by omega) hb q1 c1 c2 hne (sz_bd c1) (sz_bd c2) (sz_bd c3) (sz_bd c4) (hd.trans hg.symm) hy (fun h => hy' (by omega)) ?_ alive_any ht HCk HPk HN1 HN2 S1 S2 S3 S4 HC
    rw [hg]
    unfold alt
    by_cases c : m % 2 = 0
    ·rw [if_pos c]
     exact Or.inl ⟨by omega, rfl⟩
    ·rw [if_neg c]
     exact Or.inr ⟨by omega, rfl⟩
  ·exact sq_long s k m 0 r.k _ _ _ _ z1 z2 z3 z4 b1 b2 b3 b4 w (by omega) (by omega) rfl hb alive_any ht HCk HPk HN1 HN2 S1 S2 S3 S4
 ·have HN1 : Hid (∀ W, Tens W → Calls Tryd.prog 22 #[.string s, .int .i64 (m : Int)] W (RetV W (.tuple #[.string ⟨#[]⟩, .string ⟨#[]⟩, .int .i64 r.e]))) := fun W hT => snear_any s m r _ _ _ W hr (by omega) (by omega) (Or.inl ⟨he, rfl, rfl, rfl⟩) hT
  have HN2 : Hid (∀ W, Tens W → Calls Tryd.prog 22 #[.string s, .int .i64 ((m : Int) + 1)] W (RetV W (.tuple #[.string ⟨#[]⟩, .string ⟨#[]⟩, .int .i64 r.e]))) := fun W hT => snear_any s ((m : Int) + 1) r _ _ _ W hr (by omega) (by omega) (Or.inl ⟨he, rfl, rfl, rfl⟩) hT
  exact sq_err s k m r.e r.k _ _ _ _ w rfl rfl rfl rfl (by omega) (by omega) (by simp [he]) alive_any ht HCk HPk HN1 HN2

end Go.Proofs.YtjahbjjekednfaaDoor
