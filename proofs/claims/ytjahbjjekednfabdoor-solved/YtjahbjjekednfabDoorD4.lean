import Derived.Test.YtjahbjjekednfabDoorD3
import Derived.Test.YtjahbjjekednfabDoorF10
namespace Go.Proofs.YtjahbjjekednfabDoor
open Go.RowKit

set_option maxHeartbeats 800000 in
theorem rational_any (a : Qn) (v : Value) (w : World) (hv : XN w v a) : Calls Tryd.prog 30 #[v] w (RetV w (.bool (decide (a.d = 1)))) := by
 obtain ⟨b1, ao1, n1, c1, b2, ao2, n2, c2, b3, ao3, n3, c3, rfl, _, _, _⟩ := hv
 have hb : (a.d == 1) = decide (a.d = 1) := rfl
 generalize decide (a.d = 1) = b at *
 go_enter Tryd.func30, Tryd.ntmps30
 go_wp2_with fail
 go_ret
 exact ⟨by rw [← hb]; rfl, kp_alloc _ _⟩
theorem qsqrt_d {d : Nat} (h2 : 2 ≤ d) (hd : d ≤ 2000) : (qsqrt d).d = 1 ↔ ∃ m, m * m = d := by
 have hr := sqf_root (n := d) (by omega) (by omega)
 have e := qsqrt_of hr (by omega)
 have e1 := hr.eq
 generalize sqf d 1000 = o at *
 generalize d / (o * o) = s at *
 constructor
 ·intro h
  by_cases s1 : s = 1
  ·exact ⟨o, by rw [s1, Nat.mul_one] at e1; exact e1⟩
  ·rw [if_neg s1] at e
   rw [e] at h
   have h3 : (s : Int) = 1 := h
   omega
 ·rintro ⟨m, hm⟩
  have hm0 : 0 < m := Nat.pos_of_ne_zero (fun k => by rw [k] at hm; omega)
  have i2 : IsRoot d m 1 := ⟨hm0, by decide, by omega, sqfree_one⟩
  have e2 := qsqrt_of i2 (by omega)
  rw [if_pos rfl] at e2
  rw [e2]
/-- What Pell tells. -/
def OutP (d : Int) (s1 s2 : ByteArray) (er : Int) : Prop :=
 (er = 5 ∧ s1 = ⟨#[]⟩ ∧ s2 = ⟨#[]⟩ ∧ (d < 2 ∨ 2000 < d ∨ ∃ m : Nat, ((m * m : Nat) : Int) = d)) ∨
 (er = 0 ∧ 2 ≤ d ∧ d ≤ 2000 ∧ (∀ m : Nat, ((m * m : Nat) : Int) ≠ d) ∧ ∃ J, PellAt d J ∧ s1 = strOf (Go.Lib.itoa (cv 0 1 d J).lp) ∧ s2 = strOf (Go.Lib.itoa (cv 0 1 d J).lq))
def RetPl (w : World) (d : Int) (e : Ending) (w' : World) : Prop := ∃ s1 s2 er, e = .returned (.tuple #[.string s1, .string s2, .int .i64 er]) ∧ Hid (OutP d s1 s2 er) ∧ Kp w w'
theorem pellAt_fit {d : Nat} {J : Nat} (hd : d ≤ 2000) (h : PellAt d J) : Ft 115 (cv 0 1 d J).lp ∧ Ft 115 (cv 0 1 d J).lq := by
 have h1 := h.pos
 have := pf_next hd (h.fine (J - 1) (by omega))
 rwa [show J - 1 + 1 = J by omega] at this

set_option maxHeartbeats 3200000 in
set_option maxRecDepth 100000 in
/-- surd.Pell. -/
theorem spell_any (d : Int) (w : World) (ht : Tens w) (HJ : ∀ n : Nat, 2 ≤ n → n ≤ 2000 → (∀ m, m * m ≠ n) → ∃ J, PellAt n J) : Calls Tryd.prog 17 #[.int .i64 d] w (RetPl w d) := by
 by_cases hlo : d < 2
 ·have HO : Hid (OutP d ⟨#[]⟩ ⟨#[]⟩ 5) := Or.inl ⟨rfl, rfl, rfl, Or.inl hlo⟩
  go_enter Tryd.func17, Tryd.ntmps17
  go_wp2_with fail
  refine bodyPost_ret (v := .tuple #[.string ⟨#[]⟩, .string ⟨#[]⟩, .int .i64 5]) (by simp [results, Tryd.results17, go_sem]) rfl ?_
  exact ⟨_, _, _, rfl, HO, Below.refl _ _⟩
 ·by_cases hhi : 2000 < d
  ·have HO : Hid (OutP d ⟨#[]⟩ ⟨#[]⟩ 5) := Or.inl ⟨rfl, rfl, rfl, Or.inr (Or.inl hhi)⟩
   go_enter Tryd.func17, Tryd.ntmps17
   go_wp2_with fail
   refine bodyPost_ret (v := .tuple #[.string ⟨#[]⟩, .string ⟨#[]⟩, .int .i64 5]) (by simp [results, Tryd.results17, go_sem]) rfl ?_
   exact ⟨_, _, _, rfl, HO, Below.refl _ _⟩
  ·obtain ⟨n, rfl⟩ : ∃ n : Nat, d = n := ⟨d.toNat, by omega⟩
   have h2 : 2 ≤ n := by omega
   have hn : n ≤ 2000 := by omega
   have HR := fun W => root_any n W (by omega)
   have HQ := qsqrt_d h2 hn
   have hlo' : ¬ (n : Int) < 2 := hlo
   have hhi' : ¬ 2000 < (n : Int) := hhi
   by_cases hs : ∃ m, m * m = n
   ·have hq1 := HQ.2 hs
    have HO : Hid (OutP n ⟨#[]⟩ ⟨#[]⟩ 5) := by
     obtain ⟨m, hm⟩ := hs
     exact Or.inl ⟨rfl, rfl, rfl, Or.inr (Or.inr ⟨m, by rw [hm]⟩)⟩
    have HRT := Hid.mk (fun (v : Value) (W : World) (hv : XN W v (qsqrt n)) => rational_any (qsqrt n) v W hv)
    rw [decide_eq_true hq1] at HRT
    clear HJ HQ hs hq1
    generalize qsqrt n = a at *
    go_enter Tryd.func17, Tryd.ntmps17
    go_wp2_with fail
    refine (HR _).mono ?_
    rintro e w1 ⟨v1, rfl, hX, hk1⟩
    obtain ⟨b1, ao1, n1, c1, b2, ao2, n2, c2, b3, ao3, n3, c3, rfl, _, _, _⟩ := id hX
    go_wp2_with fail
    refine (HRT.out _ _ (hX.keep (kp_alloc w1 _))).mono ?_
    rintro e w2 ⟨rfl, hk2⟩
    go_wp2_with fail
    refine bodyPost_ret (v := .tuple #[.string ⟨#[]⟩, .string ⟨#[]⟩, .int .i64 5]) (by simp [results, Tryd.results17, go_sem]) rfl ?_
    exact ⟨_, _, _, rfl, HO, (hk1.alloc' _).trans' hk2⟩
   ·have hs' : ∀ m, m * m ≠ n := fun m hm => hs ⟨m, hm⟩
    obtain ⟨J, hJ⟩ := HJ n h2 hn hs'
    have HO : Hid (OutP n (strOf (Go.Lib.itoa (cv 0 1 n J).lp)) (strOf (Go.Lib.itoa (cv 0 1 n J).lq)) 0) := Or.inr ⟨rfl, by omega, by omega, fun m hm => hs' m (by omega), J, hJ, rfl, rfl⟩
    have HRT := Hid.mk (fun (v : Value) (W : World) (hv : XN W v (qsqrt n)) => rational_any (qsqrt n) v W hv)
    rw [decide_eq_false (fun k => hs (HQ.1 k))] at HRT
    have HP := fun W => pell_any n J W h2 hn hs' hJ
    obtain ⟨f1, f2⟩ := pellAt_fit hn hJ
    have HT := Hid.mk (fun (v : Value) (W : World) (hv : FR W v (cv 0 1 n J).lp (cv 0 1 n J).lq) (hT : Tens W) => texts_any _ _ v W hv (f1.fit (by decide)) (f2.fit (by decide)) hT)
    generalize strOf (Go.Lib.itoa (cv 0 1 n J).lp) = S1 at *
    generalize strOf (Go.Lib.itoa (cv 0 1 n J).lq) = S2 at *
    clear HJ HQ hs hs' hJ f1 f2
    generalize qsqrt n = a at *
    go_enter Tryd.func17, Tryd.ntmps17
    go_wp2_with fail
    refine (HR _).mono ?_
    rintro e w1 ⟨v1, rfl, hX, hk1⟩
    obtain ⟨b1, ao1, n1, c1, b2, ao2, n2, c2, b3, ao3, n3, c3, rfl, _, _, _⟩ := id hX
    go_wp2_with fail
    refine (HRT.out _ _ (hX.keep (kp_alloc w1 _))).mono ?_
    rintro e w2 ⟨rfl, hk2⟩
    go_wp2_with fail
    refine (HP _).mono ?_
    rintro e w3 ⟨v3, rfl, hF, hk3⟩
    obtain ⟨b4, ao4, n4, c4, b5, ao5, n5, c5, rfl, g1, g2⟩ := id hF
    have hkw := (((hk1.alloc' (.cells #[.bool b1, .slice ao1 n1 c1, .bool b2, .slice ao2 n2 c2, .bool b3, .slice ao3 n3 c3, .int .i64 a.d] 62)).trans' hk2).trans' hk3).alloc' (.cells #[.bool b4, .slice ao4 n4 c4, .bool b5, .slice ao5 n5 c5] 76)
    have hF2 := hF.soft (Sf.keep (kp_alloc w3 (.cells #[.bool b4, .slice ao4 n4 c4, .bool b5, .slice ao5 n5 c5] 76)))
    have hT2 := HT.out _ _ hF2 (ht.keep hkw)
    clear g1 g2 hF
    go_wp2_with fail
    refine hT2.mono ?_
    rintro e w4 ⟨rfl, hk4⟩
    go_wp2_with fail
    refine bodyPost_ret (v := .tuple #[.string S1, .string S2, .int .i64 0]) (by simp [results, Tryd.results17, go_sem]) rfl ?_
    exact ⟨_, _, _, rfl, HO, hkw.trans' hk4⟩

end Go.Proofs.YtjahbjjekednfabDoor
