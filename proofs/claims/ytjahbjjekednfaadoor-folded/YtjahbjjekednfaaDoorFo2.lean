import Derived.Test.YtjahbjjekednfaaDoorFo
import Derived.Test.YtjahbjjekednfaaDoorDr
namespace Go.Proofs.YtjahbjjekednfaaDoor
open Go.RowKit

theorem one_text : (⟨#[49]⟩ : ByteArray) = strOf (Go.Lib.itoa 1) := by kernel_rfl
theorem text_len {a : Qn} {m : Nat} (h : 0 < a.r) (f : QF (m + 1) a) : (strOf (Go.Lib.itoa a.r)).size ≤ m + 1 := by
 rw [strOf_size]
 unfold Go.Lib.itoa
 rw [if_neg (by omega)]
 refine dec_le ?_
 have := f.2.2
 unfold Ft at this
 omega
/-- surdkeep.Folded. -/
theorem folded_any (s : ByteArray) (k : Int) (w : World) (hk0 : -9223372036854775808 ≤ k) (hk1 : k ≤ 9223372036854775807) (ht : Tens w) : Calls Tryd.prog 6 #[.string s, .int .i64 k] w (RetV w (.bool true)) := by
 obtain ⟨r, hr⟩ := rk_all s
 have pb := pk_bd k (show (0 : Int) < 100 by decide)
 have HPk : Hid (∀ W, Calls Tryd.prog 19 #[.int .i64 k, .int .i64 100] W (RetV W (.int .i64 (pk k 100)))) := fun W => pick_any k 100 W hk0 hk1 (by decide) (by decide)
 generalize pk k 100 = n at *
 obtain ⟨m, rfl⟩ := Int.eq_ofNat_of_zero_le pb.1
 have hm1 : ((m + 1 : Nat) : Int) = (m : Int) + 1 := by omega
 by_cases he : r.e = 0
 ·have hcn := rk_cn hr he
  obtain ⟨K, hK⟩ := exq_ex (p0 r.v) (q0 r.v) (n0 r.v) (m + 1)
  obtain ⟨M, hM⟩ := exq_ex (p0 r.v) (q0 r.v) (n0 r.v) m
  obtain ⟨f1, f2, f3, f4, f5, f6, f7⟩ := folds hcn hK hM
  have HV : Hid (∀ W, Tens W → Calls Tryd.prog 9 #[.string s] W (RetV W (.tuple #[.agg #[.string (strOf (Go.Lib.itoa r.v.p)), .string (strOf (Go.Lib.itoa r.v.q)), .string (strOf (Go.Lib.itoa r.v.r)), .int .i64 r.v.d], .int .i64 0]))) := fun W hT => by
   have h1 := sval_any s r W hr hT
   have h2 : valV r = formV r.v := if_pos he
   rw [h2, he] at h1
   exact h1
  have HT1 := fun (W : World) (hT : Tens W) => terms_row hr he (by omega) hK W hT
  have HT2 := fun (W : World) (hT : Tens W) => terms_row hr he (by omega) hM W hT
  rw [hm1] at HT1
  have hd0 := hcn.ok.d0
  refine fo_main s k m _ _ _ r.v.d _ _ (tx r.v) K M w (by omega) f1 f2 (by have := hK.le; omega) (Nat.le_trans (text_len (m := 1099999) hcn.ok.r (rk_size hr he)) (by decide)) ?_ ?_ ?_ ?_ alive_any ht HV HPk HT1 HT2
  ·intro i hi1 hi2 W
   have h1 := f3 (i - 1) (by omega)
   rw [show i - 1 + 1 = i by omega] at h1
   obtain ⟨t1, t2, t3⟩ := text_pos h1
   exact positive_any _ W t1 t2 t3
  ·by_cases z : (rs r.v M).2 = 0
   ·have e := f4 z
    subst e
    exact Or.inl ⟨decide_eq_true z, decide_eq_true z, rfl, (f7 z).1⟩
   ·obtain ⟨e1, e2⟩ := f5 z
    by_cases z2 : (rs r.v K).2 = 0
    ·exact Or.inr (Or.inl ⟨decide_eq_false z, decide_eq_true z2, e1, e2, (f7 z2).1⟩)
    ·refine Or.inr (Or.inr ⟨decide_eq_false z, decide_eq_false z2, e1, e2, ?_⟩)
     by_cases hd : r.v.d = 1
     ·exact Or.inr ((f6 z2).2 hd _ (len_pow hcn.ok.r))
     ·exact Or.inl (by omega)
  ·intro ha
   have z := of_decide_eq_true ha
   by_cases h1 : 1 < K
   ·refine Or.inr fun e => (f7 z).2.2.2 h1 ?_
    rw [one_text] at e
    exact numT_uni (s := strOf (Go.Lib.itoa (tm (p0 r.v) (q0 r.v) (n0 r.v) (K - 1)))) rfl e
   ·exact Or.inl (by omega)
  ·intro ha W hT
   have z := of_decide_eq_true ha
   obtain ⟨_, g2, g3, _⟩ := f7 z
   have := snear_any s m r _ _ _ W hr (by omega) (by omega) (Or.inr (Or.inr ⟨he, by omega, by omega, K, by rw [Int.toNat_natCast]; exact hK, rfl, rfl, rfl⟩)) hT
   rw [g2, g3] at this
   exact this
 ·have HV : Hid (∀ W, Tens W → Calls Tryd.prog 9 #[.string s] W (RetV W (.tuple #[.agg #[.string ⟨#[]⟩, .string ⟨#[]⟩, .string ⟨#[]⟩, .int .i64 0], .int .i64 r.e]))) := fun W hT => by
   have h1 := sval_any s r W hr hT
   have h2 : valV r = noV := if_neg he
   rw [h2] at h1
   exact h1
  have HT : ∀ (N : Int), 0 ≤ N → N ≤ 100 → ∀ W, Tens W → Calls Tryd.prog 20 #[.string s, .int .i64 N] W (fun e w' => ∃ v, e = .returned (.tuple #[v, .bool false, .int .i64 r.e]) ∧ RowT w' v (tx r.v) 0 ∧ Kp W w') := fun N n0 n1 W hT =>
   (sterms_any s N r _ _ _ W hr (by omega) (by omega) (Or.inl ⟨he, rfl, rfl, rfl⟩) hT).mono fun e w' ⟨v, h1, h2, h3⟩ => ⟨v, h1, RowT.of_owns (K := 0) h2, h3⟩
  exact fo_err s k m r.e _ _ _ 0 false false (tx r.v) 0 0 w (by omega) (by simp [he]) rfl rfl rfl alive_any ht HV HPk (HT _ (by omega) (by omega)) (HT _ (by omega) (by omega))

end Go.Proofs.YtjahbjjekednfaaDoor
