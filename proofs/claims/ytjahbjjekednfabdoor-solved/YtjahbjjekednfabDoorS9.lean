import Derived.Test.YtjahbjjekednfabDoorK2
import Derived.Test.YtjahbjjekednfabDoorS8
import Derived.Test.YtjahbjjekednfabDoorD4
namespace Go.Proofs.YtjahbjjekednfabDoor
open Go.RowKit

theorem lq_pos {d m : Nat} (m1 : 1 ≤ m) (h0 : m * m < d) (h1 : d < (m + 1) * (m + 1)) : ∀ k, 1 ≤ (cv 0 1 d (k + 1)).lq
 | 0 => by
  show 1 ≤ tm 0 1 d 0 * 0 + 1
  omega
 | k + 1 => by
  have ih := lq_pos m1 h0 h1 k
  have t1 := rdc_tm m1 h0 h1 (k + 1)
  have a2 := (rdc_lq m1 h0 h1 (k + 1)).2.1
  show 1 ≤ tm 0 1 d (k + 1) * (cv 0 1 d (k + 1)).lq + (cv 0 1 d (k + 1)).aq
  have : 1 * 1 ≤ tm 0 1 d (k + 1) * (cv 0 1 d (k + 1)).lq := Int.mul_le_mul t1 ih (by omega) (by omega)
  omega
theorem pell_facts {d m J : Nat} (m1 : 1 ≤ m) (h0 : m * m < d) (h1 : d < (m + 1) * (m + 1)) (hJ : PellAt d J) : 1 ≤ (cv 0 1 d J).lp ∧ 1 ≤ (cv 0 1 d J).lq ∧ (cv 0 1 d J).lp * (cv 0 1 d J).lp = d * ((cv 0 1 d J).lq * (cv 0 1 d J).lq) + 1 ∧
  ∀ k r : Nat, 1 ≤ k → (k : Int) < (cv 0 1 d J).lq → (r : Int) * r ≠ d * k * k + 1 := by
 have hy := hJ.yes
 unfold Slv at hy
 have hq : 1 ≤ (cv 0 1 d J).lq := by
  have := lq_pos m1 h0 h1 (J - 1)
  rwa [show J - 1 + 1 = J by have := hJ.pos; omega] at this
 have hp := (rdc_lq m1 h0 h1 J).2.2.1
 have he : (cv 0 1 d J).lp * (cv 0 1 d J).lp = d * ((cv 0 1 d J).lq * (cv 0 1 d J).lq) + 1 := by grind
 refine ⟨?_, hq, he, fun k r hk hlt e => ?_⟩
 ·refine Int.not_lt.1 fun hc => ?_
  have h2 : (cv 0 1 d J).lp = 0 := by omega
  rw [h2] at he
  have h3 : 0 ≤ (d : Int) * ((cv 0 1 d J).lq * (cv 0 1 d J).lq) := Int.mul_nonneg (by omega) (Int.mul_nonneg (by omega) (by omega))
  omega
 ·have hr : 1 ≤ (r : Int) := by
   refine Int.not_lt.1 fun hc => ?_
   have h2 : (r : Int) = 0 := by omega
   rw [h2] at e
   have h3 : 0 ≤ (d : Int) * k * k := Int.mul_nonneg (Int.mul_nonneg (by omega) (by omega)) (by omega)
   omega
  have := pell_least m1 h0 h1 hJ (x := r) (y := k) hr (by omega) (by rw [e]; grind)
  omega
theorem dec_len {u k : Nat} (h : u < 10 ^ (k + 1)) : (Go.Lib.decDigits u).length ≤ k + 1 := by
 obtain ⟨j, hj, _⟩ := pad_dec k u h
 omega
/-- What the text of a number above 0 is. -/
theorem num_text {z : Int} {k : Nat} (hz : 1 ≤ z) (hk : Ft (k + 1) z) : Digs (bl (strOf (Go.Lib.itoa z))) ∧ 1 ≤ (strOf (Go.Lib.itoa z)).size ∧ (strOf (Go.Lib.itoa z)).size ≤ k + 1 ∧ byteAt (strOf (Go.Lib.itoa z)) 0 ≠ 48 ∧ val 10 (dgs (strOf (Go.Lib.itoa z)) (strOf (Go.Lib.itoa z)).size) = z := by
 have hl : (strOf (Go.Lib.itoa z)).size ≤ k + 1 := by
  rw [strOf_size]
  unfold Go.Lib.itoa
  rw [if_neg (by omega)]
  refine dec_len ?_
  unfold Ft at hk
  omega
 have hn : NumT (strOf (Go.Lib.itoa z)) z := rfl
 generalize Go.Lib.itoa z = t at *
 rcases numT_of hn with ⟨_, h2, h3⟩ | ⟨h2, _⟩
 ·rcases h2 with rfl | ⟨h4, h5, h6⟩
  ·have : decN (bi [48]) = 0 := by decide
   omega
  ·have hs : (strOf t).size = t.length := strOf_size t
   have hp : 1 ≤ t.length := List.length_pos_iff.2 h4
   refine ⟨h5, by omega, hl, ?_, ?_⟩
   ·intro e
    apply h6
    rw [byteAt_bl, bl_strOf] at e
    cases t with
    | nil => exact absurd rfl h4
    | cons c t =>
     have e2 : (c.toNat : Int) = 48 := e
     have e3 : c.toNat = 48 := by omega
     show some c = some 48
     rw [show c = 48 from UInt8.toNat_inj.1 e3]
   ·rw [dgs_val _ (Nat.le_refl _), Nat.sub_self, List.drop_zero, bl_strOf]
    exact h3.symm
 ·omega

end Go.Proofs.YtjahbjjekednfabDoor
