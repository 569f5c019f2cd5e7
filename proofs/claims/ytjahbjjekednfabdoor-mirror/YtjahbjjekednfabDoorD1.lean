import Derived.Test.YtjahbjjekednfabDoorN1
import Derived.Test.YtjahbjjekednfabDoorD0
namespace Go.Proofs.YtjahbjjekednfabDoor
open Go.RowKit

/-- The value of the first i terms of √d solves x² - dy² = 1. -/
def Slv (d : Int) (i : Nat) : Prop := (cv 0 1 d i).lp * (cv 0 1 d i).lp - (cv 0 1 d i).lq * (cv 0 1 d i).lq * d = 1
structure PFine (d : Int) (i : Nat) : Prop where
 on : 0 < (rst 0 1 d i).2
 p : Ft 10 (rst 0 1 d i).1
 q : Ft 10 (rst 0 1 d i).2
 lp : Ft 101 (cv 0 1 d i).lp
 lq : Ft 101 (cv 0 1 d i).lq
 ap : Ft 101 (cv 0 1 d i).ap
 aq : Ft 101 (cv 0 1 d i).aq
/-- The first such. -/
structure PellAt (d : Int) (J : Nat) : Prop where
 pos : 1 ≤ J
 le : J ≤ 300
 fine : ∀ i, i < J → PFine d i
 no : ∀ i, 1 ≤ i → i < J → ¬ Slv d i
 yes : Slv d J

theorem ft_nat {x m : Nat} (h : x ≤ 10 ^ m) : Ft (m + 1) (x : Int) := by
 unfold Ft
 rw [Int.natAbs_natCast, Nat.pow_succ]
 have : 0 < 10 ^ m := Nat.pow_pos (by decide)
 omega
theorem ft_small {x : Nat} (h : x ≤ 2000) : Ft 10 (x : Int) := by
 unfold Ft
 rw [Int.natAbs_natCast]
 omega
theorem pstep_link {d m : Nat} (h0 : m * m ≤ d) (h1 : d < (m + 1) * (m + 1)) {s : PS} {j : Nat} (hr : rst 0 1 d j = ((s.P : Int), (s.Q : Int))) (hc : cv 0 1 d j = ⟨s.lp, s.lq, s.ap, s.aq⟩)
  (f1 : 1 ≤ s.Q) (f2 : s.P ≤ ptm m s * s.Q) (f3 : pnp m s * pnp m s + 1 ≤ d) :
  rst 0 1 d (j + 1) = (((pstep d m s).P : Int), ((pstep d m s).Q : Int)) ∧ cv 0 1 d (j + 1) = ⟨(pstep d m s).lp, (pstep d m s).lq, (pstep d m s).ap, (pstep d m s).aq⟩ := by
 have ht : trm (s.P : Int) (s.Q : Int) (d : Int) = (ptm m s : Nat) := by
  unfold trm fl ptm
  rw [if_neg (show ¬ ((s.Q : Int) < 0 ∧ 0 < (d : Int)) by omega), if_pos (show (0 : Int) < (s.Q : Int) by omega), Int.toNat_natCast, isq_uni h0 h1]
  simp
 have hp : nxp (s.P : Int) (s.Q : Int) (d : Int) = (pnp m s : Nat) := by
  unfold nxp pnp
  rw [ht, Int.natCast_sub f2, Int.natCast_mul]
 have hq : nxq (s.P : Int) (s.Q : Int) (d : Int) = ((d - pnp m s * pnp m s) / s.Q : Nat) := by
  unfold nxq
  rw [hp, ← Int.natCast_mul, ← Int.natCast_sub (by omega), Int.tdiv_eq_ediv_of_nonneg (Int.natCast_nonneg _), ← Int.natCast_ediv]
 refine ⟨?_, ?_⟩
 ·show (nxp (rst 0 1 d j).1 (rst 0 1 d j).2 d, nxq (rst 0 1 d j).1 (rst 0 1 d j).2 d) = _
  rw [hr]
  show (nxp (s.P : Int) (s.Q : Int) (d : Int), nxq (s.P : Int) (s.Q : Int) (d : Int)) = _
  rw [hp, hq]
  rfl
 ·have htm : tm 0 1 d j = (ptm m s : Nat) := by
   unfold tm
   rw [hr]
   exact ht
  show Cv.mk (tm 0 1 d j * (cv 0 1 d j).lp + (cv 0 1 d j).ap) (tm 0 1 d j * (cv 0 1 d j).lq + (cv 0 1 d j).aq) (cv 0 1 d j).lp (cv 0 1 d j).lq = _
  rw [hc, htm]
  simp [pstep]
theorem prun_link {d m : Nat} (h0 : m * m ≤ d) (h1 : d < (m + 1) * (m + 1)) (hd : d ≤ 2000) : ∀ (k : Nat) (s : PS) (j x y : Nat), rst 0 1 d j = ((s.P : Int), (s.Q : Int)) → cv 0 1 d j = ⟨s.lp, s.lq, s.ap, s.aq⟩ → s.P ≤ 2000 → s.Q ≤ 2000 →
  prun d m k s = some (x, y) → ∃ J, j < J ∧ J ≤ j + k ∧ (∀ i, j ≤ i → i < J → PFine d i) ∧ (∀ i, j < i → i < J → ¬ Slv d i) ∧ Slv d J ∧ (cv 0 1 d J).lp = x ∧ (cv 0 1 d J).lq = y
 | 0, s, j, x, y, _, _, _, _, h => by cases h
 | k + 1, s, j, x, y, hr, hc, b1, b2, h => by
  rw [prun_succ] at h
  cases hf : pfine d m s with
  | false => rw [hf] at h; cases h
  | true =>
   rw [hf, cond_true] at h
   simp only [pfine, Bool.and_eq_true] at hf
   obtain ⟨f1, f2, f3, f4, f5, f6, f7⟩ := hf
   replace f1 := Nat.le_of_ble_eq_true f1
   replace f2 := Nat.le_of_ble_eq_true f2
   replace f3 := Nat.le_of_ble_eq_true f3
   replace f4 := Nat.le_of_ble_eq_true f4
   replace f5 := Nat.le_of_ble_eq_true f5
   replace f6 := Nat.le_of_ble_eq_true f6
   replace f7 := Nat.le_of_ble_eq_true f7
   obtain ⟨hr', hc'⟩ := pstep_link h0 h1 hr hc f1 f2 f3
   have hF : PFine d j := by
    refine ⟨?_, ?_, ?_, ?_, ?_, ?_, ?_⟩
    ·rw [hr]; show (0 : Int) < (s.Q : Int); omega
    ·rw [hr]; exact ft_small b1
    ·rw [hr]; exact ft_small b2
    ·rw [hc]; exact ft_nat f4
    ·rw [hc]; exact ft_nat f5
    ·rw [hc]; exact ft_nat f6
    ·rw [hc]; exact ft_nat f7
   have hS : psolves d (pstep d m s) = true ↔ Slv d (j + 1) := by
    unfold psolves Slv
    rw [hc']
    show _ ↔ ((pstep d m s).lp : Int) * ((pstep d m s).lp : Int) - ((pstep d m s).lq : Int) * ((pstep d m s).lq : Int) * (d : Int) = 1
    rw [← Int.natCast_mul, ← Int.natCast_mul, ← Int.natCast_mul, Nat.mul_comm d]
    constructor
    ·intro e
     have := Nat.eq_of_beq_eq_true e
     omega
    ·intro e
     have e2 : (pstep d m s).lp * (pstep d m s).lp = (pstep d m s).lq * (pstep d m s).lq * d + 1 := by omega
     rw [e2]
     exact Nat.beq_refl _
   cases hp : psolves d (pstep d m s) with
   | true =>
    rw [hp, cond_true] at h
    simp only [Option.some.injEq, Prod.mk.injEq] at h
    refine ⟨j + 1, by omega, by omega, fun i h2 h3 => ?_, fun i h2 h3 => ?_, hS.1 hp, ?_, ?_⟩
    ·rw [show i = j by omega]; exact hF
    ·omega
    ·rw [hc', ← h.1]
    ·rw [hc', ← h.2]
   | false =>
    rw [hp, cond_false] at h
    have b3 : (pstep d m s).P ≤ 2000 := by
     show pnp m s ≤ 2000
     have := Nat.le_mul_self (pnp m s)
     omega
    have b4 : (pstep d m s).Q ≤ 2000 := by
     show (d - pnp m s * pnp m s) / s.Q ≤ 2000
     have := Nat.div_le_self (d - pnp m s * pnp m s) s.Q
     omega
    obtain ⟨J, k1, k2, k3, k4, k5, k6, k7⟩ := prun_link h0 h1 hd k (pstep d m s) (j + 1) x y hr' hc' b3 b4 h
    refine ⟨J, by omega, by omega, fun i h2 h3 => ?_, fun i h2 h3 => ?_, k5, k6, k7⟩
    ·by_cases e : i = j
     ·rw [e]; exact hF
     ·exact k3 i (by omega) h3
    ·by_cases e : i = j + 1
     ·rw [e]
      intro q
      rw [hS.2 q] at hp
      cases hp
     ·exact k4 i (by omega) h3
theorem pell_link {d m x y : Nat} (h0 : m * m ≤ d) (h1 : d < (m + 1) * (m + 1)) (hd : d ≤ 2000) (h : prun d m 300 ⟨0, 1, 1, 0, 0, 1⟩ = some (x, y)) : ∃ J, PellAt d J ∧ (cv 0 1 d J).lp = x ∧ (cv 0 1 d J).lq = y := by
 obtain ⟨J, k1, k2, k3, k4, k5, k6, k7⟩ := prun_link h0 h1 hd 300 ⟨0, 1, 1, 0, 0, 1⟩ 0 x y rfl rfl (by decide) (by decide) h
 exact ⟨J, ⟨by omega, by omega, fun i hi => k3 i (Nat.zero_le _) hi, fun i h1 h2 => k4 i (by omega) h2, k5⟩, k6, k7⟩

end Go.Proofs.YtjahbjjekednfabDoor
