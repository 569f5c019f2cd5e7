import Derived.Test.YtjahbjjekednfabDoorN1
namespace Go.Proofs.YtjahbjjekednfabDoor

/-- Pell, the program's way, on plain numbers: the rest (P + √d)/Q, the value of the terms so far and of those without the last. -/
structure PS where
 P : Nat
 Q : Nat
 lp : Nat
 lq : Nat
 ap : Nat
 aq : Nat
def ptm (m : Nat) (s : PS) : Nat := (s.P + m) / s.Q
def pnp (m : Nat) (s : PS) : Nat := ptm m s * s.Q - s.P
def pstep (d m : Nat) (s : PS) : PS := ⟨pnp m s, (d - pnp m s * pnp m s) / s.Q, ptm m s * s.lp + s.ap, ptm m s * s.lq + s.aq, s.lp, s.lq⟩
def pfine (d m : Nat) (s : PS) : Bool := Nat.ble 1 s.Q && (Nat.ble s.P (ptm m s * s.Q) && (Nat.ble (pnp m s * pnp m s + 1) d && (Nat.ble s.lp (10 ^ 100) && (Nat.ble s.lq (10 ^ 100) && (Nat.ble s.ap (10 ^ 100) && Nat.ble s.aq (10 ^ 100))))))
def psolves (d : Nat) (s : PS) : Bool := Nat.beq (s.lp * s.lp) (d * (s.lq * s.lq) + 1)
def prun (d m : Nat) (n : Nat) : PS → Option (Nat × Nat) :=
 Nat.rec (fun _ => none) (fun _ ih s => bif pfine d m s then (bif psolves d (pstep d m s) then some ((pstep d m s).lp, (pstep d m s).lq) else ih (pstep d m s)) else none) n
theorem prun_zero (d m : Nat) (s : PS) : prun d m 0 s = none := rfl
theorem prun_succ (d m n : Nat) (s : PS) : prun d m (n + 1) s = bif pfine d m s then (bif psolves d (pstep d m s) then some ((pstep d m s).lp, (pstep d m s).lq) else prun d m n (pstep d m s)) else none := rfl

/-- The reference's way: the cyclic method. -/
def gapN (t d : Nat) : Nat := (t * t - d) + (d - t * t)
def bst1 (d size x y t b : Nat) : Nat := bif Nat.beq ((x + y * t) % size) 0 then (bif Nat.beq b 0 then t else bif Nat.blt (gapN t d) (gapN b d) then t else b) else b
def bst (d size x y : Nat) (n : Nat) : Nat → Nat → Nat := Nat.rec (fun _ b => b) (fun _ ih t b => ih (t + 1) (bst1 d size x y t b)) n
theorem bst_zero (d size x y t b : Nat) : bst d size x y 0 t b = b := rfl
theorem bst_succ (d size x y n t b : Nat) : bst d size x y (n + 1) t b = bst d size x y n (t + 1) (bst1 d size x y t b) := rfl
def cbest (d a b s : Nat) : Nat := bst d s (a % s) (b % s) (50 + s) 1 0
def cfine (d a b s : Nat) : Bool := Nat.ble 1 s && (Nat.ble s 9000 && (Nat.ble a (10 ^ 100) && (Nat.ble b (10 ^ 100) && Nat.ble (cbest d a b s) 9000)))
def crun (d : Nat) (n : Nat) : Nat → Nat → Int → Option (Nat × Nat) :=
 Nat.rec (fun _ _ _ => none) (fun _ ih a b k => bif decide (k = 1) then some (a, b) else bif cfine d a b k.natAbs then
  ih ((a * cbest d a b k.natAbs + b * d) / k.natAbs) ((a + b * cbest d a b k.natAbs) / k.natAbs) (((cbest d a b k.natAbs : Int) * (cbest d a b k.natAbs : Int) - (d : Int)).tdiv k) else none) n
theorem crun_zero (d a b : Nat) (k : Int) : crun d 0 a b k = none := rfl
theorem crun_succ (d n a b : Nat) (k : Int) : crun d (n + 1) a b k = bif decide (k = 1) then some (a, b) else bif cfine d a b k.natAbs then
  crun d n ((a * cbest d a b k.natAbs + b * d) / k.natAbs) ((a + b * cbest d a b k.natAbs) / k.natAbs) (((cbest d a b k.natAbs : Int) * (cbest d a b k.natAbs : Int) - (d : Int)).tdiv k) else none := rfl
def m0 (d : Nat) : Nat → Nat → Nat
 | 0, m => m
 | n + 1, m => if gapN (m + 1) d < gapN m d then m0 d n (m + 1) else m
def kq (d : Nat) : Nat → Nat → Nat
 | 0, m => m
 | n + 1, m => if (m + 1) * (m + 1) ≤ d then kq d n (m + 1) else m
def same2 : Option (Nat × Nat) → Option (Nat × Nat) → Bool
 | some (x, y), some (u, v) => Nat.beq x u && Nat.beq y v
 | _, _ => false
def pck (d : Nat) : Bool := bif Nat.beq (kq d 50 0 * kq d 50 0) d then true else same2 (prun d (kq d 50 0) 300 ⟨0, 1, 1, 0, 0, 1⟩) (crun d 300 (m0 d 50 1) 1 (((m0 d 50 1 : Nat) : Int) * ((m0 d 50 1 : Nat) : Int) - (d : Int)))
def chkAll : Nat → Nat → Bool
 | 0, _ => true
 | n + 1, d => pck d && chkAll n (d + 1)
theorem chkAll_at : ∀ (n lo d : Nat), chkAll n lo = true → lo ≤ d → d < lo + n → pck d = true
 | 0, lo, d, _, h1, h2 => by omega
 | n + 1, lo, d, h, h1, h2 => by
  unfold chkAll at h
  rw [Bool.and_eq_true] at h
  by_cases e : d = lo
  ·rw [e]; exact h.1
  ·exact chkAll_at n (lo + 1) d h.2 (by omega) (by omega)
theorem kq_ok {d : Nat} : ∀ (n m : Nat), m * m ≤ d → d < (m + n + 1) * (m + n + 1) → kq d n m * kq d n m ≤ d ∧ d < (kq d n m + 1) * (kq d n m + 1)
 | 0, m, h1, h2 => ⟨h1, h2⟩
 | n + 1, m, h1, h2 => by
  unfold kq
  split
  · rename_i h
    exact kq_ok n (m + 1) h (by rw [show m + 1 + n + 1 = m + (n + 1) + 1 by omega]; exact h2)
  · rename_i h
    exact ⟨h1, by omega⟩
theorem same2_eq {a b : Option (Nat × Nat)} (h : same2 a b = true) : ∃ x y, a = some (x, y) ∧ b = some (x, y) := by
 match a, b, h with
 | some (x, y), some (u, v), h =>
  simp only [same2, Bool.and_eq_true] at h
  have h1 := Nat.eq_of_beq_eq_true h.1
  have h2 := Nat.eq_of_beq_eq_true h.2
  subst h1 h2
  exact ⟨x, y, rfl, rfl⟩
 | none, _, h => cases h
 | some _, none, h => cases h
theorem chk_runs {d : Nat} (h : pck d = true) (hd : d ≤ 2000) (hs : ∀ m, m * m ≠ d) : ∃ m x y, m * m ≤ d ∧ d < (m + 1) * (m + 1) ∧ prun d m 300 ⟨0, 1, 1, 0, 0, 1⟩ = some (x, y) ∧ crun d 300 (m0 d 50 1) 1 (((m0 d 50 1 : Nat) : Int) * ((m0 d 50 1 : Nat) : Int) - (d : Int)) = some (x, y) := by
 have h1 := kq_ok (d := d) 50 0 (by omega) (by omega)
 unfold pck at h
 have h2 : Nat.beq (kq d 50 0 * kq d 50 0) d = false := by
  cases e : Nat.beq (kq d 50 0 * kq d 50 0) d with
  | false => rfl
  | true => exact absurd (Nat.eq_of_beq_eq_true e) (hs _)
 rw [h2, cond_false] at h
 obtain ⟨x, y, e1, e2⟩ := same2_eq h
 exact ⟨_, x, y, h1.1, h1.2, e1, e2⟩

end Go.Proofs.YtjahbjjekednfabDoor

namespace Go.Proofs.YtjahbjjekednfabDoor
open Go.RowKit

/-- The value of the first i terms of √d solves x² - dy² = 1. -/
def Slv (d : Int) (i : Nat) : Prop := (cv 0 1 d i).lp * (cv 0 1 d i).lp - (cv 0 1 d i).lq * (cv 0 1 d i).lq * d = 1
structure PFine (d : Int) (i : Nat) : Prop where
 on : 0 < (rst 0 1 d i).2
 p : Ft 10 (rst 0 1 d i).1
 q : Ft 10 (rst 0 1 d i).2
 lp : Ft 101 (cv 0 1 d i).lp
 lq : Ft 101 (cv 0 1 d i).lq
 ap : Ft 101 (cv 0 1 d i).ap
 aq : Ft 101 (cv 0 1 d i).aq
/-- The first such. -/
structure PellAt (d : Int) (J : Nat) : Prop where
 pos : 1 ≤ J
 le : J ≤ 300
 fine : ∀ i, i < J → PFine d i
 no : ∀ i, 1 ≤ i → i < J → ¬ Slv d i
 yes : Slv d J

theorem ft_nat {x m : Nat} (h : x ≤ 10 ^ m) : Ft (m + 1) (x : Int) := by
 unfold Ft
 rw [Int.natAbs_natCast, Nat.pow_succ]
 have : 0 < 10 ^ m := Nat.pow_pos (by decide)
 omega
theorem ft_small {x : Nat} (h : x ≤ 2000) : Ft 10 (x : Int) := by
 unfold Ft
 rw [Int.natAbs_natCast]
 omega
theorem pstep_link {d m : Nat} (h0 : m * m ≤ d) (h1 : d < (m + 1) * (m + 1)) {s : PS} {j : Nat} (hr : rst 0 1 d j = ((s.P : Int), (s.Q : Int))) (hc : cv 0 1 d j = ⟨s.lp, s.lq, s.ap, s.aq⟩)
  (f1 : 1 ≤ s.Q) (f2 : s.P ≤ ptm m s * s.Q) (f3 : pnp m s * pnp m s + 1 ≤ d) :
  rst 0 1 d (j + 1) = (((pstep d m s).P : Int), ((pstep d m s).Q : Int)) ∧ cv 0 1 d (j + 1) = ⟨(pstep d m s).lp, (pstep d m s).lq, (pstep d m s).ap, (pstep d m s).aq⟩ := by
 have ht : trm (s.P : Int) (s.Q : Int) (d : Int) = (ptm m s : Nat) := by
  unfold trm fl ptm
  rw [if_neg (show ¬ ((s.Q : Int) < 0 ∧ 0 < (d : Int)) by omega), if_pos (show (0 : Int) < (s.Q : Int) by omega), Int.toNat_natCast, isq_uni h0 h1]
  simp
 have hp : nxp (s.P : Int) (s.Q : Int) (d : Int) = (pnp m s : Nat) := by
  unfold nxp pnp
  rw [ht, Int.natCast_sub f2, Int.natCast_mul]
 have hq : nxq (s.P : Int) (s.Q : Int) (d : Int) = ((d - pnp m s * pnp m s) / s.Q : Nat) := by
  unfold nxq
  rw [hp, ← Int.natCast_mul, ← Int.natCast_sub (by omega), Int.tdiv_eq_ediv_of_nonneg (Int.natCast_nonneg _), ← Int.natCast_ediv]
 refine ⟨?_, ?_⟩
 ·show (nxp (rst 0 1 d j).1 (rst 0 1 d j).2 d, nxq (rst 0 1 d j).1 (rst 0 1 d j).2 d) = _
  rw [hr]
  show (nxp (s.P : Int) (s.Q : Int) (d : Int), nxq (s.P : Int) (s.Q : Int) (d : Int)) = _
  rw [hp, hq]
  rfl
 ·have htm : tm 0 1 d j = (ptm m s : Nat) := by
   unfold tm
   rw [hr]
   exact ht
  show Cv.mk (tm 0 1 d j * (cv 0 1 d j).lp + (cv 0 1 d j).ap) (tm 0 1 d j * (cv 0 1 d j).lq + (cv 0 1 d j).aq) (cv 0 1 d j).lp (cv 0 1 d j).lq = _
  rw [hc, htm]
  simp [pstep]
theorem prun_link {d m : Nat} (h0 : m * m ≤ d) (h1 : d < (m + 1) * (m + 1)) (hd : d ≤ 2000) : ∀ (k : Nat) (s : PS) (j x y : Nat), rst 0 1 d j = ((s.P : Int), (s.Q : Int)) → cv 0 1 d j = ⟨s.lp, s.lq, s.ap, s.aq⟩ → s.P ≤ 2000 → s.Q ≤ 2000 →
  prun d m k s = some (x, y) → ∃ J, j < J ∧ J ≤ j + k ∧ (∀ i, j ≤ i → i < J → PFine d i) ∧ (∀ i, j < i → i < J → ¬ Slv d i) ∧ Slv d J ∧ (cv 0 1 d J).lp = x ∧ (cv 0 1 d J).lq = y
 | 0, s, j, x, y, _, _, _, _, h => by cases h
 | k + 1, s, j, x, y, hr, hc, b1, b2, h => by
  rw [prun_succ] at h
  cases hf : pfine d m s with
  | false => rw [hf] at h; cases h
  | true =>
   rw [hf, cond_true] at h
   simp only [pfine, Bool.and_eq_true] at hf
   obtain ⟨f1, f2, f3, f4, f5, f6, f7⟩ := hf
   replace f1 := Nat.le_of_ble_eq_true f1
   replace f2 := Nat.le_of_ble_eq_true f2
   replace f3 := Nat.le_of_ble_eq_true f3
   replace f4 := Nat.le_of_ble_eq_true f4
   replace f5 := Nat.le_of_ble_eq_true f5
   replace f6 := Nat.le_of_ble_eq_true f6
   replace f7 := Nat.le_of_ble_eq_true f7
   obtain ⟨hr', hc'⟩ := pstep_link h0 h1 hr hc f1 f2 f3
   have hF : PFine d j := by
    refine ⟨?_, ?_, ?_, ?_, ?_, ?_, ?_⟩
    ·rw [hr]; show (0 : Int) < (s.Q : Int); omega
    ·rw [hr]; exact ft_small b1
    ·rw [hr]; exact ft_small b2
    ·rw [hc]; exact ft_nat f4
    ·rw [hc]; exact ft_nat f5
    ·rw [hc]; exact ft_nat f6
    ·rw [hc]; exact ft_nat f7
   have hS : psolves d (pstep d m s) = true ↔ Slv d (j + 1) := by
    unfold psolves Slv
    rw [hc']
    show _ ↔ ((pstep d m s).lp : Int) * ((pstep d m s).lp : Int) - ((pstep d m s).lq : Int) * ((pstep d m s).lq : Int) * (d : Int) = 1
    rw [← Int.natCast_mul, ← Int.natCast_mul, ← Int.natCast_mul, Nat.mul_comm d]
    constructor
    ·intro e
     have := Nat.eq_of_beq_eq_true e
     omega
    ·intro e
     have e2 : (pstep d m s).lp * (pstep d m s).lp = (pstep d m s).lq * (pstep d m s).lq * d + 1 := by omega
     rw [e2]
     exact Nat.beq_refl _
   cases hp : psolves d (pstep d m s) with
   | true =>
    rw [hp, cond_true] at h
    simp only [Option.some.injEq, Prod.mk.injEq] at h
    refine ⟨j + 1, by omega, by omega, fun i h2 h3 => ?_, fun i h2 h3 => ?_, hS.1 hp, ?_, ?_⟩
    ·rw [show i = j by omega]; exact hF
    ·omega
    ·rw [hc', ← h.1]
    ·rw [hc', ← h.2]
   | false =>
    rw [hp, cond_false] at h
    have b3 : (pstep d m s).P ≤ 2000 := by
     show pnp m s ≤ 2000
     have := Nat.le_mul_self (pnp m s)
     omega
    have b4 : (pstep d m s).Q ≤ 2000 := by
     show (d - pnp m s * pnp m s) / s.Q ≤ 2000
     have := Nat.div_le_self (d - pnp m s * pnp m s) s.Q
     omega
    obtain ⟨J, k1, k2, k3, k4, k5, k6, k7⟩ := prun_link h0 h1 hd k (pstep d m s) (j + 1) x y hr' hc' b3 b4 h
    refine ⟨J, by omega, by omega, fun i h2 h3 => ?_, fun i h2 h3 => ?_, k5, k6, k7⟩
    ·by_cases e : i = j
     ·rw [e]; exact hF
     ·exact k3 i (by omega) h3
    ·by_cases e : i = j + 1
     ·rw [e]
      intro q
      rw [hS.2 q] at hp
      cases hp
     ·exact k4 i (by omega) h3
theorem pell_link {d m x y : Nat} (h0 : m * m ≤ d) (h1 : d < (m + 1) * (m + 1)) (hd : d ≤ 2000) (h : prun d m 300 ⟨0, 1, 1, 0, 0, 1⟩ = some (x, y)) : ∃ J, PellAt d J ∧ (cv 0 1 d J).lp = x ∧ (cv 0 1 d J).lq = y := by
 obtain ⟨J, k1, k2, k3, k4, k5, k6, k7⟩ := prun_link h0 h1 hd 300 ⟨0, 1, 1, 0, 0, 1⟩ 0 x y rfl rfl (by decide) (by decide) h
 exact ⟨J, ⟨by omega, by omega, fun i hi => k3 i (Nat.zero_le _) hi, fun i h1 h2 => k4 i (by omega) h2, k5⟩, k6, k7⟩

end Go.Proofs.YtjahbjjekednfabDoor
