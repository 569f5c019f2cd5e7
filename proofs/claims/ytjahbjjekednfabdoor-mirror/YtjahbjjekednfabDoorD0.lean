
namespace Go.Proofs.YtjahbjjekednfabDoor

/-- Pell, the program's way, on plain numbers: the rest (P + √d)/Q, the value of the terms so far and of those without the last. -/
structure PS where
 P : Nat
 Q : Nat
 lp : Nat
 lq : Nat
 ap : Nat
 aq : Nat
def ptm (m : Nat) (s : PS) : Nat := (s.P + m) / s.Q
def pnp (m : Nat) (s : PS) : Nat := ptm m s * s.Q - s.P
def pstep (d m : Nat) (s : PS) : PS := ⟨pnp m s, (d - pnp m s * pnp m s) / s.Q, ptm m s * s.lp + s.ap, ptm m s * s.lq + s.aq, s.lp, s.lq⟩
def pfine (d m : Nat) (s : PS) : Bool := Nat.ble 1 s.Q && (Nat.ble s.P (ptm m s * s.Q) && (Nat.ble (pnp m s * pnp m s + 1) d && (Nat.ble s.lp (10 ^ 100) && (Nat.ble s.lq (10 ^ 100) && (Nat.ble s.ap (10 ^ 100) && Nat.ble s.aq (10 ^ 100))))))
def psolves (d : Nat) (s : PS) : Bool := Nat.beq (s.lp * s.lp) (d * (s.lq * s.lq) + 1)
def prun (d m : Nat) (n : Nat) : PS → Option (Nat × Nat) :=
 Nat.rec (fun _ => none) (fun _ ih s => bif pfine d m s then (bif psolves d (pstep d m s) then some ((pstep d m s).lp, (pstep d m s).lq) else ih (pstep d m s)) else none) n
theorem prun_zero (d m : Nat) (s : PS) : prun d m 0 s = none := rfl
theorem prun_succ (d m n : Nat) (s : PS) : prun d m (n + 1) s = bif pfine d m s then (bif psolves d (pstep d m s) then some ((pstep d m s).lp, (pstep d m s).lq) else prun d m n (pstep d m s)) else none := rfl

/-- The reference's way: the cyclic method. -/
def gapN (t d : Nat) : Nat := (t * t - d) + (d - t * t)
def bst1 (d size x y t b : Nat) : Nat := bif Nat.beq ((x + y * t) % size) 0 then (bif Nat.beq b 0 then t else bif Nat.blt (gapN t d) (gapN b d) then t else b) else b
def bst (d size x y : Nat) (n : Nat) : Nat → Nat → Nat := Nat.rec (fun _ b => b) (fun _ ih t b => ih (t + 1) (bst1 d size x y t b)) n
theorem bst_zero (d size x y t b : Nat) : bst d size x y 0 t b = b := rfl
theorem bst_succ (d size x y n t b : Nat) : bst d size x y (n + 1) t b = bst d size x y n (t + 1) (bst1 d size x y t b) := rfl
def cbest (d a b s : Nat) : Nat := bst d s (a % s) (b % s) (50 + s) 1 0
def cfine (d a b s : Nat) : Bool := Nat.ble 1 s && (Nat.ble s 9000 && (Nat.ble a (10 ^ 100) && (Nat.ble b (10 ^ 100) && Nat.ble (cbest d a b s) 9000)))
def crun (d : Nat) (n : Nat) : Nat → Nat → Int → Option (Nat × Nat) :=
 Nat.rec (fun _ _ _ => none) (fun _ ih a b k => bif decide (k = 1) then some (a, b) else bif cfine d a b k.natAbs then
  ih ((a * cbest d a b k.natAbs + b * d) / k.natAbs) ((a + b * cbest d a b k.natAbs) / k.natAbs) (((cbest d a b k.natAbs : Int) * (cbest d a b k.natAbs : Int) - (d : Int)).tdiv k) else none) n
theorem crun_zero (d a b : Nat) (k : Int) : crun d 0 a b k = none := rfl
theorem crun_succ (d n a b : Nat) (k : Int) : crun d (n + 1) a b k = bif decide (k = 1) then some (a, b) else bif cfine d a b k.natAbs then
  crun d n ((a * cbest d a b k.natAbs + b * d) / k.natAbs) ((a + b * cbest d a b k.natAbs) / k.natAbs) (((cbest d a b k.natAbs : Int) * (cbest d a b k.natAbs : Int) - (d : Int)).tdiv k) else none := rfl
def m0 (d : Nat) : Nat → Nat → Nat
 | 0, m => m
 | n + 1, m => if gapN (m + 1) d < gapN m d then m0 d n (m + 1) else m
def kq (d : Nat) : Nat → Nat → Nat
 | 0, m => m
 | n + 1, m => if (m + 1) * (m + 1) ≤ d then kq d n (m + 1) else m
def same2 : Option (Nat × Nat) → Option (Nat × Nat) → Bool
 | some (x, y), some (u, v) => Nat.beq x u && Nat.beq y v
 | _, _ => false
def pck (d : Nat) : Bool := bif Nat.beq (kq d 50 0 * kq d 50 0) d then true else same2 (prun d (kq d 50 0) 300 ⟨0, 1, 1, 0, 0, 1⟩) (crun d 300 (m0 d 50 1) 1 (((m0 d 50 1 : Nat) : Int) * ((m0 d 50 1 : Nat) : Int) - (d : Int)))
def chkAll : Nat → Nat → Bool
 | 0, _ => true
 | n + 1, d => pck d && chkAll n (d + 1)
theorem chkAll_at : ∀ (n lo d : Nat), chkAll n lo = true → lo ≤ d → d < lo + n → pck d = true
 | 0, lo, d, _, h1, h2 => by omega
 | n + 1, lo, d, h, h1, h2 => by
  unfold chkAll at h
  rw [Bool.and_eq_true] at h
  by_cases e : d = lo
  ·rw [e]; exact h.1
  ·exact chkAll_at n (lo + 1) d h.2 (by omega) (by omega)
theorem kq_ok {d : Nat} : ∀ (n m : Nat), m * m ≤ d → d < (m + n + 1) * (m + n + 1) → kq d n m * kq d n m ≤ d ∧ d < (kq d n m + 1) * (kq d n m + 1)
 | 0, m, h1, h2 => ⟨h1, h2⟩
 | n + 1, m, h1, h2 => by
  unfold kq
  split
  · rename_i h
    exact kq_ok n (m + 1) h (by rw [show m + 1 + n + 1 = m + (n + 1) + 1 by omega]; exact h2)
  · rename_i h
    exact ⟨h1, by omega⟩
theorem same2_eq {a b : Option (Nat × Nat)} (h : same2 a b = true) : ∃ x y, a = some (x, y) ∧ b = some (x, y) := by
 match a, b, h with
 | some (x, y), some (u, v), h =>
  simp only [same2, Bool.and_eq_true] at h
  have h1 := Nat.eq_of_beq_eq_true h.1
  have h2 := Nat.eq_of_beq_eq_true h.2
  subst h1 h2
  exact ⟨x, y, rfl, rfl⟩
 | none, _, h => cases h
 | some _, none, h => cases h
theorem chk_runs {d : Nat} (h : pck d = true) (hd : d ≤ 2000) (hs : ∀ m, m * m ≠ d) : ∃ m x y, m * m ≤ d ∧ d < (m + 1) * (m + 1) ∧ prun d m 300 ⟨0, 1, 1, 0, 0, 1⟩ = some (x, y) ∧ crun d 300 (m0 d 50 1) 1 (((m0 d 50 1 : Nat) : Int) * ((m0 d 50 1 : Nat) : Int) - (d : Int)) = some (x, y) := by
 have h1 := kq_ok (d := d) 50 0 (by omega) (by omega)
 unfold pck at h
 have h2 : Nat.beq (kq d 50 0 * kq d 50 0) d = false := by
  cases e : Nat.beq (kq d 50 0 * kq d 50 0) d with
  | false => rfl
  | true => exact absurd (Nat.eq_of_beq_eq_true e) (hs _)
 rw [h2, cond_false] at h
 obtain ⟨x, y, e1, e2⟩ := same2_eq h
 exact ⟨_, x, y, h1.1, h1.2, e1, e2⟩

end Go.Proofs.YtjahbjjekednfabDoor
