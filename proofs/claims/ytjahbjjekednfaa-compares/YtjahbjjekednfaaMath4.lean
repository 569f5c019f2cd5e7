import Derived.Test.YtjahbjjekednfaaMath
/-! Digits made clean. -/
namespace Go.Proofs.Ytjahbjjekednfaa

def madO (low : List Int) : Nat → Int
 | 0 => 0
 | k + 1 => (madO low k + at0 low k) / 10000
def madC (low : List Int) : Nat → List Int
 | 0 => []
 | k + 1 => madC low k ++ [(madO low k + at0 low k) % 10000]
theorem madO_succ (low : List Int) (k : Nat) : madO low (k + 1) = (madO low k + at0 low k) / 10000 := rfl
theorem madC_succ (low : List Int) (k : Nat) : madC low (k + 1) = madC low k ++ [(madO low k + at0 low k) % 10000] := rfl
theorem madC_length (low : List Int) : ∀ k, (madC low k).length = k
 | 0 => rfl
 | k + 1 => by rw [madC_succ, List.length_append, madC_length low k]; rfl
theorem madC_dig (low : List Int) : ∀ k, Dig 10000 (madC low k)
 | 0 => Dig.nil (by decide)
 | k + 1 => (madC_dig low k).snoc ⟨Int.emod_nonneg _ (by decide), Int.emod_lt_of_pos _ (by decide)⟩

/-- Each of them from -M to M, M = 4·10^18. -/
def Mid (low : List Int) : Prop := ∀ i, -4000000000000000000 ≤ at0 low i ∧ at0 low i ≤ 4000000000000000000
theorem madO_bd {low : List Int} (h : Mid low) : ∀ k, -1000000000000000 ≤ madO low k ∧ madO low k ≤ 1000000000000000
 | 0 => by simp [madO]
 | k + 1 => by
  have ih := madO_bd h k
  have h1 := h k
  rw [madO_succ]
  omega
theorem mad_val (low : List Int) : ∀ k, val 10000 (madC low k) + 10000 ^ k * madO low k = val 10000 (low.take k)
 | 0 => by simp [madC, madO, val]
 | k + 1 => by
  have ih := mad_val low k
  rw [madC_succ, madO_succ, val_snoc, madC_length, val_take_succ, Int.pow_succ]
  have e := Int.mul_ediv_add_emod (madO low k + at0 low k) 10000
  generalize (madO low k + at0 low k) / 10000 = q at *
  generalize (madO low k + at0 low k) % 10000 = r at *
  grind
theorem madO_nn {low : List Int} (h : 0 ≤ val 10000 low) {k : Nat} (hk : low.length ≤ k) : 0 ≤ madO low k := by
 have e := mad_val low k
 rw [List.take_of_length_le hk] at e
 have h1 := (madC_dig low k).val_lt (by decide)
 rw [madC_length] at h1
 rcases Int.lt_or_le (madO low k) 0 with h2 | h2
 ·exfalso
  have h3 : (10000 : Int) ^ k * madO low k ≤ 10000 ^ k * (-1) := Int.mul_le_mul_of_nonneg_left (by omega) (Int.le_of_lt (pow_pos' (by decide) _))
  omega
 ·exact h2
theorem madO_end {low : List Int} (h : 0 ≤ val 10000 low) (hm : Mid low) {k : Nat} (hk : low.length + 4 ≤ k) : madO low k = 0 := by
 obtain ⟨j, rfl⟩ := Nat.exists_eq_add_of_le hk
 rw [show low.length + 4 + j = low.length + j + 4 by omega]
 have h0 := madO_nn h (k := low.length + j) (by omega)
 have h1 := (madO_bd hm (low.length + j)).2
 rw [madO_succ, at0_ge (by omega), madO_succ, at0_ge (by omega), madO_succ, at0_ge (by omega), madO_succ, at0_ge (by omega)]
 omega
theorem mad_done {low : List Int} {k : Nat} (hk : low.length ≤ k) (h0 : madO low k = 0) : val 10000 (madC low k) = val 10000 low := by
 have e := mad_val low k
 rw [List.take_of_length_le hk, h0] at e
 simpa using e

theorem sig_exists (l : List Int) : ∃ n, IsSig l n := by
 have : ∀ k, k ≤ l.length → (∀ i, k ≤ i → at0 l i = 0) → ∃ n, IsSig l n := by
  intro k
  induction k with
  | zero => exact fun hk hz => ⟨0, by omega, hz, fun h => absurd h (by omega)⟩
  | succ k ih =>
   intro hk hz
   by_cases h : at0 l k = 0
   ·refine ih (by omega) (fun i hi => ?_)
    rcases Nat.lt_or_ge i (k + 1) with h1 | h1
    ·rw [show i = k by omega]; exact h
    ·exact hz i h1
   ·exact ⟨k + 1, hk, hz, fun _ => by simpa using h⟩
 exact this l.length (Nat.le_refl _) (fun i hi => at0_ge hi)

/-- The digits from j on of the first n, the highest first. -/
def tops (c : List Int) (n j : Nat) : List Int := ((c.take n).drop j).reverse
theorem tops_length (c : List Int) (n j : Nat) (hn : n ≤ c.length) : (tops c n j).length = n - j := by
 unfold tops; simp; omega
theorem tops_end (c : List Int) (n j : Nat) (h : n ≤ j) : tops c n j = [] := by
 unfold tops
 rw [List.drop_of_length_le (by rw [List.length_take]; omega)]; rfl
theorem tops_step (c : List Int) (n j : Nat) (hj : j < n) (hn : n ≤ c.length) : tops c n j = tops c n (j + 1) ++ [at0 c j] := by
 unfold tops
 rw [List.drop_eq_getElem_cons (by rw [List.length_take]; omega), List.reverse_cons]
 congr 1
 rw [at0_eq (by omega)]
 simp
theorem tops_all (c : List Int) (n : Nat) : tops c n 0 = (c.take n).reverse := by unfold tops; simp

theorem tdiv_neg_case {n : Int} (h : n < 0) : (n.tmod 10000 < 0 → n.tmod 10000 + 10000 = n % 10000 ∧ n.tdiv 10000 - 1 = n / 10000) ∧ (¬ n.tmod 10000 < 0 → n.tmod 10000 = n % 10000 ∧ n.tdiv 10000 = n / 10000) ∧ -10000 < n.tmod 10000 ∧ n.tmod 10000 ≤ 0 ∧ n ≤ n.tdiv 10000 ∧ n.tdiv 10000 ≤ 0 := by
 have e := Int.mul_tdiv_add_tmod n 10000
 have h1 : n.tmod 10000 ≤ 0 := by
  have := Int.tmod_nonneg 10000 (a := -n) (by omega)
  rw [Int.neg_tmod] at this
  omega
 have h2 : -10000 < n.tmod 10000 := by
  have := Int.tmod_lt_of_pos (-n) (b := 10000) (by decide)
  rw [Int.neg_tmod] at this
  omega
 generalize n.tmod 10000 = r at *
 generalize n.tdiv 10000 = t at *
 omega

end Go.Proofs.Ytjahbjjekednfaa

/-! Products of digits, not yet clean. -/
namespace Go.Proofs.Ytjahbjjekednfaa

def timIn (l m S : List Int) (i : Nat) : Nat → List Int
 | 0 => S
 | k + 1 => (timIn l m S i k).set (i + k) (at0 (timIn l m S i k) (i + k) + at0 l i * at0 m k)
def timTo (l m : List Int) : Nat → List Int
 | 0 => List.replicate (l.length + m.length) 0
 | i + 1 => timIn l m (timTo l m i) i m.length
theorem timIn_succ (l m S : List Int) (i k : Nat) : timIn l m S i (k + 1) = (timIn l m S i k).set (i + k) (at0 (timIn l m S i k) (i + k) + at0 l i * at0 m k) := rfl
theorem timTo_succ (l m : List Int) (i : Nat) : timTo l m (i + 1) = timIn l m (timTo l m i) i m.length := rfl
theorem timIn_length (l m S : List Int) (i : Nat) : ∀ k, (timIn l m S i k).length = S.length
 | 0 => rfl
 | k + 1 => by rw [timIn_succ, List.length_set, timIn_length l m S i k]
theorem timTo_length (l m : List Int) : ∀ i, (timTo l m i).length = l.length + m.length
 | 0 => by simp [timTo]
 | i + 1 => by rw [timTo_succ, timIn_length, timTo_length l m i]
theorem timIn_val (l m S : List Int) (i : Nat) : ∀ k, i + k ≤ S.length → val 10000 (timIn l m S i k) = val 10000 S + 10000 ^ i * (at0 l i * val 10000 (m.take k))
 | 0, _ => by simp [timIn, val]
 | k + 1, h => by
  rw [timIn_succ, val_set _ _ _ _ (by rw [timIn_length]; omega), timIn_val l m S i k (by omega), val_take_succ, Int.pow_add]
  grind
theorem timTo_val (l m : List Int) : ∀ i, i ≤ l.length → val 10000 (timTo l m i) = val 10000 (l.take i) * val 10000 m
 | 0, _ => by simp [timTo, val_replicate, val]
 | i + 1, h => by
  rw [timTo_succ, timIn_val _ _ _ _ _ (by rw [timTo_length]; omega), timTo_val l m i (by omega), List.take_length, val_take_succ]
  grind
theorem tim_done (l m : List Int) : val 10000 (timTo l m l.length) = val 10000 l * val 10000 m := by
 rw [timTo_val l m l.length (Nat.le_refl _), List.take_length]

/-- From 0 to i times the square of 9999. -/
def Low (i : Nat) (S : List Int) : Prop := ∀ j, 0 ≤ at0 S j ∧ at0 S j ≤ (i : Int) * 99980001
theorem timIn_bd {l m S : List Int} (hl : Dig 10000 l) (hm : Dig 10000 m) {i : Nat} (hS : Low i S) : ∀ k j, (0 ≤ at0 (timIn l m S i k) j ∧ at0 (timIn l m S i k) j ≤ ((i : Int) + 1) * 99980001) ∧ (i + k ≤ j → at0 (timIn l m S i k) j = at0 S j)
 | 0, j => ⟨by have := hS j; exact ⟨this.1, by simp only [timIn]; omega⟩, fun _ => rfl⟩
 | k + 1, j => by
  have ih := timIn_bd hl hm hS k
  have hm1 := dig_mul (hl i) (hm k)
  have h9 : ((10000 : Int) - 1) * (10000 - 1) = 99980001 := by decide
  rw [h9] at hm1
  rw [timIn_succ]
  by_cases hj : i + k = j
  ·subst hj
   rcases Nat.lt_or_ge (i + k) (timIn l m S i k).length with h | h
   ·rw [at0_set_eq _ h]
    have e := (ih (i + k)).2 (Nat.le_refl _)
    have h0 := hS (i + k)
    exact ⟨⟨by omega, by omega⟩, fun h2 => by omega⟩
   ·rw [List.set_eq_of_length_le h]
    exact ⟨(ih (i + k)).1, fun h2 => by omega⟩
  ·rw [at0_set_ne _ hj]
   exact ⟨(ih j).1, fun h2 => (ih j).2 (by omega)⟩
theorem timTo_bd {l m : List Int} (hl : Dig 10000 l) (hm : Dig 10000 m) : ∀ i, Low i (timTo l m i)
 | 0 => fun j => by rw [timTo, at0_replicate]; omega
 | i + 1 => fun j => by
  rw [timTo_succ]
  have := (timIn_bd hl hm (timTo_bd hl hm i) m.length j).1
  omega
theorem timTo_mid {l m : List Int} (hl : Dig 10000 l) (hm : Dig 10000 m) (hlen : l.length ≤ 400000000) : Mid (timTo l m l.length) := by
 intro j
 have := timTo_bd hl hm l.length j
 omega

end Go.Proofs.Ytjahbjjekednfaa
