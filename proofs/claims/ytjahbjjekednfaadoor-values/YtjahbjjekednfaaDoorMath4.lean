import Derived.Test.YtjahbjjekednfaaDoorMath
/-! Digits made clean. -/
namespace Go.Proofs.YtjahbjjekednfaaDoor

def madO (low : List Int) : Nat → Int
  | 0 => 0
  | k + 1 => (madO low k + at0 low k) / 10000
def madC (low : List Int) : Nat → List Int
  | 0 => []
  | k + 1 => madC low k ++ [(madO low k + at0 low k) % 10000]
theorem madO_succ (low : List Int) (k : Nat) : madO low (k + 1) = (madO low k + at0 low k) / 10000 := rfl
theorem madC_succ (low : List Int) (k : Nat) : madC low (k + 1) = madC low k ++ [(madO low k + at0 low k) % 10000] := rfl
theorem madC_length (low : List Int) : ∀ k, (madC low k).length = k
  | 0 => rfl
  | k + 1 => by rw [madC_succ, List.length_append, madC_length low k]; rfl
theorem madC_dig (low : List Int) : ∀ k, Dig 10000 (madC low k)
  | 0 => Dig.nil (by decide)
  | k + 1 => (madC_dig low k).snoc ⟨Int.emod_nonneg _ (by decide), Int.emod_lt_of_pos _ (by decide)⟩

/-- Each of them from -M to M, M = 4·10^18. -/
def Mid (low : List Int) : Prop := ∀ i, -4000000000000000000 ≤ at0 low i ∧ at0 low i ≤ 4000000000000000000
theorem madO_bd {low : List Int} (h : Mid low) : ∀ k, -1000000000000000 ≤ madO low k ∧ madO low k ≤ 1000000000000000
  | 0 => by simp [madO]
  | k + 1 => by
    have ih := madO_bd h k
    have h1 := h k
    rw [madO_succ]
    omega
theorem mad_val (low : List Int) : ∀ k, val 10000 (madC low k) + 10000 ^ k * madO low k = val 10000 (low.take k)
  | 0 => by simp [madC, madO, val]
  | k + 1 => by
    have ih := mad_val low k
    rw [madC_succ, madO_succ, val_snoc, madC_length, val_take_succ, Int.pow_succ]
    have e := Int.mul_ediv_add_emod (madO low k + at0 low k) 10000
    generalize (madO low k + at0 low k) / 10000 = q at *
    generalize (madO low k + at0 low k) % 10000 = r at *
    grind
theorem madO_nn {low : List Int} (h : 0 ≤ val 10000 low) {k : Nat} (hk : low.length ≤ k) : 0 ≤ madO low k := by
  have e := mad_val low k
  rw [List.take_of_length_le hk] at e
  have h1 := (madC_dig low k).val_lt (by decide)
  rw [madC_length] at h1
  rcases Int.lt_or_le (madO low k) 0 with h2 | h2
  · exfalso
    have h3 : (10000 : Int) ^ k * madO low k ≤ 10000 ^ k * (-1) := Int.mul_le_mul_of_nonneg_left (by omega) (Int.le_of_lt (pow_pos' (by decide) _))
    omega
  · exact h2
theorem madO_end {low : List Int} (h : 0 ≤ val 10000 low) (hm : Mid low) {k : Nat} (hk : low.length + 4 ≤ k) : madO low k = 0 := by
  obtain ⟨j, rfl⟩ := Nat.exists_eq_add_of_le hk
  rw [show low.length + 4 + j = low.length + j + 4 by omega]
  have h0 := madO_nn h (k := low.length + j) (by omega)
  have h1 := (madO_bd hm (low.length + j)).2
  rw [madO_succ, at0_ge (by omega), madO_succ, at0_ge (by omega), madO_succ, at0_ge (by omega), madO_succ, at0_ge (by omega)]
  omega
theorem mad_done {low : List Int} {k : Nat} (hk : low.length ≤ k) (h0 : madO low k = 0) : val 10000 (madC low k) = val 10000 low := by
  have e := mad_val low k
  rw [List.take_of_length_le hk, h0] at e
  simpa using e

theorem sig_exists (l : List Int) : ∃ n, IsSig l n := by
  have : ∀ k, k ≤ l.length → (∀ i, k ≤ i → at0 l i = 0) → ∃ n, IsSig l n := by
    intro k
    induction k with
    | zero => exact fun hk hz => ⟨0, by omega, hz, fun h => absurd h (by omega)⟩
    | succ k ih =>
      intro hk hz
      by_cases h : at0 l k = 0
      · refine ih (by omega) (fun i hi => ?_)
        rcases Nat.lt_or_ge i (k + 1) with h1 | h1
        · rw [show i = k by omega]; exact h
        · exact hz i h1
      · exact ⟨k + 1, hk, hz, fun _ => by simpa using h⟩
  exact this l.length (Nat.le_refl _) (fun i hi => at0_ge hi)

/-- The digits from j on of the first n, the highest first. -/
def tops (c : List Int) (n j : Nat) : List Int := ((c.take n).drop j).reverse
theorem tops_length (c : List Int) (n j : Nat) (hn : n ≤ c.length) : (tops c n j).length = n - j := by
  unfold tops; simp; omega
theorem tops_end (c : List Int) (n j : Nat) (h : n ≤ j) : tops c n j = [] := by
  unfold tops
  rw [List.drop_of_length_le (by rw [List.length_take]; omega)]; rfl
theorem tops_step (c : List Int) (n j : Nat) (hj : j < n) (hn : n ≤ c.length) : tops c n j = tops c n (j + 1) ++ [at0 c j] := by
  unfold tops
  rw [List.drop_eq_getElem_cons (by rw [List.length_take]; omega), List.reverse_cons]
  congr 1
  rw [at0_eq (by omega)]
  simp
theorem tops_all (c : List Int) (n : Nat) : tops c n 0 = (c.take n).reverse := by unfold tops; simp

theorem tdiv_neg_case {n : Int} (h : n < 0) : (n.tmod 10000 < 0 → n.tmod 10000 + 10000 = n % 10000 ∧ n.tdiv 10000 - 1 = n / 10000) ∧ (¬ n.tmod 10000 < 0 → n.tmod 10000 = n % 10000 ∧ n.tdiv 10000 = n / 10000) ∧ -10000 < n.tmod 10000 ∧ n.tmod 10000 ≤ 0 ∧ n ≤ n.tdiv 10000 ∧ n.tdiv 10000 ≤ 0 := by
  have e := Int.mul_tdiv_add_tmod n 10000
  have h1 : n.tmod 10000 ≤ 0 := by
    have := Int.tmod_nonneg 10000 (a := -n) (by omega)
    rw [Int.neg_tmod] at this
    omega
  have h2 : -10000 < n.tmod 10000 := by
    have := Int.tmod_lt_of_pos (-n) (b := 10000) (by decide)
    rw [Int.neg_tmod] at this
    omega
  generalize n.tmod 10000 = r at *
  generalize n.tdiv 10000 = t at *
  omega

end Go.Proofs.YtjahbjjekednfaaDoor
