import Derived.Test.YtjahbjjekednfaaMath4
/-! Products of digits, not yet clean. -/
namespace Go.Proofs.Ytjahbjjekednfaa

def timIn (l m S : List Int) (i : Nat) : Nat → List Int
  | 0 => S
  | k + 1 => (timIn l m S i k).set (i + k) (at0 (timIn l m S i k) (i + k) + at0 l i * at0 m k)
def timTo (l m : List Int) : Nat → List Int
  | 0 => List.replicate (l.length + m.length) 0
  | i + 1 => timIn l m (timTo l m i) i m.length
theorem timIn_succ (l m S : List Int) (i k : Nat) : timIn l m S i (k + 1) = (timIn l m S i k).set (i + k) (at0 (timIn l m S i k) (i + k) + at0 l i * at0 m k) := rfl
theorem timTo_succ (l m : List Int) (i : Nat) : timTo l m (i + 1) = timIn l m (timTo l m i) i m.length := rfl
theorem timIn_length (l m S : List Int) (i : Nat) : ∀ k, (timIn l m S i k).length = S.length
  | 0 => rfl
  | k + 1 => by rw [timIn_succ, List.length_set, timIn_length l m S i k]
theorem timTo_length (l m : List Int) : ∀ i, (timTo l m i).length = l.length + m.length
  | 0 => by simp [timTo]
  | i + 1 => by rw [timTo_succ, timIn_length, timTo_length l m i]
theorem timIn_val (l m S : List Int) (i : Nat) : ∀ k, i + k ≤ S.length → val 10000 (timIn l m S i k) = val 10000 S + 10000 ^ i * (at0 l i * val 10000 (m.take k))
  | 0, _ => by simp [timIn, val]
  | k + 1, h => by
    rw [timIn_succ, val_set _ _ _ _ (by rw [timIn_length]; omega), timIn_val l m S i k (by omega), val_take_succ, Int.pow_add]
    grind
theorem timTo_val (l m : List Int) : ∀ i, i ≤ l.length → val 10000 (timTo l m i) = val 10000 (l.take i) * val 10000 m
  | 0, _ => by simp [timTo, val_replicate, val]
  | i + 1, h => by
    rw [timTo_succ, timIn_val _ _ _ _ _ (by rw [timTo_length]; omega), timTo_val l m i (by omega), List.take_length, val_take_succ]
    grind
theorem tim_done (l m : List Int) : val 10000 (timTo l m l.length) = val 10000 l * val 10000 m := by
  rw [timTo_val l m l.length (Nat.le_refl _), List.take_length]

/-- From 0 to i times the square of 9999. -/
def Low (i : Nat) (S : List Int) : Prop := ∀ j, 0 ≤ at0 S j ∧ at0 S j ≤ (i : Int) * 99980001
theorem timIn_bd {l m S : List Int} (hl : Dig 10000 l) (hm : Dig 10000 m) {i : Nat} (hS : Low i S) : ∀ k j, (0 ≤ at0 (timIn l m S i k) j ∧ at0 (timIn l m S i k) j ≤ ((i : Int) + 1) * 99980001) ∧ (i + k ≤ j → at0 (timIn l m S i k) j = at0 S j)
  | 0, j => ⟨by have := hS j; exact ⟨this.1, by simp only [timIn]; omega⟩, fun _ => rfl⟩
  | k + 1, j => by
    have ih := timIn_bd hl hm hS k
    have hm1 := dig_mul (hl i) (hm k)
    have h9 : ((10000 : Int) - 1) * (10000 - 1) = 99980001 := by decide
    rw [h9] at hm1
    rw [timIn_succ]
    by_cases hj : i + k = j
    · subst hj
      rcases Nat.lt_or_ge (i + k) (timIn l m S i k).length with h | h
      · rw [at0_set_eq _ h]
        have e := (ih (i + k)).2 (Nat.le_refl _)
        have h0 := hS (i + k)
        exact ⟨⟨by omega, by omega⟩, fun h2 => by omega⟩
      · rw [List.set_eq_of_length_le h]
        exact ⟨(ih (i + k)).1, fun h2 => by omega⟩
    · rw [at0_set_ne _ hj]
      exact ⟨(ih j).1, fun h2 => (ih j).2 (by omega)⟩
theorem timTo_bd {l m : List Int} (hl : Dig 10000 l) (hm : Dig 10000 m) : ∀ i, Low i (timTo l m i)
  | 0 => fun j => by rw [timTo, at0_replicate]; omega
  | i + 1 => fun j => by
    rw [timTo_succ]
    have := (timIn_bd hl hm (timTo_bd hl hm i) m.length j).1
    omega
theorem timTo_mid {l m : List Int} (hl : Dig 10000 l) (hm : Dig 10000 m) (hlen : l.length ≤ 400000000) : Mid (timTo l m l.length) := by
  intro j
  have := timTo_bd hl hm l.length j
  omega

end Go.Proofs.Ytjahbjjekednfaa
