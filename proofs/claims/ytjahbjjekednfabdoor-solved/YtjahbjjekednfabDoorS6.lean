import Derived.Test.YtjahbjjekednfabDoorMath4
namespace Go.Proofs.YtjahbjjekednfabDoor

/-- Products of decimal digits, not yet clean: behind i rows. -/
def pTo (l m : List Int) : Nat → List Int
 | 0 => List.replicate (l.length + m.length + 1) 0
 | i + 1 => timIn l m (pTo l m i) i m.length
theorem pTo_succ (l m : List Int) (i : Nat) : pTo l m (i + 1) = timIn l m (pTo l m i) i m.length := rfl
theorem pTo_length (l m : List Int) : ∀ i, (pTo l m i).length = l.length + m.length + 1
 | 0 => by simp [pTo]
 | i + 1 => by rw [pTo_succ, timIn_length, pTo_length l m i]
theorem pIn_val (l m S : List Int) (i : Nat) : ∀ k, i + k ≤ S.length → val 10 (timIn l m S i k) = val 10 S + 10 ^ i * (at0 l i * val 10 (m.take k))
 | 0, _ => by simp [timIn, val]
 | k + 1, h => by
  rw [timIn_succ, val_set _ _ _ _ (by rw [timIn_length]; omega), pIn_val l m S i k (by omega), val_take_succ, Int.pow_add]
  grind
theorem pTo_val (l m : List Int) : ∀ i, i ≤ l.length → val 10 (pTo l m i) = val 10 (l.take i) * val 10 m
 | 0, _ => by simp [pTo, val_replicate, val]
 | i + 1, h => by
  rw [pTo_succ, pIn_val _ _ _ _ _ (by rw [pTo_length]; omega), pTo_val l m i (by omega), List.take_length, val_take_succ]
  grind
/-- From 0 to 81 i. -/
def PLow (i : Nat) (S : List Int) : Prop := ∀ j, 0 ≤ at0 S j ∧ at0 S j ≤ (i : Int) * 81
theorem pIn_bd {l m S : List Int} (hl : Dig 10 l) (hm : Dig 10 m) {i : Nat} (hS : PLow i S) : ∀ k j, (0 ≤ at0 (timIn l m S i k) j ∧ at0 (timIn l m S i k) j ≤ ((i : Int) + 1) * 81) ∧ (i + k ≤ j → at0 (timIn l m S i k) j = at0 S j)
 | 0, j => ⟨by have := hS j; exact ⟨this.1, by simp only [timIn]; omega⟩, fun _ => rfl⟩
 | k + 1, j => by
  have ih := pIn_bd hl hm hS k
  have hm1 := dig_mul (hl i) (hm k)
  have h9 : ((10 : Int) - 1) * (10 - 1) = 81 := by decide
  rw [h9] at hm1
  rw [timIn_succ]
  by_cases hj : i + k = j
  ·subst hj
   rcases Nat.lt_or_ge (i + k) (timIn l m S i k).length with h | h
   ·rw [at0_set_eq _ h]
    have e := (ih (i + k)).2 (Nat.le_refl _)
    have h0 := hS (i + k)
    exact ⟨⟨by omega, by omega⟩, fun h2 => by omega⟩
   ·rw [List.set_eq_of_length_le h]
    exact ⟨(ih (i + k)).1, fun h2 => by omega⟩
  ·rw [at0_set_ne _ hj]
   exact ⟨(ih j).1, fun h2 => (ih j).2 (by omega)⟩
theorem pTo_bd {l m : List Int} (hl : Dig 10 l) (hm : Dig 10 m) : ∀ i, PLow i (pTo l m i)
 | 0 => fun j => by rw [pTo, at0_replicate]; omega
 | i + 1 => fun j => by
  rw [pTo_succ]
  have := (pIn_bd hl hm (pTo_bd hl hm i) m.length j).1
  omega
/-- What is above 9 is carried on, j times. -/
def crA (r : List Int) (j : Nat) : List Int := r.set (j + 1) (at0 r (j + 1) + at0 r j / 10)
def crr (r : List Int) : Nat → List Int
 | 0 => r
 | j + 1 => (crA (crr r j) j).set j (at0 (crr r j) j % 10)
theorem crA_length (r : List Int) (j : Nat) : (crA r j).length = r.length := List.length_set
theorem crA_at (r : List Int) (j : Nat) : at0 (crA r j) j = at0 r j := at0_set_ne _ (by omega)
theorem crr_succ (r : List Int) (j : Nat) : crr r (j + 1) = (crA (crr r j) j).set j (at0 (crr r j) j % 10) := rfl
theorem crr_length (r : List Int) : ∀ j, (crr r j).length = r.length
 | 0 => rfl
 | j + 1 => by rw [crr_succ, List.length_set, crA_length, crr_length r j]
theorem crr_val (r : List Int) : ∀ j, j < r.length → val 10 (crr r j) = val 10 r
 | 0, _ => rfl
 | j + 1, h => by
  have hl := crr_length r j
  rw [crr_succ, val_set _ _ _ _ (by rw [crA_length]; omega), crA_at]
  unfold crA
  rw [val_set _ _ _ _ (by omega), crr_val r j (by omega), Int.pow_succ]
  have := Int.mul_ediv_add_emod (at0 (crr r j) j) 10
  grind
theorem crr_bd {r : List Int} {M : Int} (hM : ∀ i, 0 ≤ at0 r i ∧ at0 r i ≤ M) : ∀ j, (∀ i, 0 ≤ at0 (crr r j) i) ∧ (∀ i, i < j → i < r.length → at0 (crr r j) i < 10) ∧ at0 (crr r j) j ≤ 2 * M ∧ ∀ i, j < i → at0 (crr r j) i ≤ M
 | 0 => ⟨fun i => (hM i).1, fun i h => absurd h (by omega), by have := hM 0; show at0 r 0 ≤ 2 * M; omega, fun i _ => (hM i).2⟩
 | j + 1 => by
  obtain ⟨h1, h2, h3, h4⟩ := crr_bd hM j
  have hl := crr_length r j
  have hj := h1 j
  have hj1 := h1 (j + 1)
  have hb := h4 (j + 1) (by omega)
  have hq : at0 (crr r j) j / 10 ≤ M := by omega
  have hA : ∀ i, at0 (crA (crr r j) j) i = if i = j + 1 ∧ j + 1 < r.length then at0 (crr r j) (j + 1) + at0 (crr r j) j / 10 else at0 (crr r j) i := fun i => by
   unfold crA
   by_cases hi : i = j + 1
   ·subst hi
    by_cases hlt : j + 1 < r.length
    ·rw [at0_set_eq _ (by omega), if_pos ⟨rfl, hlt⟩]
    ·rw [List.set_eq_of_length_le (by omega), if_neg (by omega)]
   ·rw [at0_set_ne _ (by omega), if_neg (by omega)]
  have hS : ∀ i, at0 (crr r (j + 1)) i = if i = j ∧ j < r.length then at0 (crr r j) j % 10 else at0 (crA (crr r j) j) i := fun i => by
   rw [crr_succ]
   by_cases hi : i = j
   ·subst hi
    by_cases hlt : i < r.length
    ·rw [at0_set_eq _ (by rw [crA_length]; omega), if_pos ⟨rfl, hlt⟩]
    ·rw [List.set_eq_of_length_le (by rw [crA_length]; omega), if_neg (by omega)]
   ·rw [at0_set_ne _ (by omega), if_neg (by omega)]
  refine ⟨fun i => ?_, fun i hi hir => ?_, ?_, fun i hi => ?_⟩
  ·rw [hS, hA]
   have := h1 i
   split
   ·omega
   ·split
    ·omega
    ·exact this
  ·rw [hS, hA]
   by_cases e : i = j
   ·rw [if_pos ⟨e, by omega⟩]; omega
   ·rw [if_neg (by omega), if_neg (by omega)]
    exact h2 i (by omega) hir
  ·rw [hS, hA, if_neg (by omega)]
   split
   ·omega
   ·omega
  ·rw [hS, hA, if_neg (by omega), if_neg (by omega)]
   exact h4 i (by omega)
/-- The product, clean. -/
theorem prod_done {l m : List Int} (hl : Dig 10 l) (hm : Dig 10 m) (hll : l.length ≤ 1000) : Dig 10 (crr (pTo l m l.length) (l.length + m.length)) ∧ val 10 (crr (pTo l m l.length) (l.length + m.length)) = val 10 l * val 10 m := by
 have hlen := pTo_length l m l.length
 have hv : val 10 (crr (pTo l m l.length) (l.length + m.length)) = val 10 l * val 10 m := by
  rw [crr_val _ _ (by omega), pTo_val l m l.length (Nat.le_refl _), List.take_length]
 refine ⟨?_, hv⟩
 have hM : ∀ i, 0 ≤ at0 (pTo l m l.length) i ∧ at0 (pTo l m l.length) i ≤ 81000 := fun i => by
  have := pTo_bd hl hm l.length i
  omega
 obtain ⟨h1, h2, _, _⟩ := crr_bd hM (l.length + m.length)
 have hcl := crr_length (pTo l m l.length) (l.length + m.length)
 intro i
 refine ⟨h1 i, ?_⟩
 by_cases hi : i < l.length + m.length
 ·exact h2 i hi (by omega)
 ·by_cases hi2 : i = l.length + m.length
  ·subst hi2
   generalize crr (pTo l m l.length) (l.length + m.length) = c at *
   have e := val_take_succ 10 c (l.length + m.length)
   rw [List.take_of_length_le (by omega), hv] at e
   have b1 := Dig.val_lt (B := 10) (by decide) hl
   have b2 := Dig.val_lt (B := 10) (by decide) hm
   have b3 : 0 ≤ val 10 (c.take (l.length + m.length)) := Dig.val_nonneg (B := 10) (by decide) (fun j => by
    by_cases hj : j < l.length + m.length
    ·rw [at0_take hj]; exact ⟨h1 j, h2 j hj (by omega)⟩
    ·rw [at0_ge (by rw [List.length_take]; omega)]; omega)
   have b4 : val 10 l * val 10 m < 10 ^ l.length * 10 ^ m.length := by
    have c2 : 0 ≤ val 10 l := Dig.val_nonneg (by decide) hl
    exact Int.lt_of_le_of_lt (Int.mul_le_mul_of_nonneg_left (Int.le_of_lt b2) c2) (Int.mul_lt_mul_of_pos_right b1 (Int.pow_pos (by decide)))
   rw [← Int.pow_add] at b4
   have b5 : (0 : Int) < 10 ^ (l.length + m.length) := Int.pow_pos (by decide)
   generalize (10 : Int) ^ (l.length + m.length) = T at *
   refine Int.not_le.1 fun hc => ?_
   have : T * 10 ≤ T * at0 c (l.length + m.length) := Int.mul_le_mul_of_nonneg_left hc (by omega)
   omega
  ·rw [at0_ge (by omega)]
   decide

end Go.Proofs.YtjahbjjekednfabDoor
