import Derived.Test.YtidcncihdjjmiaaMath
/-! Division of digits, and sizes. -/
namespace Go.Proofs.Ytidcncihdjjmiaa

/-- Fewer than m decimal digits. -/
def Ft (m : Nat) (x : Int) : Prop := x.natAbs < 10 ^ m

theorem Ft.fit {m : Nat} {x : Int} (h : Ft m x) (hm : m ≤ 400000000) : Fit x := ⟨m, hm, h⟩
theorem Ft.mono {m n : Nat} {x : Int} (h : Ft m x) (hm : m ≤ n) : Ft n x := Nat.lt_of_lt_of_le h (Nat.pow_le_pow_right (by decide) hm)
theorem Ft.le {m : Nat} {x y : Int} (h : Ft m y) (hxy : x.natAbs ≤ y.natAbs) : Ft m x := Nat.lt_of_le_of_lt hxy h
theorem Ft.mul {m n : Nat} {x y : Int} (hx : Ft m x) (hy : Ft n y) : Ft (m + n) (x * y) := by
  unfold Ft at *
  rw [Int.natAbs_mul, Nat.pow_add]
  exact Nat.mul_lt_mul'' hx hy
theorem Ft.add {m : Nat} {x y : Int} (hx : Ft m x) (hy : Ft m y) : Ft (m + 1) (x + y) := by
  unfold Ft at *
  have := Int.natAbs_add_le x y
  rw [Nat.pow_succ]
  omega
theorem Ft.neg {m : Nat} {x : Int} (hx : Ft m x) : Ft m (-x) := by
  unfold Ft at *
  rwa [Int.natAbs_neg]
theorem Ft.zero (m : Nat) : Ft m 0 := by unfold Ft; exact Nat.pow_pos (by decide)
theorem Ft.fits {m : Nat} {x : Int} (h : Ft m x) (hm : m ≤ 400000000) : Fit x := ⟨m, hm, h⟩

/-- The estimate of a quotient's digit. -/
def estQ (R D : List Int) : Int :=
  if 1000000000 ≤ (at0 R D.length * 1000000000 + at0 R (D.length - 1)) / at0 D (D.length - 1) then 999999999
  else (at0 R D.length * 1000000000 + at0 R (D.length - 1)) / at0 D (D.length - 1)

theorem val_drop_succ (B : Int) (l : List Int) (n : Nat) : val B (l.drop n) = at0 l n + B * val B (l.drop (n + 1)) := by
  rcases Nat.lt_or_ge n l.length with h | h
  · rw [List.drop_eq_getElem_cons h, at0_eq h]; rfl
  · rw [List.drop_of_length_le h, List.drop_of_length_le (by omega), at0_ge h]; simp [val]

theorem est_ok {R D : List Int} (hR : Dig 1000000000 R) (hD : Canon 1000000000 D) (hl : 0 < D.length) (h : val 1000000000 R < val 1000000000 D * 1000000000) :
    0 ≤ estQ R D ∧ estQ R D < 1000000000 ∧ val 1000000000 R / val 1000000000 D ≤ estQ R D := by
  have hDp := hD.pos (by decide) hl
  have hRn := hR.val_nonneg (by decide)
  have htop : 1 ≤ at0 D (D.length - 1) := by
    have := (hD.1 (D.length - 1)).1
    have := hD.2 hl
    omega
  have hu := hR (D.length - 1 + 1)
  have hlo := hR (D.length - 1)
  have hq0 : 0 ≤ (at0 R (D.length - 1 + 1) * 1000000000 + at0 R (D.length - 1)) / at0 D (D.length - 1) := Int.ediv_nonneg (by omega) (by omega)
  have hQ : val 1000000000 R / val 1000000000 D < 1000000000 := Int.ediv_lt_of_lt_mul hDp (by rw [Int.mul_comm]; exact h)
  have key : val 1000000000 R / val 1000000000 D ≤ (at0 R (D.length - 1 + 1) * 1000000000 + at0 R (D.length - 1)) / at0 D (D.length - 1) := by
    rw [Int.le_ediv_iff_mul_le (by omega)]
    -- q * D ≤ R, D ≥ top * B^last, R < (u*B + lo + 1) * B^last
    have h1 : val 1000000000 R / val 1000000000 D * val 1000000000 D ≤ val 1000000000 R := Int.ediv_mul_le _ (by omega)
    have hDge : 1000000000 ^ (D.length - 1) * at0 D (D.length - 1) ≤ val 1000000000 D := by
      have e := val_take_succ 1000000000 D (D.length - 1)
      rw [show D.length - 1 + 1 = D.length by omega, List.take_length] at e
      have := (hD.1.take (by decide) (D.length - 1)).val_nonneg (B := 1000000000) (by decide)
      omega
    have hDlt := hD.1.val_lt (by decide)
    have hRlen : val 1000000000 (R.drop (D.length + 1)) = 0 := by
      have hd := (hR.drop (D.length + 1)).val_nonneg (by decide)
      rcases Int.lt_or_le 0 (val 1000000000 (R.drop (D.length + 1))) with h2 | h2
      · exfalso
        have h5 : D.length + 1 ≤ R.length := by
          rcases Nat.lt_or_ge R.length (D.length + 1) with h6 | h6
          · rw [List.drop_of_length_le (by omega)] at h2; simp [val] at h2
          · exact h6
        have e := val_take_drop 1000000000 R (D.length + 1) h5
        have h3 := (hR.take (by decide) (D.length + 1)).val_nonneg (B := 1000000000) (by decide)
        have h4 : (1000000000 : Int) ^ (D.length + 1) * 1 ≤ 1000000000 ^ (D.length + 1) * val 1000000000 (R.drop (D.length + 1)) := Int.mul_le_mul_of_nonneg_left (by omega) (Int.le_of_lt (pow_pos' (by decide) _))
        rw [Int.pow_succ] at h4 e
        omega
      · omega
    have hRlt : val 1000000000 R < (at0 R (D.length - 1 + 1) * 1000000000 + at0 R (D.length - 1) + 1) * 1000000000 ^ (D.length - 1) := by
      have e1 := val_drop_succ 1000000000 R (D.length - 1)
      have e2 := val_drop_succ 1000000000 R (D.length - 1 + 1)
      rw [show D.length - 1 + 1 + 1 = D.length + 1 by omega, hRlen] at e2
      rw [e2] at e1
      rcases Nat.lt_or_ge R.length (D.length - 1) with h5 | h5
      · have h6 := hR.val_lt (by decide)
        have h7 := pow_mono (B := 1000000000) (by decide) (m := R.length) (n := D.length - 1) (by omega)
        have h8 : (1 : Int) * 1000000000 ^ (D.length - 1) ≤ (at0 R (D.length - 1 + 1) * 1000000000 + at0 R (D.length - 1) + 1) * 1000000000 ^ (D.length - 1) := Int.mul_le_mul_of_nonneg_right (by omega) (Int.le_of_lt (pow_pos' (by decide) _))
        omega
      · have e := val_take_drop 1000000000 R (D.length - 1) h5
        have h3 := (hR.take (by decide) (D.length - 1)).val_lt (B := 1000000000) (by decide)
        rw [List.length_take, Nat.min_eq_left h5] at h3
        rw [e1] at e
        generalize (1000000000 : Int) ^ (D.length - 1) = pw at *
        grind
    have hq : 0 ≤ val 1000000000 R / val 1000000000 D := Int.ediv_nonneg hRn (by omega)
    have h6 : val 1000000000 R / val 1000000000 D * (1000000000 ^ (D.length - 1) * at0 D (D.length - 1)) ≤ val 1000000000 R / val 1000000000 D * val 1000000000 D := Int.mul_le_mul_of_nonneg_left hDge hq
    have h7 : (val 1000000000 R / val 1000000000 D * at0 D (D.length - 1)) * 1000000000 ^ (D.length - 1) < (at0 R (D.length - 1 + 1) * 1000000000 + at0 R (D.length - 1) + 1) * 1000000000 ^ (D.length - 1) := by
      have : (val 1000000000 R / val 1000000000 D * at0 D (D.length - 1)) * 1000000000 ^ (D.length - 1) = val 1000000000 R / val 1000000000 D * (1000000000 ^ (D.length - 1) * at0 D (D.length - 1)) := by
        rw [Int.mul_assoc, Int.mul_comm (at0 D (D.length - 1))]
      omega
    have h8 := Int.lt_of_mul_lt_mul_right h7 (Int.le_of_lt (pow_pos' (by decide) _))
    omega
  have e0 : at0 R D.length = at0 R (D.length - 1 + 1) := by rw [show D.length - 1 + 1 = D.length by omega]
  unfold estQ
  rw [e0]
  split <;> omega

/-- One digit of a quotient. -/
theorem div_step {B Y R d : Int} (hY : 0 < Y) : (d + B * R) / Y = B * (R / Y) + (d + B * (R % Y)) / Y ∧ (d + B * R) % Y = (d + B * (R % Y)) % Y := by
  have e := Int.mul_ediv_add_emod R Y
  have h : d + B * R = (d + B * (R % Y)) + (B * (R / Y)) * Y := by
    generalize R / Y = q at *
    generalize R % Y = r at *
    grind
  rw [h]
  constructor
  · rw [Int.add_mul_ediv_right _ _ (by omega)]; omega
  · rw [Int.add_mul_emod_self_right]

/-- The digit that was found by going down from an estimate. -/
theorem quot_of_le {Y R q : Int} (hY : 0 < Y) (h1 : R / Y ≤ q) (h2 : q * Y ≤ R) : q = R / Y := by
  have := (Int.le_ediv_iff_mul_le hY).2 h2
  omega
theorem quot_down {Y R q : Int} (hY : 0 < Y) (h2 : R < q * Y) : R / Y ≤ q - 1 := by
  have : R / Y < q := Int.ediv_lt_of_lt_mul hY h2
  omega

theorem rest_eq {Y R : Int} : R - R / Y * Y = R % Y := by
  have := Int.mul_ediv_add_emod R Y
  rw [Int.mul_comm] at this
  omega

/-- The quotient's row: at k the digits from k on are there. -/
def quoRow (Y : Int) (X : List Int) (n : Nat) : Nat → List Int
  | 0 => List.replicate n 0
  | j + 1 => (quoRow Y X n j).set (n - 1 - j) ((at0 X (n - 1 - j) + 1000000000 * (val 1000000000 (X.drop (n - j)) % Y)) / Y)

theorem quoRow_succ (Y : Int) (X : List Int) (n j : Nat) : quoRow Y X n (j + 1) = (quoRow Y X n j).set (n - 1 - j) ((at0 X (n - 1 - j) + 1000000000 * (val 1000000000 (X.drop (n - j)) % Y)) / Y) := rfl
theorem quoRow_length (Y : Int) (X : List Int) (n : Nat) : ∀ j, (quoRow Y X n j).length = n
  | 0 => by simp [quoRow]
  | j + 1 => by rw [quoRow, List.length_set, quoRow_length Y X n j]

theorem quoRow_low (Y : Int) (X : List Int) (n : Nat) : ∀ j i, i < n - j → at0 (quoRow Y X n j) i = 0
  | 0, _, _ => at0_replicate _ _
  | j + 1, i, h => by rw [quoRow, at0_set_ne _ (by omega), quoRow_low Y X n j i (by omega)]

theorem quoRow_dig {Y : Int} {X : List Int} (hY : 0 < Y) (hX : Dig 1000000000 X) (n : Nat) : ∀ j, Dig 1000000000 (quoRow Y X n j)
  | 0 => Dig.replicate (by decide) _
  | j + 1 => by
    have h0 := hX (n - 1 - j)
    have h1 := Int.emod_nonneg (val 1000000000 (X.drop (n - j))) (b := Y) (by omega)
    have h2 := Int.emod_lt_of_pos (val 1000000000 (X.drop (n - j))) hY
    refine (quoRow_dig hY hX n j).set _ ⟨Int.ediv_nonneg (by omega) (by omega), ?_⟩
    apply Int.ediv_lt_of_lt_mul hY
    omega

theorem drop_set_same (l : List Int) (k : Nat) (y : Int) (_h : k < l.length) : (l.set k y).drop (k + 1) = l.drop (k + 1) := by
  rw [List.drop_set_of_lt (by omega)]

theorem quoRow_val {Y : Int} {X : List Int} (hY : 0 < Y) (n : Nat) (h0 : val 1000000000 (X.drop n) / Y = 0) : ∀ j, j ≤ n → val 1000000000 ((quoRow Y X n j).drop (n - j)) = val 1000000000 (X.drop (n - j)) / Y
  | 0, _ => by rw [quoRow, Nat.sub_zero, List.drop_of_length_le (by simp), h0]; rfl
  | j + 1, h => by
    have ih := quoRow_val hY n h0 j (by omega)
    have e : n - (j + 1) = n - 1 - j := by omega
    have e2 : n - j = n - 1 - j + 1 := by omega
    rw [e, val_drop_succ 1000000000 (quoRow Y X n (j + 1)), quoRow, at0_set_eq _ (by rw [quoRow_length]; omega), drop_set_same _ _ _ (by rw [quoRow_length]; omega), val_drop_succ 1000000000 X (n - 1 - j)]
    rw [e2] at ih
    rw [ih, e2]
    have := (div_step (B := 1000000000) (R := val 1000000000 (X.drop (n - 1 - j + 1))) (d := at0 X (n - 1 - j)) hY).1
    rw [this]
    omega

theorem quoRow_done {Y : Int} {X : List Int} (hY : 0 < Y) (n : Nat) (h0 : val 1000000000 (X.drop n) / Y = 0) : val 1000000000 (quoRow Y X n n) = val 1000000000 X / Y := by
  have := quoRow_val hY n h0 n (Nat.le_refl _)
  simpa using this

/-- The limbs above 'start' are worth less than the divisor. -/
theorem top_small {X D : List Int} (hX : Dig 1000000000 X) (hD : Canon 1000000000 D) (hl : 0 < D.length) {n : Nat} (hn : X.length + 1 ≤ n + D.length) : val 1000000000 (X.drop n) < val 1000000000 D := by
  have h1 := (hX.drop n).val_lt (by decide)
  rw [List.length_drop] at h1
  have h2 := hD.ge (by decide) hl
  have h3 := pow_mono (B := 1000000000) (by decide) (m := X.length - n) (n := D.length - 1) (by omega)
  omega

theorem Canon.drop {B : Int} {l : List Int} (h : Canon B l) (n : Nat) : Canon B (l.drop n) := by
  refine ⟨h.1.drop n, fun hp => ?_⟩
  rw [List.length_drop] at hp ⊢
  rw [at0_drop, show n + (l.length - n - 1) = l.length - 1 by omega]
  exact h.2 (by omega)

theorem scale_div {x y s : Int} (hs : 0 < s) : x * s / (y * s) = x / y := Int.mul_ediv_mul_of_pos_left x y hs

end Go.Proofs.Ytidcncihdjjmiaa
