import Derived.Test.YtidcncihdjjmiaaMath2
/-! Squares in numbers. -/
namespace Go.Proofs.Ytidcncihdjjmiaa

def SqFree (s : Nat) : Prop := ∀ k, 2 ≤ k → ¬ (k * k ∣ s)
structure IsRoot (n o s : Nat) : Prop where
  op : 0 < o
  sp : 0 < s
  eq : o * o * s = n
  free : SqFree s

theorem one_of_sq {a s : Nat} (ha : 0 < a) (hs : SqFree s) (h : a * a ∣ s) : a = 1 := by
  rcases Nat.lt_or_ge a 2 with h1 | h1
  · omega
  · exact absurd h (hs a h1)

theorem IsRoot.unique {n o s o' s' : Nat} (h : IsRoot n o s) (h' : IsRoot n o' s') : o = o' ∧ s = s' := by
  have hg : 0 < Nat.gcd o o' := Nat.gcd_pos_of_pos_left _ h.op
  obtain ⟨a, ha⟩ := Nat.gcd_dvd_left o o'
  obtain ⟨b, hb⟩ := Nat.gcd_dvd_right o o'
  generalize hgd : Nat.gcd o o' = g at *
  have hap : 0 < a := by
    rcases Nat.eq_zero_or_pos a with e | e
    · rw [e] at ha; have := h.op; omega
    · exact e
  have hbp : 0 < b := by
    rcases Nat.eq_zero_or_pos b with e | e
    · rw [e] at hb; have := h'.op; omega
    · exact e
  have hco : Nat.Coprime a b := by
    have h1 : g * Nat.gcd a b = g := by
      rw [← Nat.gcd_mul_left, ← ha, ← hb, hgd]
    have h2 : g * Nat.gcd a b = g * 1 := by omega
    exact Nat.eq_of_mul_eq_mul_left hg h2
  have e : a * a * s = b * b * s' := by
    have e1 := h.eq.trans h'.eq.symm
    rw [ha, hb] at e1
    have e2 : (g * g) * (a * a * s) = (g * g) * (b * b * s') := by
      have x1 : g * a * (g * a) * s = (g * g) * (a * a * s) := by grind
      have x2 : g * b * (g * b) * s' = (g * g) * (b * b * s') := by grind
      omega
    exact Nat.eq_of_mul_eq_mul_left (Nat.mul_pos hg hg) e2
  have hco2 : Nat.Coprime (a * a) (b * b) := Nat.Coprime.mul_right (Nat.Coprime.mul_left hco hco) (Nat.Coprime.mul_left hco hco)
  have d1 : a * a ∣ s' := hco2.dvd_of_dvd_mul_left ⟨s, by omega⟩
  have d2 : b * b ∣ s := hco2.symm.dvd_of_dvd_mul_left ⟨s', by omega⟩
  have a1 := one_of_sq hap h'.free d1
  have b1 := one_of_sq hbp h.free d2
  subst a1
  subst b1
  constructor
  · omega
  · omega

/-- The greatest f up to k whose square divides n. -/
def sqf (n : Nat) : Nat → Nat
  | 0 => 1
  | k + 1 => if n % ((k + 1) * (k + 1)) = 0 then k + 1 else sqf n k

theorem sqf_pos (n : Nat) : ∀ k, 0 < sqf n k
  | 0 => by simp [sqf]
  | k + 1 => by
    unfold sqf
    split
    · omega
    · exact sqf_pos n k
theorem sqf_dvd (n : Nat) : ∀ k, sqf n k * sqf n k ∣ n
  | 0 => ⟨n, by simp [sqf]⟩
  | k + 1 => by
    unfold sqf
    split
    · exact Nat.dvd_of_mod_eq_zero (by assumption)
    · exact sqf_dvd n k
theorem sqf_max (n : Nat) : ∀ k j, j ≤ k → j * j ∣ n → j ≤ sqf n k
  | 0, j, h, _ => by simp [sqf]; omega
  | k + 1, j, h, hd => by
    unfold sqf
    split
    · exact h
    · rename_i hm
      rcases Nat.lt_or_ge j (k + 1) with h1 | h1
      · exact sqf_max n k j (by omega) hd
      · have : j = k + 1 := by omega
        subst this
        exact absurd (Nat.mod_eq_zero_of_dvd hd) hm

theorem sqf_root {n : Nat} (h0 : 0 < n) (hn : n < 1000000) : IsRoot n (sqf n 1000) (n / (sqf n 1000 * sqf n 1000)) := by
  have hp := sqf_pos n 1000
  obtain ⟨s, hs⟩ := sqf_dvd n 1000
  have hm := sqf_max n 1000
  generalize sqf n 1000 = f at *
  have hff : 0 < f * f := Nat.mul_pos hp hp
  have hsp : 0 < s := by
    rcases Nat.eq_zero_or_pos s with e | e
    · rw [e] at hs; omega
    · exact e
  have hq : n / (f * f) = s := by rw [hs]; exact Nat.mul_div_cancel_left _ hff
  rw [hq]
  refine ⟨hp, hsp, hs.symm, ?_⟩
  intro k hk hd
  obtain ⟨t, ht⟩ := hd
  have htp : 0 < t := by
    rcases Nat.eq_zero_or_pos t with e | e
    · rw [e] at ht; omega
    · exact e
  have hkf : (f * k) * (f * k) ∣ n := ⟨t, by rw [hs, ht]; grind⟩
  have hle : (f * k) * (f * k) ≤ n := Nat.le_of_dvd h0 hkf
  have h1000 : f * k ≤ 1000 := by
    rcases Nat.lt_or_ge 1000 (f * k) with h | h
    · have := Nat.mul_le_mul (show 1001 ≤ f * k from h) (show 1001 ≤ f * k from h)
      omega
    · exact h
  have h2 := hm (f * k) h1000 hkf
  have h3 : f * 2 ≤ f * k := Nat.mul_le_mul_left f hk
  omega

end Go.Proofs.Ytidcncihdjjmiaa
