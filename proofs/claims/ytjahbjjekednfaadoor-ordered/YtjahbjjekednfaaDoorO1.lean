import Derived.Test.YtjahbjjekednfaaDoorH4
import Derived.Test.YtjahbjjekednfaaDoorC1
namespace Go.Proofs.YtjahbjjekednfaaDoor

def isq : Nat → Nat
  | 0 => 0
  | n + 1 => if (isq n + 1) * (isq n + 1) ≤ n + 1 then isq n + 1 else isq n
theorem isq_ok : ∀ n, isq n * isq n ≤ n ∧ n < (isq n + 1) * (isq n + 1)
  | 0 => ⟨by decide, by decide⟩
  | n + 1 => by
    obtain ⟨h1, h2⟩ := isq_ok n
    unfold isq
    generalize isq n = k at *
    have e : (k + 1 + 1) * (k + 1 + 1) = (k + 1) * (k + 1) + 2 * k + 3 := by grind
    split
    · omega
    · omega

/-- A fraction below the root, as near as N tells. -/
def sg (N : Nat) (d : Int) : Rat := (isq (d.toNat * (N * N)) : Rat) * (N : Rat)⁻¹

theorem mul_le {a b c : Rat} (h : a ≤ b) (hc : 0 ≤ c) : a * c ≤ b * c := Rat.mul_le_mul_of_nonneg_right h hc
theorem sg_ok {N : Nat} {d : Int} (hN : 1 ≤ N) (hd : 1 ≤ d) : 0 ≤ sg N d ∧ sg N d ≤ d ∧ sg N d * sg N d ≤ d ∧ (d : Rat) ≤ sg N d * sg N d + (2 * d + 1) * (N : Rat)⁻¹ := by
  obtain ⟨h1, h2⟩ := isq_ok (d.toNat * (N * N))
  have hk : isq (d.toNat * (N * N)) ≤ d.toNat * N := by
    refine Nat.not_lt.1 fun h => ?_
    have g1 := Nat.mul_lt_mul_of_lt_of_lt h h
    have g2 : d.toNat * (N * N) ≤ d.toNat * N * (d.toNat * N) := by
      have e : d.toNat * N * (d.toNat * N) = d.toNat * (d.toNat * (N * N)) := by grind
      rw [e]
      exact Nat.le_mul_of_pos_left _ (by omega)
    omega
  unfold sg
  generalize isq (d.toNat * (N * N)) = k at *
  have hn : (0 : Rat) < (N : Rat) := Rat.natCast_pos.2 (by omega)
  have hn1 : (1 : Rat) ≤ (N : Rat) := by exact_mod_cast hN
  have hi := Rat.inv_pos.2 hn
  have e : (N : Rat) * (N : Rat)⁻¹ = 1 := by grind
  have hd0 : (1 : Rat) ≤ (d : Rat) := by exact_mod_cast hd
  have hD : (d : Rat) = (d.toNat : Rat) := by
    have : ((d.toNat : Int) : Rat) = (d : Rat) := by rw [Int.toNat_of_nonneg (by omega)]
    rw [← this]; rfl
  have c1 : (k : Rat) * (k : Rat) ≤ (d : Rat) * ((N : Rat) * (N : Rat)) := by rw [hD]; exact_mod_cast h1
  have c2 : (d : Rat) * ((N : Rat) * (N : Rat)) ≤ ((k : Rat) + 1) * ((k : Rat) + 1) := by rw [hD]; exact_mod_cast Nat.le_of_lt h2
  have c3 : (k : Rat) ≤ (d : Rat) * (N : Rat) := by rw [hD]; exact_mod_cast hk
  have k0 : (0 : Rat) ≤ (k : Rat) := Rat.natCast_nonneg
  generalize (N : Rat)⁻¹ = i at *
  generalize (N : Rat) = n at *
  generalize (k : Rat) = q at *
  generalize (d : Rat) = D at *
  clear h1 h2 hk hN hd hD
  have i0 : 0 ≤ i := Rat.le_of_lt hi
  have r1 : D * n * i = D := by grind
  have r2 : D * (n * n) * (i * i) = D := by grind
  have ii : 0 ≤ i * i := Rat.mul_nonneg i0 i0
  have i1 : i ≤ 1 := by
    have := mul_le hn1 i0
    rw [e] at this
    grind
  have s1 := mul_le c3 i0
  have s2 := mul_le c1 ii
  have s3 := mul_le c2 ii
  have s4 := mul_le i1 i0
  rw [r1] at s1
  rw [r2] at s2 s3
  have s5 : 0 ≤ q * i := Rat.mul_nonneg k0 i0
  have s6 : q * i ≤ D := by grind
  have s7 := mul_le s6 i0
  refine ⟨s5, s6, ?_, ?_⟩
  · grind
  · grind

theorem near {d : Int} (hd : 1 ≤ d) {ε : Rat} (hε : 0 < ε) : ∃ N0, ∀ N, N0 ≤ N → 0 ≤ sg N d ∧ sg N d ≤ d ∧ sg N d * sg N d ≤ d ∧ (d : Rat) ≤ sg N d * sg N d + ε := by
  refine ⟨((2 * (d : Rat) + 1) * ε⁻¹).ceil.toNat + 1, fun N hN => ?_⟩
  obtain ⟨h1, h2, h3, h4⟩ := sg_ok (N := N) (d := d) (by omega) hd
  refine ⟨h1, h2, h3, ?_⟩
  have c1 : (2 * (d : Rat) + 1) * ε⁻¹ ≤ (N : Rat) := by
    have g1 := Rat.le_ceil (x := (2 * (d : Rat) + 1) * ε⁻¹)
    have g2 : (((2 * (d : Rat) + 1) * ε⁻¹).ceil : Rat) ≤ ((N : Int) : Rat) := Rat.intCast_le_intCast.2 (by omega)
    exact Rat.le_trans g1 g2
  have hn : (0 : Rat) < (N : Rat) := Rat.natCast_pos.2 (by omega)
  have hi := Rat.inv_pos.2 hn
  have e : (N : Rat) * (N : Rat)⁻¹ = 1 := by grind
  have e2 : ε⁻¹ * ε = 1 := by grind
  generalize (N : Rat)⁻¹ = i at *
  generalize (N : Rat) = n at *
  generalize ε⁻¹ = j at *
  have g := mul_le (mul_le c1 (Rat.le_of_lt hε)) (Rat.le_of_lt hi)
  have r1 : (2 * (d : Rat) + 1) * j * ε * i = (2 * (d : Rat) + 1) * i := by grind
  have r2 : n * ε * i = ε := by grind
  rw [r1, r2] at g
  grind

/-- In the end above a bound that is above 0. -/
def EvP (f : Nat → Rat) : Prop := ∃ δ, 0 < δ ∧ ∃ N0, ∀ N, N0 ≤ N → δ ≤ f N
theorem EvP.le {f g : Nat → Rat} (h : EvP f) (k : ∃ N0, ∀ N, N0 ≤ N → f N ≤ g N) : EvP g := by
  obtain ⟨δ, h1, n1, h2⟩ := h
  obtain ⟨n2, h3⟩ := k
  exact ⟨δ, h1, max n1 n2, fun N hN => Rat.le_trans (h2 N (by omega)) (h3 N (by omega))⟩
theorem EvP.congr {f g : Nat → Rat} (h : EvP f) (k : ∀ N, f N = g N) : EvP g := h.le ⟨0, fun N _ => by rw [k N]; exact Rat.le_refl⟩
theorem EvP.add {f g : Nat → Rat} (h : EvP f) (k : EvP g) : EvP (fun N => f N + g N) := by
  obtain ⟨δ, h1, n1, h2⟩ := h
  obtain ⟨ε, k1, n2, k2⟩ := k
  refine ⟨δ + ε, by grind, max n1 n2, fun N hN => ?_⟩
  have a := h2 N (by omega)
  have b := k2 N (by omega)
  grind
theorem EvP.not {f : Nat → Rat} (h : EvP f) (k : EvP (fun N => - f N)) : False := by
  obtain ⟨δ, h1, n1, h2⟩ := h
  obtain ⟨ε, k1, n2, k2⟩ := k
  have a := h2 (max n1 n2) (by omega)
  have b := k2 (max n1 n2) (by omega)
  grind
theorem EvP.scale {f : Nat → Rat} (c : Rat) (hc : 0 < c) (h : EvP f) : EvP (fun N => c * f N) := by
  obtain ⟨δ, h1, n1, h2⟩ := h
  exact ⟨c * δ, Rat.mul_pos hc h1, n1, fun N hN => Rat.mul_le_mul_of_nonneg_left (h2 N hN) (Rat.le_of_lt hc)⟩
theorem EvP.const {c : Rat} (hc : 0 < c) : EvP (fun _ => c) := ⟨c, hc, 0, fun _ _ => Rat.le_refl⟩
theorem EvP.quot {f g : Nat → Rat} {M : Rat} (h : EvP (fun N => f N * g N)) (k : ∃ N0, ∀ N, N0 ≤ N → 0 ≤ g N ∧ g N ≤ M) : EvP f := by
  obtain ⟨δ, h1, n1, h2⟩ := h
  obtain ⟨n2, k2⟩ := k
  have key : ∀ N, n1 ≤ N → n2 ≤ N → 0 < M ∧ δ ≤ f N * M := by
    intro N g1 g2
    have a : δ ≤ f N * g N := h2 N g1
    obtain ⟨b, c⟩ := k2 N g2
    have hg : 0 < g N := by
      refine Rat.not_le.1 fun hle => ?_
      have : g N = 0 := by grind
      rw [this] at a
      grind
    have hf : 0 ≤ f N := by
      refine Rat.not_lt.1 fun hlt => ?_
      have := Rat.mul_pos (show 0 < - f N by grind) hg
      grind
    have := Rat.mul_le_mul_of_nonneg_left c hf
    exact ⟨by grind, by grind⟩
  have hM := (key (max n1 n2) (by omega) (by omega)).1
  have hi := Rat.inv_pos.2 hM
  have e : M * M⁻¹ = 1 := by grind
  refine ⟨δ * M⁻¹, Rat.mul_pos h1 hi, max n1 n2, fun N hN => ?_⟩
  have a := mul_le (key N (by omega) (by omega)).2 (Rat.le_of_lt hi)
  have r : f N * M * M⁻¹ = f N := by grind
  rw [r] at a
  exact a

end Go.Proofs.YtjahbjjekednfaaDoor
