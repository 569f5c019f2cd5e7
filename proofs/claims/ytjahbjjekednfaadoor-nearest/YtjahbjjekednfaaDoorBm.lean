import Derived.Test.YtjahbjjekednfaaDoorBn
namespace Go.Proofs.YtjahbjjekednfaaDoor

/-- How far from 0. -/
def ab (x : Rat) : Rat := if 0 ≤ x then x else -x
theorem ab_p {x : Rat} (h : 0 ≤ x) : ab x = x := if_pos h
theorem ab_n {x : Rat} (h : x ≤ 0) : ab x = -x := by
 unfold ab
 split
 ·grind
 ·rfl
/-- The fraction P/B is as near to a as T/K, and is taken of the two. -/
def Nr (a : Qn) (P B T K : Int) : Prop :=
 EvP (fun N => ab (vl a N - (T : Rat) / (K : Rat)) - ab (vl a N - (P : Rat) / (B : Rat))) ∨
 ((∃ N0, ∀ N, N0 ≤ N → ab (vl a N - (T : Rat) / (K : Rat)) = ab (vl a N - (P : Rat) / (B : Rat))) ∧ (B < K ∨ (B = K ∧ P ≤ T)))
theorem fr_mult {P B T K : Int} (h : Cn (fr P B)) (hK : 1 ≤ K) (e : T * B = P * K) : B < K ∨ (B = K ∧ P = T) := by
 have hB : 0 < B := h.ok.r
 have hd : B ∣ K := dvd_of_low (a := fr P B) (b := fr T K) h.g (show P * K = T * B from e.symm) (show (0 : Int) * K = 0 * B by rw [Int.zero_mul, Int.zero_mul])
 have hl := Int.le_of_dvd (by omega) hd
 by_cases c : B < K
 ·exact Or.inl c
 ·have e2 : B = K := by omega
  subst e2
  exact Or.inr ⟨rfl, (Int.eq_of_mul_eq_mul_right (by omega) e).symm⟩
theorem fr_sub {p q t k : Int} (hq : 0 < q) (hk : 0 < k) : (p : Rat) / q - (t : Rat) / k = ((p * k - t * q : Int) : Rat) * ((q : Rat) * k)⁻¹ := by
 have h1 : (q : Rat) ≠ 0 := cast_ne (by omega)
 have h2 : (k : Rat) ≠ 0 := cast_ne (by omega)
 simp only [Rat.intCast_sub, Rat.intCast_mul]
 grind
theorem fr_inv {q k : Int} (hq : 0 < q) (hk : 0 < k) : (0 : Rat) < ((q : Rat) * k)⁻¹ := Rat.inv_pos.2 (Rat.mul_pos (Rat.intCast_pos.2 hq) (Rat.intCast_pos.2 hk))
theorem fr_lt {p q t k : Int} (hq : 0 < q) (hk : 0 < k) (h : t * q < p * k) : (t : Rat) / k < (p : Rat) / q := by
 have e := fr_sub (p := p) (t := t) hq hk
 have := Rat.mul_pos (Rat.intCast_pos.2 (show 0 < p * k - t * q by omega)) (fr_inv hq hk)
 rw [← e] at this
 grind
theorem fr_same {p q t k : Int} (hq : 0 < q) (hk : 0 < k) (h : t * q = p * k) : (t : Rat) / k = (p : Rat) / q := by
 have e := fr_sub (p := p) (t := t) hq hk
 rw [show p * k - t * q = 0 by omega, Rat.intCast_zero] at e
 grind
theorem ev_at {f : Nat → Rat} (h : EvP f) : ∃ N0, ∀ N, N0 ≤ N → 0 < f N := by
 obtain ⟨δ, h1, N0, h2⟩ := h
 exact ⟨N0, fun N hN => by have := h2 N hN; grind⟩
/-- No fraction with so small a denominator lies between. -/
theorem adj {p1 q1 p2 q2 n T K : Int} (hq1 : 1 ≤ q1) (hq2 : 1 ≤ q2) (hd : p2 * q1 - p1 * q2 = 1) (hn : n < q1 + q2) (hK : K ≤ n) : T * q1 ≤ p1 * K ∨ p2 * K ≤ T * q2 := by
 by_cases c : T * q1 ≤ p1 * K
 ·exact Or.inl c
 ·refine Or.inr (Int.not_lt.1 fun d => ?_)
  have h1 : q1 * 1 ≤ q1 * (p2 * K - T * q2) := Int.mul_le_mul_of_nonneg_left (by omega) (by omega)
  have h2 : q2 * 1 ≤ q2 * (T * q1 - p1 * K) := Int.mul_le_mul_of_nonneg_left (by omega) (by omega)
  have h3 : q1 * (p2 * K - T * q2) + q2 * (T * q1 - p1 * K) = K * (p2 * q1 - p1 * q2) := by grind
  rw [hd] at h3
  omega
theorem near_lo {a : Qn} {p1 q1 p2 q2 n T K : Int} (c1 : Cn (fr p1 q1)) (c2 : Cn (fr p2 q2)) (hd : p2 * q1 - p1 * q2 = 1) (hn : n < q1 + q2) (hK0 : 1 ≤ K) (hK : K ≤ n)
 (hl : EvP (fun N => vl a N - (p1 : Rat) / q1)) (hh : EvP (fun N => (p2 : Rat) / q2 - vl a N))
 (hm : EvP (fun N => ((p1 : Rat) / q1 + (p2 : Rat) / q2) / 2 - vl a N) ∨ ((∀ N, vl a N = ((p1 : Rat) / q1 + (p2 : Rat) / q2) / 2) ∧ q1 ≤ q2)) : Nr a p1 q1 T K := by
 unfold Nr
 have hq1 : 0 < q1 := c1.ok.r
 have hq2 : 0 < q2 := c2.ok.r
 obtain ⟨N1, h1⟩ := ev_at hl
 obtain ⟨N2, h2⟩ := ev_at hh
 rcases adj (T := T) (by omega) (by omega) hd hn hK with hT | hT
 ·by_cases e : T * q1 = p1 * K
  ·have er := fr_same hq1 (by omega) e
   refine Or.inr ⟨⟨0, fun N _ => by rw [er]⟩, ?_⟩
   rcases fr_mult c1 hK0 e with k | ⟨k1, k2⟩
   ·exact Or.inl k
   ·exact Or.inr ⟨k1, by omega⟩
  ·have er := fr_lt hq1 (show 0 < K by omega) (show T * q1 < p1 * K by omega)
   generalize (T : Rat) / (K : Rat) = ρ at *
   generalize (p1 : Rat) / (q1 : Rat) = lo at *
   refine Or.inl ((EvP.const (c := lo - ρ) (by grind)).le ⟨N1, fun N hN => ?_⟩)
   have := h1 N hN
   rw [ab_p (x := vl a N - ρ) (by grind), ab_p (x := vl a N - lo) (by grind)]
   grind
 ·have er : (p2 : Rat) / q2 ≤ (T : Rat) / K := by
   by_cases e : T * q2 = p2 * K
   ·rw [fr_same hq2 (by omega) e]
    exact Rat.le_refl
   ·exact Rat.le_of_lt (fr_lt (p := T) (q := K) (t := p2) (k := q2) (by omega) hq2 (by omega))
  rcases hm with hm | ⟨hm, hq⟩
  ·generalize (T : Rat) / (K : Rat) = ρ at *
   generalize (p1 : Rat) / (q1 : Rat) = lo at *
   generalize (p2 : Rat) / (q2 : Rat) = hi at *
   refine Or.inl ((hm.scale 2 (by decide)).le ⟨max N1 N2, fun N hN => ?_⟩)
   have := h1 N (by omega)
   have := h2 N (by omega)
   rw [ab_n (x := vl a N - ρ) (by grind), ab_p (x := vl a N - lo) (by grind)]
   grind
  ·by_cases e : T * q2 = p2 * K
   ·have es := fr_same hq2 (show 0 < K by omega) e
    refine Or.inr ⟨⟨max N1 N2, fun N hN => ?_⟩, ?_⟩
    ·have a1 := h1 N (by omega)
     have a2 := h2 N (by omega)
     have a3 := hm N
     rw [es]
     generalize (p1 : Rat) / (q1 : Rat) = lo at *
     generalize (p2 : Rat) / (q2 : Rat) = hi at *
     rw [ab_n (x := vl a N - hi) (by grind), ab_p (x := vl a N - lo) (by grind)]
     grind
    ·rcases fr_mult c2 hK0 e with k | ⟨k1, k2⟩
     ·exact Or.inl (by omega)
     ·by_cases c : q1 < K
      ·exact Or.inl c
      ·have e1 : q1 = K := by omega
       refine Or.inr ⟨e1, ?_⟩
       rw [e1, k1, ← Int.sub_mul] at hd
       rw [← k2]
       refine Int.not_lt.1 fun hc => ?_
       have := Int.mul_nonpos_of_nonpos_of_nonneg (show p2 - p1 ≤ 0 by omega) (show 0 ≤ K by omega)
       omega
   ·have es := fr_lt (p := T) (q := K) (t := p2) (k := q2) (by omega) hq2 (by omega)
    generalize (T : Rat) / (K : Rat) = ρ at *
    generalize (p1 : Rat) / (q1 : Rat) = lo at *
    generalize (p2 : Rat) / (q2 : Rat) = hi at *
    refine Or.inl ((EvP.const (c := ρ - hi) (by grind)).le ⟨max N1 N2, fun N hN => ?_⟩)
    have a1 := h1 N (by omega)
    have a2 := h2 N (by omega)
    have a3 := hm N
    rw [ab_n (x := vl a N - ρ) (by grind), ab_p (x := vl a N - lo) (by grind)]
    grind
theorem near_hi {a : Qn} {p1 q1 p2 q2 n T K : Int} (c1 : Cn (fr p1 q1)) (c2 : Cn (fr p2 q2)) (hd : p2 * q1 - p1 * q2 = 1) (hn : n < q1 + q2) (hK0 : 1 ≤ K) (hK : K ≤ n)
 (hl : EvP (fun N => vl a N - (p1 : Rat) / q1)) (hh : EvP (fun N => (p2 : Rat) / q2 - vl a N))
 (hm : EvP (fun N => vl a N - ((p1 : Rat) / q1 + (p2 : Rat) / q2) / 2) ∨ ((∀ N, vl a N = ((p1 : Rat) / q1 + (p2 : Rat) / q2) / 2) ∧ q2 < q1)) : Nr a p2 q2 T K := by
 unfold Nr
 have hq1 : 0 < q1 := c1.ok.r
 have hq2 : 0 < q2 := c2.ok.r
 obtain ⟨N1, h1⟩ := ev_at hl
 obtain ⟨N2, h2⟩ := ev_at hh
 rcases adj (T := T) (by omega) (by omega) hd hn hK with hT | hT
 ·have er : (T : Rat) / K ≤ (p1 : Rat) / q1 := by
   by_cases e : T * q1 = p1 * K
   ·rw [fr_same hq1 (by omega) e]
    exact Rat.le_refl
   ·exact Rat.le_of_lt (fr_lt hq1 (by omega) (by omega))
  rcases hm with hm | ⟨hm, hq⟩
  ·generalize (T : Rat) / (K : Rat) = ρ at *
   generalize (p1 : Rat) / (q1 : Rat) = lo at *
   generalize (p2 : Rat) / (q2 : Rat) = hi at *
   refine Or.inl ((hm.scale 2 (by decide)).le ⟨max N1 N2, fun N hN => ?_⟩)
   have := h1 N (by omega)
   have := h2 N (by omega)
   rw [ab_p (x := vl a N - ρ) (by grind), ab_n (x := vl a N - hi) (by grind)]
   grind
  ·by_cases e : T * q1 = p1 * K
   ·have es := fr_same hq1 (show 0 < K by omega) e
    refine Or.inr ⟨⟨max N1 N2, fun N hN => ?_⟩, ?_⟩
    ·have a1 := h1 N (by omega)
     have a2 := h2 N (by omega)
     have a3 := hm N
     rw [es]
     generalize (p1 : Rat) / (q1 : Rat) = lo at *
     generalize (p2 : Rat) / (q2 : Rat) = hi at *
     rw [ab_p (x := vl a N - lo) (by grind), ab_n (x := vl a N - hi) (by grind)]
     grind
    ·rcases fr_mult c1 hK0 e with k | ⟨k1, k2⟩ <;> exact Or.inl (by omega)
   ·have es := fr_lt hq1 (show 0 < K by omega) (show T * q1 < p1 * K by omega)
    generalize (T : Rat) / (K : Rat) = ρ at *
    generalize (p1 : Rat) / (q1 : Rat) = lo at *
    generalize (p2 : Rat) / (q2 : Rat) = hi at *
    refine Or.inl ((EvP.const (c := lo - ρ) (by grind)).le ⟨max N1 N2, fun N hN => ?_⟩)
    have a1 := h1 N (by omega)
    have a2 := h2 N (by omega)
    have a3 := hm N
    rw [ab_p (x := vl a N - ρ) (by grind), ab_n (x := vl a N - hi) (by grind)]
    grind
 ·by_cases e : T * q2 = p2 * K
  ·have er := fr_same hq2 (by omega) e
   refine Or.inr ⟨⟨0, fun N _ => by rw [er]⟩, ?_⟩
   rcases fr_mult c2 hK0 e with k | ⟨k1, k2⟩
   ·exact Or.inl k
   ·exact Or.inr ⟨k1, by omega⟩
  ·have er := fr_lt (p := T) (q := K) (t := p2) (k := q2) (by omega) hq2 (by omega)
   generalize (T : Rat) / (K : Rat) = ρ at *
   generalize (p2 : Rat) / (q2 : Rat) = hi at *
   refine Or.inl ((EvP.const (c := ρ - hi) (by grind)).le ⟨N2, fun N hN => ?_⟩)
   have := h2 N hN
   rw [ab_n (x := vl a N - ρ) (by grind), ab_n (x := vl a N - hi) (by grind)]
   grind
theorem vl_fr (P Q : Int) (N : Nat) : vl (fr P Q) N = (P : Rat) / (Q : Rat) := by
 unfold vl rx ry fr
 simp only [Rat.intCast_zero]
 grind
theorem md_cn {lp lq op oq : Int} (h1 : 1 ≤ lq) (h2 : 1 ≤ oq) : InF 1 (md lp lq op oq) := by
 have h3 := Int.mul_pos (show 0 < lq by omega) (show 0 < oq by omega)
 exact inf_red (by omega) (qreduce_ok (by omega) (by decide) (by decide) sqfree_one (fun _ => rfl)) (fun h => absurd rfl h)
theorem md_vl {lp lq op oq : Int} (h1 : 1 ≤ lq) (h2 : 1 ≤ oq) (N : Nat) : vl (md lp lq op oq) N = ((lp : Rat) / lq + (op : Rat) / oq) / 2 := by
 have h3 := Int.mul_pos (show 0 < lq by omega) (show 0 < oq by omega)
 have k1 : (lq : Rat) ≠ 0 := cast_ne (by omega)
 have k2 : (oq : Rat) ≠ 0 := cast_ne (by omega)
 rw [vl_in (md_cn h1 h2)]
 unfold md
 rw [rx_red (by omega), ry_red (by omega)]
 simp only [Rat.intCast_add, Rat.intCast_mul, Rat.intCast_zero]
 grind

end Go.Proofs.YtjahbjjekednfaaDoor

namespace Go.Proofs.YtjahbjjekednfaaDoor

theorem cmp_ev {a : Qn} {P Q : Int} (h : Cn a) (hf : Cn (fr P Q)) : (qcmp a (fr P Q) = 1 → EvP (fun N => vl a N - (P : Rat) / Q)) ∧ (qcmp a (fr P Q) = -1 → EvP (fun N => (P : Rat) / Q - vl a N)) := by
 rcases cmp_sem h hf with ⟨o, k⟩ | ⟨o, k⟩ | ⟨o, k⟩
 ·exact ⟨fun _ => EvP.congr k fun N => by rw [vl_fr], fun e => by omega⟩
 ·exact ⟨fun e => by omega, fun _ => EvP.congr k fun N => by rw [vl_fr]⟩
 ·exact ⟨fun e => by omega, fun e => by omega⟩
/-- All that Best's fraction is. -/
def Bst (a : Qn) (n P B : Int) : Prop := 1 ≤ B ∧ B ≤ n ∧ Cn (fr P B) ∧ ∀ T K : Int, 1 ≤ K → K ≤ n → Nr a P B T K
theorem nq_ok {a : Qn} (h : Cn a) {p1 q1 p2 q2 n : Int} (c1 : Cn (fr p1 q1)) (c2 : Cn (fr p2 q2)) (hd : p2 * q1 - p1 * q2 = 1) (hn : n < q1 + q2) (n1 : q1 ≤ n) (n2 : q2 ≤ n)
 (hl : EvP (fun N => vl a N - (p1 : Rat) / q1)) (hh : EvP (fun N => (p2 : Rat) / q2 - vl a N)) {M : Qn} (hM : Cn M) (hv : ∀ N, vl M N = ((p1 : Rat) / q1 + (p2 : Rat) / q2) / 2) {r : Int × Int} (hr : r = nq (qcmp a M) (p1, q1) (p2, q2)) : Bst a n r.1 r.2 := by
 have hq1 : 0 < q1 := c1.ok.r
 have hq2 : 0 < q2 := c2.ok.r
 have lo : r = (p1, q1) → (EvP (fun N => ((p1 : Rat) / q1 + (p2 : Rat) / q2) / 2 - vl a N) ∨ ((∀ N, vl a N = ((p1 : Rat) / q1 + (p2 : Rat) / q2) / 2) ∧ q1 ≤ q2)) → Bst a n r.1 r.2 := fun e hm => by
  rw [e]
  exact ⟨by show 1 ≤ q1; omega, n1, c1, fun T K k0 k1 => near_lo c1 c2 hd hn k0 k1 hl hh hm⟩
 have hi : r = (p2, q2) → (EvP (fun N => vl a N - ((p1 : Rat) / q1 + (p2 : Rat) / q2) / 2) ∨ ((∀ N, vl a N = ((p1 : Rat) / q1 + (p2 : Rat) / q2) / 2) ∧ q2 < q1)) → Bst a n r.1 r.2 := fun e hm => by
  rw [e]
  exact ⟨by show 1 ≤ q2; omega, n2, c2, fun T K k0 k1 => near_hi c1 c2 hd hn k0 k1 hl hh hm⟩
 unfold nq at hr
 rcases cmp_sem h hM with ⟨o, k⟩ | ⟨o, k⟩ | ⟨o, k⟩
 ·rw [o, show (if (1 : Int) = 0 then ((p1, q1).2 - (p2, q2).2).sign else 1) = 1 from if_neg (by decide), if_pos (by decide)] at hr
  exact hi hr (Or.inl (EvP.congr k fun N => by rw [hv]))
 ·rw [o, show (if (-1 : Int) = 0 then ((p1, q1).2 - (p2, q2).2).sign else -1) = -1 from if_neg (by decide), if_neg (by decide)] at hr
  exact lo hr (Or.inl (EvP.congr k fun N => by rw [hv]))
 ·rw [o, if_pos rfl] at hr
  have hm : ∀ N, vl a N = ((p1 : Rat) / q1 + (p2 : Rat) / q2) / 2 := fun N => by rw [k, hv]
  by_cases c : 0 < (q1 - q2).sign
  ·rw [if_pos c] at hr
   refine hi hr (Or.inr ⟨hm, ?_⟩)
   rcases sign3 (q1 - q2) with ⟨s1, s2⟩ | ⟨s1, s2⟩ | ⟨s1, s2⟩ <;> omega
  ·rw [if_neg c] at hr
   refine lo hr (Or.inr ⟨hm, ?_⟩)
   rcases sign3 (q1 - q2) with ⟨s1, s2⟩ | ⟨s1, s2⟩ | ⟨s1, s2⟩ <;> omega
theorem bst_ok {a : Qn} (h : Cn a) {n : Int} (hn : 1 ≤ n) {J : Nat} (hJ : BAt a n J) : Bst a n (bst a n J).1 (bst a n J).2 := by
 have hR := rl_start h
 have hp := hJ.pos h hn
 obtain ⟨i, rfl⟩ : ∃ i, J = i + 1 := ⟨J - 1, by omega⟩
 have on : ∀ j, j < i + 1 → (rst (p0 a) (q0 a) (n0 a) j).2 ≠ 0 := fun j hj => (hJ.on j hj).1
 have l1 := (cvq_pos (hJ.tms h) i (by omega)).1
 have l2 := (hJ.lq h hn (i + 1) (Nat.le_refl _)).2
 have cL := cv_cn hR i on
 by_cases hz : (rs a (i + 1)).2 = 0
 ·have e : bst a n (i + 1) = lst' a (i + 1) := if_pos hz
  rw [e]
  obtain ⟨d1, d2⟩ := cv_end hR i (fun j hj => on j (by omega)) hz
  have ea := fr_eq h d1 cL d2
  refine ⟨l1, l2, cL, fun T K k0 k1 => ?_⟩
  have hv : ∀ N, vl a N = ((cv (p0 a) (q0 a) (n0 a) (i + 1)).lp : Rat) / ((cv (p0 a) (q0 a) (n0 a) (i + 1)).lq : Rat) := fun N => (congrArg (fun b => vl b N) ea).trans (vl_fr _ _ _)
  show Nr a (cv (p0 a) (q0 a) (n0 a) (i + 1)).lp (cv (p0 a) (q0 a) (n0 a) (i + 1)).lq T K
  generalize (cv (p0 a) (q0 a) (n0 a) (i + 1)).lp = lp at *
  generalize (cv (p0 a) (q0 a) (n0 a) (i + 1)).lq = lq at *
  unfold Nr
  rcases Int.lt_trichotomy (T * lq) (lp * K) with c | c | c
  ·have er := fr_lt (show 0 < lq by omega) (show 0 < K by omega) c
   generalize (T : Rat) / (K : Rat) = ρ at *
   generalize (lp : Rat) / (lq : Rat) = x at *
   refine Or.inl ((EvP.const (c := x - ρ) (by grind)).le ⟨0, fun N _ => ?_⟩)
   rw [hv N, ab_p (x := x - ρ) (by grind), ab_p (x := x - x) (by grind)]
   grind
  ·refine Or.inr ⟨⟨0, fun N _ => by rw [fr_same (show 0 < lq by omega) (show 0 < K by omega) c]⟩, ?_⟩
   rcases fr_mult cL k0 c with k | ⟨k, k'⟩
   ·exact Or.inl k
   ·exact Or.inr ⟨k, by omega⟩
  ·have er := fr_lt (p := T) (q := K) (t := lp) (k := lq) (by omega) (by omega) c
   generalize (T : Rat) / (K : Rat) = ρ at *
   generalize (lp : Rat) / (lq : Rat) = x at *
   refine Or.inl ((EvP.const (c := ρ - x) (by grind)).le ⟨0, fun N _ => ?_⟩)
   rw [hv N, ab_n (x := x - ρ) (by grind), ab_p (x := x - x) (by grind)]
   grind
 ·have hst : n < (cv (p0 a) (q0 a) (n0 a) (i + 2)).lq := Int.not_le.1 fun k => hJ.stop ⟨hz, k⟩
  have on' : ∀ j, j ≤ i + 1 → (rst (p0 a) (q0 a) (n0 a) j).2 ≠ 0 := fun j hj => by
   by_cases c : j < i + 1
   ·exact on j c
   ·rw [show j = i + 1 by omega]; exact hz
  have hD := oth_det a n (i + 1)
  have sL := cv_side hR i on'
  rw [← cmp_fr h cL] at sL
  have aL := alt_succ i
  have cC := cv_cn hR (i + 1) (fun j hj => on' j (by omega))
  have lC : 1 ≤ (cv (p0 a) (q0 a) (n0 a) (i + 2)).lq := cC.ok.r
  have sC : a = fr (cv (p0 a) (q0 a) (n0 a) (i + 2)).lp (cv (p0 a) (q0 a) (n0 a) (i + 2)).lq ∨ qcmp a (fr (cv (p0 a) (q0 a) (n0 a) (i + 2)).lp (cv (p0 a) (q0 a) (n0 a) (i + 2)).lq) = alt (i + 1) := by
   by_cases hz2 : (rst (p0 a) (q0 a) (n0 a) (i + 1 + 1)).2 = 0
   ·obtain ⟨d1, d2⟩ := cv_end hR (i + 1) on' hz2
    exact Or.inl (fr_eq h d1 cC d2)
   ·have := cv_side hR (i + 1) (fun j hj => by
     by_cases c : j ≤ i + 1
     ·exact on' j c
     ·rw [show j = i + 1 + 1 by omega]; exact hz2)
    rw [← cmp_fr h cC] at this
    exact Or.inr this
  have hdet := cv_det (p0 a) (q0 a) (n0 a) (i + 1)
  obtain ⟨t1, t2⟩ := fl_pos (x := n - (cv (p0 a) (q0 a) (n0 a) (i + 1)).aq) (y := (cv (p0 a) (q0 a) (n0 a) (i + 1)).lq) (by omega)
  have aq0 : 0 ≤ (cv (p0 a) (q0 a) (n0 a) (i + 1)).aq := (cvq_pos (hJ.tms h) i (by omega)).2.1
  have eC1 : (cv (p0 a) (q0 a) (n0 a) (i + 2)).lp = tm (p0 a) (q0 a) (n0 a) (i + 1) * (cv (p0 a) (q0 a) (n0 a) (i + 1)).lp + (cv (p0 a) (q0 a) (n0 a) (i + 1)).ap := rfl
  have eC2 : (cv (p0 a) (q0 a) (n0 a) (i + 2)).lq = tm (p0 a) (q0 a) (n0 a) (i + 1) * (cv (p0 a) (q0 a) (n0 a) (i + 1)).lq + (cv (p0 a) (q0 a) (n0 a) (i + 1)).aq := rfl
  have eB : bst a n (i + 1) = if alt (i + 1) = 1 then nq (qcmp a (md (lst' a (i + 1)).1 (lst' a (i + 1)).2 (oth a n (i + 1)).1 (oth a n (i + 1)).2)) (oth a n (i + 1)) (lst' a (i + 1)) else nq (qcmp a (md (lst' a (i + 1)).1 (lst' a (i + 1)).2 (oth a n (i + 1)).1 (oth a n (i + 1)).2)) (lst' a (i + 1)) (oth a n (i + 1)) := if_neg hz
  rw [eB]
  clear eB
  unfold oth lst' at *
  simp only at *
  generalize fl (n - (cv (p0 a) (q0 a) (n0 a) (i + 1)).aq) (cv (p0 a) (q0 a) (n0 a) (i + 1)).lq = t at *
  generalize (cv (p0 a) (q0 a) (n0 a) (i + 2)).lp = Cp at *
  generalize (cv (p0 a) (q0 a) (n0 a) (i + 2)).lq = Cq at *
  generalize tm (p0 a) (q0 a) (n0 a) (i + 1) = tt at *
  generalize (cv (p0 a) (q0 a) (n0 a) (i + 1)).lp = lp at *
  generalize (cv (p0 a) (q0 a) (n0 a) (i + 1)).lq = lq at *
  generalize (cv (p0 a) (q0 a) (n0 a) (i + 1)).ap = ap at *
  generalize (cv (p0 a) (q0 a) (n0 a) (i + 1)).aq = aq at *
  generalize hop : t * lp + ap = op at *
  generalize hoq : t * lq + aq = oq at *
  have htt : t < tt := by
   refine Int.not_le.1 fun k => ?_
   have := Int.mul_le_mul_of_nonneg_right k (show 0 ≤ lq by omega)
   omega
  have o1 : 1 ≤ oq := by omega
  have o2 : oq ≤ n := by omega
  have hCO : Cp * oq - op * Cq = (tt - t) * alt (i + 1) := by
   rw [← hdet, eC1, eC2, ← hop, ← hoq]
   grind
  have cO : Cn (fr op oq) := fr_cn (P := op) (Q := oq) (R := lp) (S := lq) (e := - alt (i + 1)) o1 (by rcases alt_two (i + 1) with s | s <;> omega) (by omega)
  obtain ⟨vL1, vL2⟩ := cmp_ev h cL
  obtain ⟨vC1, vC2⟩ := cmp_ev h cC
  have vC : a = fr Cp Cq → ∀ N, vl a N = (Cp : Rat) / Cq := fun e N => (congrArg (fun b => vl b N) e).trans (vl_fr _ _ _)
  rcases alt_two (i + 1) with s | s
  ·rw [if_pos s]
   rw [s] at hD hCO sC
   have er := fr_lt (p := Cp) (q := Cq) (t := op) (k := oq) (by omega) (by omega) (by omega)
   have hl : EvP (fun N => vl a N - (op : Rat) / oq) := by
    rcases sC with e | e
    ·exact (EvP.const (c := (Cp : Rat) / Cq - (op : Rat) / oq) (by grind)).congr fun N => by rw [vC e N]
    ·exact (vC1 e).le ⟨0, fun N _ => by grind⟩
   refine nq_ok h cO cL (by omega) (by omega) o2 l2 hl (vL2 (by omega)) (md_cn l1 o1).cn (fun N => ?_) rfl
   rw [md_vl l1 o1]
   grind
  ·rw [if_neg (by omega)]
   rw [s] at hD hCO sC
   have er := fr_lt (p := op) (q := oq) (t := Cp) (k := Cq) (by omega) (by omega) (by omega)
   have hh : EvP (fun N => (op : Rat) / oq - vl a N) := by
    rcases sC with e | e
    ·exact (EvP.const (c := (op : Rat) / oq - (Cp : Rat) / Cq) (by grind)).congr fun N => by rw [vC e N]
    ·exact (vC2 e).le ⟨0, fun N _ => by grind⟩
   exact nq_ok h cL cO (by omega) (by omega) l2 o2 (vL1 (by omega)) hh (md_cn l1 o1).cn (fun N => md_vl l1 o1 N) rfl

end Go.Proofs.YtjahbjjekednfaaDoor
