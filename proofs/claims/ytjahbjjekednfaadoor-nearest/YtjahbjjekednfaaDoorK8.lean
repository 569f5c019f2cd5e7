import Derived.Test.YtjahbjjekednfaaDoorK5
import Derived.Test.YtjahbjjekednfaaDoorDr
import Derived.Test.YtjahbjjekednfaaDoorAl
namespace Go.Proofs.YtjahbjjekednfaaDoor
open Go.RowKit

theorem inf_int (D A : Int) : InF D ⟨A, 0, 1, 1⟩ := ⟨⟨Qok.int A, by
 show Int.gcd (Int.gcd 1 A) 0 = 1
 rw [Int.gcd_zero_right, Int.one_gcd]
 rfl⟩, Or.inl rfl⟩
theorem rx_int (A : Int) : rx ⟨A, 0, 1, 1⟩ = (A : Rat) := by
 unfold rx
 show (A : Rat) / ((1 : Int) : Rat) = A
 grind
theorem ry_int (A : Int) : ry ⟨A, 0, 1, 1⟩ = 0 := by
 unfold ry
 show ((0 : Int) : Rat) / ((1 : Int) : Rat) = 0
 grind
theorem div_fr {A B : Int} (hf : Cn (fr A B)) : comb 47 ⟨A, 0, 1, 1⟩ ⟨B, 0, 1, 1⟩ = (fr A B, 0) := by
 have hB : 0 < B := hf.ok.r
 have hb : (B : Rat) ≠ 0 := cast_ne (by omega)
 have hz : ¬ ((⟨B, 0, 1, 1⟩ : Qn).p = 0 ∧ (⟨B, 0, 1, 1⟩ : Qn).q = 0) := fun k => by
  have : B = 0 := k.1
  omega
 rw [qdiv_of hz]
 obtain ⟨i1, x1, y1⟩ := f_inv (inf_int 1 B) hz
 obtain ⟨g, i2, x2, y2⟩ := f_mul (inf_int 1 A) i1
 rw [g]
 rw [rx_int, ry_int] at x1 y1 x2 y2
 have r1 : ry (qinv ⟨B, 0, 1, 1⟩) = 0 := by grind
 have r2 : rx (qinv ⟨B, 0, 1, 1⟩) = (B : Rat)⁻¹ := by grind
 have e := inf_ext i2 (⟨hf, Or.inl rfl⟩ : InF 1 (fr A B)) (by
  rw [x2, r1, r2]
  unfold rx fr
  simp only
  grind) (by
  rw [y2, r1, r2]
  unfold ry fr
  simp only [Rat.intCast_zero]
  grind)
 rw [e]
/-- How a whole number's text is read. -/
theorem num_gv {A : Int} {t : List UInt8} (n : Nat) (hT : NumT (strOf t) A) (hl : t.length ≤ 18) : Gv (Fc n) (bi t) (⟨A, 0, 1, 1⟩, 0) ∧ ∃ z, pRun ⟨0, 18, 0⟩ (bi t) = some z ∧ z.d = 0 ∧ z.k = 2 := by
 have key : ∀ t : List UInt8, t.length ≤ 18 → t ≠ [] → Digs (bi t) → Gv (Fc n) (bi t) (⟨decN (bi t), 0, 1, 1⟩, 0) ∧ ∃ z, pRun ⟨0, 18, 0⟩ (bi t) = some z ∧ z.d = 0 ∧ z.k = 2 := by
  intro t hl hne hD
  have hne' : bi t ≠ [] := by simpa [bi] using hne
  have hl' : (bi t).length ≤ 18 := by simpa [bi] using hl
  refine ⟨Gv.atom (r := ⟨⟨decN (bi t), 0, 1, 1⟩, 0, 0⟩) (Or.inl ⟨hne', by omega, hD, rfl⟩), ?_⟩
  obtain ⟨z, h1, h2, h3⟩ := dig_run (bi t) ⟨0, 18, 0⟩ hD (by show ((bi t).length : Int) ≤ 18; omega)
  exact ⟨z, h1, h2, h3 hne'⟩
 rcases numT_of hT with ⟨_, h2, h3⟩ | ⟨_, t', h1, h2, h3, _, h5⟩
 ·rw [h3]
  rcases h2 with h2 | ⟨h4, h5, _⟩
  ·subst h2
   exact key _ hl (by simp) (fun c hc => by simp [bi] at hc; rw [hc]; rfl)
  ·exact key _ hl h4 h5
 ·subst h1
  rw [List.length_cons] at hl
  obtain ⟨g, z, z1, z2, z3⟩ := key t' (by omega) h2 h3
  have eb : bi (45 :: t') = 45 :: bi t' := rfl
  rw [eb, h5]
  refine ⟨?_, z, ?_, z2, z3⟩
  ·have := Gv.minus g
   have e : qneg ⟨decN (bi t'), 0, 1, 1⟩ = ⟨-decN (bi t'), 0, 1, 1⟩ := by simp [qneg]
   rw [e] at this
   exact this
  ·unfold pRun
   rw [show plStep ⟨0, 18, 0⟩ 45 = (⟨0, 18, 0⟩, true) by rfl]
   simpa using z1
/-- How a fraction's text is read. -/
theorem frac_rk {A B : Int} (hf : Cn (fr A B)) (h1 : (strOf (Go.Lib.itoa A)).size ≤ 9) (h2 : (strOf (Go.Lib.itoa B)).size ≤ 9) {r : Rs} (h : Rk (strOf (Go.Lib.itoa A) ++ ⟨#[47]⟩ ++ strOf (Go.Lib.itoa B)) r) : r.e = 0 ∧ r.v = fr A B := by
 have hA : NumT (strOf (Go.Lib.itoa A)) A := rfl
 have hB : NumT (strOf (Go.Lib.itoa B)) B := rfl
 generalize Go.Lib.itoa A = s at *
 generalize Go.Lib.itoa B = t at *
 have hb : bl (strOf s ++ ⟨#[47]⟩ ++ strOf t) = bi s ++ 47 :: bi t := by
  rw [bl_app, bl_app, bl_strOf, bl_strOf, List.append_assoc]
  rfl
 have hsz : (strOf s ++ ⟨#[47]⟩ ++ strOf t).size ≤ 19 := by
  rw [ByteArray.size_append, ByteArray.size_append]
  have : (⟨#[47]⟩ : ByteArray).size = 1 := rfl
  omega
 rw [strOf_size] at h1 h2
 obtain ⟨g1, z1, u1, u2, u3⟩ := num_gv 8 hA (by omega)
 obtain ⟨g2, z2, v1, v2, v3⟩ := num_gv 8 hB (by omega)
 have g : Gv (Sm 8) (bl (strOf s ++ ⟨#[47]⟩ ++ strOf t)) (fr A B, 0) := by
  rw [hb]
  have := p2s (Gv.op (c := 47) (Or.inr rfl) (f2p g1) g2)
  rw [opX_zero, div_fr hf] at this
  exact this
 have hE : Ends ⟨0, 18, 0⟩ (bl (strOf s ++ ⟨#[47]⟩ ++ strOf t)) := by
  rw [hb]
  refine ⟨z2, ?_, v3, by omega⟩
  rw [pRun_app, u1]
  show pRun z1 (47 :: bi t) = some z2
  have e : plStep z1 47 = (⟨0, 18, 0⟩, true) := by
   obtain ⟨k, r, d⟩ := z1
   simp only at u2 u3
   subst u2 u3
   rfl
  unfold pRun
  rw [e]
  simpa using v1
 have hF := (fault_iff _).2 hE
 rcases rk_gv h g with ⟨_, g1⟩ | ⟨_, _, g1⟩ | ⟨_, _, g1, g2⟩
 ·omega
 ·omega
 ·exact ⟨g1, g2 g1⟩

end Go.Proofs.YtjahbjjekednfaaDoor
