import Derived.Test.YtjahbjjekednfabDoorH1
import Derived.Test.YtjahbjjekednfabDoorG1
namespace Go.Proofs.YtjahbjjekednfabDoor

theorem qroot_comm {a b : Qn} (ha : Cn a) (hb : Cn b) : qroot a.d b.d = 0 ↔ qroot b.d a.d = 0 := by
 have d1 := ha.ok.d0
 have d2 := hb.ok.d0
 unfold qroot
 split <;> split <;> first | omega | (split <;> omega)
theorem add_root {a b : Qn} (h : (qadd a b).2 = 0) : qroot a.d b.d ≠ 0 ∧ (qadd a b).1 = qaddN a b := by
 unfold qadd at *
 split at h
 ·exact absurd h (by simp)
 ·rename_i hn
  rw [if_neg hn]
  exact ⟨hn, rfl⟩
theorem mul_root {a b : Qn} (h : (qmul a b).2 = 0) : qroot a.d b.d ≠ 0 ∧ (qmul a b).1 = qmulN a b := by
 unfold qmul at *
 split at h
 ·exact absurd h (by simp)
 ·rename_i hn
  rw [if_neg hn]
  exact ⟨hn, rfl⟩
theorem qadd_comm {a b : Qn} (ha : Cn a) (hb : Cn b) : qadd a b = qadd b a := by
 by_cases h : qroot a.d b.d = 0
 ·unfold qadd
  rw [if_pos h, if_pos ((qroot_comm ha hb).1 h)]
 ·obtain ⟨D, i1, i2⟩ := two_fld ha hb h
  obtain ⟨e1, k1, x1, y1⟩ := f_add i1 i2
  obtain ⟨e2, k2, x2, y2⟩ := f_add i2 i1
  rw [e1, e2, inf_ext k1 k2 (by rw [x1, x2]; grind) (by rw [y1, y2]; grind)]
theorem qmul_comm {a b : Qn} (ha : Cn a) (hb : Cn b) : qmul a b = qmul b a := by
 by_cases h : qroot a.d b.d = 0
 ·unfold qmul
  rw [if_pos h, if_pos ((qroot_comm ha hb).1 h)]
 ·obtain ⟨D, i1, i2⟩ := two_fld ha hb h
  obtain ⟨e1, k1, x1, y1⟩ := f_mul i1 i2
  obtain ⟨e2, k2, x2, y2⟩ := f_mul i2 i1
  rw [e1, e2, inf_ext k1 k2 (by rw [x1, x2]; grind) (by rw [y1, y2]; grind)]
theorem inf_d {D : Int} {a b : Qn} (ha : InF D a) (hb : Cn b) (h : ry b = 0 ↔ ry a = 0) (hi : b.q = 0 ∨ b.d = D) : a.d = b.d := by
 have q1 := ha.cn.ok.q
 have q2 := hb.ok.q
 have z1 := ry_zero ha.cn.ok.r
 have z2 := ry_zero hb.ok.r
 have e := ha.i
 rw [z1, z2] at h
 omega
theorem add_d {a b : Qn} (ha : Cn a) (hb : Cn b) (h : a.q = 0) : (qaddN a b).d = b.d := by
 obtain ⟨_, k, _, y⟩ := f_add (D := b.d) ⟨ha, Or.inl h⟩ (inf_own hb)
 refine inf_d k hb ?_ (Or.inr rfl)
 rw [y, (ry_zero ha.ok.r).2 h]
 grind
theorem mul_d {a b : Qn} (ha : Cn a) (hb : Cn b) (h : a.q = 0) (hp : a.p ≠ 0) : (qmulN a b).d = b.d := by
 obtain ⟨_, k, _, y⟩ := f_mul (D := b.d) ⟨ha, Or.inl h⟩ (inf_own hb)
 refine inf_d k hb ?_ (Or.inr rfl)
 have hx : rx a ≠ 0 := fun e => hp ((rx_zero ha.ok.r).1 e)
 rw [y, (ry_zero ha.ok.r).2 h]
 grind
theorem law_three {a b c : Qn} (ha : Cn a) (hb : Cn b) (hc : Cn c) (h1 : (opX 43 (a, 0) (opX 43 (b, 0) (c, 0))).2 = 0) (h2 : (opX 43 (opX 43 (a, 0) (b, 0)) (c, 0)).2 = 0) :
  (opX 43 (a, 0) (opX 43 (b, 0) (c, 0))).1 = (opX 43 (opX 43 (a, 0) (b, 0)) (c, 0)).1 := by
 obtain ⟨_, h3, e1⟩ := opX_ok h1
 obtain ⟨h4, _, e2⟩ := opX_ok h2
 rw [e1] at h1 ⊢
 rw [e2] at h2 ⊢
 rw [opX_zero] at h1 h2 h3 h4 ⊢
 rw [opX_zero]
 change (qadd a (qadd b c).1).2 = 0 at h1
 change (qadd (qadd a b).1 c).2 = 0 at h2
 change (qadd b c).2 = 0 at h3
 change (qadd a b).2 = 0 at h4
 show (qadd a (qadd b c).1).1 = (qadd (qadd a b).1 c).1
 obtain ⟨n3, e3⟩ := add_root h3
 obtain ⟨n4, e4⟩ := add_root h4
 rw [e3] at h1 ⊢
 rw [e4] at h2 ⊢
 obtain ⟨n1, e5⟩ := add_root h1
 obtain ⟨n2, e6⟩ := add_root h2
 obtain ⟨D, i1, i2, i3⟩ : ∃ D, InF D a ∧ InF D b ∧ InF D c := by
  by_cases hq : b.q = 0
  ·rw [add_d hb hc hq] at n1
   obtain ⟨D, i1, i3⟩ := two_fld ha hc n1
   exact ⟨D, i1, ⟨hb, Or.inl hq⟩, i3⟩
  ·obtain ⟨D, i2, i3⟩ := two_fld hb hc n3
   obtain ⟨E, i1, i4⟩ := two_fld ha hb n4
   have : D = E := by have := i2.i; have := i4.i; omega
   subst this
   exact ⟨D, i1, i2, i3⟩
 obtain ⟨_, k1, x1, y1⟩ := f_add i2 i3
 obtain ⟨_, k2, x2, y2⟩ := f_add i1 i2
 obtain ⟨g1, k3, x3, y3⟩ := f_add i1 k1
 obtain ⟨g2, k4, x4, y4⟩ := f_add k2 i3
 rw [g1, g2]
 exact inf_ext k3 k4 (by rw [x3, x4, x1, x2]; grind) (by rw [y3, y4, y1, y2]; grind)
theorem mul_nought {a b : Qn} (ha : Cn a) (hb : Cn b) (h1 : b.p = 0) (h2 : b.q = 0) : qmul a b = (⟨0, 0, 1, 1⟩, 0) := by
 obtain ⟨g, k, x, y⟩ := f_mul (D := a.d) (inf_own ha) ⟨hb, Or.inl h2⟩
 rw [(rx_zero hb.ok.r).2 h1, (ry_zero hb.ok.r).2 h2] at x y
 rw [g, inf_ext k (inf_zero a.d) (by rw [x, rx_z]; grind) (by rw [y, ry_z]; grind)]
theorem law_also {a b c : Qn} (ha : Cn a) (hb : Cn b) (hc : Cn c) (h1 : (opX 42 (a, 0) (opX 42 (b, 0) (c, 0))).2 = 0) (h2 : (opX 42 (opX 42 (a, 0) (b, 0)) (c, 0)).2 = 0) :
  (opX 42 (a, 0) (opX 42 (b, 0) (c, 0))).1 = (opX 42 (opX 42 (a, 0) (b, 0)) (c, 0)).1 := by
 obtain ⟨_, h3, e1⟩ := opX_ok h1
 obtain ⟨h4, _, e2⟩ := opX_ok h2
 rw [e1] at h1 ⊢
 rw [e2] at h2 ⊢
 rw [opX_zero] at h1 h2 h3 h4 ⊢
 rw [opX_zero]
 change (qmul a (qmul b c).1).2 = 0 at h1
 change (qmul (qmul a b).1 c).2 = 0 at h2
 change (qmul b c).2 = 0 at h3
 change (qmul a b).2 = 0 at h4
 show (qmul a (qmul b c).1).1 = (qmul (qmul a b).1 c).1
 by_cases hz : b.p = 0 ∧ b.q = 0
 ·rw [qmul_comm hb hc, mul_nought hc hb hz.1 hz.2, mul_nought ha hb hz.1 hz.2]
  show (qmul a ⟨0, 0, 1, 1⟩).1 = (qmul ⟨0, 0, 1, 1⟩ c).1
  rw [qmul_comm cn_zero hc, mul_nought ha cn_zero rfl rfl, mul_nought hc cn_zero rfl rfl]
 obtain ⟨n3, e3⟩ := mul_root h3
 obtain ⟨n4, e4⟩ := mul_root h4
 rw [e3] at h1 ⊢
 rw [e4] at h2 ⊢
 obtain ⟨n1, e5⟩ := mul_root h1
 obtain ⟨n2, e6⟩ := mul_root h2
 obtain ⟨D, i1, i2, i3⟩ : ∃ D, InF D a ∧ InF D b ∧ InF D c := by
  by_cases hq : b.q = 0
  ·rw [mul_d hb hc hq (fun h => hz ⟨h, hq⟩)] at n1
   obtain ⟨D, i1, i3⟩ := two_fld ha hc n1
   exact ⟨D, i1, ⟨hb, Or.inl hq⟩, i3⟩
  ·obtain ⟨D, i2, i3⟩ := two_fld hb hc n3
   obtain ⟨E, i1, i4⟩ := two_fld ha hb n4
   have : D = E := by have := i2.i; have := i4.i; omega
   subst this
   exact ⟨D, i1, i2, i3⟩
 obtain ⟨_, k1, x1, y1⟩ := f_mul i2 i3
 obtain ⟨_, k2, x2, y2⟩ := f_mul i1 i2
 obtain ⟨g1, k3, x3, y3⟩ := f_mul i1 k1
 obtain ⟨g2, k4, x4, y4⟩ := f_mul k2 i3
 rw [g1, g2]
 exact inf_ext k3 k4 (by rw [x3, x4, x1, x2, y1, y2]; grind) (by rw [y3, y4, y1, y2, x1, x2]; grind)
theorem law_apart {a b c : Qn} (ha : Cn a) (hb : Cn b) (hc : Cn c) (h1 : (opX 42 (a, 0) (opX 43 (b, 0) (c, 0))).2 = 0) (h2 : (opX 43 (opX 42 (a, 0) (b, 0)) (opX 42 (a, 0) (c, 0))).2 = 0) :
  (opX 42 (a, 0) (opX 43 (b, 0) (c, 0))).1 = (opX 43 (opX 42 (a, 0) (b, 0)) (opX 42 (a, 0) (c, 0))).1 := by
 obtain ⟨_, h3, e1⟩ := opX_ok h1
 obtain ⟨h4, h5, e2⟩ := opX_ok h2
 rw [e1, e2]
 rw [opX_zero] at h3 h4 h5 ⊢
 rw [opX_zero, opX_zero]
 change (qadd b c).2 = 0 at h3
 change (qmul a b).2 = 0 at h4
 change (qmul a c).2 = 0 at h5
 show (qmul a (qadd b c).1).1 = (qadd (qmul a b).1 (qmul a c).1).1
 obtain ⟨n3, e3⟩ := add_root h3
 obtain ⟨n4, e4⟩ := mul_root h4
 obtain ⟨n5, e5⟩ := mul_root h5
 rw [e3, e4, e5]
 obtain ⟨D, i1, i2, i3⟩ : ∃ D, InF D a ∧ InF D b ∧ InF D c := by
  obtain ⟨D, i2, i3⟩ := two_fld hb hc n3
  obtain ⟨E, i1, i4⟩ := two_fld ha hb n4
  obtain ⟨G, i5, i6⟩ := two_fld ha hc n5
  by_cases hq : b.q = 0
  ·exact ⟨G, i5, ⟨hb, Or.inl hq⟩, i6⟩
  ·have : D = E := by have := i2.i; have := i4.i; omega
   subst this
   exact ⟨D, i1, i2, i3⟩
 obtain ⟨_, k1, x1, y1⟩ := f_add i2 i3
 obtain ⟨_, k2, x2, y2⟩ := f_mul i1 i2
 obtain ⟨_, k5, x5, y5⟩ := f_mul i1 i3
 obtain ⟨g1, k3, x3, y3⟩ := f_mul i1 k1
 obtain ⟨g2, k4, x4, y4⟩ := f_add k2 k5
 rw [g1, g2]
 exact inf_ext k3 k4 (by rw [x3, x4, x1, x2, x5, y1]; grind) (by rw [y3, y4, y1, y2, y5, x1]; grind)
theorem law_back {a b : Qn} (ha : Cn a) (hb : Cn b) (h : (opX 45 (opX 43 (a, 0) (b, 0)) (b, 0)).2 = 0) : (opX 45 (opX 43 (a, 0) (b, 0)) (b, 0)).1 = a := by
 obtain ⟨h4, _, e2⟩ := opX_ok h
 rw [e2]
 rw [opX_zero] at h4 ⊢
 change (qadd a b).2 = 0 at h4
 show (qadd (qadd a b).1 (qneg b)).1 = a
 obtain ⟨n4, e4⟩ := add_root h4
 rw [e4]
 obtain ⟨D, i1, i2⟩ := two_fld ha hb n4
 obtain ⟨_, k2, x2, y2⟩ := f_add i1 i2
 obtain ⟨k3, x3, y3⟩ := f_neg i2
 obtain ⟨g2, k4, x4, y4⟩ := f_add k2 k3
 rw [g2]
 exact inf_ext k4 i1 (by rw [x4, x2, x3]; grind) (by rw [y4, y2, y3]; grind)
theorem law_nought {a : Qn} (ha : Cn a) : opX 45 (a, 0) (a, 0) = (⟨0, 0, 1, 1⟩, 0) := by
 rw [opX_zero]
 show qadd a (qneg a) = _
 obtain ⟨k3, x3, y3⟩ := f_neg (inf_own ha)
 obtain ⟨g2, k4, x4, y4⟩ := f_add (inf_own ha) k3
 rw [g2, inf_ext k4 (inf_zero a.d) (by rw [x4, x3, rx_z]; grind) (by rw [y4, y3, ry_z]; grind)]
theorem law_turned {a : Qn} (ha : Cn a) : opX 45 (⟨0, 0, 1, 1⟩, 0) (a, 0) = (qneg a, 0) := by
 rw [opX_zero]
 show qadd ⟨0, 0, 1, 1⟩ (qneg a) = _
 obtain ⟨k3, x3, y3⟩ := f_neg (inf_own ha)
 obtain ⟨g2, k4, x4, y4⟩ := f_add (inf_zero a.d) k3
 rw [g2, inf_ext k4 k3 (by rw [x4, rx_z]; grind) (by rw [y4, ry_z]; grind)]
theorem neg_neg (a : Qn) : qneg (qneg a) = a := by simp [qneg]
theorem law_over {a b : Qn} (ha : Cn a) (hb : Cn b) (hz : ¬ (b.p = 0 ∧ b.q = 0)) (h : (opX 47 (opX 42 (a, 0) (b, 0)) (b, 0)).2 = 0) : (opX 47 (opX 42 (a, 0) (b, 0)) (b, 0)).1 = a := by
 obtain ⟨h4, _, e2⟩ := opX_ok h
 rw [e2]
 rw [opX_zero] at h4 ⊢
 change (qmul a b).2 = 0 at h4
 rw [qdiv_of hz]
 show (qmul (qmul a b).1 (qinv b)).1 = a
 obtain ⟨n4, e4⟩ := mul_root h4
 rw [e4]
 obtain ⟨D, i1, i2⟩ := two_fld ha hb n4
 obtain ⟨_, k2, x2, y2⟩ := f_mul i1 i2
 obtain ⟨k3, x3, y3⟩ := f_inv i2 hz
 obtain ⟨g2, k4, x4, y4⟩ := f_mul k2 k3
 rw [g2]
 refine inf_ext k4 i1 ?_ ?_
 ·rw [x4, x2, y2]; grind
 ·rw [y4, x2, y2]; grind
theorem law_one {a : Qn} (ha : Cn a) (hz : ¬ (a.p = 0 ∧ a.q = 0)) : opX 47 (a, 0) (a, 0) = (⟨1, 0, 1, 1⟩, 0) := by
 rw [opX_zero, qdiv_of hz]
 obtain ⟨k3, x3, y3⟩ := f_inv (inf_own ha) hz
 obtain ⟨g2, k4, x4, y4⟩ := f_mul (inf_own ha) k3
 rw [g2, inf_ext k4 (inf_one a.d) (by rw [x4, x3, rx_o]) (by rw [y4, y3, ry_o])]
theorem law_none {a : Qn} (hz : a.p = 0 ∧ a.q = 0) : (opX 47 (a, 0) (a, 0)).2 = 3 := by
 rw [opX_zero]
 show (qdiv a a).2 = 3
 unfold qdiv
 rw [if_pos hz]

end Go.Proofs.YtjahbjjekednfabDoor
