import Derived.Test.YtjahbjjekednfaaDoorH1
import Derived.Test.YtjahbjjekednfaaDoorO3
import Derived.Test.YtjahbjjekednfaaDoorA1
namespace Go.Proofs.YtjahbjjekednfaaDoor

theorem vl_in {D : Int} {a : Qn} (h : InF D a) (N : Nat) : vl a N = rx a + ry a * sg N D := by
 unfold vl
 rcases h.i with hq | hd
 ·rw [(ry_zero h.cn.ok.r).2 hq]
  grind
 ·rw [hd]
theorem xv_vl {a : Qn} (h : 0 < a.r) (N : Nat) : xv a.p a.q a.d N = (a.r : Rat) * vl a N := by
 have k : (a.r : Rat) ≠ 0 := cast_ne (by omega)
 unfold xv vl rx ry
 grind
theorem ev_vl {a : Qn} (h : 0 < a.r) (k : EvP (xv a.p a.q a.d)) : EvP (vl a) := by
 have h0 : (0 : Rat) < (a.r : Rat) := Rat.intCast_pos.2 h
 have e : (a.r : Rat)⁻¹ * (a.r : Rat) = 1 := by grind
 refine (k.scale _ (Rat.inv_pos.2 h0)).congr fun N => ?_
 rw [xv_vl h]
 generalize (a.r : Rat)⁻¹ = i at *
 grind
theorem ev_nvl {a : Qn} (h : 0 < a.r) (k : EvP (fun N => - xv a.p a.q a.d N)) : EvP (fun N => - vl a N) := by
 have h0 : (0 : Rat) < (a.r : Rat) := Rat.intCast_pos.2 h
 have e : (a.r : Rat)⁻¹ * (a.r : Rat) = 1 := by grind
 refine (k.scale _ (Rat.inv_pos.2 h0)).congr fun N => ?_
 rw [xv_vl h]
 generalize (a.r : Rat)⁻¹ = i at *
 grind
theorem cn_irr {a : Qn} (h : Cn a) : a.q = 0 ∨ a.p * a.p ≠ a.q * a.q * a.d := by
 by_cases hq : a.q = 0
 ·exact Or.inl hq
 ·have h1 : a.d ≠ 1 := fun e => hq (h.ok.q.2 e)
  have h2 := h.ok.d0
  exact Or.inr (irr h.ok.f (by omega) hq)
/-- The sign of one number. -/
theorem one_sem {a : Qn} (h : Cn a) {o : Int} (ho : o = rsg a.p a.q a.d) : (o = 1 ∧ EvP (vl a)) ∨ (o = -1 ∧ EvP (fun N => - vl a N)) ∨ (o = 0 ∧ a.p = 0 ∧ a.q = 0) := by
 have hd := h.ok.d0
 rcases rsg_val a.p a.q a.d with e | e | e
 ·exact Or.inr (Or.inl ⟨by omega, ev_nvl h.ok.r (rsg_min hd (cn_irr h) e)⟩)
 ·exact Or.inr (Or.inr ⟨by omega, rsg_nil e⟩)
 ·exact Or.inl ⟨by omega, ev_vl h.ok.r (rsg_pos hd (cn_irr h) e)⟩
/-- a is less than b. -/
def Lt (a b : Qn) : Prop := EvP (fun N => vl b N - vl a N)
theorem Lt.trans {a b c : Qn} (h : Lt a b) (k : Lt b c) : Lt a c := (EvP.add h k).congr fun N => by grind
theorem Lt.not {a b : Qn} (h : Lt a b) (k : Lt b a) : False := EvP.not h (EvP.congr k fun N => by grind)
theorem Lt.irrefl {a : Qn} (h : Lt a a) : False := h.not h
theorem ord_sem {a b : Qn} (ha : Cn a) (hb : Cn b) : (rord a b = 1 ∧ Lt b a) ∨ (rord a b = -1 ∧ Lt a b) ∨ (rord a b = 0 ∧ a = b) := by
 have a0 := ha.ok.d0
 have b0 := hb.ok.d0
 have ar := ha.ok.r
 have br := hb.ok.r
 by_cases h : a.d = 1 ∨ b.d = 1 ∨ a.d = b.d
 ·have hr : qroot a.d b.d ≠ 0 := by
   unfold qroot
   split
   ·omega
   ·split <;> omega
  obtain ⟨D, i1, i2⟩ := two_fld ha hb hr
  obtain ⟨k3, x3, y3⟩ := f_neg i2
  obtain ⟨g, k4, x4, y4⟩ := f_add i1 k3
  have e : (comb 45 a b).1 = qaddN a (qneg b) := by
   show (qadd a (qneg b)).1 = _
   rw [g]
  have eo : rord a b = rsg (qaddN a (qneg b)).p (qaddN a (qneg b)).q (qaddN a (qneg b)).d := by
   unfold rord
   rw [if_pos h, e]
  have ev : ∀ N, vl (qaddN a (qneg b)) N = vl a N - vl b N := fun N => by
   rw [vl_in k4, vl_in i1, vl_in i2, x4, y4, x3, y3]
   grind
  rcases one_sem k4.cn eo with ⟨h1, h2⟩ | ⟨h1, h2⟩ | ⟨h1, h2, h3⟩
  ·exact Or.inl ⟨h1, h2.congr ev⟩
  ·exact Or.inr (Or.inl ⟨h1, h2.congr fun N => by rw [ev]; grind⟩)
  ·refine Or.inr (Or.inr ⟨h1, inf_ext i1 i2 ?_ ?_⟩)
   ·have := (rx_zero k4.cn.ok.r).2 h2
    rw [x4, x3] at this
    grind
   ·have := (ry_zero k4.cn.ok.r).2 h3
    rw [y4, y3] at this
    grind
 ·have qa : a.q ≠ 0 := fun e => h (Or.inl (ha.ok.q.1 e))
  have qb : b.q ≠ 0 := fun e => h (Or.inr (Or.inl (hb.ok.q.1 e)))
  have ev : ∀ N, fv (a.p * b.r - b.p * a.r) (a.q * b.r) a.d (b.q * a.r) b.d N = (a.r : Rat) * b.r * (vl a N - vl b N) := fun N => by
   have k1 : (a.r : Rat) ≠ 0 := cast_ne (by omega)
   have k2 : (b.r : Rat) ≠ 0 := cast_ne (by omega)
   unfold fv xv vl rx ry
   simp only [Rat.intCast_sub, Rat.intCast_mul]
   grind
  have h0 : (0 : Rat) < (a.r : Rat) * b.r := Rat.mul_pos (Rat.intCast_pos.2 ar) (Rat.intCast_pos.2 br)
  have e : ((a.r : Rat) * b.r)⁻¹ * ((a.r : Rat) * b.r) = 1 := by grind
  have hi := Rat.inv_pos.2 h0
  rcases r3_sem (x := a.p * b.r - b.p * a.r) (y := a.q * b.r) (m := a.d) (z := b.q * a.r) (n := b.d) ha.ok.f hb.ok.f (by omega) (by omega) (Int.mul_ne_zero qa (by omega)) (Int.mul_ne_zero qb (by omega)) (by omega) (o := rord a b) (by unfold rord; rw [if_neg h]) with ⟨h1, h2⟩ | ⟨h1, h2⟩
  ·refine Or.inl ⟨h1, (h2.scale _ hi).congr fun N => ?_⟩
   rw [ev]
   generalize ((a.r : Rat) * b.r)⁻¹ = i at *
   generalize (a.r : Rat) * b.r = j at *
   grind
  ·refine Or.inr (Or.inl ⟨h1, (h2.scale _ hi).congr fun N => ?_⟩)
   rw [ev]
   generalize ((a.r : Rat) * b.r)⁻¹ = i at *
   generalize (a.r : Rat) * b.r = j at *
   grind
theorem cmp_sem {a b : Qn} (ha : Cn a) (hb : Cn b) : (qcmp a b = 1 ∧ Lt b a) ∨ (qcmp a b = -1 ∧ Lt a b) ∨ (qcmp a b = 0 ∧ a = b) := by
 rw [qcmp_rord ha.ok hb.ok]
 exact ord_sem ha hb
theorem cmp_flip {a b : Qn} (ha : Cn a) (hb : Cn b) : qcmp a b = - qcmp b a := by
 rcases cmp_sem ha hb with ⟨h, k⟩ | ⟨h, k⟩ | ⟨h, k⟩ <;> rcases cmp_sem hb ha with ⟨h', k'⟩ | ⟨h', k'⟩ | ⟨h', k'⟩ <;> first | omega | exact (k.not k').elim | (subst k; exact k'.irrefl.elim) | (subst k'; exact k.irrefl.elim)
theorem cmp_self {a : Qn} (ha : Cn a) : qcmp a a = 0 := by
 have := cmp_flip ha ha
 omega
theorem cmp_trans {a b c : Qn} (ha : Cn a) (hb : Cn b) (hc : Cn c) (h1 : qcmp a b ≤ 0) (h2 : qcmp b c ≤ 0) : qcmp a c ≤ 0 := by
 rcases cmp_sem ha hb with ⟨h, k⟩ | ⟨h, k⟩ | ⟨h, k⟩
 ·omega
 ·rcases cmp_sem hb hc with ⟨h', k'⟩ | ⟨h', k'⟩ | ⟨h', k'⟩
  ·omega
  ·rcases cmp_sem ha hc with ⟨h'', k''⟩ | ⟨h'', k''⟩ | ⟨h'', k''⟩
   ·exact ((k.trans k').not k'').elim
   ·omega
   ·omega
  ·subst k'; omega
 ·subst k; exact h2
theorem cmp_diff {a b : Qn} (ha : Cn a) (hb : Cn b) (h : (opX 45 (a, 0) (b, 0)).2 = 0) : qcmp (opX 45 (a, 0) (b, 0)).1 ⟨0, 0, 1, 1⟩ = qcmp a b := by
 rw [opX_zero] at h ⊢
 change (qadd a (qneg b)).2 = 0 at h
 show qcmp (qadd a (qneg b)).1 ⟨0, 0, 1, 1⟩ = qcmp a b
 obtain ⟨n, e⟩ := add_root h
 obtain ⟨D, i1, i2⟩ := two_fld ha (f_neg (inf_own hb)).1.cn n
 obtain ⟨k3, x3, y3⟩ := f_neg i2
 rw [neg_neg] at k3 x3 y3
 obtain ⟨g, k4, x4, y4⟩ := f_add i1 i2
 rw [e]
 have ev : ∀ N, vl (qaddN a (qneg b)) N = vl a N - vl b N := fun N => by
  rw [vl_in k4, vl_in i1, vl_in k3, x4, y4, x3, y3]
  grind
 have ez : ∀ N, vl ⟨0, 0, 1, 1⟩ N = 0 := fun N => by
  rw [vl_in (inf_zero D), rx_z, ry_z]
  grind
 have q1 : ∀ N, vl (qaddN a (qneg b)) N - vl ⟨0, 0, 1, 1⟩ N = vl a N - vl b N := fun N => by rw [ev, ez]; grind
 have q2 : ∀ N, vl ⟨0, 0, 1, 1⟩ N - vl (qaddN a (qneg b)) N = vl b N - vl a N := fun N => by rw [ev, ez]; grind
 rcases cmp_sem k4.cn cn_zero with ⟨h, k⟩ | ⟨h, k⟩ | ⟨h, k⟩ <;> rcases cmp_sem ha hb with ⟨h', k'⟩ | ⟨h', k'⟩ | ⟨h', k'⟩
 ·omega
 ·exact (Lt.not (EvP.congr k q1) k').elim
 ·subst k'; exact (Lt.irrefl (EvP.congr k q1)).elim
 ·exact (Lt.not (EvP.congr k q2) k').elim
 ·omega
 ·subst k'; exact (Lt.irrefl (EvP.congr k q2)).elim
 ·exact (Lt.irrefl (k ▸ EvP.congr k' fun N => (q1 N).symm)).elim
 ·exact (Lt.irrefl (k ▸ EvP.congr k' fun N => (q2 N).symm)).elim
 ·omega

end Go.Proofs.YtjahbjjekednfaaDoor
