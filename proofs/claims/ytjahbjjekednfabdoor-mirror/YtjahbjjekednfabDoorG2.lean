import Derived.Test.YtjahbjjekednfabDoorH1
import Derived.Test.YtjahbjjekednfabDoorG1
namespace Go.Proofs.YtjahbjjekednfabDoor

theorem Gv.mono {F F' : List Int → Nat → Rs → Prop} {s : List Int} {x : Qn × Int} (hs : Shf F F') (h : Gv F s x) : Gv F' s x := by
 obtain ⟨r, h1, h2, h3⟩ := h 0
 have := Gv.of hs h1
 rw [h2, h3] at this
 exact this
theorem Gv.one {F : List Int → Nat → Rs → Prop} {ops : Int → Prop} {s : List Int} {x : Qn × Int} (h : Gv F s x) : Gv (Ch F ops) s x := fun p => by
 obtain ⟨r, h1, h2, h3⟩ := h p
 exact ⟨r, ⟨0, s, [], r, by simp, h1, rfl, rfl⟩, h2, h3⟩
def opX (c : Int) (x y : Qn × Int) : Qn × Int := if x.2 ≠ 0 then x else if y.2 ≠ 0 then (x.1, y.2) else comb c x.1 y.1
theorem opX_ok {c : Int} {x y : Qn × Int} (h : (opX c x y).2 = 0) : x.2 = 0 ∧ y.2 = 0 ∧ opX c x y = comb c x.1 y.1 := by
 unfold opX at *
 by_cases h1 : x.2 ≠ 0
 ·rw [if_pos h1] at h; exact absurd h h1
 ·rw [if_neg h1] at h ⊢
  by_cases h2 : y.2 ≠ 0
  ·rw [if_pos h2] at h; exact absurd h h2
  ·rw [if_neg h2]
   exact ⟨by omega, by omega, rfl⟩
theorem opX_zero (c : Int) (a b : Qn) : opX c (a, 0) (b, 0) = comb c a b := by
 unfold opX
 rw [if_neg (by simp), if_neg (by simp)]
theorem Gv.op {F : List Int → Nat → Rs → Prop} {ops : Int → Prop} {s t : List Int} {x y : Qn × Int} {c : Int} (hc : ops c) (h : Gv (Ch F ops) s x) (k : Gv F t y) : Gv (Ch F ops) (s ++ c :: t) (opX c x y) := fun p => by
 obtain ⟨r, ⟨m, f, s', rf, rfl, h1, h2⟩, h3, h4⟩ := h p
 obtain ⟨rt, k1, k2, k3⟩ := k (p + f.length + s'.length + 1)
 have h5 := chT_snoc hc _ _ _ _ _ h2 k1
 refine ⟨_, ⟨m + 1, f, s' ++ c :: t, rf, by simp, h1, h5⟩, ?_⟩
 unfold opR opX
 rw [h3, h4, k2, k3]
 by_cases e1 : x.2 ≠ 0
 ·rw [if_pos e1, if_pos e1]; exact ⟨h3, h4⟩
 ·rw [if_neg e1, if_neg e1]
  by_cases e2 : y.2 ≠ 0
  ·rw [if_pos e2, if_pos e2]; exact ⟨rfl, rfl⟩
  ·rw [if_neg e2, if_neg e2]; exact ⟨rfl, rfl⟩
theorem Gv.paren {n : Nat} {s : List Int} {x : Qn × Int} (h : Gv (Sm n) s x) : Gv (Fc (n + 1)) (40 :: (s ++ [41])) x := fun p => by
 obtain ⟨r, h1, h2, h3⟩ := h (p + 1)
 exact ⟨r, fc_core.2 ⟨0, _, r, rfl, Or.inr ⟨n, s, rfl, rfl, h1⟩, rfl⟩, h2, h3⟩
theorem Gv.minus {n : Nat} {s : List Int} {x : Qn × Int} (h : Gv (Fc n) s x) : Gv (Fc n) (45 :: s) (qneg x.1, x.2) := fun p => by
 obtain ⟨r, h1, h2, h3⟩ := h (p + 1)
 obtain ⟨m, core, r0, g1, g2, g3⟩ := fc_core.1 h1
 refine ⟨negs (m + 1) r0, fc_core.2 ⟨m + 1, core, r0, by rw [g1]; rfl, ?_, rfl⟩, ?_, ?_⟩
 ·rw [show p + (m + 1) = p + 1 + m by omega]; exact g2
 ·rw [negs_succ, ← g3, h2]
 ·rw [negs_succ]
  show r0.e = _
  rw [← h3, g3]
  unfold negs
  split <;> rfl
theorem Gv.nought {n : Nat} : Gv (Fc n) [48] (⟨0, 0, 1, 1⟩, 0) := fun p =>
 ⟨_, fc_core.2 ⟨0, [48], ⟨⟨0, 0, 1, 1⟩, 0, 0⟩, rfl, Or.inl (Or.inl ⟨by simp, by simp, by intro c hc; simp at hc; subst hc; decide, rfl⟩), rfl⟩, rfl, rfl⟩
/-- What a text comes to, once one of its readings is known. -/
theorem rk_gv {s : ByteArray} {r : Rs} {n : Nat} {x : Qn × Int} (h : Rk s r) (g : Gv (Sm n) (bl s) x) : (r.e = 1 ∧ 100 < s.size) ∨ (r.e = 2 ∧ s.size ≤ 100 ∧ 0 ≤ plFault s 0 s.size) ∨ (s.size ≤ 100 ∧ plFault s 0 s.size = -1 ∧ r.e = x.2 ∧ (r.e = 0 → r.v = x.1)) := by
 rcases h with ⟨h1, rfl⟩ | ⟨h1, h2, rfl⟩ | ⟨h1, h2, r0, h3, rfl⟩
 ·exact Or.inl ⟨rfl, h1⟩
 ·exact Or.inr (Or.inl ⟨rfl, h1, h2⟩)
 ·obtain ⟨r', g1, g2, g3⟩ := g 0
  have e := sm_det h3 g1
  subst e
  refine Or.inr (Or.inr ⟨h1, h2, ?_, ?_⟩)
  ·by_cases h5 : r0.e = 0
   ·rw [if_pos h5, ← g3, h5]
   ·rw [if_neg h5, ← g3]
  ·by_cases h5 : r0.e = 0
   ·rw [if_pos h5]; intro _; exact g2
   ·rw [if_neg h5]; intro h6; exact absurd h6 h5

end Go.Proofs.YtjahbjjekednfabDoor
