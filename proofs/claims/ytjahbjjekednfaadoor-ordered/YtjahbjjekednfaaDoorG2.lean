import Derived.Test.YtjahbjjekednfaaDoorG1
import Derived.Test.YtjahbjjekednfaaDoorQ7
namespace Go.Proofs.YtjahbjjekednfaaDoor

/-- The same value, and the same error. -/
def Al (r r' : Rs) : Prop := r'.v = r.v ∧ r'.e = r.e
theorem Al.op {c : Int} {p q : Nat} {a b a' b' : Rs} (h : Al a a') (k : Al b b') : Al (opR c p a b) (opR c q a' b') := by
  obtain ⟨h1, h2⟩ := h
  obtain ⟨k1, k2⟩ := k
  unfold opR
  rw [h1, h2, k1, k2]
  by_cases e1 : a.e ≠ 0
  · rw [if_pos e1, if_pos e1]; exact ⟨h1, h2⟩
  · rw [if_neg e1, if_neg e1]
    by_cases e2 : b.e ≠ 0
    · rw [if_pos e2, if_pos e2]; exact ⟨rfl, rfl⟩
    · rw [if_neg e2, if_neg e2]; exact ⟨rfl, rfl⟩
theorem Al.neg {a a' : Rs} (m : Nat) (h : Al a a') : Al (negs m a) (negs m a') := by
  obtain ⟨h1, h2⟩ := h
  unfold negs
  by_cases e1 : m % 2 = 1
  · rw [if_pos e1, if_pos e1]; exact ⟨by simp only [h1], h2⟩
  · rw [if_neg e1, if_neg e1]; exact ⟨h1, h2⟩

def Shf (F F' : List Int → Nat → Rs → Prop) : Prop := ∀ s p r q, F s p r → ∃ r', F' s q r' ∧ Al r r'
theorem chT_shf {F F' : List Int → Nat → Rs → Prop} {ops : Int → Prop} (h : Shf F F') : ∀ (m : Nat) (acc acc' : Rs) (p q : Nat) (s : List Int) (r : Rs), Al acc acc' → ChT F ops m acc p s r → ∃ r', ChT F' ops m acc' q s r' ∧ Al r r'
  | 0, acc, acc', p, q, s, r, ha, hc => by
    obtain ⟨rfl, rfl⟩ := hc
    exact ⟨acc', ⟨rfl, rfl⟩, ha⟩
  | m + 1, acc, acc', p, q, s, r, ha, hc => by
    obtain ⟨c, t, s', rt, h1, rfl, h2, h3⟩ := hc
    obtain ⟨rt', k1, k2⟩ := h _ _ _ (q + 1) h2
    obtain ⟨r', k3, k4⟩ := chT_shf h m _ (opR c q acc' rt') _ (q + 1 + t.length) _ _ (ha.op k2) h3
    exact ⟨r', ⟨c, t, s', rt', h1, rfl, k1, k3⟩, k4⟩
theorem ch_shf {F F' : List Int → Nat → Rs → Prop} {ops : Int → Prop} (h : Shf F F') : Shf (Ch F ops) (Ch F' ops) := by
  rintro s p r q ⟨m, f, s', rf, rfl, h1, h2⟩
  obtain ⟨rf', k1, k2⟩ := h _ _ _ q h1
  obtain ⟨r', k3, k4⟩ := chT_shf h m _ rf' _ (q + f.length) _ _ k2 h2
  exact ⟨r', ⟨m, f, s', rf', rfl, k1, k3⟩, k4⟩
theorem fc_shf : ∀ (n n' : Nat), n ≤ n' → Shf (Fc n) (Fc n') := by
  intro n
  induction n with
  | zero =>
    intro n' _ s p r q h
    obtain ⟨m, core, r0, h1, h2, h3⟩ := fc_core.1 h
    rcases h2 with h2 | ⟨k, t, hk, _⟩
    · exact ⟨r, fc_core.2 ⟨m, core, r0, h1, Or.inl h2, h3⟩, rfl, rfl⟩
    · omega
  | succ n ih =>
    intro n' hn s p r q h
    obtain ⟨m, core, r0, h1, h2, h3⟩ := fc_core.1 h
    rcases h2 with h2 | ⟨k, t, hk, h4, h5⟩
    · exact ⟨r, fc_core.2 ⟨m, core, r0, h1, Or.inl h2, h3⟩, rfl, rfl⟩
    · obtain rfl : k = n := by omega
      obtain ⟨k', rfl⟩ : ∃ k', n' = k' + 1 := ⟨n' - 1, by omega⟩
      obtain ⟨r', g1, g2⟩ := ch_shf (ops := addOp) (ch_shf (ops := mulOp) (ih k' (by omega))) _ _ _ (q + m + 1) h5
      exact ⟨negs m r', fc_core.2 ⟨m, core, r', h1, Or.inr ⟨k', t, rfl, h4, g1⟩, rfl⟩, by rw [h3]; exact g2.neg m⟩
theorem sm_shf {n n' : Nat} (h : n ≤ n') : Shf (Sm n) (Sm n') := ch_shf (ch_shf (fc_shf n n' h))

/-- A text that is read so, wherever it stands. -/
def Gv (F : List Int → Nat → Rs → Prop) (s : List Int) (x : Qn × Int) : Prop := ∀ p, ∃ r, F s p r ∧ r.v = x.1 ∧ r.e = x.2
theorem Gv.of {F F' : List Int → Nat → Rs → Prop} {s : List Int} {p : Nat} {r : Rs} (hs : Shf F F') (h : F s p r) : Gv F' s (r.v, r.e) := fun q => by
  obtain ⟨r', k1, k2, k3⟩ := hs _ _ _ q h
  exact ⟨r', k1, k2, k3⟩
theorem Gv.mono {F F' : List Int → Nat → Rs → Prop} {s : List Int} {x : Qn × Int} (hs : Shf F F') (h : Gv F s x) : Gv F' s x := by
  obtain ⟨r, h1, h2, h3⟩ := h 0
  have := Gv.of hs h1
  rw [h2, h3] at this
  exact this
theorem Gv.one {F : List Int → Nat → Rs → Prop} {ops : Int → Prop} {s : List Int} {x : Qn × Int} (h : Gv F s x) : Gv (Ch F ops) s x := fun p => by
  obtain ⟨r, h1, h2, h3⟩ := h p
  exact ⟨r, ⟨0, s, [], r, by simp, h1, rfl, rfl⟩, h2, h3⟩
def opX (c : Int) (x y : Qn × Int) : Qn × Int := if x.2 ≠ 0 then x else if y.2 ≠ 0 then (x.1, y.2) else comb c x.1 y.1
theorem opX_ok {c : Int} {x y : Qn × Int} (h : (opX c x y).2 = 0) : x.2 = 0 ∧ y.2 = 0 ∧ opX c x y = comb c x.1 y.1 := by
  unfold opX at *
  by_cases h1 : x.2 ≠ 0
  · rw [if_pos h1] at h; exact absurd h h1
  · rw [if_neg h1] at h ⊢
    by_cases h2 : y.2 ≠ 0
    · rw [if_pos h2] at h; exact absurd h h2
    · rw [if_neg h2]
      exact ⟨by omega, by omega, rfl⟩
theorem opX_zero (c : Int) (a b : Qn) : opX c (a, 0) (b, 0) = comb c a b := by
  unfold opX
  rw [if_neg (by simp), if_neg (by simp)]
theorem Gv.op {F : List Int → Nat → Rs → Prop} {ops : Int → Prop} {s t : List Int} {x y : Qn × Int} {c : Int} (hc : ops c) (h : Gv (Ch F ops) s x) (k : Gv F t y) : Gv (Ch F ops) (s ++ c :: t) (opX c x y) := fun p => by
  obtain ⟨r, ⟨m, f, s', rf, rfl, h1, h2⟩, h3, h4⟩ := h p
  obtain ⟨rt, k1, k2, k3⟩ := k (p + f.length + s'.length + 1)
  have h5 := chT_snoc hc _ _ _ _ _ h2 k1
  refine ⟨_, ⟨m + 1, f, s' ++ c :: t, rf, by simp, h1, h5⟩, ?_⟩
  unfold opR opX
  rw [h3, h4, k2, k3]
  by_cases e1 : x.2 ≠ 0
  · rw [if_pos e1, if_pos e1]; exact ⟨h3, h4⟩
  · rw [if_neg e1, if_neg e1]
    by_cases e2 : y.2 ≠ 0
    · rw [if_pos e2, if_pos e2]; exact ⟨rfl, rfl⟩
    · rw [if_neg e2, if_neg e2]; exact ⟨rfl, rfl⟩
theorem Gv.paren {n : Nat} {s : List Int} {x : Qn × Int} (h : Gv (Sm n) s x) : Gv (Fc (n + 1)) (40 :: (s ++ [41])) x := fun p => by
  obtain ⟨r, h1, h2, h3⟩ := h (p + 1)
  exact ⟨r, fc_core.2 ⟨0, _, r, rfl, Or.inr ⟨n, s, rfl, rfl, h1⟩, rfl⟩, h2, h3⟩
theorem Gv.minus {n : Nat} {s : List Int} {x : Qn × Int} (h : Gv (Fc n) s x) : Gv (Fc n) (45 :: s) (qneg x.1, x.2) := fun p => by
  obtain ⟨r, h1, h2, h3⟩ := h (p + 1)
  obtain ⟨m, core, r0, g1, g2, g3⟩ := fc_core.1 h1
  refine ⟨negs (m + 1) r0, fc_core.2 ⟨m + 1, core, r0, by rw [g1]; rfl, ?_, rfl⟩, ?_, ?_⟩
  · rw [show p + (m + 1) = p + 1 + m by omega]; exact g2
  · rw [negs_succ, ← g3, h2]
  · rw [negs_succ]
    show r0.e = _
    rw [← h3, g3]
    unfold negs
    split <;> rfl
theorem Gv.nought {n : Nat} : Gv (Fc n) [48] (⟨0, 0, 1, 1⟩, 0) := fun p =>
  ⟨_, fc_core.2 ⟨0, [48], ⟨⟨0, 0, 1, 1⟩, 0, 0⟩, rfl, Or.inl (Or.inl ⟨by simp, by simp, by intro c hc; simp at hc; subst hc; decide, rfl⟩), rfl⟩, rfl, rfl⟩

/-- What a text comes to, once one of its readings is known. -/
theorem rk_gv {s : ByteArray} {r : Rs} {n : Nat} {x : Qn × Int} (h : Rk s r) (g : Gv (Sm n) (bl s) x) : (r.e = 1 ∧ 100 < s.size) ∨ (r.e = 2 ∧ s.size ≤ 100 ∧ 0 ≤ plFault s 0 s.size) ∨ (s.size ≤ 100 ∧ plFault s 0 s.size = -1 ∧ r.e = x.2 ∧ (r.e = 0 → r.v = x.1)) := by
  rcases h with ⟨h1, rfl⟩ | ⟨h1, h2, rfl⟩ | ⟨h1, h2, r0, h3, rfl⟩
  · exact Or.inl ⟨rfl, h1⟩
  · exact Or.inr (Or.inl ⟨rfl, h1, h2⟩)
  · obtain ⟨r', g1, g2, g3⟩ := g 0
    have e := sm_det h3 g1
    subst e
    refine Or.inr (Or.inr ⟨h1, h2, ?_, ?_⟩)
    · by_cases h5 : r0.e = 0
      · rw [if_pos h5, ← g3, h5]
      · rw [if_neg h5, ← g3]
    · by_cases h5 : r0.e = 0
      · rw [if_pos h5]; intro _; exact g2
      · rw [if_neg h5]; intro h6; exact absurd h6 h5
/-- The reading of a text that has a value. -/
theorem rk_read {s : ByteArray} {r : Rs} (h : Rk s r) (he : r.e = 0) : Gv (Sm 8) (bl s) (r.v, 0) ∧ s.size ≤ 100 ∧ plFault s 0 s.size = -1 := by
  rcases h with ⟨h1, rfl⟩ | ⟨h1, h2, rfl⟩ | ⟨h1, h2, r0, h3, rfl⟩
  · exact absurd he (by simp)
  · exact absurd he (by simp)
  · by_cases h5 : r0.e = 0
    · have := Gv.of (sm_shf (Nat.le_refl 8)) h3
      rw [h5] at this
      rw [if_pos h5]
      exact ⟨this, h1, h2⟩
    · rw [if_neg h5] at he
      exact absurd he h5

end Go.Proofs.YtjahbjjekednfaaDoor
