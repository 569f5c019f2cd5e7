import Derived.Test.YtjahbjjekednfabDoorG2
namespace Go.Proofs.YtjahbjjekednfabDoor

theorem fault_of_ends (s : ByteArray) : ∀ (m i : Nat), i + m = s.size → Ends (plAt s i) ((bl s).drop i) → plFault s i m = -1
 | 0, i, hi, h => by
  rw [List.drop_of_length_le (by rw [bl_len]; omega)] at h
  obtain ⟨z, h1, h2, h3⟩ := h
  simp only [pRun, Option.some.injEq] at h1
  subst h1
  unfold plFault
  rw [if_neg (by omega)]
 | m + 1, i, hi, h => by
  have hl : i < (bl s).length := by rw [bl_len]; omega
  rw [List.drop_eq_getElem_cons hl, ← at0_eq hl, ← byteAt_bl] at h
  obtain ⟨h1, h2⟩ := h.step
  unfold plFault
  have h1' : plGo s i = true := h1
  rw [if_pos h1']
  exact fault_of_ends s m (i + 1) (by omega) h2
theorem fault_iff (s : ByteArray) : plFault s 0 s.size = -1 ↔ Ends ⟨0, 18, 0⟩ (bl s) :=
 ⟨fun h => by have := ends_of_fault s s.size 0 (by omega) h; rwa [List.drop_zero] at this, fun h => fault_of_ends s s.size 0 (by omega) (by rw [List.drop_zero]; exact h)⟩

theorem pRun_app : ∀ (l m : List Int) (a : Pl), pRun a (l ++ m) = (pRun a l).bind (fun z => pRun z m)
 | [], m, a => rfl
 | c :: l, m, a => by
  simp only [List.cons_append, pRun]
  split
  ·exact pRun_app l m _
  ·rfl
def up (a : Pl) : Pl := ⟨a.k, a.r, a.d + 1⟩
theorem step_up {a : Pl} {c : Int} : (plStep (up a) c).1 = up (plStep a c).1 := by
 unfold plStep up
 by_cases h1 : isDig c = true
 ·rw [if_pos h1, if_pos h1]
 ·rw [if_neg h1]
  rw [if_neg h1]
  by_cases h2 : a.k = 0
  ·rw [if_pos h2]
   rw [if_pos h2]
   unfold beginF
   by_cases g1 : c = 114
   ·rw [if_pos g1, if_pos g1]
   ·rw [if_neg g1]
    rw [if_neg g1]
    by_cases g2 : c = 45
    ·rw [if_pos g2, if_pos g2]
    ·rw [if_neg g2]
     rw [if_neg g2]
     by_cases g3 : c = 40
     ·rw [if_pos g3, if_pos g3]
     ·rw [if_neg g3, if_neg g3]
  ·rw [if_neg h2]
   rw [if_neg h2]
   by_cases h3 : a.k = 2
   ·rw [if_pos h3]
    rw [if_pos h3]
    unfold goOnP
    by_cases g1 : c = 43 ∨ c = 45 ∨ c = 42 ∨ c = 47
    ·rw [if_pos g1, if_pos g1]
    ·rw [if_neg g1]
     rw [if_neg g1]
     by_cases g2 : c = 41
     ·rw [if_pos g2, if_pos g2]
      simp only [Pl.mk.injEq, true_and]
      omega
     ·rw [if_neg g2, if_neg g2]
   ·rw [if_neg h3, if_neg h3]
theorem run_up : ∀ (l : List Int) (a z : Pl), pRun a l = some z → pRun (up a) l = none ∨ pRun (up a) l = some (up z)
 | [], a, z, h => by
  simp only [pRun, Option.some.injEq] at h
  subst h
  exact Or.inr rfl
 | c :: l, a, z, h => by
  unfold pRun at h
  split at h
  ·rename_i hg
   unfold pRun
   split
   ·rw [step_up]
    exact run_up l _ _ h
   ·exact Or.inl rfl
  ·cases h
theorem step_dn {a : Pl} {c : Int} (h : (plStep a c).2 = true) (h0 : 0 ≤ a.d) : 0 ≤ (plStep a c).1.d := by
 unfold plStep beginF goOnP at *
 split
 ·exact h0
 ·rename_i h1
  rw [if_neg h1] at h
  split
  ·rename_i h2
   rw [if_pos h2] at h
   split
   ·exact h0
   ·split
    ·exact h0
    ·split
     ·simp only; omega
     ·exact h0
  ·rename_i h2
   rw [if_neg h2] at h
   split
   ·rename_i h3
    rw [if_pos h3] at h
    split
    ·exact h0
    ·rename_i h4
     rw [if_neg h4] at h
     split
     ·rename_i h5
      rw [if_pos h5] at h
      simp only [decide_eq_true_eq] at h ⊢
      omega
     ·exact h0
   ·exact h0
theorem run_dn : ∀ (l : List Int) (a z : Pl), pRun a l = some z → 0 ≤ a.d → 0 ≤ z.d
 | [], a, z, h, h0 => by
  simp only [pRun, Option.some.injEq] at h
  subst h
  exact h0
 | c :: l, a, z, h, h0 => by
  unfold pRun at h
  split at h
  ·rename_i hg
   exact run_dn l _ _ h (step_dn hg h0)
  ·cases h

/-- Brackets around a text, one more open: does the run come through? -/
def Fits (l : List Int) : Prop := pRun ⟨0, 18, 1⟩ l ≠ none
theorem run_paren {l m : List Int} (h : Ends ⟨0, 18, 0⟩ l) : (Fits l → pRun ⟨0, 18, 0⟩ (40 :: (l ++ 41 :: m)) = pRun ⟨2, 0, 0⟩ m) ∧ (¬ Fits l → pRun ⟨0, 18, 0⟩ (40 :: (l ++ 41 :: m)) = none) := by
 obtain ⟨z, h1, h2, h3⟩ := h
 have h4 := run_dn l _ _ h1 (Int.le_refl 0)
 have e : pRun ⟨0, 18, 0⟩ (40 :: (l ++ 41 :: m)) = (pRun ⟨0, 18, 1⟩ l).bind (fun z => pRun z (41 :: m)) := by
  rw [← pRun_app]
  rfl
 rw [e]
 have hu := run_up l _ _ h1
 change pRun ⟨0, 18, 1⟩ l = none ∨ pRun ⟨0, 18, 1⟩ l = some (up z) at hu
 constructor
 ·intro hf
  rcases hu with hu | hu
  ·exact absurd hu hf
  ·rw [hu]
   obtain ⟨k, r, d⟩ := z
   simp only at h2 h3 h4
   obtain rfl : d = 0 := by omega
   subst h2
   rfl
 ·intro hf
  rcases hu with hu | hu
  ·rw [hu]; rfl
  ·exact absurd (show Fits l by unfold Fits; rw [hu]; simp) hf
theorem ends_two {l m : List Int} {c : Int} (hc : c = 43 ∨ c = 45 ∨ c = 42 ∨ c = 47) (hl : Ends ⟨0, 18, 0⟩ l) (hm : Ends ⟨0, 18, 0⟩ m) : Ends ⟨0, 18, 0⟩ (40 :: (l ++ 41 :: c :: 40 :: (m ++ [41]))) ↔ Fits l ∧ Fits m := by
 have e : pRun ⟨2, 0, 0⟩ (c :: 40 :: (m ++ [41])) = pRun ⟨0, 18, 0⟩ (40 :: (m ++ 41 :: [])) := by
  have hs : plStep ⟨2, 0, 0⟩ c = (⟨0, 18, 0⟩, true) := by
   unfold plStep goOnP
   have hn : ¬ isDig c = true := by rw [isDig_iff]; omega
   rw [if_neg hn, if_neg (by simp), if_pos rfl, if_pos hc]
  conv => lhs; unfold pRun
  rw [hs, if_pos rfl]
 have p1 := run_paren (m := c :: 40 :: (m ++ [41])) hl
 have p2 := run_paren (m := []) hm
 constructor
 ·rintro ⟨z, h1, _⟩
  by_cases f1 : Fits l
  ·rw [p1.1 f1, e] at h1
   by_cases f2 : Fits m
   ·exact ⟨f1, f2⟩
   ·rw [p2.2 f2] at h1
    cases h1
  ·rw [p1.2 f1] at h1
   cases h1
 ·rintro ⟨f1, f2⟩
  refine ⟨⟨2, 0, 0⟩, ?_, rfl, by decide⟩
  rw [p1.1 f1, e, p2.1 f2]
  rfl

end Go.Proofs.YtjahbjjekednfabDoor
