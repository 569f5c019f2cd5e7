import Derived.Test.YtjahbjjekednfaaDoorH1
namespace Go.Proofs.YtjahbjjekednfaaDoor

/-- A reading is one: pieces that begin one text, with nothing behind them that goes on with them, are the same. -/
def Det (F F' : List Int → Nat → Rs → Prop) (P : Int → Prop) : Prop :=
 ∀ p f r f' r' x x', F f p r → F' f' p r' → f ++ x = f' ++ x' → Hd P x → Hd P x' → f = f' ∧ r = r'
theorem hd_mono {P Q : Int → Prop} {l : List Int} (h : ∀ c, Q c → P c) (hl : Hd P l) : Hd Q l := fun c l' e hq => hl c l' e (h c hq)
theorem chT_hd {F : List Int → Nat → Rs → Prop} {P ops : Int → Prop} (hP : ∀ c, ops c → ¬ P c) {m : Nat} {acc r : Rs} {p : Nat} {s x : List Int} (h : ChT F ops m acc p s r) (hx : Hd (fun c => P c ∨ ops c) x) : Hd P (s ++ x) := by
 cases m with
 | zero =>
  obtain ⟨rfl, _⟩ := h
  exact hd_mono (fun c hc => Or.inl hc) hx
 | succ m =>
  obtain ⟨c, t, s', rt, h1, rfl, _⟩ := h
  intro d l' e hd
  simp only [List.cons_append, List.cons.injEq] at e
  exact hP c h1 (e.1 ▸ hd)
theorem chT_det {F F' : List Int → Nat → Rs → Prop} {P ops : Int → Prop} (hF : Det F F' P) (hP : ∀ c, ops c → ¬ P c) : ∀ (m m' : Nat) (acc r r' : Rs) (p : Nat) (s s' x x' : List Int),
  ChT F ops m acc p s r → ChT F' ops m' acc p s' r' → s ++ x = s' ++ x' → Hd (fun c => P c ∨ ops c) x → Hd (fun c => P c ∨ ops c) x' → s = s' ∧ r = r'
 | 0, 0, acc, r, r', p, s, s', x, x', h, h', _, _, _ => by
  obtain ⟨rfl, rfl⟩ := h
  obtain ⟨rfl, rfl⟩ := h'
  exact ⟨rfl, rfl⟩
 | 0, m' + 1, acc, r, r', p, s, s', x, x', h, h', e, hx, _ => by
  obtain ⟨rfl, rfl⟩ := h
  obtain ⟨c, t, s2, rt, h1, rfl, _⟩ := h'
  simp only [List.nil_append, List.cons_append] at e
  exact absurd (Or.inr h1) (hx _ _ e)
 | m + 1, 0, acc, r, r', p, s, s', x, x', h, h', e, _, hx => by
  obtain ⟨rfl, rfl⟩ := h'
  obtain ⟨c, t, s2, rt, h1, rfl, _⟩ := h
  simp only [List.nil_append, List.cons_append] at e
  exact absurd (Or.inr h1) (hx _ _ e.symm)
 | m + 1, m' + 1, acc, r, r', p, s, s', x, x', h, h', e, hx, hx' => by
  obtain ⟨c, t, s2, rt, h1, rfl, h2, h3⟩ := h
  obtain ⟨c', t', s2', rt', h1', rfl, h2', h3'⟩ := h'
  simp only [List.cons_append, List.append_assoc, List.cons.injEq] at e
  obtain ⟨rfl, e⟩ := e
  obtain ⟨rfl, rfl⟩ := hF _ _ _ _ _ _ _ h2 h2' e (chT_hd hP h3 hx) (chT_hd hP h3' hx')
  obtain ⟨rfl, rfl⟩ := chT_det hF hP m m' _ _ _ _ _ _ x x' h3 h3' (List.append_cancel_left e) hx hx'
  exact ⟨rfl, rfl⟩
theorem ch_det {F F' : List Int → Nat → Rs → Prop} {P ops : Int → Prop} (hF : Det F F' P) (hP : ∀ c, ops c → ¬ P c) : Det (Ch F ops) (Ch F' ops) (fun c => P c ∨ ops c) := by
 intro p s r s' r' x x' h h' e hx hx'
 obtain ⟨m, f, t, rf, rfl, h1, h2⟩ := h
 obtain ⟨m', f', t', rf', rfl, h1', h2'⟩ := h'
 simp only [List.append_assoc] at e
 obtain ⟨rfl, rfl⟩ := hF _ _ _ _ _ _ _ h1 h1' e (chT_hd hP h2 hx) (chT_hd hP h2' hx')
 obtain ⟨rfl, rfl⟩ := chT_det hF hP m m' _ _ _ _ _ _ x x' h2 h2' (List.append_cancel_left e) hx hx'
 exact ⟨rfl, rfl⟩
theorem digs_det : ∀ (s s' x x' : List Int), Digs s → Digs s' → s ++ x = s' ++ x' → Hd isD x → Hd isD x' → s = s'
 | [], [], _, _, _, _, _, _, _ => rfl
 | [], c :: s', x, x', _, h', e, hx, _ => absurd (h' c (by simp)) (hx _ _ e)
 | c :: s, [], x, x', h, _, e, _, hx => absurd (h c (by simp)) (hx _ _ e.symm)
 | c :: s, c' :: s', x, x', h, h', e, hx, hx' => by
  simp only [List.cons_append, List.cons.injEq] at e
  obtain ⟨rfl, e⟩ := e
  rw [digs_det s s' x x' (fun d hd => h d (by simp [hd])) (fun d hd => h' d (by simp [hd])) e hx hx']
theorem reps_det : ∀ (m m' : Nat) (x x' : List Int), List.replicate m (45 : Int) ++ x = List.replicate m' 45 ++ x' → Hd (fun c => c = 45) x → Hd (fun c => c = 45) x' → m = m' ∧ x = x'
 | 0, 0, _, _, e, _, _ => ⟨rfl, by simpa using e⟩
 | 0, m' + 1, x, x', e, hx, _ => absurd rfl (hx 45 (List.replicate m' 45 ++ x') (by simpa [List.replicate_succ] using e))
 | m + 1, 0, x, x', e, _, hx => absurd rfl (hx 45 (List.replicate m 45 ++ x) (by simpa [List.replicate_succ] using e.symm))
 | m + 1, m' + 1, x, x', e, hx, hx' => by
  simp only [List.replicate_succ, List.cons_append, List.cons.injEq, true_and] at e
  obtain ⟨rfl, rfl⟩ := reps_det m m' x x' e hx hx'
  exact ⟨rfl, rfl⟩
theorem isDig_iff (c : Int) : isDig c = true ↔ 48 ≤ c ∧ c ≤ 57 := by simp [isDig]
/-- What a core begins with. -/
theorem atom_head {s : List Int} {r : Rs} (h : Atom s r) : ∃ c l, s = c :: l ∧ (isDig c = true ∨ c = 114) := by
 rcases h with ⟨h1, _, h3, _⟩ | ⟨t, rfl, _⟩
 ·cases s with
  | nil => exact absurd rfl h1
  | cons c l => exact ⟨c, l, rfl, Or.inl (h3 c (by simp))⟩
 ·exact ⟨114, t, rfl, Or.inr rfl⟩
theorem atom_det {s s' x x' : List Int} {r r' : Rs} (h : Atom s r) (h' : Atom s' r') (e : s ++ x = s' ++ x') (hx : Hd isD x) (hx' : Hd isD x') : s = s' ∧ r = r' := by
 rcases h with ⟨h1, _, h3, rfl⟩ | ⟨t, rfl, h1, _, h3, rfl⟩ <;> rcases h' with ⟨k1, _, k3, rfl⟩ | ⟨t', rfl, k1, _, k3, rfl⟩
 ·have := digs_det s s' x x' h3 k3 e hx hx'
  subst this
  exact ⟨rfl, rfl⟩
 ·cases s with
  | nil => exact absurd rfl h1
  | cons c l =>
   simp only [List.cons_append, List.cons.injEq] at e
   have := (isDig_iff c).1 (h3 c (by simp))
   omega
 ·cases s' with
  | nil => exact absurd rfl k1
  | cons c l =>
   simp only [List.cons_append, List.cons.injEq] at e
   have := (isDig_iff c).1 (k3 c (by simp))
   omega
 ·simp only [List.cons_append, List.cons.injEq, true_and] at e
  have := digs_det t t' x x' h3 k3 e hx hx'
  subst this
  exact ⟨rfl, rfl⟩
theorem core_head {n p : Nat} {s : List Int} {r : Rs} (h : Core n s p r) : ∃ c l, s = c :: l ∧ (isDig c = true ∨ c = 114 ∨ c = 40) := by
 rcases h with h | ⟨k, t, _, rfl, _⟩
 ·obtain ⟨c, l, h1, h2⟩ := atom_head h
  exact ⟨c, l, h1, by rcases h2 with h | h <;> simp [h]⟩
 ·exact ⟨_, _, rfl, Or.inr (Or.inr rfl)⟩
theorem core_hd {n p : Nat} {s x : List Int} {r : Rs} (h : Core n s p r) : Hd (fun c => c = 45) (s ++ x) := by
 obtain ⟨c, l, rfl, h2⟩ := core_head h
 intro d l' e hd
 simp only [List.cons_append, List.cons.injEq] at e
 rcases h2 with h | h | h
 ·have := (isDig_iff c).1 h
  omega
 ·omega
 ·omega
theorem mul_isD (c : Int) (h : mulOp c) : ¬ isD c := by
 unfold isD; rw [isDig_iff]; unfold mulOp at h; omega
theorem add_isD (c : Int) (h : addOp c) : ¬ (isD c ∨ mulOp c) := by
 unfold isD; rw [isDig_iff]; unfold addOp at h; unfold mulOp; omega
theorem sm_det_of {n m : Nat} (h : Det (Fc n) (Fc m) isD) : Det (Sm n) (Sm m) (fun c => (isD c ∨ mulOp c) ∨ addOp c) :=
 ch_det (ch_det h mul_isD) add_isD
theorem fc_det : ∀ (n m : Nat), Det (Fc n) (Fc m) isD := by
 intro n
 induction n with
 | zero =>
  intro m p f r f' r' x x' h h' e hx hx'
  obtain ⟨a, core, r0, rfl, h2, rfl⟩ := fc_core.1 h
  obtain ⟨b, core', r0', rfl, h2', rfl⟩ := fc_core.1 h'
  rw [List.append_assoc, List.append_assoc] at e
  obtain ⟨hab, e2⟩ := reps_det _ _ _ _ e (core_hd h2) (core_hd h2')
  subst hab
  clear e
  have e := e2
  clear e2
  rcases h2 with h2 | ⟨k, t, hk, _⟩
  ·rcases h2' with h2' | ⟨k', t', _, rfl, h4'⟩
   ·obtain ⟨rfl, rfl⟩ := atom_det h2 h2' e hx hx'
    exact ⟨rfl, rfl⟩
   ·obtain ⟨c, l, rfl, hc⟩ := atom_head h2
    simp only [List.cons_append, List.cons.injEq] at e
    rcases hc with hc | hc
    ·have := (isDig_iff c).1 hc
     omega
    ·omega
  ·omega
 | succ n ih =>
  intro m p f r f' r' x x' h h' e hx hx'
  obtain ⟨a, core, r0, rfl, h2, rfl⟩ := fc_core.1 h
  obtain ⟨b, core', r0', rfl, h2', rfl⟩ := fc_core.1 h'
  rw [List.append_assoc, List.append_assoc] at e
  obtain ⟨hab, e2⟩ := reps_det _ _ _ _ e (core_hd h2) (core_hd h2')
  subst hab
  clear e
  have e := e2
  clear e2
  rcases h2 with h2 | ⟨k, t, hk, rfl, h4⟩
  ·rcases h2' with h2' | ⟨k', t', _, rfl, h4'⟩
   ·obtain ⟨rfl, rfl⟩ := atom_det h2 h2' e hx hx'
    exact ⟨rfl, rfl⟩
   ·obtain ⟨c, l, rfl, hc⟩ := atom_head h2
    simp only [List.cons_append, List.cons.injEq] at e
    rcases hc with hc | hc
    ·have := (isDig_iff c).1 hc
     omega
    ·omega
  ·rcases h2' with h2' | ⟨k', t', _, rfl, h4'⟩
   ·obtain ⟨c, l, rfl, hc⟩ := atom_head h2'
    simp only [List.cons_append, List.cons.injEq] at e
    rcases hc with hc | hc
    ·have := (isDig_iff c).1 hc
     omega
    ·omega
   ·obtain rfl : k = n := by omega
    simp only [List.cons_append, List.cons.injEq, true_and, List.append_assoc, List.nil_append] at e
    have h41 : ∀ l : List Int, Hd (fun c => (isD c ∨ mulOp c) ∨ addOp c) (41 :: l) := by
     intro l c l' e hc
     simp only [List.cons.injEq] at e
     unfold isD at hc
     rw [isDig_iff] at hc
     unfold mulOp addOp at hc
     omega
    obtain ⟨rfl, rfl⟩ := sm_det_of (ih k') _ _ _ _ _ _ _ h4 h4' e (h41 _) (h41 _)
    exact ⟨rfl, rfl⟩
/-- A text is read in one way, however deep its brackets may stand. -/
theorem sm_det {n m p : Nat} {s : List Int} {r r' : Rs} (h : Sm n s p r) (h' : Sm m s p r') : r = r' :=
 (sm_det_of (fc_det n m) p s r s r' [] [] h h' rfl (by simp [Hd]) (by simp [Hd])).2

end Go.Proofs.YtjahbjjekednfaaDoor

namespace Go.Proofs.YtjahbjjekednfaaDoor

theorem Gv.mono {F F' : List Int → Nat → Rs → Prop} {s : List Int} {x : Qn × Int} (hs : Shf F F') (h : Gv F s x) : Gv F' s x := by
 obtain ⟨r, h1, h2, h3⟩ := h 0
 have := Gv.of hs h1
 rw [h2, h3] at this
 exact this
theorem Gv.one {F : List Int → Nat → Rs → Prop} {ops : Int → Prop} {s : List Int} {x : Qn × Int} (h : Gv F s x) : Gv (Ch F ops) s x := fun p => by
 obtain ⟨r, h1, h2, h3⟩ := h p
 exact ⟨r, ⟨0, s, [], r, by simp, h1, rfl, rfl⟩, h2, h3⟩
def opX (c : Int) (x y : Qn × Int) : Qn × Int := if x.2 ≠ 0 then x else if y.2 ≠ 0 then (x.1, y.2) else comb c x.1 y.1
theorem opX_ok {c : Int} {x y : Qn × Int} (h : (opX c x y).2 = 0) : x.2 = 0 ∧ y.2 = 0 ∧ opX c x y = comb c x.1 y.1 := by
 unfold opX at *
 by_cases h1 : x.2 ≠ 0
 ·rw [if_pos h1] at h; exact absurd h h1
 ·rw [if_neg h1] at h ⊢
  by_cases h2 : y.2 ≠ 0
  ·rw [if_pos h2] at h; exact absurd h h2
  ·rw [if_neg h2]
   exact ⟨by omega, by omega, rfl⟩
theorem opX_zero (c : Int) (a b : Qn) : opX c (a, 0) (b, 0) = comb c a b := by
 unfold opX
 rw [if_neg (by simp), if_neg (by simp)]
theorem Gv.op {F : List Int → Nat → Rs → Prop} {ops : Int → Prop} {s t : List Int} {x y : Qn × Int} {c : Int} (hc : ops c) (h : Gv (Ch F ops) s x) (k : Gv F t y) : Gv (Ch F ops) (s ++ c :: t) (opX c x y) := fun p => by
 obtain ⟨r, ⟨m, f, s', rf, rfl, h1, h2⟩, h3, h4⟩ := h p
 obtain ⟨rt, k1, k2, k3⟩ := k (p + f.length + s'.length + 1)
 have h5 := chT_snoc hc _ _ _ _ _ h2 k1
 refine ⟨_, ⟨m + 1, f, s' ++ c :: t, rf, by simp, h1, h5⟩, ?_⟩
 unfold opR opX
 rw [h3, h4, k2, k3]
 by_cases e1 : x.2 ≠ 0
 ·rw [if_pos e1, if_pos e1]; exact ⟨h3, h4⟩
 ·rw [if_neg e1, if_neg e1]
  by_cases e2 : y.2 ≠ 0
  ·rw [if_pos e2, if_pos e2]; exact ⟨rfl, rfl⟩
  ·rw [if_neg e2, if_neg e2]; exact ⟨rfl, rfl⟩
theorem Gv.paren {n : Nat} {s : List Int} {x : Qn × Int} (h : Gv (Sm n) s x) : Gv (Fc (n + 1)) (40 :: (s ++ [41])) x := fun p => by
 obtain ⟨r, h1, h2, h3⟩ := h (p + 1)
 exact ⟨r, fc_core.2 ⟨0, _, r, rfl, Or.inr ⟨n, s, rfl, rfl, h1⟩, rfl⟩, h2, h3⟩
theorem Gv.minus {n : Nat} {s : List Int} {x : Qn × Int} (h : Gv (Fc n) s x) : Gv (Fc n) (45 :: s) (qneg x.1, x.2) := fun p => by
 obtain ⟨r, h1, h2, h3⟩ := h (p + 1)
 obtain ⟨m, core, r0, g1, g2, g3⟩ := fc_core.1 h1
 refine ⟨negs (m + 1) r0, fc_core.2 ⟨m + 1, core, r0, by rw [g1]; rfl, ?_, rfl⟩, ?_, ?_⟩
 ·rw [show p + (m + 1) = p + 1 + m by omega]; exact g2
 ·rw [negs_succ, ← g3, h2]
 ·rw [negs_succ]
  show r0.e = _
  rw [← h3, g3]
  unfold negs
  split <;> rfl
theorem Gv.nought {n : Nat} : Gv (Fc n) [48] (⟨0, 0, 1, 1⟩, 0) := fun p =>
 ⟨_, fc_core.2 ⟨0, [48], ⟨⟨0, 0, 1, 1⟩, 0, 0⟩, rfl, Or.inl (Or.inl ⟨by simp, by simp, by intro c hc; simp at hc; subst hc; decide, rfl⟩), rfl⟩, rfl, rfl⟩
/-- What a text comes to, once one of its readings is known. -/
theorem rk_gv {s : ByteArray} {r : Rs} {n : Nat} {x : Qn × Int} (h : Rk s r) (g : Gv (Sm n) (bl s) x) : (r.e = 1 ∧ 100 < s.size) ∨ (r.e = 2 ∧ s.size ≤ 100 ∧ 0 ≤ plFault s 0 s.size) ∨ (s.size ≤ 100 ∧ plFault s 0 s.size = -1 ∧ r.e = x.2 ∧ (r.e = 0 → r.v = x.1)) := by
 rcases h with ⟨h1, rfl⟩ | ⟨h1, h2, rfl⟩ | ⟨h1, h2, r0, h3, rfl⟩
 ·exact Or.inl ⟨rfl, h1⟩
 ·exact Or.inr (Or.inl ⟨rfl, h1, h2⟩)
 ·obtain ⟨r', g1, g2, g3⟩ := g 0
  have e := sm_det h3 g1
  subst e
  refine Or.inr (Or.inr ⟨h1, h2, ?_, ?_⟩)
  ·by_cases h5 : r0.e = 0
   ·rw [if_pos h5, ← g3, h5]
   ·rw [if_neg h5, ← g3]
  ·by_cases h5 : r0.e = 0
   ·rw [if_pos h5]; intro _; exact g2
   ·rw [if_neg h5]; intro h6; exact absurd h6 h5

end Go.Proofs.YtjahbjjekednfaaDoor

namespace Go.Proofs.YtjahbjjekednfaaDoor

theorem fault_of_ends (s : ByteArray) : ∀ (m i : Nat), i + m = s.size → Ends (plAt s i) ((bl s).drop i) → plFault s i m = -1
 | 0, i, hi, h => by
  rw [List.drop_of_length_le (by rw [bl_len]; omega)] at h
  obtain ⟨z, h1, h2, h3⟩ := h
  simp only [pRun, Option.some.injEq] at h1
  subst h1
  unfold plFault
  rw [if_neg (by omega)]
 | m + 1, i, hi, h => by
  have hl : i < (bl s).length := by rw [bl_len]; omega
  rw [List.drop_eq_getElem_cons hl, ← at0_eq hl, ← byteAt_bl] at h
  obtain ⟨h1, h2⟩ := h.step
  unfold plFault
  have h1' : plGo s i = true := h1
  rw [if_pos h1']
  exact fault_of_ends s m (i + 1) (by omega) h2
theorem fault_iff (s : ByteArray) : plFault s 0 s.size = -1 ↔ Ends ⟨0, 18, 0⟩ (bl s) :=
 ⟨fun h => by have := ends_of_fault s s.size 0 (by omega) h; rwa [List.drop_zero] at this, fun h => fault_of_ends s s.size 0 (by omega) (by rw [List.drop_zero]; exact h)⟩

theorem pRun_app : ∀ (l m : List Int) (a : Pl), pRun a (l ++ m) = (pRun a l).bind (fun z => pRun z m)
 | [], m, a => rfl
 | c :: l, m, a => by
  simp only [List.cons_append, pRun]
  split
  ·exact pRun_app l m _
  ·rfl
def up (a : Pl) : Pl := ⟨a.k, a.r, a.d + 1⟩
theorem step_up {a : Pl} {c : Int} : (plStep (up a) c).1 = up (plStep a c).1 := by
 unfold plStep up
 by_cases h1 : isDig c = true
 ·rw [if_pos h1, if_pos h1]
 ·rw [if_neg h1]
  rw [if_neg h1]
  by_cases h2 : a.k = 0
  ·rw [if_pos h2]
   rw [if_pos h2]
   unfold beginF
   by_cases g1 : c = 114
   ·rw [if_pos g1, if_pos g1]
   ·rw [if_neg g1]
    rw [if_neg g1]
    by_cases g2 : c = 45
    ·rw [if_pos g2, if_pos g2]
    ·rw [if_neg g2]
     rw [if_neg g2]
     by_cases g3 : c = 40
     ·rw [if_pos g3, if_pos g3]
     ·rw [if_neg g3, if_neg g3]
  ·rw [if_neg h2]
   rw [if_neg h2]
   by_cases h3 : a.k = 2
   ·rw [if_pos h3]
    rw [if_pos h3]
    unfold goOnP
    by_cases g1 : c = 43 ∨ c = 45 ∨ c = 42 ∨ c = 47
    ·rw [if_pos g1, if_pos g1]
    ·rw [if_neg g1]
     rw [if_neg g1]
     by_cases g2 : c = 41
     ·rw [if_pos g2, if_pos g2]
      simp only [Pl.mk.injEq, true_and]
      omega
     ·rw [if_neg g2, if_neg g2]
   ·rw [if_neg h3, if_neg h3]
theorem run_up : ∀ (l : List Int) (a z : Pl), pRun a l = some z → pRun (up a) l = none ∨ pRun (up a) l = some (up z)
 | [], a, z, h => by
  simp only [pRun, Option.some.injEq] at h
  subst h
  exact Or.inr rfl
 | c :: l, a, z, h => by
  unfold pRun at h
  split at h
  ·rename_i hg
   unfold pRun
   split
   ·rw [step_up]
    exact run_up l _ _ h
   ·exact Or.inl rfl
  ·cases h
theorem step_dn {a : Pl} {c : Int} (h : (plStep a c).2 = true) (h0 : 0 ≤ a.d) : 0 ≤ (plStep a c).1.d := by
 unfold plStep beginF goOnP at *
 split
 ·exact h0
 ·rename_i h1
  rw [if_neg h1] at h
  split
  ·rename_i h2
   rw [if_pos h2] at h
   split
   ·exact h0
   ·split
    ·exact h0
    ·split
     ·simp only; omega
     ·exact h0
  ·rename_i h2
   rw [if_neg h2] at h
   split
   ·rename_i h3
    rw [if_pos h3] at h
    split
    ·exact h0
    ·rename_i h4
     rw [if_neg h4] at h
     split
     ·rename_i h5
      rw [if_pos h5] at h
      simp only [decide_eq_true_eq] at h ⊢
      omega
     ·exact h0
   ·exact h0
theorem run_dn : ∀ (l : List Int) (a z : Pl), pRun a l = some z → 0 ≤ a.d → 0 ≤ z.d
 | [], a, z, h, h0 => by
  simp only [pRun, Option.some.injEq] at h
  subst h
  exact h0
 | c :: l, a, z, h, h0 => by
  unfold pRun at h
  split at h
  ·rename_i hg
   exact run_dn l _ _ h (step_dn hg h0)
  ·cases h

/-- Brackets around a text, one more open: does the run come through? -/
def Fits (l : List Int) : Prop := pRun ⟨0, 18, 1⟩ l ≠ none
theorem run_paren {l m : List Int} (h : Ends ⟨0, 18, 0⟩ l) : (Fits l → pRun ⟨0, 18, 0⟩ (40 :: (l ++ 41 :: m)) = pRun ⟨2, 0, 0⟩ m) ∧ (¬ Fits l → pRun ⟨0, 18, 0⟩ (40 :: (l ++ 41 :: m)) = none) := by
 obtain ⟨z, h1, h2, h3⟩ := h
 have h4 := run_dn l _ _ h1 (Int.le_refl 0)
 have e : pRun ⟨0, 18, 0⟩ (40 :: (l ++ 41 :: m)) = (pRun ⟨0, 18, 1⟩ l).bind (fun z => pRun z (41 :: m)) := by
  rw [← pRun_app]
  rfl
 rw [e]
 have hu := run_up l _ _ h1
 change pRun ⟨0, 18, 1⟩ l = none ∨ pRun ⟨0, 18, 1⟩ l = some (up z) at hu
 constructor
 ·intro hf
  rcases hu with hu | hu
  ·exact absurd hu hf
  ·rw [hu]
   obtain ⟨k, r, d⟩ := z
   simp only at h2 h3 h4
   obtain rfl : d = 0 := by omega
   subst h2
   rfl
 ·intro hf
  rcases hu with hu | hu
  ·rw [hu]; rfl
  ·exact absurd (show Fits l by unfold Fits; rw [hu]; simp) hf
theorem ends_two {l m : List Int} {c : Int} (hc : c = 43 ∨ c = 45 ∨ c = 42 ∨ c = 47) (hl : Ends ⟨0, 18, 0⟩ l) (hm : Ends ⟨0, 18, 0⟩ m) : Ends ⟨0, 18, 0⟩ (40 :: (l ++ 41 :: c :: 40 :: (m ++ [41]))) ↔ Fits l ∧ Fits m := by
 have e : pRun ⟨2, 0, 0⟩ (c :: 40 :: (m ++ [41])) = pRun ⟨0, 18, 0⟩ (40 :: (m ++ 41 :: [])) := by
  have hs : plStep ⟨2, 0, 0⟩ c = (⟨0, 18, 0⟩, true) := by
   unfold plStep goOnP
   have hn : ¬ isDig c = true := by rw [isDig_iff]; omega
   rw [if_neg hn, if_neg (by simp), if_pos rfl, if_pos hc]
  conv => lhs; unfold pRun
  rw [hs, if_pos rfl]
 have p1 := run_paren (m := c :: 40 :: (m ++ [41])) hl
 have p2 := run_paren (m := []) hm
 constructor
 ·rintro ⟨z, h1, _⟩
  by_cases f1 : Fits l
  ·rw [p1.1 f1, e] at h1
   by_cases f2 : Fits m
   ·exact ⟨f1, f2⟩
   ·rw [p2.2 f2] at h1
    cases h1
  ·rw [p1.2 f1] at h1
   cases h1
 ·rintro ⟨f1, f2⟩
  refine ⟨⟨2, 0, 0⟩, ?_, rfl, by decide⟩
  rw [p1.1 f1, e, p2.1 f2]
  rfl

end Go.Proofs.YtjahbjjekednfaaDoor
