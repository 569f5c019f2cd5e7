import Derived.Test.YtjahbjjekednfabDoorH1
namespace Go.Proofs.YtjahbjjekednfabDoor

/-- A reading is one: pieces that begin one text, with nothing behind them that goes on with them, are the same. -/
def Det (F F' : List Int → Nat → Rs → Prop) (P : Int → Prop) : Prop :=
 ∀ p f r f' r' x x', F f p r → F' f' p r' → f ++ x = f' ++ x' → Hd P x → Hd P x' → f = f' ∧ r = r'
theorem hd_mono {P Q : Int → Prop} {l : List Int} (h : ∀ c, Q c → P c) (hl : Hd P l) : Hd Q l := fun c l' e hq => hl c l' e (h c hq)
theorem chT_hd {F : List Int → Nat → Rs → Prop} {P ops : Int → Prop} (hP : ∀ c, ops c → ¬ P c) {m : Nat} {acc r : Rs} {p : Nat} {s x : List Int} (h : ChT F ops m acc p s r) (hx : Hd (fun c => P c ∨ ops c) x) : Hd P (s ++ x) := by
 cases m with
 | zero =>
  obtain ⟨rfl, _⟩ := h
  exact hd_mono (fun c hc => Or.inl hc) hx
 | succ m =>
  obtain ⟨c, t, s', rt, h1, rfl, _⟩ := h
  intro d l' e hd
  simp only [List.cons_append, List.cons.injEq] at e
  exact hP c h1 (e.1 ▸ hd)
theorem chT_det {F F' : List Int → Nat → Rs → Prop} {P ops : Int → Prop} (hF : Det F F' P) (hP : ∀ c, ops c → ¬ P c) : ∀ (m m' : Nat) (acc r r' : Rs) (p : Nat) (s s' x x' : List Int),
  ChT F ops m acc p s r → ChT F' ops m' acc p s' r' → s ++ x = s' ++ x' → Hd (fun c => P c ∨ ops c) x → Hd (fun c => P c ∨ ops c) x' → s = s' ∧ r = r'
 | 0, 0, acc, r, r', p, s, s', x, x', h, h', _, _, _ => by
  obtain ⟨rfl, rfl⟩ := h
  obtain ⟨rfl, rfl⟩ := h'
  exact ⟨rfl, rfl⟩
 | 0, m' + 1, acc, r, r', p, s, s', x, x', h, h', e, hx, _ => by
  obtain ⟨rfl, rfl⟩ := h
  obtain ⟨c, t, s2, rt, h1, rfl, _⟩ := h'
  simp only [List.nil_append, List.cons_append] at e
  exact absurd (Or.inr h1) (hx _ _ e)
 | m + 1, 0, acc, r, r', p, s, s', x, x', h, h', e, _, hx => by
  obtain ⟨rfl, rfl⟩ := h'
  obtain ⟨c, t, s2, rt, h1, rfl, _⟩ := h
  simp only [List.nil_append, List.cons_append] at e
  exact absurd (Or.inr h1) (hx _ _ e.symm)
 | m + 1, m' + 1, acc, r, r', p, s, s', x, x', h, h', e, hx, hx' => by
  obtain ⟨c, t, s2, rt, h1, rfl, h2, h3⟩ := h
  obtain ⟨c', t', s2', rt', h1', rfl, h2', h3'⟩ := h'
  simp only [List.cons_append, List.append_assoc, List.cons.injEq] at e
  obtain ⟨rfl, e⟩ := e
  obtain ⟨rfl, rfl⟩ := hF _ _ _ _ _ _ _ h2 h2' e (chT_hd hP h3 hx) (chT_hd hP h3' hx')
  obtain ⟨rfl, rfl⟩ := chT_det hF hP m m' _ _ _ _ _ _ x x' h3 h3' (List.append_cancel_left e) hx hx'
  exact ⟨rfl, rfl⟩
theorem ch_det {F F' : List Int → Nat → Rs → Prop} {P ops : Int → Prop} (hF : Det F F' P) (hP : ∀ c, ops c → ¬ P c) : Det (Ch F ops) (Ch F' ops) (fun c => P c ∨ ops c) := by
 intro p s r s' r' x x' h h' e hx hx'
 obtain ⟨m, f, t, rf, rfl, h1, h2⟩ := h
 obtain ⟨m', f', t', rf', rfl, h1', h2'⟩ := h'
 simp only [List.append_assoc] at e
 obtain ⟨rfl, rfl⟩ := hF _ _ _ _ _ _ _ h1 h1' e (chT_hd hP h2 hx) (chT_hd hP h2' hx')
 obtain ⟨rfl, rfl⟩ := chT_det hF hP m m' _ _ _ _ _ _ x x' h2 h2' (List.append_cancel_left e) hx hx'
 exact ⟨rfl, rfl⟩
theorem digs_det : ∀ (s s' x x' : List Int), Digs s → Digs s' → s ++ x = s' ++ x' → Hd isD x → Hd isD x' → s = s'
 | [], [], _, _, _, _, _, _, _ => rfl
 | [], c :: s', x, x', _, h', e, hx, _ => absurd (h' c (by simp)) (hx _ _ e)
 | c :: s, [], x, x', h, _, e, _, hx => absurd (h c (by simp)) (hx _ _ e.symm)
 | c :: s, c' :: s', x, x', h, h', e, hx, hx' => by
  simp only [List.cons_append, List.cons.injEq] at e
  obtain ⟨rfl, e⟩ := e
  rw [digs_det s s' x x' (fun d hd => h d (by simp [hd])) (fun d hd => h' d (by simp [hd])) e hx hx']
theorem reps_det : ∀ (m m' : Nat) (x x' : List Int), List.replicate m (45 : Int) ++ x = List.replicate m' 45 ++ x' → Hd (fun c => c = 45) x → Hd (fun c => c = 45) x' → m = m' ∧ x = x'
 | 0, 0, _, _, e, _, _ => ⟨rfl, by simpa using e⟩
 | 0, m' + 1, x, x', e, hx, _ => absurd rfl (hx 45 (List.replicate m' 45 ++ x') (by simpa [List.replicate_succ] using e))
 | m + 1, 0, x, x', e, _, hx => absurd rfl (hx 45 (List.replicate m 45 ++ x) (by simpa [List.replicate_succ] using e.symm))
 | m + 1, m' + 1, x, x', e, hx, hx' => by
  simp only [List.replicate_succ, List.cons_append, List.cons.injEq, true_and] at e
  obtain ⟨rfl, rfl⟩ := reps_det m m' x x' e hx hx'
  exact ⟨rfl, rfl⟩
theorem isDig_iff (c : Int) : isDig c = true ↔ 48 ≤ c ∧ c ≤ 57 := by simp [isDig]
/-- What a core begins with. -/
theorem atom_head {s : List Int} {r : Rs} (h : Atom s r) : ∃ c l, s = c :: l ∧ (isDig c = true ∨ c = 114) := by
 rcases h with ⟨h1, _, h3, _⟩ | ⟨t, rfl, _⟩
 ·cases s with
  | nil => exact absurd rfl h1
  | cons c l => exact ⟨c, l, rfl, Or.inl (h3 c (by simp))⟩
 ·exact ⟨114, t, rfl, Or.inr rfl⟩
theorem atom_det {s s' x x' : List Int} {r r' : Rs} (h : Atom s r) (h' : Atom s' r') (e : s ++ x = s' ++ x') (hx : Hd isD x) (hx' : Hd isD x') : s = s' ∧ r = r' := by
 rcases h with ⟨h1, _, h3, rfl⟩ | ⟨t, rfl, h1, _, h3, rfl⟩ <;> rcases h' with ⟨k1, _, k3, rfl⟩ | ⟨t', rfl, k1, _, k3, rfl⟩
 ·have := digs_det s s' x x' h3 k3 e hx hx'
  subst this
  exact ⟨rfl, rfl⟩
 ·cases s with
  | nil => exact absurd rfl h1
  | cons c l =>
   simp only [List.cons_append, List.cons.injEq] at e
   have := (isDig_iff c).1 (h3 c (by simp))
   omega
 ·cases s' with
  | nil => exact absurd rfl k1
  | cons c l =>
   simp only [List.cons_append, List.cons.injEq] at e
   have := (isDig_iff c).1 (k3 c (by simp))
   omega
 ·simp only [List.cons_append, List.cons.injEq, true_and] at e
  have := digs_det t t' x x' h3 k3 e hx hx'
  subst this
  exact ⟨rfl, rfl⟩
theorem core_head {n p : Nat} {s : List Int} {r : Rs} (h : Core n s p r) : ∃ c l, s = c :: l ∧ (isDig c = true ∨ c = 114 ∨ c = 40) := by
 rcases h with h | ⟨k, t, _, rfl, _⟩
 ·obtain ⟨c, l, h1, h2⟩ := atom_head h
  exact ⟨c, l, h1, by rcases h2 with h | h <;> simp [h]⟩
 ·exact ⟨_, _, rfl, Or.inr (Or.inr rfl)⟩
theorem core_hd {n p : Nat} {s x : List Int} {r : Rs} (h : Core n s p r) : Hd (fun c => c = 45) (s ++ x) := by
 obtain ⟨c, l, rfl, h2⟩ := core_head h
 intro d l' e hd
 simp only [List.cons_append, List.cons.injEq] at e
 rcases h2 with h | h | h
 ·have := (isDig_iff c).1 h
  omega
 ·omega
 ·omega
theorem mul_isD (c : Int) (h : mulOp c) : ¬ isD c := by
 unfold isD; rw [isDig_iff]; unfold mulOp at h; omega
theorem add_isD (c : Int) (h : addOp c) : ¬ (isD c ∨ mulOp c) := by
 unfold isD; rw [isDig_iff]; unfold addOp at h; unfold mulOp; omega
theorem sm_det_of {n m : Nat} (h : Det (Fc n) (Fc m) isD) : Det (Sm n) (Sm m) (fun c => (isD c ∨ mulOp c) ∨ addOp c) :=
 ch_det (ch_det h mul_isD) add_isD
theorem fc_det : ∀ (n m : Nat), Det (Fc n) (Fc m) isD := by
 intro n
 induction n with
 | zero =>
  intro m p f r f' r' x x' h h' e hx hx'
  obtain ⟨a, core, r0, rfl, h2, rfl⟩ := fc_core.1 h
  obtain ⟨b, core', r0', rfl, h2', rfl⟩ := fc_core.1 h'
  rw [List.append_assoc, List.append_assoc] at e
  obtain ⟨hab, e2⟩ := reps_det _ _ _ _ e (core_hd h2) (core_hd h2')
  subst hab
  clear e
  have e := e2
  clear e2
  rcases h2 with h2 | ⟨k, t, hk, _⟩
  ·rcases h2' with h2' | ⟨k', t', _, rfl, h4'⟩
   ·obtain ⟨rfl, rfl⟩ := atom_det h2 h2' e hx hx'
    exact ⟨rfl, rfl⟩
   ·obtain ⟨c, l, rfl, hc⟩ := atom_head h2
    simp only [List.cons_append, List.cons.injEq] at e
    rcases hc with hc | hc
    ·have := (isDig_iff c).1 hc
     omega
    ·omega
  ·omega
 | succ n ih =>
  intro m p f r f' r' x x' h h' e hx hx'
  obtain ⟨a, core, r0, rfl, h2, rfl⟩ := fc_core.1 h
  obtain ⟨b, core', r0', rfl, h2', rfl⟩ := fc_core.1 h'
  rw [List.append_assoc, List.append_assoc] at e
  obtain ⟨hab, e2⟩ := reps_det _ _ _ _ e (core_hd h2) (core_hd h2')
  subst hab
  clear e
  have e := e2
  clear e2
  rcases h2 with h2 | ⟨k, t, hk, rfl, h4⟩
  ·rcases h2' with h2' | ⟨k', t', _, rfl, h4'⟩
   ·obtain ⟨rfl, rfl⟩ := atom_det h2 h2' e hx hx'
    exact ⟨rfl, rfl⟩
   ·obtain ⟨c, l, rfl, hc⟩ := atom_head h2
    simp only [List.cons_append, List.cons.injEq] at e
    rcases hc with hc | hc
    ·have := (isDig_iff c).1 hc
     omega
    ·omega
  ·rcases h2' with h2' | ⟨k', t', _, rfl, h4'⟩
   ·obtain ⟨c, l, rfl, hc⟩ := atom_head h2'
    simp only [List.cons_append, List.cons.injEq] at e
    rcases hc with hc | hc
    ·have := (isDig_iff c).1 hc
     omega
    ·omega
   ·obtain rfl : k = n := by omega
    simp only [List.cons_append, List.cons.injEq, true_and, List.append_assoc, List.nil_append] at e
    have h41 : ∀ l : List Int, Hd (fun c => (isD c ∨ mulOp c) ∨ addOp c) (41 :: l) := by
     intro l c l' e hc
     simp only [List.cons.injEq] at e
     unfold isD at hc
     rw [isDig_iff] at hc
     unfold mulOp addOp at hc
     omega
    obtain ⟨rfl, rfl⟩ := sm_det_of (ih k') _ _ _ _ _ _ _ h4 h4' e (h41 _) (h41 _)
    exact ⟨rfl, rfl⟩
/-- A text is read in one way, however deep its brackets may stand. -/
theorem sm_det {n m p : Nat} {s : List Int} {r r' : Rs} (h : Sm n s p r) (h' : Sm m s p r') : r = r' :=
 (sm_det_of (fc_det n m) p s r s r' [] [] h h' rfl (by simp [Hd]) (by simp [Hd])).2

end Go.Proofs.YtjahbjjekednfabDoor
