import Derived.Test.YtjahbjjekednfaaDoorH2
import Derived.Test.YtjahbjjekednfaaDoorG2
namespace Go.Proofs.YtjahbjjekednfaaDoor

def Kc (r : Rs) : Prop := r.e = 0 → Cn r.v
theorem one_gcd {a : Qn} (h : a.r = 1) : Int.gcd (Int.gcd a.r a.p) a.q = 1 := by rw [h]; simp [Int.gcd]
theorem comb_cn {c : Int} {a b : Qn} (ha : Cn a) (hb : Cn b) (h : (comb c a b).2 = 0) : Cn (comb c a b).1 := by
  refine ⟨comb_ok ha.ok hb.ok h, ?_⟩
  have r1 := ha.ok.r
  have r2 := hb.ok.r
  have hR : a.r * b.r ≠ 0 := Int.mul_ne_zero (by omega) (by omega)
  have hadd : ∀ b' : Qn, b'.r = b.r → (qadd a b').2 = 0 → Int.gcd (Int.gcd (qadd a b').1.r (qadd a b').1.p) (qadd a b').1.q = 1 := by
    intro b' hb' h
    unfold qadd at *
    split at h
    · exact absurd h (by simp)
    · rename_i hn
      rw [if_neg hn]
      obtain ⟨g, _, _, _, _, _, h5, _⟩ := qred_parts (a.p * b'.r + b'.p * a.r) (a.q * b'.r + b'.q * a.r) (a.r * b'.r) (qroot a.d b'.d) (by rw [hb']; exact hR)
      exact h5
  have hmul : ∀ b' : Qn, b'.r ≠ 0 → (qmul a b').2 = 0 → Int.gcd (Int.gcd (qmul a b').1.r (qmul a b').1.p) (qmul a b').1.q = 1 := by
    intro b' hb' h
    unfold qmul at *
    split at h
    · exact absurd h (by simp)
    · rename_i hn
      rw [if_neg hn]
      obtain ⟨g, _, _, _, _, _, h5, _⟩ := qred_parts (a.p * b'.p + a.q * (b'.q * qroot a.d b'.d)) (a.p * b'.q + a.q * b'.p) (a.r * b'.r) (qroot a.d b'.d) (Int.mul_ne_zero (by omega) hb')
      exact h5
  unfold comb at *
  by_cases h1 : c = 43
  · rw [if_pos h1] at h ⊢
    exact hadd b rfl h
  · rw [if_neg h1] at h ⊢
    by_cases h2 : c = 45
    · rw [if_pos h2] at h ⊢
      exact hadd (qneg b) rfl h
    · rw [if_neg h2] at h ⊢
      by_cases h3 : c = 42
      · rw [if_pos h3] at h ⊢
        exact hmul b (by omega) h
      · rw [if_neg h3] at h ⊢
        unfold qdiv at *
        by_cases hz : b.p = 0 ∧ b.q = 0
        · rw [if_pos hz] at h
          exact absurd h (by simp)
        · rw [if_neg hz] at h ⊢
          have := (qinv_ok hb.ok hz).r
          exact hmul (qinv b) (by omega) h
theorem opR_kc {c : Int} {p : Nat} {a b : Rs} (ha : Kc a) (hb : Kc b) : Kc (opR c p a b) := by
  unfold opR Kc at *
  by_cases e1 : a.e ≠ 0
  · rw [if_pos e1]; exact ha
  · rw [if_neg e1]
    by_cases e2 : b.e ≠ 0
    · rw [if_pos e2]; intro h; exact absurd h e2
    · rw [if_neg e2]; intro h; exact comb_cn (ha (by omega)) (hb (by omega)) h
theorem chT_kc {F : List Int → Nat → Rs → Prop} {ops : Int → Prop} (hF : ∀ t p r, F t p r → Kc r) : ∀ (m : Nat) (acc : Rs) (p : Nat) (s : List Int) (r : Rs), Kc acc → ChT F ops m acc p s r → Kc r
  | 0, acc, p, s, r, ha, h => by
    obtain ⟨_, rfl⟩ := h
    exact ha
  | m + 1, acc, p, s, r, ha, h => by
    obtain ⟨c, t, s', rt, _, _, h2, h3⟩ := h
    exact chT_kc hF m _ _ _ _ (opR_kc ha (hF _ _ _ h2)) h3
theorem ch_kc {F : List Int → Nat → Rs → Prop} {ops : Int → Prop} (hF : ∀ t p r, F t p r → Kc r) : ∀ t p r, Ch F ops t p r → Kc r := by
  rintro t p r ⟨m, f, s', rf, rfl, h1, h2⟩
  exact chT_kc hF m _ _ _ _ (hF _ _ _ h1) h2
theorem negs_kc {r : Rs} (j : Nat) (h : Kc r) : Kc (negs j r) := by
  unfold negs
  split
  · intro e
    exact (f_neg (inf_own (h e))).1.cn
  · exact h
theorem atom_kc {s : List Int} {r : Rs} (h : Atom s r) : Kc r := by
  intro e
  refine ⟨(atom_ok h).q e, one_gcd ?_⟩
  rcases h with ⟨_, _, _, rfl⟩ | ⟨t, _, _, _, _, rfl⟩
  · rfl
  · show (qsqrt (decN t).toNat).r = 1
    unfold qsqrt
    split
    · rfl
    · split <;> rfl
theorem fc_kc : ∀ n t p r, Fc n t p r → Kc r := by
  intro n
  induction n with
  | zero =>
    intro t p r h
    obtain ⟨m, core, r0, h1, h2, h3⟩ := fc_core.1 h
    rcases h2 with h2 | ⟨k, t, hk, _⟩
    · rw [h3]; exact negs_kc m (atom_kc h2)
    · omega
  | succ n ih =>
    intro t p r h
    obtain ⟨m, core, r0, h1, h2, h3⟩ := fc_core.1 h
    rw [h3]
    refine negs_kc m ?_
    rcases h2 with h2 | ⟨k, t, hk, h4, h5⟩
    · exact atom_kc h2
    · obtain rfl : k = n := by omega
      exact ch_kc (ch_kc ih) _ _ _ h5
theorem sm_kc (n : Nat) : ∀ t p r, Sm n t p r → Kc r := ch_kc (ch_kc (fc_kc n))
theorem rk_cn {s : ByteArray} {r : Rs} (h : Rk s r) (he : r.e = 0) : Cn r.v := by
  obtain ⟨g, _⟩ := rk_read h he
  obtain ⟨r', h1, h2, h3⟩ := g 0
  have := sm_kc 8 _ _ _ h1 h3
  rw [h2] at this
  exact this

end Go.Proofs.YtjahbjjekednfaaDoor
