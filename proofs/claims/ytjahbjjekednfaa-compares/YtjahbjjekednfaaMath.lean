
/-! Plain arithmetic on lists of digits, the least first. Nothing of the program. -/
namespace Go.Proofs.Ytjahbjjekednfaa

/-- The i-th integer of a list, 0 behind its end. -/
def at0 (l : List Int) (i : Nat) : Int := l.getD i 0

theorem at0_ge {l : List Int} {i : Nat} (h : l.length ≤ i) : at0 l i = 0 := by
 unfold at0
 simp [h]

theorem at0_eq {l : List Int} {i : Nat} (h : i < l.length) : at0 l i = l[i] := by
 unfold at0
 simp [h]

/-- What digits to the base B are worth. -/
def val (B : Int) : List Int → Int
 | [] => 0
 | d :: l => d + B * val B l

/-- All digits are from 0 to B - 1. -/
def Dig (B : Int) (l : List Int) : Prop := ∀ i, 0 ≤ at0 l i ∧ at0 l i < B

/-- The last digit is not 0. -/
def Top (l : List Int) : Prop := 0 < l.length → at0 l (l.length - 1) ≠ 0

/-- Digits, and the last is not 0. -/
def Canon (B : Int) (l : List Int) : Prop := Dig B l ∧ Top l

theorem at0_cons_zero (d : Int) (l : List Int) : at0 (d :: l) 0 = d := rfl
theorem at0_cons_succ (d : Int) (l : List Int) (i : Nat) : at0 (d :: l) (i + 1) = at0 l i := by unfold at0; simp
theorem at0_nil (i : Nat) : at0 [] i = 0 := rfl
theorem at0_append_lt {l m : List Int} {i : Nat} (h : i < l.length) : at0 (l ++ m) i = at0 l i := by unfold at0; simp [List.getElem?_append_left h]
theorem at0_append_ge {l m : List Int} {i : Nat} (h : l.length ≤ i) : at0 (l ++ m) i = at0 m (i - l.length) := by unfold at0; simp [List.getElem?_append_right h]
theorem at0_take {l : List Int} {n i : Nat} (h : i < n) : at0 (l.take n) i = at0 l i := by unfold at0; simp [h]
theorem at0_drop (l : List Int) (n i : Nat) : at0 (l.drop n) i = at0 l (n + i) := by unfold at0; simp [List.getElem?_drop]
theorem at0_set_eq {l : List Int} {i : Nat} (x : Int) (h : i < l.length) : at0 (l.set i x) i = x := by unfold at0; simp [h]
theorem at0_set_ne {l : List Int} {i j : Nat} (x : Int) (h : i ≠ j) : at0 (l.set i x) j = at0 l j := by unfold at0; simp [List.getElem?_set_ne h]
theorem at0_replicate (n i : Nat) : at0 (List.replicate n 0) i = 0 := by
 unfold at0
 rw [List.getD_eq_getElem?_getD, List.getElem?_replicate]
 split <;> rfl

theorem Dig.cons {B d : Int} {l : List Int} (h : Dig B (d :: l)) : (0 ≤ d ∧ d < B) ∧ Dig B l :=
 ⟨h 0, fun i => by have := h (i + 1); rwa [at0_cons_succ] at this⟩
theorem Dig.mk {B d : Int} {l : List Int} (hd : 0 ≤ d ∧ d < B) (h : Dig B l) : Dig B (d :: l) := by
 intro i
 cases i with
 | zero => exact hd
 | succ i => rw [at0_cons_succ]; exact h i
theorem Dig.nil {B : Int} (hB : 0 < B) : Dig B [] := fun i => ⟨by rw [at0_nil]; omega, by rw [at0_nil]; omega⟩
theorem Dig.snoc {B d : Int} {l : List Int} (h : Dig B l) (hd : 0 ≤ d ∧ d < B) : Dig B (l ++ [d]) := by
 intro i
 rcases Nat.lt_or_ge i l.length with hi | hi
 ·rw [at0_append_lt hi]; exact h i
 ·rw [at0_append_ge hi]
  cases hj : i - l.length with
  | zero => exact hd
  | succ j => rw [at0_cons_succ, at0_nil]; omega
theorem Dig.take {B : Int} (hB : 0 < B) {l : List Int} (h : Dig B l) (n : Nat) : Dig B (l.take n) := by
 intro i
 rcases Nat.lt_or_ge i n with hi | hi
 ·rw [at0_take hi]; exact h i
 ·rw [at0_ge (by simp; omega)]; omega
theorem Dig.drop {B : Int} {l : List Int} (h : Dig B l) (n : Nat) : Dig B (l.drop n) := by
 intro i
 rw [at0_drop]; exact h _
theorem Dig.replicate {B : Int} (hB : 0 < B) (n : Nat) : Dig B (List.replicate n 0) := fun i => by rw [at0_replicate]; omega
theorem Dig.set {B x : Int} {l : List Int} (h : Dig B l) (i : Nat) (hx : 0 ≤ x ∧ x < B) : Dig B (l.set i x) := by
 intro j
 by_cases hij : i = j
 ·subst hij
  rcases Nat.lt_or_ge i l.length with hi | hi
  ·rw [at0_set_eq x hi]; exact hx
  ·rw [List.set_eq_of_length_le hi]; exact h i
 ·rw [at0_set_ne x hij]; exact h j

theorem pow_pos' {B : Int} (hB : 0 < B) (n : Nat) : 0 < B ^ n := Int.pow_pos hB

theorem val_append (B : Int) (l m : List Int) : val B (l ++ m) = val B l + B ^ l.length * val B m := by
 induction l with
 | nil => simp [val]
 | cons d l ih =>
  simp only [List.cons_append, val, ih, List.length_cons, Int.pow_succ]
  grind

theorem val_snoc (B : Int) (l : List Int) (d : Int) : val B (l ++ [d]) = val B l + B ^ l.length * d := by
 rw [val_append]; simp [val]

theorem Dig.val_nonneg {B : Int} (hB : 0 < B) : ∀ {l : List Int}, Dig B l → 0 ≤ val B l
 | [], _ => by simp [val]
 | d :: l, h => by
  have h1 := h.cons
  have h2 := Dig.val_nonneg hB h1.2
  have h3 := Int.mul_nonneg (Int.le_of_lt hB) h2
  simp only [val]; omega

theorem Dig.val_lt {B : Int} (hB : 0 < B) : ∀ {l : List Int}, Dig B l → val B l < B ^ l.length
 | [], _ => by simp [val]
 | d :: l, h => by
  have h1 := h.cons
  have h2 := Dig.val_lt hB h1.2
  have h3 : B * val B l ≤ B * (B ^ l.length - 1) := Int.mul_le_mul_of_nonneg_left (by omega) (by omega)
  simp only [val, List.length_cons, Int.pow_succ]
  have h4 : B * (B ^ l.length - 1) = B ^ l.length * B - B := by grind
  omega

theorem val_replicate (B : Int) (n : Nat) : val B (List.replicate n 0) = 0 := by
 induction n with
 | zero => rfl
 | succ n ih => simp [List.replicate_succ, val, ih]

theorem val_take_drop (B : Int) (l : List Int) (n : Nat) (h : n ≤ l.length) : val B l = val B (l.take n) + B ^ n * val B (l.drop n) := by
 have e : val B l = val B (l.take n ++ l.drop n) := by rw [List.take_append_drop]
 rw [e, val_append, List.length_take, Nat.min_eq_left h]

/-- One digit more. -/
theorem val_take_succ (B : Int) (l : List Int) (n : Nat) : val B (l.take (n + 1)) = val B (l.take n) + B ^ n * at0 l n := by
 rcases Nat.lt_or_ge n l.length with h | h
 ·rw [List.take_succ_eq_append_getElem h, val_snoc, List.length_take, Nat.min_eq_left (Nat.le_of_lt h)]
  unfold at0; simp [h]
 ·rw [List.take_of_length_le h, List.take_of_length_le (by omega), at0_ge h]; simp

theorem val_zeros {B : Int} : ∀ {l : List Int}, (∀ i, at0 l i = 0) → val B l = 0
 | [], _ => rfl
 | d :: l, h => by
  have h0 := h 0
  rw [at0_cons_zero] at h0
  have h1 : val B l = 0 := val_zeros (fun i => by have := h (i + 1); rwa [at0_cons_succ] at this)
  simp [val, h0, h1]

/-- How many digits are left when the noughts at the upper end are dropped. -/
def IsSig (l : List Int) (n : Nat) : Prop := n ≤ l.length ∧ (∀ i, n ≤ i → at0 l i = 0) ∧ (0 < n → at0 l (n - 1) ≠ 0)

theorem IsSig.canon {B : Int} (hB : 0 < B) {l : List Int} {n : Nat} (hd : Dig B l) (h : IsSig l n) : Canon B (l.take n) ∧ val B (l.take n) = val B l ∧ (l.take n).length = n := by
 obtain ⟨h1, h2, h3⟩ := h
 have hl : (l.take n).length = n := by rw [List.length_take]; omega
 refine ⟨⟨hd.take hB n, fun hp => ?_⟩, ?_, hl⟩
 ·rw [hl] at hp ⊢
  rw [at0_take (by omega)]; exact h3 hp
 ·rw [val_take_drop B l n h1, val_zeros (l := l.drop n) (fun i => by rw [at0_drop]; exact h2 _ (by omega))]
  simp

/-- Canonical: the value is at least a power. -/
theorem Canon.ge {B : Int} (hB : 1 < B) {l : List Int} (h : Canon B l) (hp : 0 < l.length) : B ^ (l.length - 1) ≤ val B l := by
 obtain ⟨hd, ht⟩ := h
 have e := val_take_succ B l (l.length - 1)
 rw [show l.length - 1 + 1 = l.length by omega, List.take_length] at e
 have h1 := (hd.take (by omega) (l.length - 1)).val_nonneg (by omega)
 have h2 : 1 ≤ at0 l (l.length - 1) := by
  have := (hd (l.length - 1)).1
  have := ht hp
  omega
 have h3 : B ^ (l.length - 1) * 1 ≤ B ^ (l.length - 1) * at0 l (l.length - 1) := Int.mul_le_mul_of_nonneg_left h2 (Int.le_of_lt (pow_pos' (by omega) _))
 omega

theorem pow_mono {B : Int} (hB : 1 ≤ B) {m n : Nat} (h : m ≤ n) : B ^ m ≤ B ^ n := by
 obtain ⟨k, rfl⟩ := Nat.exists_eq_add_of_le h
 rw [Int.pow_add]
 have h1 : 1 ≤ B ^ k := by
  have := pow_pos' (B := B) (by omega) k
  omega
 have h2 : B ^ m * 1 ≤ B ^ m * B ^ k := Int.mul_le_mul_of_nonneg_left h1 (Int.le_of_lt (pow_pos' (by omega) _))
 omega

theorem Canon.len_le {B : Int} (hB : 1 < B) {l : List Int} (h : Canon B l) {k : Nat} (hk : val B l < B ^ k) : l.length ≤ k := by
 rcases Nat.lt_or_ge k l.length with h1 | h1
 ·exfalso
  have h2 := h.ge hB (by omega)
  have h3 := pow_mono (B := B) (by omega) (m := k) (n := l.length - 1) (by omega)
  omega
 ·exact h1

theorem Canon.pos {B : Int} (hB : 1 < B) {l : List Int} (h : Canon B l) (hp : 0 < l.length) : 0 < val B l := by
 have := h.ge hB hp
 have := pow_pos' (B := B) (by omega) (l.length - 1)
 omega

theorem Canon.zero_iff {B : Int} (hB : 1 < B) {l : List Int} (h : Canon B l) : l.length = 0 ↔ val B l = 0 := by
 constructor
 ·intro e
  rw [List.eq_nil_of_length_eq_zero e]; rfl
 ·intro e
  rcases Nat.eq_zero_or_pos l.length with h1 | h1
  ·exact h1
  ·have := h.pos hB h1; omega

theorem Canon.lt_of_len {B : Int} (hB : 1 < B) {l m : List Int} (h : Canon B l) (hm : Canon B m) (hl : l.length < m.length) : val B l < val B m := by
 have h1 := h.1.val_lt (by omega)
 have h2 := hm.ge hB (by omega)
 have h3 := pow_mono (B := B) (by omega) (m := l.length) (n := m.length - 1) (by omega)
 omega

theorem Canon.nil {B : Int} (hB : 0 < B) : Canon B [] := ⟨Dig.nil hB, fun h => absurd h (by simp)⟩

/-- Of two lists that agree from k + 1 on, and differ at k, the one that is less at k is less. -/
theorem val_lt_of_top {B : Int} (hB : 0 < B) {l m : List Int} (hl : Dig B l) (hm : Dig B m) (hlen : l.length = m.length) {k : Nat}
  (hk : k < l.length) (heq : ∀ i, k < i → at0 l i = at0 m i) (hlt : at0 l k < at0 m k) : val B l < val B m := by
 have e1 := val_take_drop B l (k + 1) (by omega)
 have e2 := val_take_drop B m (k + 1) (by omega)
 have ed : val B (l.drop (k + 1)) = val B (m.drop (k + 1)) := by
  have : l.drop (k + 1) = m.drop (k + 1) := by
   apply List.ext_getElem (by simp [hlen])
   intro i h1 h2
   have h3 := heq (k + 1 + i) (by omega)
   simp at h1 h2
   rw [at0_eq (by omega), at0_eq (by omega)] at h3
   simpa using h3
  rw [this]
 rw [val_take_succ] at e1 e2
 have h1 := (hl.take hB k).val_lt hB
 rw [List.length_take, Nat.min_eq_left (by omega)] at h1
 have h2 := (hm.take hB k).val_nonneg hB
 have h3 : B ^ k * (at0 l k + 1) ≤ B ^ k * at0 m k := Int.mul_le_mul_of_nonneg_left (by omega) (Int.le_of_lt (pow_pos' hB _))
 rw [Int.mul_add, Int.mul_one] at h3
 rw [ed] at e1
 omega

theorem ext_at0 {l m : List Int} (hlen : l.length = m.length) (h : ∀ i, i < l.length → at0 l i = at0 m i) : l = m := by
 apply List.ext_getElem hlen
 intro i h1 h2
 have h3 := h i h1
 rw [at0_eq h1, at0_eq h2] at h3
 exact h3

/-- A number that is not too great to be reckoned with. -/
def Fit (x : Int) : Prop := ∃ n : Nat, n ≤ 400000000 ∧ x.natAbs < 10 ^ n

theorem pow_mono_base {n : Nat} {B : Int} (hB : 10 ≤ B) : (10 : Int) ^ n ≤ B ^ n := by
 induction n with
 | zero => simp
 | succ n ih =>
  rw [Int.pow_succ, Int.pow_succ]
  exact Int.mul_le_mul ih hB (by omega) (Int.le_of_lt (pow_pos' (by omega) _))

theorem Canon.len_fit {B : Int} (hB : 10 ≤ B) {l : List Int} (h : Canon B l) (hf : Fit (val B l)) : l.length ≤ 400000000 := by
 obtain ⟨n, hn, hlt⟩ := hf
 have h0 := h.1.val_nonneg (by omega)
 have h1 : val B l < (10 : Int) ^ n := by
  have : ((val B l).natAbs : Int) = val B l := by omega
  have h2 : ((val B l).natAbs : Int) < ((10 ^ n : Nat) : Int) := by exact_mod_cast hlt
  rw [this] at h2
  simpa using h2
 have := h.len_le (by omega) (k := n) (Int.lt_of_lt_of_le h1 (pow_mono_base hB))
 omega

/-! Addition. -/
def addTo (B : Int) (a b : List Int) : Nat → List Int × Int
 | 0 => ([], 0)
 | k + 1 => ((addTo B a b k).1 ++ [((addTo B a b k).2 + at0 a k + at0 b k) % B], ((addTo B a b k).2 + at0 a k + at0 b k) / B)
def addS (B : Int) (a b : List Int) (k : Nat) : List Int := (addTo B a b k).1
def addC (B : Int) (a b : List Int) (k : Nat) : Int := (addTo B a b k).2

theorem addS_zero (B : Int) (a b : List Int) : addS B a b 0 = [] := rfl
theorem addC_zero (B : Int) (a b : List Int) : addC B a b 0 = 0 := rfl
theorem addS_succ (B : Int) (a b : List Int) (k : Nat) : addS B a b (k + 1) = addS B a b k ++ [(addC B a b k + at0 a k + at0 b k) % B] := rfl
theorem addC_succ (B : Int) (a b : List Int) (k : Nat) : addC B a b (k + 1) = (addC B a b k + at0 a k + at0 b k) / B := rfl
theorem addS_length (B : Int) (a b : List Int) : ∀ k, (addS B a b k).length = k
 | 0 => rfl
 | k + 1 => by rw [addS_succ, List.length_append, addS_length B a b k]; rfl

theorem div_le_one {B t : Int} (hB : 1 < B) (h0 : 0 ≤ t) (h : t < 2 * B) : 0 ≤ t / B ∧ t / B ≤ 1 := by
 constructor
 ·exact Int.ediv_nonneg h0 (by omega)
 ·have := Int.ediv_lt_of_lt_mul (a := t) (b := 2) (c := B) (by omega) h
  omega

theorem addC_le {B : Int} (hB : 1 < B) {a b : List Int} (ha : Dig B a) (hb : Dig B b) : ∀ k, 0 ≤ addC B a b k ∧ addC B a b k ≤ 1
 | 0 => by rw [addC_zero]; omega
 | k + 1 => by
  have h1 := addC_le hB ha hb k
  have h2 := ha k
  have h3 := hb k
  rw [addC_succ]
  exact div_le_one hB (by omega) (by omega)

theorem addS_dig {B : Int} (hB : 1 < B) {a b : List Int} (ha : Dig B a) (hb : Dig B b) : ∀ k, Dig B (addS B a b k)
 | 0 => Dig.nil (by omega)
 | k + 1 => by
  rw [addS_succ]
  exact (addS_dig hB ha hb k).snoc ⟨Int.emod_nonneg _ (by omega), Int.emod_lt_of_pos _ (by omega)⟩

theorem add_val (B : Int) (a b : List Int) : ∀ k, val B (addS B a b k) + B ^ k * addC B a b k = val B (a.take k) + val B (b.take k)
 | 0 => by simp [addS_zero, addC_zero, val]
 | k + 1 => by
  have ih := add_val B a b k
  rw [addS_succ, addC_succ, val_snoc, addS_length, val_take_succ, val_take_succ, Int.pow_succ]
  have e := Int.mul_ediv_add_emod (addC B a b k + at0 a k + at0 b k) B
  generalize (addC B a b k + at0 a k + at0 b k) / B = q at *
  generalize (addC B a b k + at0 a k + at0 b k) % B = r at *
  grind

theorem addC_end {B : Int} (hB : 1 < B) {a b : List Int} (ha : Dig B a) (hb : Dig B b) {k : Nat} (h1 : a.length ≤ k) (h2 : b.length ≤ k) : addC B a b (k + 1) = 0 := by
 rw [addC_succ, at0_ge h1, at0_ge h2]
 have := addC_le hB ha hb k
 exact Int.ediv_eq_zero_of_lt (by omega) (by omega)

theorem add_done {B : Int} (hB : 1 < B) {a b : List Int} (ha : Canon B a) (hb : Canon B b) {k : Nat} (h1 : a.length ≤ k) (h2 : b.length ≤ k) (h3 : addC B a b k = 0)
  (h4 : k = 0 ∨ k - 1 < a.length ∨ k - 1 < b.length ∨ 0 < addC B a b (k - 1)) : Canon B (addS B a b k) ∧ val B (addS B a b k) = val B a + val B b := by
 have e := add_val B a b k
 rw [List.take_of_length_le h1, List.take_of_length_le h2, h3] at e
 refine ⟨⟨addS_dig hB ha.1 hb.1 k, fun hp => ?_⟩, by simpa using e⟩
 rw [addS_length] at hp ⊢
 intro hz
 have hz1 : val B (addS B a b k) = val B ((addS B a b k).take (k - 1)) := by
  have := val_take_succ B (addS B a b k) (k - 1)
  rw [show k - 1 + 1 = k by omega, hz, List.take_of_length_le (by rw [addS_length]; omega)] at this
  simpa using this
 have hz2 := ((addS_dig hB ha.1 hb.1 k).take (by omega) (k - 1)).val_lt (by omega)
 rw [List.length_take, addS_length, Nat.min_eq_left (by omega)] at hz2
 have na := ha.1.val_nonneg (by omega)
 have nb := hb.1.val_nonneg (by omega)
 have hv : val B a + val B b < B ^ (k - 1) := by
  rw [Int.mul_zero, Int.add_zero] at e
  omega
 rcases h4 with h | h | h | h
 ·omega
 ·have := ha.ge hB (by omega)
  rw [show a.length = k by omega] at this
  omega
 ·have := hb.ge hB (by omega)
  rw [show b.length = k by omega] at this
  omega
 ·have e' := add_val B a b (k - 1)
  rcases Nat.lt_or_ge (k - 1) a.length with h5 | h5
  ·have := ha.ge hB (by omega)
   rw [show a.length = k by omega] at this
   omega
  ·rcases Nat.lt_or_ge (k - 1) b.length with h6 | h6
   ·have := hb.ge hB (by omega)
    rw [show b.length = k by omega] at this
    omega
   ·rw [List.take_of_length_le h5, List.take_of_length_le h6] at e'
    have h7 := (addS_dig hB ha.1 hb.1 (k - 1)).val_nonneg (by omega)
    have h8 : B ^ (k - 1) * 1 ≤ B ^ (k - 1) * addC B a b (k - 1) := Int.mul_le_mul_of_nonneg_left (by omega) (Int.le_of_lt (pow_pos' (by omega) _))
    omega

/-! Subtraction. -/
def subB (a b : List Int) : Nat → Int
 | 0 => 0
 | k + 1 => if at0 a k - subB a b k - at0 b k < 0 then 1 else 0
def subD (B : Int) (a b : List Int) (k : Nat) : Int := if at0 a k - subB a b k - at0 b k < 0 then at0 a k - subB a b k - at0 b k + B else at0 a k - subB a b k - at0 b k
def subS (B : Int) (a b : List Int) : Nat → List Int
 | 0 => List.replicate a.length 0
 | k + 1 => (subS B a b k).set k (subD B a b k)

theorem subB_le (a b : List Int) (k : Nat) : 0 ≤ subB a b k ∧ subB a b k ≤ 1 := by
 cases k with
 | zero => simp [subB]
 | succ k => unfold subB; split <;> omega
theorem subS_length (B : Int) (a b : List Int) : ∀ k, (subS B a b k).length = a.length
 | 0 => by simp [subS]
 | k + 1 => by rw [subS, List.length_set, subS_length B a b k]
theorem subD_le {B : Int} {a b : List Int} (ha : Dig B a) (hb : Dig B b) (k : Nat) : 0 ≤ subD B a b k ∧ subD B a b k < B := by
 have h1 := ha k
 have h2 := hb k
 have h3 := subB_le a b k
 unfold subD; split <;> omega
theorem subS_dig {B : Int} (hB : 0 < B) {a b : List Int} (ha : Dig B a) (hb : Dig B b) : ∀ k, Dig B (subS B a b k)
 | 0 => Dig.replicate hB _
 | k + 1 => (subS_dig hB ha hb k).set k (subD_le ha hb k)

theorem take_set_same (l : List Int) (k : Nat) (y : Int) : (l.set k y).take k = l.take k := by
 rw [List.take_set, List.set_eq_of_length_le (by rw [List.length_take]; omega)]

theorem sub_val (B : Int) (a b : List Int) : ∀ k, k ≤ a.length → val B ((subS B a b k).take k) = val B (a.take k) - val B (b.take k) + B ^ k * subB a b k
 | 0, _ => by simp [val, subB]
 | k + 1, hk => by
  have ih := sub_val B a b k (by omega)
  rw [val_take_succ B (subS B a b (k + 1)) k, subS, take_set_same, ih, at0_set_eq _ (by rw [subS_length]; omega), val_take_succ, val_take_succ, Int.pow_succ]
  have e : subD B a b k = at0 a k - subB a b k - at0 b k + B * subB a b (k + 1) := by
   unfold subD
   rw [subB]
   split <;> omega
  rw [e]
  generalize subB a b (k + 1) = q at *
  grind

theorem sub_done {B : Int} (hB : 1 < B) {a b : List Int} (ha : Canon B a) (hb : Canon B b) (h : val B b ≤ val B a) :
  Dig B (subS B a b a.length) ∧ val B (subS B a b a.length) = val B a - val B b := by
 have hl : b.length ≤ a.length := by
  rcases Nat.lt_or_ge a.length b.length with h1 | h1
  ·have := ha.lt_of_len hB hb h1; omega
  ·exact h1
 have hd := subS_dig (by omega) ha.1 hb.1 a.length
 refine ⟨hd, ?_⟩
 have e := sub_val B a b a.length (Nat.le_refl _)
 rw [List.take_length, List.take_of_length_le hl, List.take_of_length_le (by rw [subS_length]; omega)] at e
 have h1 := hd.val_lt (by omega)
 rw [subS_length] at h1
 have h2 := subB_le a b a.length
 have h3 : subB a b a.length = 0 := by
  rcases Int.lt_or_le 0 (subB a b a.length) with h4 | h4
  ·rw [show subB a b a.length = 1 by omega] at e
   omega
  ·omega
 rw [h3] at e
 simpa using e

/-! The digits of a number. -/
def digTo (B n : Int) : Nat → List Int
 | 0 => []
 | k + 1 => digTo B n k ++ [n / B ^ k % B]
theorem digTo_succ (B n : Int) (k : Nat) : digTo B n (k + 1) = digTo B n k ++ [n / B ^ k % B] := rfl
theorem digTo_length (B n : Int) : ∀ k, (digTo B n k).length = k
 | 0 => rfl
 | k + 1 => by rw [digTo_succ, List.length_append, digTo_length B n k]; rfl
theorem digTo_dig {B : Int} (hB : 0 < B) (n : Int) : ∀ k, Dig B (digTo B n k)
 | 0 => Dig.nil hB
 | k + 1 => (digTo_dig hB n k).snoc ⟨Int.emod_nonneg _ (by omega), Int.emod_lt_of_pos _ hB⟩
theorem div_pow_succ {B : Int} (hB : 0 < B) (n : Int) (k : Nat) : n / B ^ (k + 1) = n / B ^ k / B := by
 rw [Int.pow_succ, Int.ediv_ediv_of_nonneg (Int.le_of_lt (pow_pos' hB k))]
theorem digTo_val {B : Int} (hB : 0 < B) (n : Int) : ∀ k, val B (digTo B n k) + B ^ k * (n / B ^ k) = n
 | 0 => by simp [digTo, val]
 | k + 1 => by
  have ih := digTo_val hB n k
  rw [digTo_succ, val_snoc, digTo_length, div_pow_succ hB, Int.pow_succ]
  have e := Int.mul_ediv_add_emod (n / B ^ k) B
  generalize n / B ^ k / B = q at *
  generalize n / B ^ k % B = r at *
  grind
theorem digTo_done {B : Int} (hB : 1 < B) {n : Int} {k : Nat} (h0 : n / B ^ k = 0) (h1 : k = 0 ∨ 0 < n / B ^ (k - 1)) : Canon B (digTo B n k) ∧ val B (digTo B n k) = n := by
 have e := digTo_val (B := B) (by omega) n k
 rw [h0, Int.mul_zero, Int.add_zero] at e
 refine ⟨⟨digTo_dig (by omega) n k, fun hp => ?_⟩, e⟩
 rw [digTo_length] at hp ⊢
 rcases h1 with h1 | h1
 ·omega
 ·have ek : k = k - 1 + 1 := by omega
  rw [ek, digTo_succ, at0_append_ge (by rw [digTo_length]; omega), digTo_length]
  have e2 := div_pow_succ (B := B) (by omega) n (k - 1)
  rw [show k - 1 + 1 = k by omega, h0] at e2
  have h3 := Int.mul_ediv_add_emod (n / B ^ (k - 1)) B
  rw [← e2] at h3
  rw [show k - 1 + 1 - 1 - (k - 1) = 0 by omega, at0_cons_zero]
  omega

/-! Multiplication. -/
theorem val_set (B : Int) : ∀ (l : List Int) (k : Nat) (y : Int), k < l.length → val B (l.set k y) = val B l + B ^ k * (y - at0 l k)
 | [], _, _, h => absurd h (by simp)
 | d :: l, 0, y, _ => by simp [val, at0_cons_zero]; omega
 | d :: l, k + 1, y, h => by
  have ih := val_set B l k y (by simpa using h)
  simp only [List.set_cons_succ, val, at0_cons_succ, ih, Int.pow_succ]
  grind

def mulIn (B : Int) (a b S : List Int) (i : Nat) : Nat → List Int × Int
 | 0 => (S, 0)
 | j + 1 => ((mulIn B a b S i j).1.set (i + j) (((mulIn B a b S i j).2 + (at0 (mulIn B a b S i j).1 (i + j) + at0 a i * at0 b j)) % B),
   ((mulIn B a b S i j).2 + (at0 (mulIn B a b S i j).1 (i + j) + at0 a i * at0 b j)) / B)
def mulS (B : Int) (a b S : List Int) (i j : Nat) : List Int := (mulIn B a b S i j).1
def mulC (B : Int) (a b S : List Int) (i j : Nat) : Int := (mulIn B a b S i j).2
def mulTo (B : Int) (a b : List Int) : Nat → List Int
 | 0 => List.replicate (a.length + b.length) 0
 | i + 1 => (mulS B a b (mulTo B a b i) i b.length).set (i + b.length) (mulC B a b (mulTo B a b i) i b.length)

theorem mulS_zero (B : Int) (a b S : List Int) (i : Nat) : mulS B a b S i 0 = S := rfl
theorem mulC_zero (B : Int) (a b S : List Int) (i : Nat) : mulC B a b S i 0 = 0 := rfl
theorem mulS_succ (B : Int) (a b S : List Int) (i j : Nat) : mulS B a b S i (j + 1) = (mulS B a b S i j).set (i + j) ((mulC B a b S i j + (at0 (mulS B a b S i j) (i + j) + at0 a i * at0 b j)) % B) := rfl
theorem mulC_succ (B : Int) (a b S : List Int) (i j : Nat) : mulC B a b S i (j + 1) = (mulC B a b S i j + (at0 (mulS B a b S i j) (i + j) + at0 a i * at0 b j)) / B := rfl
theorem mulTo_succ (B : Int) (a b : List Int) (i : Nat) : mulTo B a b (i + 1) = (mulS B a b (mulTo B a b i) i b.length).set (i + b.length) (mulC B a b (mulTo B a b i) i b.length) := rfl
theorem mulS_length (B : Int) (a b S : List Int) (i : Nat) : ∀ j, (mulS B a b S i j).length = S.length
 | 0 => rfl
 | j + 1 => by rw [mulS_succ, List.length_set, mulS_length B a b S i j]
theorem mulTo_length (B : Int) (a b : List Int) : ∀ i, (mulTo B a b i).length = a.length + b.length
 | 0 => by simp [mulTo]
 | i + 1 => by rw [mulTo_succ, List.length_set, mulS_length, mulTo_length B a b i]

theorem dig_mul {B x y : Int} (hx : 0 ≤ x ∧ x < B) (hy : 0 ≤ y ∧ y < B) : 0 ≤ x * y ∧ x * y ≤ (B - 1) * (B - 1) :=
 ⟨Int.mul_nonneg hx.1 hy.1, Int.mul_le_mul (by omega) (by omega) hy.1 (by omega)⟩

theorem mul_step_le {B c s m : Int} (hB : 1 < B) (hc : 0 ≤ c ∧ c < B) (hs : 0 ≤ s ∧ s < B) (hm : 0 ≤ m ∧ m ≤ (B - 1) * (B - 1)) : 0 ≤ (c + (s + m)) / B ∧ (c + (s + m)) / B < B := by
 constructor
 ·exact Int.ediv_nonneg (by omega) (by omega)
 ·apply Int.ediv_lt_of_lt_mul (by omega)
  have : (B - 1) * (B - 1) = B * B - 2 * B + 1 := by grind
  omega

theorem mulIn_ok {B : Int} (hB : 1 < B) {a b S : List Int} (ha : Dig B a) (hb : Dig B b) (hS : Dig B S) (i : Nat) : ∀ j, Dig B (mulS B a b S i j) ∧ 0 ≤ mulC B a b S i j ∧ mulC B a b S i j < B
 | 0 => by rw [mulS_zero, mulC_zero]; exact ⟨hS, by omega, by omega⟩
 | j + 1 => by
  have ih := mulIn_ok hB ha hb hS i j
  have h1 := mul_step_le hB ih.2 (ih.1 (i + j)) (dig_mul (ha i) (hb j))
  rw [mulS_succ, mulC_succ]
  exact ⟨ih.1.set _ ⟨Int.emod_nonneg _ (by omega), Int.emod_lt_of_pos _ (by omega)⟩, h1⟩

theorem mulIn_high (B : Int) (a b S : List Int) (i : Nat) : ∀ j k, i + j ≤ k → at0 (mulS B a b S i j) k = at0 S k
 | 0, _, _ => rfl
 | j + 1, k, h => by rw [mulS_succ, at0_set_ne _ (by omega), mulIn_high B a b S i j k (by omega)]

theorem mulIn_val (B : Int) (a b S : List Int) (i : Nat) : ∀ j, i + j ≤ S.length → val B (mulS B a b S i j) + B ^ (i + j) * mulC B a b S i j = val B S + B ^ i * (at0 a i * val B (b.take j))
 | 0, _ => by simp [mulS_zero, mulC_zero, val]
 | j + 1, h => by
  have ih := mulIn_val B a b S i j (by omega)
  rw [mulS_succ, mulC_succ, val_set _ _ _ _ (by rw [mulS_length]; omega), val_take_succ, ← Nat.add_assoc, Int.pow_succ]
  have e := Int.mul_ediv_add_emod (mulC B a b S i j + (at0 (mulS B a b S i j) (i + j) + at0 a i * at0 b j)) B
  generalize (mulC B a b S i j + (at0 (mulS B a b S i j) (i + j) + at0 a i * at0 b j)) / B = q at *
  generalize (mulC B a b S i j + (at0 (mulS B a b S i j) (i + j) + at0 a i * at0 b j)) % B = r at *
  rw [Int.pow_add] at *
  grind

theorem mulTo_ok {B : Int} (hB : 1 < B) {a b : List Int} (ha : Dig B a) (hb : Dig B b) : ∀ i, Dig B (mulTo B a b i)
 | 0 => Dig.replicate (by omega) _
 | i + 1 => by
  have h := mulIn_ok hB ha hb (mulTo_ok hB ha hb i) i b.length
  rw [mulTo_succ]
  exact h.1.set _ h.2

theorem mulTo_high (B : Int) (a b : List Int) : ∀ i k, i + b.length ≤ k → at0 (mulTo B a b i) k = 0
 | 0, _, _ => at0_replicate _ _
 | i + 1, k, h => by rw [mulTo_succ, at0_set_ne _ (by omega), mulIn_high _ _ _ _ _ _ _ (by omega), mulTo_high B a b i k (by omega)]

theorem mulTo_val (B : Int) (a b : List Int) : ∀ i, i ≤ a.length → val B (mulTo B a b i) = val B (a.take i) * val B b
 | 0, _ => by simp [mulTo, val_replicate, val]
 | i + 1, h => by
  have ih := mulTo_val B a b i (by omega)
  have e := mulIn_val B a b (mulTo B a b i) i b.length (by rw [mulTo_length]; omega)
  rw [mulTo_succ, val_set _ _ _ _ (by rw [mulS_length, mulTo_length]; omega), mulIn_high _ _ _ _ _ _ _ (Nat.le_refl _), mulTo_high B a b i _ (Nat.le_refl _), val_take_succ]
  rw [List.take_length] at e
  rw [ih] at e
  grind

theorem mul_done (B : Int) (a b : List Int) : val B (mulTo B a b a.length) = val B a * val B b := by
 rw [mulTo_val B a b a.length (Nat.le_refl _), List.take_length]

end Go.Proofs.Ytjahbjjekednfaa

/-! Division of digits, and sizes. -/
namespace Go.Proofs.Ytjahbjjekednfaa

/-- Fewer than m decimal digits. -/
def Ft (m : Nat) (x : Int) : Prop := x.natAbs < 10 ^ m

theorem Ft.fit {m : Nat} {x : Int} (h : Ft m x) (hm : m ≤ 400000000) : Fit x := ⟨m, hm, h⟩
theorem Ft.mono {m n : Nat} {x : Int} (h : Ft m x) (hm : m ≤ n) : Ft n x := Nat.lt_of_lt_of_le h (Nat.pow_le_pow_right (by decide) hm)
theorem Ft.le {m : Nat} {x y : Int} (h : Ft m y) (hxy : x.natAbs ≤ y.natAbs) : Ft m x := Nat.lt_of_le_of_lt hxy h
theorem Ft.mul {m n : Nat} {x y : Int} (hx : Ft m x) (hy : Ft n y) : Ft (m + n) (x * y) := by
 unfold Ft at *
 rw [Int.natAbs_mul, Nat.pow_add]
 exact Nat.mul_lt_mul'' hx hy
theorem Ft.add {m : Nat} {x y : Int} (hx : Ft m x) (hy : Ft m y) : Ft (m + 1) (x + y) := by
 unfold Ft at *
 have := Int.natAbs_add_le x y
 rw [Nat.pow_succ]
 omega
theorem Ft.neg {m : Nat} {x : Int} (hx : Ft m x) : Ft m (-x) := by
 unfold Ft at *
 rwa [Int.natAbs_neg]
theorem Ft.zero (m : Nat) : Ft m 0 := by unfold Ft; exact Nat.pow_pos (by decide)
theorem Ft.fits {m : Nat} {x : Int} (h : Ft m x) (hm : m ≤ 400000000) : Fit x := ⟨m, hm, h⟩

/-- The estimate of a quotient's digit. -/
def estQ (R D : List Int) : Int :=
 if 1000000000 ≤ (at0 R D.length * 1000000000 + at0 R (D.length - 1)) / at0 D (D.length - 1) then 999999999
 else (at0 R D.length * 1000000000 + at0 R (D.length - 1)) / at0 D (D.length - 1)

theorem val_drop_succ (B : Int) (l : List Int) (n : Nat) : val B (l.drop n) = at0 l n + B * val B (l.drop (n + 1)) := by
 rcases Nat.lt_or_ge n l.length with h | h
 ·rw [List.drop_eq_getElem_cons h, at0_eq h]; rfl
 ·rw [List.drop_of_length_le h, List.drop_of_length_le (by omega), at0_ge h]; simp [val]

theorem est_ok {R D : List Int} (hR : Dig 1000000000 R) (hD : Canon 1000000000 D) (hl : 0 < D.length) (h : val 1000000000 R < val 1000000000 D * 1000000000) :
  0 ≤ estQ R D ∧ estQ R D < 1000000000 ∧ val 1000000000 R / val 1000000000 D ≤ estQ R D := by
 have hDp := hD.pos (by decide) hl
 have hRn := hR.val_nonneg (by decide)
 have htop : 1 ≤ at0 D (D.length - 1) := by
  have := (hD.1 (D.length - 1)).1
  have := hD.2 hl
  omega
 have hu := hR (D.length - 1 + 1)
 have hlo := hR (D.length - 1)
 have hq0 : 0 ≤ (at0 R (D.length - 1 + 1) * 1000000000 + at0 R (D.length - 1)) / at0 D (D.length - 1) := Int.ediv_nonneg (by omega) (by omega)
 have hQ : val 1000000000 R / val 1000000000 D < 1000000000 := Int.ediv_lt_of_lt_mul hDp (by rw [Int.mul_comm]; exact h)
 have key : val 1000000000 R / val 1000000000 D ≤ (at0 R (D.length - 1 + 1) * 1000000000 + at0 R (D.length - 1)) / at0 D (D.length - 1) := by
  rw [Int.le_ediv_iff_mul_le (by omega)]
  -- q * D ≤ R, D ≥ top * B^last, R < (u*B + lo + 1) * B^last
  have h1 : val 1000000000 R / val 1000000000 D * val 1000000000 D ≤ val 1000000000 R := Int.ediv_mul_le _ (by omega)
  have hDge : 1000000000 ^ (D.length - 1) * at0 D (D.length - 1) ≤ val 1000000000 D := by
   have e := val_take_succ 1000000000 D (D.length - 1)
   rw [show D.length - 1 + 1 = D.length by omega, List.take_length] at e
   have := (hD.1.take (by decide) (D.length - 1)).val_nonneg (B := 1000000000) (by decide)
   omega
  have hDlt := hD.1.val_lt (by decide)
  have hRlen : val 1000000000 (R.drop (D.length + 1)) = 0 := by
   have hd := (hR.drop (D.length + 1)).val_nonneg (by decide)
   rcases Int.lt_or_le 0 (val 1000000000 (R.drop (D.length + 1))) with h2 | h2
   ·exfalso
    have h5 : D.length + 1 ≤ R.length := by
     rcases Nat.lt_or_ge R.length (D.length + 1) with h6 | h6
     ·rw [List.drop_of_length_le (by omega)] at h2; simp [val] at h2
     ·exact h6
    have e := val_take_drop 1000000000 R (D.length + 1) h5
    have h3 := (hR.take (by decide) (D.length + 1)).val_nonneg (B := 1000000000) (by decide)
    have h4 : (1000000000 : Int) ^ (D.length + 1) * 1 ≤ 1000000000 ^ (D.length + 1) * val 1000000000 (R.drop (D.length + 1)) := Int.mul_le_mul_of_nonneg_left (by omega) (Int.le_of_lt (pow_pos' (by decide) _))
    rw [Int.pow_succ] at h4 e
    omega
   ·omega
  have hRlt : val 1000000000 R < (at0 R (D.length - 1 + 1) * 1000000000 + at0 R (D.length - 1) + 1) * 1000000000 ^ (D.length - 1) := by
   have e1 := val_drop_succ 1000000000 R (D.length - 1)
   have e2 := val_drop_succ 1000000000 R (D.length - 1 + 1)
   rw [show D.length - 1 + 1 + 1 = D.length + 1 by omega, hRlen] at e2
   rw [e2] at e1
   rcases Nat.lt_or_ge R.length (D.length - 1) with h5 | h5
   ·have h6 := hR.val_lt (by decide)
    have h7 := pow_mono (B := 1000000000) (by decide) (m := R.length) (n := D.length - 1) (by omega)
    have h8 : (1 : Int) * 1000000000 ^ (D.length - 1) ≤ (at0 R (D.length - 1 + 1) * 1000000000 + at0 R (D.length - 1) + 1) * 1000000000 ^ (D.length - 1) := Int.mul_le_mul_of_nonneg_right (by omega) (Int.le_of_lt (pow_pos' (by decide) _))
    omega
   ·have e := val_take_drop 1000000000 R (D.length - 1) h5
    have h3 := (hR.take (by decide) (D.length - 1)).val_lt (B := 1000000000) (by decide)
    rw [List.length_take, Nat.min_eq_left h5] at h3
    rw [e1] at e
    generalize (1000000000 : Int) ^ (D.length - 1) = pw at *
    grind
  have hq : 0 ≤ val 1000000000 R / val 1000000000 D := Int.ediv_nonneg hRn (by omega)
  have h6 : val 1000000000 R / val 1000000000 D * (1000000000 ^ (D.length - 1) * at0 D (D.length - 1)) ≤ val 1000000000 R / val 1000000000 D * val 1000000000 D := Int.mul_le_mul_of_nonneg_left hDge hq
  have h7 : (val 1000000000 R / val 1000000000 D * at0 D (D.length - 1)) * 1000000000 ^ (D.length - 1) < (at0 R (D.length - 1 + 1) * 1000000000 + at0 R (D.length - 1) + 1) * 1000000000 ^ (D.length - 1) := by
   have : (val 1000000000 R / val 1000000000 D * at0 D (D.length - 1)) * 1000000000 ^ (D.length - 1) = val 1000000000 R / val 1000000000 D * (1000000000 ^ (D.length - 1) * at0 D (D.length - 1)) := by
    rw [Int.mul_assoc, Int.mul_comm (at0 D (D.length - 1))]
   omega
  have h8 := Int.lt_of_mul_lt_mul_right h7 (Int.le_of_lt (pow_pos' (by decide) _))
  omega
 have e0 : at0 R D.length = at0 R (D.length - 1 + 1) := by rw [show D.length - 1 + 1 = D.length by omega]
 unfold estQ
 rw [e0]
 split <;> omega

/-- One digit of a quotient. -/
theorem div_step {B Y R d : Int} (hY : 0 < Y) : (d + B * R) / Y = B * (R / Y) + (d + B * (R % Y)) / Y ∧ (d + B * R) % Y = (d + B * (R % Y)) % Y := by
 have e := Int.mul_ediv_add_emod R Y
 have h : d + B * R = (d + B * (R % Y)) + (B * (R / Y)) * Y := by
  generalize R / Y = q at *
  generalize R % Y = r at *
  grind
 rw [h]
 constructor
 ·rw [Int.add_mul_ediv_right _ _ (by omega)]; omega
 ·rw [Int.add_mul_emod_self_right]

/-- The digit that was found by going down from an estimate. -/
theorem quot_of_le {Y R q : Int} (hY : 0 < Y) (h1 : R / Y ≤ q) (h2 : q * Y ≤ R) : q = R / Y := by
 have := (Int.le_ediv_iff_mul_le hY).2 h2
 omega
theorem quot_down {Y R q : Int} (hY : 0 < Y) (h2 : R < q * Y) : R / Y ≤ q - 1 := by
 have : R / Y < q := Int.ediv_lt_of_lt_mul hY h2
 omega

theorem rest_eq {Y R : Int} : R - R / Y * Y = R % Y := by
 have := Int.mul_ediv_add_emod R Y
 rw [Int.mul_comm] at this
 omega

/-- The quotient's row: at k the digits from k on are there. -/
def quoRow (Y : Int) (X : List Int) (n : Nat) : Nat → List Int
 | 0 => List.replicate n 0
 | j + 1 => (quoRow Y X n j).set (n - 1 - j) ((at0 X (n - 1 - j) + 1000000000 * (val 1000000000 (X.drop (n - j)) % Y)) / Y)

theorem quoRow_succ (Y : Int) (X : List Int) (n j : Nat) : quoRow Y X n (j + 1) = (quoRow Y X n j).set (n - 1 - j) ((at0 X (n - 1 - j) + 1000000000 * (val 1000000000 (X.drop (n - j)) % Y)) / Y) := rfl
theorem quoRow_length (Y : Int) (X : List Int) (n : Nat) : ∀ j, (quoRow Y X n j).length = n
 | 0 => by simp [quoRow]
 | j + 1 => by rw [quoRow, List.length_set, quoRow_length Y X n j]

theorem quoRow_low (Y : Int) (X : List Int) (n : Nat) : ∀ j i, i < n - j → at0 (quoRow Y X n j) i = 0
 | 0, _, _ => at0_replicate _ _
 | j + 1, i, h => by rw [quoRow, at0_set_ne _ (by omega), quoRow_low Y X n j i (by omega)]

theorem quoRow_dig {Y : Int} {X : List Int} (hY : 0 < Y) (hX : Dig 1000000000 X) (n : Nat) : ∀ j, Dig 1000000000 (quoRow Y X n j)
 | 0 => Dig.replicate (by decide) _
 | j + 1 => by
  have h0 := hX (n - 1 - j)
  have h1 := Int.emod_nonneg (val 1000000000 (X.drop (n - j))) (b := Y) (by omega)
  have h2 := Int.emod_lt_of_pos (val 1000000000 (X.drop (n - j))) hY
  refine (quoRow_dig hY hX n j).set _ ⟨Int.ediv_nonneg (by omega) (by omega), ?_⟩
  apply Int.ediv_lt_of_lt_mul hY
  omega

theorem drop_set_same (l : List Int) (k : Nat) (y : Int) (_h : k < l.length) : (l.set k y).drop (k + 1) = l.drop (k + 1) := by
 rw [List.drop_set_of_lt (by omega)]

theorem quoRow_val {Y : Int} {X : List Int} (hY : 0 < Y) (n : Nat) (h0 : val 1000000000 (X.drop n) / Y = 0) : ∀ j, j ≤ n → val 1000000000 ((quoRow Y X n j).drop (n - j)) = val 1000000000 (X.drop (n - j)) / Y
 | 0, _ => by rw [quoRow, Nat.sub_zero, List.drop_of_length_le (by simp), h0]; rfl
 | j + 1, h => by
  have ih := quoRow_val hY n h0 j (by omega)
  have e : n - (j + 1) = n - 1 - j := by omega
  have e2 : n - j = n - 1 - j + 1 := by omega
  rw [e, val_drop_succ 1000000000 (quoRow Y X n (j + 1)), quoRow, at0_set_eq _ (by rw [quoRow_length]; omega), drop_set_same _ _ _ (by rw [quoRow_length]; omega), val_drop_succ 1000000000 X (n - 1 - j)]
  rw [e2] at ih
  rw [ih, e2]
  have := (div_step (B := 1000000000) (R := val 1000000000 (X.drop (n - 1 - j + 1))) (d := at0 X (n - 1 - j)) hY).1
  rw [this]
  omega

theorem quoRow_done {Y : Int} {X : List Int} (hY : 0 < Y) (n : Nat) (h0 : val 1000000000 (X.drop n) / Y = 0) : val 1000000000 (quoRow Y X n n) = val 1000000000 X / Y := by
 have := quoRow_val hY n h0 n (Nat.le_refl _)
 simpa using this

/-- The limbs above 'start' are worth less than the divisor. -/
theorem top_small {X D : List Int} (hX : Dig 1000000000 X) (hD : Canon 1000000000 D) (hl : 0 < D.length) {n : Nat} (hn : X.length + 1 ≤ n + D.length) : val 1000000000 (X.drop n) < val 1000000000 D := by
 have h1 := (hX.drop n).val_lt (by decide)
 rw [List.length_drop] at h1
 have h2 := hD.ge (by decide) hl
 have h3 := pow_mono (B := 1000000000) (by decide) (m := X.length - n) (n := D.length - 1) (by omega)
 omega

theorem Canon.drop {B : Int} {l : List Int} (h : Canon B l) (n : Nat) : Canon B (l.drop n) := by
 refine ⟨h.1.drop n, fun hp => ?_⟩
 rw [List.length_drop] at hp ⊢
 rw [at0_drop, show n + (l.length - n - 1) = l.length - 1 by omega]
 exact h.2 (by omega)

theorem scale_div {x y s : Int} (hs : 0 < s) : x * s / (y * s) = x / y := Int.mul_ediv_mul_of_pos_left x y hs

end Go.Proofs.Ytjahbjjekednfaa

/-! Squares in numbers. -/
namespace Go.Proofs.Ytjahbjjekednfaa

def SqFree (s : Nat) : Prop := ∀ k, 2 ≤ k → ¬ (k * k ∣ s)
structure IsRoot (n o s : Nat) : Prop where
 op : 0 < o
 sp : 0 < s
 eq : o * o * s = n
 free : SqFree s

theorem one_of_sq {a s : Nat} (ha : 0 < a) (hs : SqFree s) (h : a * a ∣ s) : a = 1 := by
 rcases Nat.lt_or_ge a 2 with h1 | h1
 ·omega
 ·exact absurd h (hs a h1)

theorem IsRoot.unique {n o s o' s' : Nat} (h : IsRoot n o s) (h' : IsRoot n o' s') : o = o' ∧ s = s' := by
 have hg : 0 < Nat.gcd o o' := Nat.gcd_pos_of_pos_left _ h.op
 obtain ⟨a, ha⟩ := Nat.gcd_dvd_left o o'
 obtain ⟨b, hb⟩ := Nat.gcd_dvd_right o o'
 generalize hgd : Nat.gcd o o' = g at *
 have hap : 0 < a := by
  rcases Nat.eq_zero_or_pos a with e | e
  ·rw [e] at ha; have := h.op; omega
  ·exact e
 have hbp : 0 < b := by
  rcases Nat.eq_zero_or_pos b with e | e
  ·rw [e] at hb; have := h'.op; omega
  ·exact e
 have hco : Nat.Coprime a b := by
  have h1 : g * Nat.gcd a b = g := by
   rw [← Nat.gcd_mul_left, ← ha, ← hb, hgd]
  have h2 : g * Nat.gcd a b = g * 1 := by omega
  exact Nat.eq_of_mul_eq_mul_left hg h2
 have e : a * a * s = b * b * s' := by
  have e1 := h.eq.trans h'.eq.symm
  rw [ha, hb] at e1
  have e2 : (g * g) * (a * a * s) = (g * g) * (b * b * s') := by
   have x1 : g * a * (g * a) * s = (g * g) * (a * a * s) := by grind
   have x2 : g * b * (g * b) * s' = (g * g) * (b * b * s') := by grind
   omega
  exact Nat.eq_of_mul_eq_mul_left (Nat.mul_pos hg hg) e2
 have hco2 : Nat.Coprime (a * a) (b * b) := Nat.Coprime.mul_right (Nat.Coprime.mul_left hco hco) (Nat.Coprime.mul_left hco hco)
 have d1 : a * a ∣ s' := hco2.dvd_of_dvd_mul_left ⟨s, by omega⟩
 have d2 : b * b ∣ s := hco2.symm.dvd_of_dvd_mul_left ⟨s', by omega⟩
 have a1 := one_of_sq hap h'.free d1
 have b1 := one_of_sq hbp h.free d2
 subst a1
 subst b1
 constructor
 ·omega
 ·omega

/-- The greatest f up to k whose square divides n. -/
def sqf (n : Nat) : Nat → Nat
 | 0 => 1
 | k + 1 => if n % ((k + 1) * (k + 1)) = 0 then k + 1 else sqf n k

theorem sqf_pos (n : Nat) : ∀ k, 0 < sqf n k
 | 0 => by simp [sqf]
 | k + 1 => by
  unfold sqf
  split
  ·omega
  ·exact sqf_pos n k
theorem sqf_dvd (n : Nat) : ∀ k, sqf n k * sqf n k ∣ n
 | 0 => ⟨n, by simp [sqf]⟩
 | k + 1 => by
  unfold sqf
  split
  ·exact Nat.dvd_of_mod_eq_zero (by assumption)
  ·exact sqf_dvd n k
theorem sqf_max (n : Nat) : ∀ k j, j ≤ k → j * j ∣ n → j ≤ sqf n k
 | 0, j, h, _ => by simp [sqf]; omega
 | k + 1, j, h, hd => by
  unfold sqf
  split
  ·exact h
  ·rename_i hm
   rcases Nat.lt_or_ge j (k + 1) with h1 | h1
   ·exact sqf_max n k j (by omega) hd
   ·have : j = k + 1 := by omega
    subst this
    exact absurd (Nat.mod_eq_zero_of_dvd hd) hm

theorem sqf_root {n : Nat} (h0 : 0 < n) (hn : n < 1000000) : IsRoot n (sqf n 1000) (n / (sqf n 1000 * sqf n 1000)) := by
 have hp := sqf_pos n 1000
 obtain ⟨s, hs⟩ := sqf_dvd n 1000
 have hm := sqf_max n 1000
 generalize sqf n 1000 = f at *
 have hff : 0 < f * f := Nat.mul_pos hp hp
 have hsp : 0 < s := by
  rcases Nat.eq_zero_or_pos s with e | e
  ·rw [e] at hs; omega
  ·exact e
 have hq : n / (f * f) = s := by rw [hs]; exact Nat.mul_div_cancel_left _ hff
 rw [hq]
 refine ⟨hp, hsp, hs.symm, ?_⟩
 intro k hk hd
 obtain ⟨t, ht⟩ := hd
 have htp : 0 < t := by
  rcases Nat.eq_zero_or_pos t with e | e
  ·rw [e] at ht; omega
  ·exact e
 have hkf : (f * k) * (f * k) ∣ n := ⟨t, by rw [hs, ht]; grind⟩
 have hle : (f * k) * (f * k) ≤ n := Nat.le_of_dvd h0 hkf
 have h1000 : f * k ≤ 1000 := by
  rcases Nat.lt_or_ge 1000 (f * k) with h | h
  ·have := Nat.mul_le_mul (show 1001 ≤ f * k from h) (show 1001 ≤ f * k from h)
   omega
  ·exact h
 have h2 := hm (f * k) h1000 hkf
 have h3 : f * 2 ≤ f * k := Nat.mul_le_mul_left f hk
 omega

end Go.Proofs.Ytjahbjjekednfaa
