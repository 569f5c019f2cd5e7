import Derived.Test.YtjahbjjekednfaaX1
import Derived.Test.YtjahbjjekednfaaP1
import Derived.Test.YtjahbjjekednfaaMath6
namespace Go.Proofs.Ytjahbjjekednfaa

/-- What an expression gives: a value, the error of the first operation that cannot be done, its place. -/
structure Rs where
 v : Qn
 e : Int
 k : Int

def comb (c : Int) (a b : Qn) : Qn × Int := if c = 43 then qadd a b else if c = 45 then qsub a b else if c = 42 then qmul a b else qdiv a b
def opR (c : Int) (p : Nat) (a b : Rs) : Rs :=
 if a.e ≠ 0 then a else if b.e ≠ 0 then ⟨a.v, b.e, b.k⟩ else ⟨(comb c a.v b.v).1, (comb c a.v b.v).2, if (comb c a.v b.v).2 = 0 then 0 else p⟩
def negs (m : Nat) (a : Rs) : Rs := if m % 2 = 1 then ⟨qneg a.v, a.e, a.k⟩ else a
def decN (s : List Int) : Int := s.foldl (fun n c => n * 10 + (c - 48)) 0
def Digs (s : List Int) : Prop := ∀ c ∈ s, isDig c = true
def Atom (s : List Int) (r : Rs) : Prop :=
 (s ≠ [] ∧ s.length ≤ 18 ∧ Digs s ∧ r = ⟨⟨decN s, 0, 1, 1⟩, 0, 0⟩) ∨
 (∃ t, s = 114 :: t ∧ t ≠ [] ∧ t.length ≤ 6 ∧ Digs t ∧ r = ⟨qsqrt (decN t).toNat, 0, 0⟩)

/-- So many operations more, behind what has been reckoned. -/
def ChT (F : List Int → Nat → Rs → Prop) (ops : Int → Prop) : Nat → Rs → Nat → List Int → Rs → Prop
 | 0, acc, _, s, r => s = [] ∧ r = acc
 | m + 1, acc, p, s, r => ∃ c t s' rt, ops c ∧ s = c :: (t ++ s') ∧ F t (p + 1) rt ∧ ChT F ops m (opR c p acc rt) (p + 1 + t.length) s' r
def Ch (F : List Int → Nat → Rs → Prop) (ops : Int → Prop) (s : List Int) (p : Nat) (r : Rs) : Prop :=
 ∃ m f s' rf, s = f ++ s' ∧ F f p rf ∧ ChT F ops m rf (p + f.length) s' r
def mulOp (c : Int) : Prop := c = 42 ∨ c = 47
def addOp (c : Int) : Prop := c = 43 ∨ c = 45
/-- A factor; brackets stand n deep in it at most. -/
def Fc : Nat → List Int → Nat → Rs → Prop
 | 0 => fun s _ r => ∃ m core r0, s = List.replicate m 45 ++ core ∧ Atom core r0 ∧ r = negs m r0
 | n + 1 => fun s p r => ∃ m core r0, s = List.replicate m 45 ++ core ∧
   (Atom core r0 ∨ ∃ t, core = 40 :: (t ++ [41]) ∧ Ch (Ch (Fc n) mulOp) addOp t (p + m + 1) r0) ∧ r = negs m r0
def Pd (n : Nat) : List Int → Nat → Rs → Prop := Ch (Fc n) mulOp
def Sm (n : Nat) : List Int → Nat → Rs → Prop := Ch (Pd n) addOp

theorem negs_succ (m : Nat) (a : Rs) : negs (m + 1) a = ⟨qneg (negs m a).v, a.e, a.k⟩ := by
 have hq : ∀ x : Qn, qneg (qneg x) = x := by intro x; simp [qneg]
 unfold negs
 by_cases h : m % 2 = 1
 ·rw [if_neg (by omega), if_pos h]; simp only [hq]
 ·rw [if_pos (by omega), if_neg h]

theorem Fc.atom {n : Nat} {s : List Int} {p : Nat} {r : Rs} (h : Atom s r) : Fc n s p r := by
 cases n with
 | zero => exact ⟨0, s, r, rfl, h, rfl⟩
 | succ n => exact ⟨0, s, r, rfl, Or.inl h, rfl⟩
theorem Fc.minus {n : Nat} {s : List Int} {p : Nat} {r : Rs} (h : Fc n s (p + 1) r) : ∃ r', Fc n (45 :: s) p r' := by
 cases n with
 | zero =>
  obtain ⟨m, core, r0, h1, h2, h3⟩ := h
  exact ⟨_, m + 1, core, r0, by rw [h1]; rfl, h2, rfl⟩
 | succ n =>
  obtain ⟨m, core, r0, h1, h2, h3⟩ := h
  refine ⟨_, m + 1, core, r0, by rw [h1]; rfl, ?_, rfl⟩
  rw [show p + (m + 1) + 1 = p + 1 + m + 1 by omega]
  exact h2

/-- The grammar's run through bytes. -/
def pRun : Pl → List Int → Option Pl
 | a, [] => some a
 | a, c :: l => if (plStep a c).2 = true then pRun (plStep a c).1 l else none

/-- Whatever comes next is none of these. -/
def Hd (P : Int → Prop) (l : List Int) : Prop := ∀ c l', l = c :: l' → ¬ P c
def isD (c : Int) : Prop := isDig c = true

theorem digs_run {d : Int} {z : Pl} : ∀ (l : List Int) (room : Int), pRun ⟨2, room, d⟩ l = some z → 0 ≤ room →
  ∃ ds rest, l = ds ++ rest ∧ Digs ds ∧ (ds.length : Int) ≤ room ∧ pRun ⟨2, room - ds.length, d⟩ rest = some z ∧ Hd isD rest
 | [], room, h, h0 => ⟨[], [], rfl, by simp [Digs], by simpa using h0, by simpa using h, by simp [Hd]⟩
 | c :: l, room, h, h0 => by
  by_cases hd : isDig c = true
  ·unfold pRun at h
   split at h
   ·rename_i hg
    have hs : plStep ⟨2, room, d⟩ c = (⟨2, room - 1, d⟩, decide (0 < room)) := by unfold plStep; rw [if_pos hd]
    rw [hs] at h hg
    simp only [decide_eq_true_eq] at hg
    obtain ⟨ds, rest, h1, h2, h3, h4, h5⟩ := digs_run l (room - 1) h (by omega)
    refine ⟨c :: ds, rest, by rw [h1]; rfl, ?_, by simp only [List.length_cons]; omega, ?_, h5⟩
    ·intro x hx
     rcases List.mem_cons.mp hx with rfl | hx
     ·exact hd
     ·exact h2 x hx
    ·rw [← h4]
     congr 2
     simp only [List.length_cons]; omega
   ·cases h
  ·exact ⟨[], c :: l, rfl, by simp [Digs], by simpa using h0, by simpa using h, fun x l' e => by cases e; exact hd⟩

/-- From here the run leads to the end, with all brackets closed. -/
def Ends (a : Pl) (l : List Int) : Prop := ∃ z, pRun a l = some z ∧ z.k = 2 ∧ z.d ≤ 0

theorem Ends.step {a : Pl} {c : Int} {l : List Int} (h : Ends a (c :: l)) : (plStep a c).2 = true ∧ Ends (plStep a c).1 l := by
 obtain ⟨z, h1, h2, h3⟩ := h
 unfold pRun at h1
 split at h1
 ·rename_i hg
  exact ⟨hg, z, h1, h2, h3⟩
 ·cases h1

theorem Ends.digs {d room : Int} {l : List Int} (h : Ends ⟨2, room, d⟩ l) (h0 : 0 ≤ room) :
  ∃ ds rest r', l = ds ++ rest ∧ Digs ds ∧ (ds.length : Int) ≤ room ∧ 0 ≤ r' ∧ Ends ⟨2, r', d⟩ rest ∧ Hd isD rest := by
 obtain ⟨z, h1, h2, h3⟩ := h
 obtain ⟨ds, rest, g1, g2, g3, g4, g5⟩ := digs_run l room h1 h0
 exact ⟨ds, rest, _, g1, g2, g3, by omega, ⟨z, g4, h2, h3⟩, g5⟩

/-- What a reading of a piece leaves. -/
def Reads (F : List Int → Nat → Rs → Prop) (P : Int → Prop) (d : Int) (p : Nat) (l : List Int) : Prop :=
 ∃ f rest r room, l = f ++ rest ∧ F f p r ∧ f ≠ [] ∧ 0 ≤ room ∧ Ends ⟨2, room, d⟩ rest ∧ Hd P rest

theorem digs_cons {c : Int} {ds : List Int} (h : isDig c = true) (hs : Digs ds) : Digs (c :: ds) := by
 intro x hx
 rcases List.mem_cons.mp hx with rfl | hx
 ·exact h
 ·exact hs x hx

/-- A chain, where its parts can be read. -/
theorem chain_reads {F : List Int → Nat → Rs → Prop} {P ops : Int → Prop} {d : Int} (hops : ∀ c, ops c → c = 43 ∨ c = 45 ∨ c = 42 ∨ c = 47) (hP : ∀ c, isDig c = true → P c) (hdec : ∀ c, ops c ∨ ¬ ops c)
  : ∀ (N : Nat), (∀ l p, l.length < N → Ends ⟨0, 18, d⟩ l → Reads F P d p l) → ∀ (l : List Int) (p : Nat) (acc : Rs) (room : Int), l.length ≤ N → 0 ≤ room → Ends ⟨2, room, d⟩ l → Hd P l →
   ∃ m s' rest r room', l = s' ++ rest ∧ ChT F ops m acc p s' r ∧ 0 ≤ room' ∧ Ends ⟨2, room', d⟩ rest ∧ Hd (fun c => P c ∨ ops c) rest := by
 intro N
 induction N with
 | zero =>
  intro _ l p acc room hl h0 h hh
  have : l = [] := List.eq_nil_of_length_eq_zero (by omega)
  subst this
  exact ⟨0, [], [], acc, room, rfl, ⟨rfl, rfl⟩, h0, h, by simp [Hd]⟩
 | succ N ih =>
  intro hF l p acc room hl h0 h hh
  cases l with
  | nil => exact ⟨0, [], [], acc, room, rfl, ⟨rfl, rfl⟩, h0, h, by simp [Hd]⟩
  | cons c l =>
   rcases hdec c with hc | hc
   ·have hnd : ¬ isDig c = true := fun hd => hh c l rfl (hP c hd)
    have hs : plStep ⟨2, room, d⟩ c = (⟨0, 18, d⟩, true) := by
     unfold plStep goOnP
     rw [if_neg hnd, if_neg (by simp), if_pos rfl, if_pos (hops c hc)]
    have h1 := h.step.2
    rw [hs] at h1
    simp only [List.length_cons] at hl
    obtain ⟨f, rest, r, rm, e1, e2, e3, e4, e5, e6⟩ := hF l (p + 1) (by omega) h1
    have hlen : 0 < f.length := List.length_pos_iff.mpr e3
    have hll : l.length = f.length + rest.length := by rw [e1, List.length_append]
    obtain ⟨m, s', rest', r', rm', g1, g2, g3, g4, g5⟩ := ih (fun l p hl h => hF l p (by omega) h) rest (p + 1 + f.length) (opR c p acc r) rm (by omega) e4 e5 e6
    refine ⟨m + 1, c :: (f ++ s'), rest', r', rm', by rw [e1, g1]; simp, ⟨c, f, s', r, hc, rfl, e2, g2⟩, g3, g4, g5⟩
   ·refine ⟨0, [], c :: l, acc, room, rfl, ⟨rfl, rfl⟩, h0, h, ?_⟩
    intro x l' e
    cases e
    rintro (h5 | h5)
    ·exact hh c l rfl h5
    ·exact hc h5

theorem chain_all {F : List Int → Nat → Rs → Prop} {P ops : Int → Prop} {d : Int} (hops : ∀ c, ops c → c = 43 ∨ c = 45 ∨ c = 42 ∨ c = 47) (hP : ∀ c, isDig c = true → P c) (hdec : ∀ c, ops c ∨ ¬ ops c)
  {N : Nat} (hF : ∀ l p, l.length < N → Ends ⟨0, 18, d⟩ l → Reads F P d p l) : ∀ l p, l.length < N → Ends ⟨0, 18, d⟩ l → Reads (Ch F ops) (fun c => P c ∨ ops c) d p l := by
 intro l p hl h
 obtain ⟨f, rest, r, rm, e1, e2, e3, e4, e5, e6⟩ := hF l p hl h
 have hll : l.length = f.length + rest.length := by rw [e1, List.length_append]
 obtain ⟨m, s', rest', r', rm', g1, g2, g3, g4, g5⟩ := chain_reads hops hP hdec N hF rest (p + f.length) r rm (by omega) e4 e5 e6
 refine ⟨f ++ s', rest', r', rm', by rw [e1, g1]; simp, ⟨m, f, s', r, rfl, e2, g2⟩, ?_, g3, g4, g5⟩
 intro h0
 exact e3 (List.append_eq_nil_iff.mp h0).1

theorem sum_reads {n : Nat} {d : Int} {N : Nat} (hF : ∀ l p, l.length < N → Ends ⟨0, 18, d⟩ l → Reads (Fc n) isD d p l) :
  ∀ l p, l.length < N → Ends ⟨0, 18, d⟩ l → Reads (Sm n) (fun c => (isD c ∨ mulOp c) ∨ addOp c) d p l := by
 refine chain_all ?_ ?_ ?_ (chain_all ?_ ?_ ?_ hF)
 ·intro c h; unfold addOp at h; omega
 ·intro c h; exact Or.inl h
 ·intro c; unfold addOp; omega
 ·intro c h; unfold mulOp at h; omega
 ·intro c h; exact h
 ·intro c; unfold mulOp; omega

theorem fac_reads : ∀ (N : Nat) (l : List Int) (p n : Nat) (d : Int), l.length < N → 0 ≤ d → (n : Int) + d = 8 → Ends ⟨0, 18, d⟩ l → Reads (Fc n) isD d p l := by
 intro N
 induction N with
 | zero => intro l p n d hl; omega
 | succ N ih =>
  intro l p n d hl hd0 hn h
  cases l with
  | nil =>
   obtain ⟨z, h1, h2, _⟩ := h
   simp only [pRun, Option.some.injEq] at h1
   subst h1
   simp at h2
  | cons c l =>
   simp only [List.length_cons] at hl
   obtain ⟨hg, h1⟩ := h.step
   by_cases hd : isDig c = true
   ·have hs : plStep ⟨0, 18, d⟩ c = (⟨2, 17, d⟩, true) := by unfold plStep; rw [if_pos hd]; rfl
    rw [hs] at h1
    obtain ⟨ds, rest, r', g1, g2, g3, g4, g5, g6⟩ := h1.digs (by decide)
    refine ⟨c :: ds, rest, _, r', by rw [g1]; rfl, Fc.atom (Or.inl ⟨by simp, by simp only [List.length_cons]; omega, digs_cons hd g2, rfl⟩), by simp, g4, g5, g6⟩
   ·have hs : plStep ⟨0, 18, d⟩ c = beginF ⟨0, 18, d⟩ c := by unfold plStep; rw [if_neg hd, if_pos rfl]
    rw [hs] at h1 hg
    unfold beginF at h1 hg
    by_cases c1 : c = 114
    ·rw [if_pos c1] at h1
     cases l with
     | nil =>
      obtain ⟨z, h1, h2, _⟩ := h1
      simp only [pRun, Option.some.injEq] at h1
      subst h1
      simp at h2
     | cons c' l =>
      obtain ⟨hg2, h2⟩ := h1.step
      by_cases hd2 : isDig c' = true
      ·have hs2 : plStep ⟨1, 6, d⟩ c' = (⟨2, 5, d⟩, true) := by unfold plStep; rw [if_pos hd2]; rfl
       simp only [hs2] at h2
       obtain ⟨ds, rest, r', g1, g2, g3, g4, g5, g6⟩ := h2.digs (by decide)
       refine ⟨c :: c' :: ds, rest, _, r', by rw [g1]; rfl, Fc.atom (Or.inr ⟨c' :: ds, by rw [c1], by simp, by simp only [List.length_cons]; omega, digs_cons hd2 g2, rfl⟩), by simp, g4, g5, g6⟩
      ·have hs2 : plStep ⟨1, 6, d⟩ c' = (⟨1, 6, d⟩, false) := by unfold plStep; rw [if_neg hd2, if_neg (by simp), if_neg (by simp)]
       simp only [hs2] at hg2
       exact absurd hg2 (by simp)
    ·rw [if_neg c1] at h1 hg
     by_cases c2 : c = 45
     ·rw [if_pos c2] at h1
      obtain ⟨f, rest, r, rm, e1, e2, e3, e4, e5, e6⟩ := ih l (p + 1) n d (by omega) hd0 hn h1
      obtain ⟨r', hr'⟩ := Fc.minus e2
      exact ⟨c :: f, rest, r', rm, by rw [e1]; rfl, by rw [c2]; exact hr', by simp, e4, e5, e6⟩
     ·rw [if_neg c2] at h1 hg
      by_cases c3 : c = 40
      ·rw [if_pos c3] at h1 hg
       simp only [decide_eq_true_eq] at hg
       obtain ⟨n', rfl⟩ : ∃ n', n = n' + 1 := ⟨n - 1, by omega⟩
       have hF : ∀ l p, l.length < N → Ends ⟨0, 18, d + 1⟩ l → Reads (Fc n') isD (d + 1) p l := fun l p hl h => ih l p n' (d + 1) hl (by omega) (by omega) h
       obtain ⟨f, rest, r, rm, e1, e2, e3, e4, e5, e6⟩ := sum_reads hF l (p + 0 + 1) (by omega) h1
       cases rest with
       | nil =>
        obtain ⟨z, h1, h2, h3⟩ := e5
        simp only [pRun, Option.some.injEq] at h1
        subst h1
        simp only at h3
        omega
       | cons c' rest =>
        have hh := e6 c' rest rfl
        obtain ⟨hg2, h2⟩ := e5.step
        have k1 : ¬ isDig c' = true := fun h => hh (Or.inl (Or.inl h))
        have k2 : ¬ (c' = 43 ∨ c' = 45 ∨ c' = 42 ∨ c' = 47) := by
         rintro (h | h | h | h)
         ·exact hh (Or.inr (Or.inl h))
         ·exact hh (Or.inr (Or.inr h))
         ·exact hh (Or.inl (Or.inr (Or.inl h)))
         ·exact hh (Or.inl (Or.inr (Or.inr h)))
        have hs2 : plStep ⟨2, rm, d + 1⟩ c' = if c' = 41 then (⟨2, 0, d⟩, true) else (⟨2, rm, d + 1⟩, false) := by
         unfold plStep goOnP
         rw [if_neg k1, if_neg (by simp), if_pos rfl, if_neg k2]
         simp only [show d + 1 - 1 = d by omega, show (decide (0 < d + 1)) = true by simp; omega]
        by_cases k3 : c' = 41
        ·rw [if_pos k3] at hs2
         rw [hs2] at h2
         obtain ⟨ds, rest', r', g1, g2, g3, g4, g5, g6⟩ := h2.digs (by decide)
         have hds : ds = [] := List.eq_nil_of_length_eq_zero (by omega)
         subst hds
         refine ⟨c :: (f ++ [c']), rest', r, r', by rw [e1, g1]; simp, ?_, by simp, g4, g5, g6⟩
         exact ⟨0, _, r, rfl, Or.inr ⟨f, by rw [c3, k3], e2⟩, rfl⟩
        ·rw [if_neg k3] at hs2
         rw [hs2] at hg2
         exact absurd hg2 (by simp)
      ·rw [if_neg c3] at hg
       exact absurd hg (by simp)

theorem text_reads {l : List Int} (h : Ends ⟨0, 18, 0⟩ l) : ∃ r, Sm 8 l 0 r := by
 have hF : ∀ l' p, l'.length < l.length + 1 → Ends ⟨0, 18, 0⟩ l' → Reads (Fc 8) isD 0 p l' := fun l' p hl h => fac_reads _ l' p 8 0 hl (by decide) (by decide) h
 obtain ⟨f, rest, r, rm, e1, e2, e3, e4, e5, e6⟩ := sum_reads hF l 0 (by omega) h
 cases rest with
 | nil => exact ⟨r, by rw [e1, List.append_nil]; exact e2⟩
 | cons c' rest =>
  have hh := e6 c' rest rfl
  obtain ⟨hg2, h2⟩ := e5.step
  have k1 : ¬ isDig c' = true := fun h => hh (Or.inl (Or.inl h))
  have k2 : ¬ (c' = 43 ∨ c' = 45 ∨ c' = 42 ∨ c' = 47) := by
   rintro (h | h | h | h)
   ·exact hh (Or.inr (Or.inl h))
   ·exact hh (Or.inr (Or.inr h))
   ·exact hh (Or.inl (Or.inr (Or.inl h)))
   ·exact hh (Or.inl (Or.inr (Or.inr h)))
  have hs2 : (plStep ⟨2, rm, 0⟩ c').2 = false := by
   unfold plStep goOnP
   rw [if_neg k1, if_neg (by simp), if_pos rfl, if_neg k2]
   split <;> simp
  rw [hs2] at hg2
  exact absurd hg2 (by simp)

end Go.Proofs.Ytjahbjjekednfaa

namespace Go.Proofs.Ytjahbjjekednfaa

/-- A number in its form, as both sides keep it. -/
structure Qok (a : Qn) : Prop where
 r : 0 < a.r
 d0 : 1 ≤ a.d
 d1 : a.d < 1000000
 q : a.q = 0 ↔ a.d = 1
 f : SqFree a.d.toNat

theorem sqfree_one : SqFree 1 := by
 intro k hk h
 have h1 := Nat.le_of_dvd (by decide) h
 have h2 := Nat.mul_le_mul hk hk
 omega
theorem Qok.int (n : Int) : Qok ⟨n, 0, 1, 1⟩ := ⟨by simp, by simp, by simp, by simp, sqfree_one⟩
theorem Qok.neg {a : Qn} (h : Qok a) : Qok (qneg a) := ⟨h.r, h.d0, h.d1, by have := h.q; simp only [qneg]; omega, h.f⟩
theorem Qok.qd {a : Qn} (h : Qok a) : QD a := ⟨by have := h.d0; omega, by have := h.d1; omega⟩

/-- The common root of two numbers. -/
structure Rooted (a b : Qn) (D : Int) : Prop where
 d0 : 1 ≤ D
 d1 : D < 1000000
 f : SqFree D.toNat
 o : D = 1 → a.q = 0 ∧ b.q = 0
 a : a.d = 1 ∨ a.d = D
 b : b.d = 1 ∨ b.d = D
theorem rooted {a b : Qn} (ha : Qok a) (hb : Qok b) (h : qroot a.d b.d ≠ 0) : Rooted a b (qroot a.d b.d) := by
 have a0 := ha.d0; have a1 := ha.d1; have aq := ha.q
 have b0 := hb.d0; have b1 := hb.d1; have bq := hb.q
 unfold qroot at *
 by_cases h1 : a.d = 1 ∨ a.d = b.d
 ·rw [if_pos h1]
  exact ⟨b0, b1, hb.f, fun e => ⟨aq.mpr (by omega), bq.mpr e⟩, by omega, Or.inr rfl⟩
 ·rw [if_neg h1] at h ⊢
  by_cases h2 : b.d = 1
  ·rw [if_pos h2]
   exact ⟨a0, a1, ha.f, fun e => ⟨aq.mpr e, bq.mpr h2⟩, Or.inr rfl, Or.inl h2⟩
  ·rw [if_neg h2] at h
   exact absurd rfl h
theorem qroot_zero {a b : Qn} (ha : Qok a) (hb : Qok b) : qroot a.d b.d = 0 ↔ 1 < a.d ∧ 1 < b.d ∧ a.d ≠ b.d := by
 have a0 := ha.d0
 have b0 := hb.d0
 unfold qroot
 split
 ·omega
 ·split <;> omega
theorem qroot_eq {a b : Qn} (ha : Qok a) (h : qroot a.d b.d ≠ 0) : qroot a.d b.d = if 1 < a.d then a.d else b.d := by
 have a0 := ha.d0
 unfold qroot at *
 by_cases h1 : a.d = 1 ∨ a.d = b.d
 ·rw [if_pos h1]
  split <;> omega
 ·rw [if_neg h1] at h ⊢
  by_cases h2 : b.d = 1
  ·rw [if_pos h2, if_pos (by omega)]
  ·rw [if_neg h2] at h
   exact absurd rfl h

theorem qreduce_ok {p q r D : Int} (hr : r ≠ 0) (d0 : 1 ≤ D) (d1 : D < 1000000) (f : SqFree D.toNat) (ho : D = 1 → q = 0) : Qok (qreduce p q r D) := by
 have hb := (qreduce_back p q r D).2.1
 have hg := qcom_ne p q r hr
 have hd : (qreduce p q r D).d = if (qreduce p q r D).q = 0 then 1 else D := rfl
 have hz : (qreduce p q r D).q = 0 ↔ q = 0 := by
  constructor
  ·intro h; rw [hb, h, Int.mul_zero]
  ·intro h
   rw [h] at hb
   rcases Int.mul_eq_zero.mp hb.symm with h1 | h1
   ·rw [h] at hg; exact absurd h1 hg
   ·rw [h]; exact h1
 refine ⟨qreduce_pos p q r D hr, ?_, ?_, ?_, ?_⟩
 ·rw [hd]; split <;> omega
 ·rw [hd]; split <;> omega
 ·rw [hd]
  constructor
  ·intro h; rw [if_pos h]
  ·intro h
   split at h
   ·assumption
   ·exact hz.mpr (ho h)
 ·rw [hd]
  split
  ·exact sqfree_one
  ·exact f

theorem norm_ne {a : Qn} (h : Qok a) (hz : ¬ (a.p = 0 ∧ a.q = 0)) : a.p * a.p + a.q * (-a.q * a.d) ≠ 0 := by
 intro he
 by_cases hq : a.q = 0
 ·rw [hq] at he
  simp only [Int.zero_mul, Int.add_zero] at he
  exact hz ⟨(Int.mul_eq_zero.mp he).elim id id, hq⟩
 ·have hd : a.d ≠ 1 := fun e => hq (h.q.mpr e)
  have d0 := h.d0
  have e1 : a.p * a.p = a.q * a.q * a.d := by
   have : a.q * (-a.q * a.d) = -(a.q * a.q * a.d) := by rw [Int.neg_mul, Int.mul_neg, Int.mul_assoc]
   omega
  have e2 : a.p.natAbs * a.p.natAbs = a.q.natAbs * a.q.natAbs * a.d.toNat := by
   have := congrArg Int.natAbs e1
   rw [Int.natAbs_mul, Int.natAbs_mul, Int.natAbs_mul] at this
   rw [this]
   congr 1
   omega
  have hqp : 0 < a.q.natAbs := by omega
  have hdp : 0 < a.d.toNat := by omega
  have hpp : 0 < a.p.natAbs := by
   rcases Nat.eq_zero_or_pos a.p.natAbs with h0 | h0
   ·rw [h0] at e2
    have := Nat.mul_pos (Nat.mul_pos hqp hqp) hdp
    omega
   ·exact h0
  have i1 : IsRoot (a.p.natAbs * a.p.natAbs) a.p.natAbs 1 := ⟨hpp, by decide, by omega, sqfree_one⟩
  have i2 : IsRoot (a.p.natAbs * a.p.natAbs) a.q.natAbs a.d.toNat := ⟨hqp, hdp, e2.symm, h.f⟩
  have := (i1.unique i2).2
  omega

theorem mul_ne {x y : Int} (hx : 0 < x) (hy : 0 < y) : x * y ≠ 0 := by
 have := Int.mul_pos hx hy
 omega
theorem qaddN_ok {a b : Qn} (ha : Qok a) (hb : Qok b) (h : qroot a.d b.d ≠ 0) : Qok (qaddN a b) := by
 have hr := rooted ha hb h
 refine qreduce_ok (mul_ne ha.r hb.r) hr.d0 hr.d1 hr.f ?_
 intro e
 obtain ⟨h1, h2⟩ := hr.o e
 rw [h1, h2]; simp
theorem qmulN_ok {a b : Qn} (ha : Qok a) (hb : Qok b) (h : qroot a.d b.d ≠ 0) : Qok (qmulN a b) := by
 have hr := rooted ha hb h
 refine qreduce_ok (mul_ne ha.r hb.r) hr.d0 hr.d1 hr.f ?_
 intro e
 obtain ⟨h1, h2⟩ := hr.o e
 rw [h1, h2]; simp
theorem qinv_ok {a : Qn} (ha : Qok a) (hz : ¬ (a.p = 0 ∧ a.q = 0)) : Qok (qinv a) := by
 refine qreduce_ok (norm_ne ha hz) ha.d0 ha.d1 ha.f ?_
 intro e
 rw [ha.q.mpr e]; simp

theorem qadd_ok {a b : Qn} (ha : Qok a) (hb : Qok b) (h : (qadd a b).2 = 0) : Qok (qadd a b).1 := by
 unfold qadd at *
 split at h
 ·exact absurd h (by decide)
 ·rename_i h1; rw [if_neg h1]; exact qaddN_ok ha hb h1
theorem qmul_ok {a b : Qn} (ha : Qok a) (hb : Qok b) (h : (qmul a b).2 = 0) : Qok (qmul a b).1 := by
 unfold qmul at *
 split at h
 ·exact absurd h (by decide)
 ·rename_i h1; rw [if_neg h1]; exact qmulN_ok ha hb h1
theorem qdiv_ok {a b : Qn} (ha : Qok a) (hb : Qok b) (h : (qdiv a b).2 = 0) : Qok (qdiv a b).1 := by
 unfold qdiv at *
 split at h
 ·exact absurd h (by decide)
 ·rename_i h1; rw [if_neg h1]; exact qmul_ok ha (qinv_ok hb h1) h
theorem comb_ok {c : Int} {a b : Qn} (ha : Qok a) (hb : Qok b) (h : (comb c a b).2 = 0) : Qok (comb c a b).1 := by
 unfold comb at *
 split at h
 ·rename_i e; rw [if_pos e]; exact qadd_ok ha hb h
 ·rename_i e; rw [if_neg e]
  split at h
  ·rename_i e; rw [if_pos e]; exact qadd_ok ha hb.neg h
  ·rename_i e; rw [if_neg e]
   split at h
   ·rename_i e; rw [if_pos e]; exact qmul_ok ha hb h
   ·rename_i e; rw [if_neg e]; exact qdiv_ok ha hb h

theorem qzero_qf (m : Nat) : QF m qzero := ⟨Ft.zero m, Ft.zero m, Ft.zero m⟩
theorem qzero_qd : QD qzero := ⟨by decide, by decide⟩
theorem QF.mono {m n : Nat} {a : Qn} (h : QF m a) (hm : m ≤ n) : QF n a := ⟨h.1.mono hm, h.2.1.mono hm, h.2.2.mono hm⟩
theorem qroot_bd {a b : Qn} (ha : QD a) (hb : QD b) : 0 ≤ qroot a.d b.d ∧ qroot a.d b.d ≤ 1000000 := by
 have := ha.1; have := ha.2; have := hb.1; have := hb.2
 unfold qroot
 split
 ·omega
 ·split <;> omega
theorem QD.red {p q r D : Int} (h : 0 ≤ D ∧ D ≤ 1000000) : QD (qreduce p q r D) := by
 unfold QD qreduce
 simp only
 split <;> omega
theorem qadd_sz {a b : Qn} {m n : Nat} (ha : QF m a) (hb : QF n b) : QF (m + n + 1) (qadd a b).1 := by
 unfold qadd
 split
 ·exact qzero_qf _
 ·refine QF.reduce (Ft.add (ha.1.mul hb.2.2) ((hb.1.mul ha.2.2).mono (by omega))) (Ft.add (ha.2.1.mul hb.2.2) ((hb.2.1.mul ha.2.2).mono (by omega))) ((ha.2.2.mul hb.2.2).mono (by omega))
theorem qmul_sz {a b : Qn} {m n : Nat} (ha : QF m a) (hb : QF n b) (da : QD a) (db : QD b) : QF (m + n + 8) (qmul a b).1 := by
 unfold qmul
 split
 ·exact qzero_qf _
 ·have hd := qroot_bd da db
  have h7 : Ft (n + 7) (b.q * qroot a.d b.d) := hb.2.1.mul (by unfold Ft; omega)
  refine QF.reduce ((Ft.add ((ha.1.mul hb.1).mono (show m + n ≤ m + (n + 7) by omega)) (ha.2.1.mul h7)).mono (by omega)) ((Ft.add (ha.1.mul hb.2.1) ((ha.2.1.mul hb.1).mono (by omega))).mono (by omega)) ((ha.2.2.mul hb.2.2).mono (by omega))
theorem qdiv_sz {a b : Qn} {m n : Nat} (ha : QF m a) (hb : QF n b) (da : QD a) (db : QD b) : QF (m + 2 * n + 16) (qdiv a b).1 := by
 unfold qdiv
 split
 ·exact qzero_qf _
 ·exact (qmul_sz ha (hb.inv db) da db.inv).mono (by omega)
theorem qadd_qd {a b : Qn} (da : QD a) (db : QD b) : QD (qadd a b).1 := by
 unfold qadd
 split
 ·exact qzero_qd
 ·exact QD.red (qroot_bd da db)
theorem qmul_qd {a b : Qn} (da : QD a) (db : QD b) : QD (qmul a b).1 := by
 unfold qmul
 split
 ·exact qzero_qd
 ·exact QD.red (qroot_bd da db)
theorem comb_qd {c : Int} {a b : Qn} (da : QD a) (db : QD b) : QD (comb c a b).1 := by
 unfold comb
 split
 ·exact qadd_qd da db
 ·split
  ·exact qadd_qd da db.neg
  ·split
   ·exact qmul_qd da db
   ·unfold qdiv
    split
    ·exact qzero_qd
    ·exact qmul_qd da db.inv
theorem comb_sz {c : Int} {a b : Qn} {m n : Nat} (ha : QF m a) (hb : QF n b) (da : QD a) (db : QD b) : QF (m + 2 * n + 20) (comb c a b).1 := by
 unfold comb
 split
 ·exact (qadd_sz ha hb).mono (by omega)
 ·split
  ·exact (qadd_sz ha hb.neg).mono (by omega)
  ·split
   ·exact (qmul_sz ha hb da db).mono (by omega)
   ·exact (qdiv_sz ha hb da db).mono (by omega)
theorem comb_sz1 {c : Int} (hc : addOp c) {a b : Qn} {m n : Nat} (ha : QF m a) (hb : QF n b) : QF (m + n + 20) (comb c a b).1 := by
 unfold comb
 rcases hc with h | h
 ·rw [if_pos h]; exact (qadd_sz ha hb).mono (by omega)
 ·rw [if_neg (by omega), if_pos h]; exact (qadd_sz ha hb.neg).mono (by omega)

/-- A result whose numbers have fewer than m digits. -/
structure RsOk (m : Nat) (r : Rs) : Prop where
 f : QF m r.v
 d : QD r.v
 q : r.e = 0 → Qok r.v
 k : r.e = 0 → r.k = 0
theorem RsOk.mono {m n : Nat} {r : Rs} (h : RsOk m r) (hm : m ≤ n) : RsOk n r := ⟨h.f.mono hm, h.d, h.q, h.k⟩
theorem opR_ok {c : Int} {p m n k : Nat} {a b : Rs} (ha : RsOk m a) (hb : RsOk n b) (hs : QF (m + k * n + 20) (comb c a.v b.v).1) : RsOk (m + k * n + 20) (opR c p a b) := by
 unfold opR
 split
 ·exact ha.mono (by omega)
 ·rename_i h1
  have h1 : a.e = 0 := by omega
  split
  ·rename_i h2
   exact ⟨ha.f.mono (by omega), ha.d, fun h => absurd h h2, fun h => absurd h h2⟩
  ·rename_i h2
   exact ⟨hs, comb_qd ha.d hb.d, fun h => comb_ok (ha.q h1) (hb.q (by omega)) h, fun h => by simp only at h ⊢; rw [if_pos h]⟩
theorem negs_ok {m : Nat} {r : Rs} (j : Nat) (h : RsOk m r) : RsOk m (negs j r) := by
 unfold negs
 split
 ·exact ⟨h.f.neg, h.d.neg, fun e => (h.q e).neg, h.k⟩
 ·exact h

theorem chT_ok {F : List Int → Nat → Rs → Prop} {ops : Int → Prop} {k C : Nat} (hk : 1 ≤ k) (hC : 20 ≤ C) (hF : ∀ t p r, F t p r → RsOk (C * t.length) r)
  (hop : ∀ c a b m n, ops c → QF m a → QF n b → QD a → QD b → QF (m + k * n + 20) (comb c a b).1) :
  ∀ (j M : Nat) (acc : Rs) (p : Nat) (s : List Int) (r : Rs), RsOk M acc → ChT F ops j acc p s r → RsOk (M + k * C * s.length) r
 | 0, M, acc, p, s, r, ha, h => by
  obtain ⟨rfl, rfl⟩ := h
  simpa using ha
 | j + 1, M, acc, p, s, r, ha, h => by
  obtain ⟨c, t, s', rt, h1, rfl, h3, h4⟩ := h
  have ht := hF t _ rt h3
  have h5 := chT_ok hk hC hF hop j _ _ _ s' r (opR_ok (k := k) (p := p) ha ht (hop c _ _ _ _ h1 ha.f ht.f ha.d ht.d)) h4
  refine h5.mono ?_
  simp only [List.length_cons, List.length_append]
  have e1 : k * C * (t.length + s'.length + 1) = k * (C * t.length) + k * C * s'.length + k * C := by
   rw [Nat.mul_add, Nat.mul_add, Nat.mul_one, Nat.mul_assoc]
  have e2 : C ≤ k * C := Nat.le_mul_of_pos_left C hk
  omega
theorem ch_ok {F : List Int → Nat → Rs → Prop} {ops : Int → Prop} {k C : Nat} (hk : 1 ≤ k) (hC : 20 ≤ C) (hF : ∀ t p r, F t p r → RsOk (C * t.length) r)
  (hop : ∀ c a b m n, ops c → QF m a → QF n b → QD a → QD b → QF (m + k * n + 20) (comb c a b).1) {s : List Int} {p : Nat} {r : Rs} (h : Ch F ops s p r) : RsOk (k * C * s.length) r := by
 obtain ⟨m, f, s', rf, rfl, h2, h3⟩ := h
 refine (chT_ok hk hC hF hop m _ _ _ s' r (hF f _ rf h2) h3).mono ?_
 have e2 : C ≤ k * C := Nat.le_mul_of_pos_left C hk
 have e3 := Nat.mul_le_mul_right f.length e2
 rw [List.length_append, Nat.mul_add]
 omega
theorem mul_cost (c : Int) (a b : Qn) (m n : Nat) (_ : mulOp c) (ha : QF m a) (hb : QF n b) (da : QD a) (db : QD b) : QF (m + 2 * n + 20) (comb c a b).1 := comb_sz ha hb da db
theorem add_cost (c : Int) (a b : Qn) (m n : Nat) (h : addOp c) (ha : QF m a) (hb : QF n b) (_ : QD a) (_ : QD b) : QF (m + 1 * n + 20) (comb c a b).1 := by
 rw [Nat.one_mul]; exact comb_sz1 h ha hb

theorem decN_from (s : List Int) : ∀ (n : Int) (j : Nat), Digs s → 0 ≤ n → n < 10 ^ j → 0 ≤ s.foldl (fun n c => n * 10 + (c - 48)) n ∧ s.foldl (fun n c => n * 10 + (c - 48)) n < 10 ^ (j + s.length) := by
 induction s with
 | nil => intro n j _ h1 h2; exact ⟨h1, h2⟩
 | cons c s ih =>
  intro n j hd h1 h2
  have hc : isDig c = true := hd c (List.mem_cons_self ..)
  unfold isDig at hc
  simp only [Bool.and_eq_true, decide_eq_true_eq] at hc
  have h3 := ih (n * 10 + (c - 48)) (j + 1) (fun x hx => hd x (List.mem_cons_of_mem _ hx)) (by omega) (by rw [Int.pow_succ]; omega)
  simp only [List.foldl_cons, List.length_cons]
  rw [show j + (s.length + 1) = j + 1 + s.length by omega]
  exact h3
theorem decN_bd {s : List Int} (h : Digs s) : 0 ≤ decN s ∧ decN s < 10 ^ s.length := by
 have := decN_from s 0 0 h (by decide) (by decide)
 rwa [Nat.zero_add] at this
theorem qsqrt_ok {n : Nat} (hn : n < 1000000) : Qok (qsqrt n) ∧ QF 20 (qsqrt n) := by
 have f1 : Ft 20 1 := by unfold Ft; decide
 unfold qsqrt
 split
 ·exact ⟨Qok.int 0, Ft.zero _, Ft.zero _, f1⟩
 ·rename_i h0
  have hr := sqf_root (show 0 < n by omega) hn
  have hle : sqf n 1000 * sqf n 1000 ≤ n := Nat.le_of_dvd (by omega) (sqf_dvd n 1000)
  have hp := hr.op
  have hs := hr.sp
  have hsn : n / (sqf n 1000 * sqf n 1000) ≤ n := Nat.div_le_self _ _
  have hf : sqf n 1000 ≤ sqf n 1000 * sqf n 1000 := Nat.le_mul_of_pos_left _ hp
  have ff : Ft 20 (sqf n 1000 : Int) := by unfold Ft; simp only [Int.natAbs_natCast]; omega
  have hfree := hr.free
  split
  ·exact ⟨Qok.int _, ff, Ft.zero _, f1⟩
  ·rename_i h1
   generalize n / (sqf n 1000 * sqf n 1000) = s at *
   generalize sqf n 1000 = f at *
   refine ⟨⟨by simp, by simp only; omega, by simp only; omega, by simp only; omega, ?_⟩, Ft.zero _, ff, f1⟩
   simpa using hfree
theorem atom_ok {s : List Int} {r : Rs} (h : Atom s r) : RsOk (20 * s.length) r := by
 have f1 : Ft 20 1 := by unfold Ft; decide
 rcases h with ⟨h1, h2, h3, rfl⟩ | ⟨t, rfl, h1, h2, h3, rfl⟩
 ·have hl : 0 < s.length := List.length_pos_iff.mpr h1
  obtain ⟨b1, b2⟩ := decN_bd h3
  refine ⟨⟨?_, Ft.zero _, f1.mono (by omega)⟩, (Qok.int _).qd, fun _ => Qok.int _, fun _ => rfl⟩
  have : Ft s.length (decN s) := by
   unfold Ft
   have e : ((decN s).natAbs : Int) = decN s := by omega
   have : ((decN s).natAbs : Int) < ((10 ^ s.length : Nat) : Int) := by rw [e]; push_cast; exact b2
   omega
  exact this.mono (by omega)
 ·obtain ⟨b1, b2⟩ := decN_bd h3
  have : (10 : Int) ^ t.length ≤ 10 ^ 6 := by exact_mod_cast Nat.pow_le_pow_right (show 0 < 10 by decide) h2
  have hn : (decN t).toNat < 1000000 := by omega
  obtain ⟨g1, g2⟩ := qsqrt_ok hn
  exact ⟨g2.mono (by simp only [List.length_cons]; omega), g1.qd, fun _ => g1, fun _ => rfl⟩

theorem fc_ok : ∀ (n : Nat) (s : List Int) (p : Nat) (r : Rs), Fc n s p r → RsOk (20 * 2 ^ n * s.length) r
 | 0, s, p, r, h => by
  obtain ⟨m, core, r0, rfl, h2, rfl⟩ := h
  refine (negs_ok m (atom_ok h2)).mono ?_
  rw [List.length_append]
  omega
 | n + 1, s, p, r, h => by
  obtain ⟨m, core, r0, rfl, h2, rfl⟩ := h
  refine negs_ok m ?_
  have hp : 0 < 2 ^ n := Nat.pow_pos (by decide)
  have e : 20 * 2 ^ (n + 1) = 1 * (2 * (20 * 2 ^ n)) := by rw [Nat.pow_succ]; omega
  have e20 : 20 ≤ 20 * 2 ^ n := by omega
  have ih := fc_ok n
  rw [e, List.length_append]
  generalize 20 * 2 ^ n = C at *
  rcases h2 with h2 | ⟨t, rfl, h2⟩
  ·refine (atom_ok h2).mono ?_
   have := Nat.mul_le_mul (show 20 ≤ 1 * (2 * C) by omega) (show core.length ≤ (List.replicate m (45 : Int)).length + core.length by omega)
   omega
  ·refine (ch_ok (by decide) (show 20 ≤ 2 * C by omega) (fun t p r ht => ch_ok (by decide) e20 ih mul_cost ht) add_cost h2).mono ?_
   exact Nat.mul_le_mul_left _ (by simp only [List.length_cons, List.length_append]; omega)

end Go.Proofs.Ytjahbjjekednfaa

namespace Go.Proofs.Ytjahbjjekednfaa

/-- A scan from the right through a piece of text that has prev ahead of it, with so many brackets open; none: it stops inside. -/
def passB (a b : Int) : List Int → Int → Int → Option Int
 | [], _, op => some op
 | c :: l, prev, op => match passB a b l c op with
  | none => none
  | some o => if c = 41 then some (o + 1) else if c = 40 then some (o - 1) else if o = 0 ∧ (c = a ∨ c = b) ∧ (isDig prev = true ∨ prev = 41) then none else some o
/-- The last byte, if there is one. -/
def endC (prev : Int) : List Int → Int
 | [] => prev
 | c :: l => endC c l
def Closed (c : Int) : Prop := isDig c = true ∨ c = 41

theorem passB_append (a b : Int) : ∀ (l m : List Int) (prev op : Int), passB a b (l ++ m) prev op = (passB a b m (endC prev l) op).bind (fun o => passB a b l prev o)
 | [], m, prev, op => by simp [passB, endC]
 | c :: l, m, prev, op => by
  simp only [List.cons_append, passB, endC]
  rw [passB_append a b l m c op]
  cases passB a b m (endC c l) op <;> rfl
theorem endC_append (prev : Int) : ∀ (l m : List Int), endC prev (l ++ m) = endC (endC prev l) m
 | [], _ => rfl
 | c :: l, m => endC_append c l m
theorem endC_ne (p q : Int) : ∀ (l : List Int), l ≠ [] → endC p l = endC q l
 | [], h => absurd rfl h
 | _ :: _, _ => rfl
theorem digs_end : ∀ (s : List Int) (prev : Int), Digs s → s ≠ [] → isDig (endC prev s) = true
 | [], _, _, h => absurd rfl h
 | [c], _, h, _ => h c (List.mem_cons_self ..)
 | c :: d :: l, _, h, _ => digs_end (d :: l) c (fun x hx => h x (List.mem_cons_of_mem _ hx)) (by simp)
def isOps (a b : Int) : Prop := (a = 43 ∧ b = 45) ∨ (a = 42 ∧ b = 47)

theorem pass_digs {a b : Int} (hab : isOps a b) : ∀ (s : List Int) (prev op : Int), Digs s → passB a b s prev op = some op
 | [], _, _, _ => rfl
 | c :: l, prev, op, h => by
  have hc := h c (List.mem_cons_self ..)
  unfold isDig at hc
  simp only [Bool.and_eq_true, decide_eq_true_eq] at hc
  unfold isOps at hab
  simp only [passB]
  rw [pass_digs hab l c op (fun x hx => h x (List.mem_cons_of_mem _ hx))]
  simp only
  rw [if_neg (by omega), if_neg (by omega), if_neg (by rintro ⟨_, h1, _⟩; omega)]

/-- A piece that a scan passes, whatever is open around it. -/
def PassIn (t : List Int) : Prop := ∀ a b prev op, isOps a b → 1 ≤ op → passB a b t prev op = some op
/-- A piece that a scan for a and b passes with nothing open, where prev does not end a factor. -/
def PassAt (a b : Int) (t : List Int) : Prop := ∀ prev, ¬ Closed prev → passB a b t prev 0 = some 0
def Ends' (t : List Int) : Prop := ∀ prev, Closed (endC prev t)

theorem pass_sign {a b c op prev : Int} (l : List Int) (h : passB a b l c op = some op) (hc : c ≠ 41 ∧ c ≠ 40) (hs : 1 ≤ op ∨ (op = 0 ∧ (¬ Closed prev ∨ (c ≠ a ∧ c ≠ b)))) : passB a b (c :: l) prev op = some op := by
 simp only [passB, h]
 rw [if_neg hc.1, if_neg hc.2, if_neg]
 rintro ⟨h1, h2, h3⟩
 rcases hs with h4 | ⟨h4, h5 | h5⟩
 ·omega
 ·exact h5 h3
 ·omega
theorem not_closed {c : Int} (h : c = 43 ∨ c = 45 ∨ c = 42 ∨ c = 47 ∨ c = 40) : ¬ Closed c := by
 intro h1
 unfold Closed isDig at h1
 simp only [Bool.and_eq_true, decide_eq_true_eq] at h1
 omega

theorem atom_pass {t : List Int} {r : Rs} (h : Atom t r) : PassIn t ∧ (∀ a b, isOps a b → PassAt a b t) ∧ Ends' t := by
 have key : ∀ a b prev op, isOps a b → passB a b t prev op = some op := by
  intro a b prev op hab
  rcases h with ⟨_, _, h3, _⟩ | ⟨t', rfl, _, _, h3, _⟩
  ·exact pass_digs hab t prev op h3
  ·simp only [passB, pass_digs hab t' 114 op h3]
   unfold isOps at hab
   rw [if_neg (by decide), if_neg (by decide), if_neg (by rintro ⟨_, h1, _⟩; omega)]
 refine ⟨fun a b prev op hab _ => key a b prev op hab, fun a b hab prev _ => key a b prev 0 hab, fun prev => Or.inl ?_⟩
 rcases h with ⟨h1, _, h3, _⟩ | ⟨t', rfl, h1, _, h3, _⟩
 ·exact digs_end t prev h3 h1
 ·exact digs_end t' 114 h3 h1

theorem minus_pass {core : List Int} : ∀ (m : Nat), PassIn core ∧ (∀ a b, isOps a b → PassAt a b core) ∧ Ends' core → PassIn (List.replicate m 45 ++ core) ∧ (∀ a b, isOps a b → PassAt a b (List.replicate m 45 ++ core)) ∧ Ends' (List.replicate m 45 ++ core)
 | 0, h => h
 | m + 1, h => by
  obtain ⟨h1, h2, h3⟩ := minus_pass m h
  rw [List.replicate_succ, List.cons_append]
  refine ⟨fun a b prev op hab ho => pass_sign _ (h1 a b 45 op hab ho) (by decide) (Or.inl ho), fun a b hab prev hp => ?_, fun prev => h3 45⟩
  exact pass_sign _ (h2 a b hab 45 (not_closed (by decide))) (by decide) (Or.inr ⟨rfl, Or.inl hp⟩)

theorem paren_pass {t : List Int} (h : PassIn t) : PassIn (40 :: (t ++ [41])) ∧ (∀ a b, isOps a b → PassAt a b (40 :: (t ++ [41]))) ∧ Ends' (40 :: (t ++ [41])) := by
 have key : ∀ a b prev op, isOps a b → 0 ≤ op → passB a b (40 :: (t ++ [41])) prev op = some op := by
  intro a b prev op hab ho
  have h1 : passB a b [41] (endC 40 t) op = some (op + 1) := by simp [passB]
  have h2 : passB a b (t ++ [41]) 40 op = some (op + 1) := by
   rw [passB_append, h1]
   exact h a b 40 (op + 1) hab (by omega)
  simp only [passB, h2]
  rw [if_neg (by decide), if_pos (by trivial), Int.add_sub_cancel]
 refine ⟨fun a b prev op hab ho => key a b prev op hab (by omega), fun a b hab prev _ => key a b prev 0 hab (by decide), fun prev => Or.inr ?_⟩
 show endC 40 (t ++ [41]) = 41
 rw [endC_append]; rfl

theorem chT_pass {F : List Int → Nat → Rs → Prop} {ops : Int → Prop} (hops : ∀ c, ops c → c = 43 ∨ c = 45 ∨ c = 42 ∨ c = 47) (hF : ∀ t p r, F t p r → PassIn t ∧ Ends' t) :
  ∀ (k : Nat) (acc : Rs) (p : Nat) (s : List Int) (r : Rs), ChT F ops k acc p s r → PassIn s ∧ (∀ prev, Closed prev → Closed (endC prev s))
 | 0, acc, p, s, r, h => by
  obtain ⟨rfl, _⟩ := h
  exact ⟨fun _ _ _ _ _ _ => rfl, fun _ h => h⟩
 | k + 1, acc, p, s, r, h => by
  obtain ⟨c, t, s', rt, h1, rfl, h3, h4⟩ := h
  obtain ⟨g1, g2⟩ := chT_pass hops hF k _ _ s' r h4
  obtain ⟨g3, g4⟩ := hF t _ rt h3
  have hc := hops c h1
  refine ⟨fun a b prev op hab ho => pass_sign _ ?_ (by omega) (Or.inl ho), fun prev _ => ?_⟩
  ·rw [passB_append, g1 a b _ op hab ho]; exact g3 a b c op hab ho
  ·show Closed (endC c (t ++ s'))
   rw [endC_append]; exact g2 _ (g4 c)
theorem ch_pass {F : List Int → Nat → Rs → Prop} {ops : Int → Prop} (hops : ∀ c, ops c → c = 43 ∨ c = 45 ∨ c = 42 ∨ c = 47) (hF : ∀ t p r, F t p r → PassIn t ∧ Ends' t) (t : List Int) (p : Nat) (r : Rs) (h : Ch F ops t p r) : PassIn t ∧ Ends' t := by
 obtain ⟨m, f, s', rf, rfl, h2, h3⟩ := h
 obtain ⟨g1, g2⟩ := chT_pass hops hF m _ _ s' r h3
 obtain ⟨g3, g4⟩ := hF f _ rf h2
 refine ⟨fun a b prev op hab ho => ?_, fun prev => ?_⟩
 ·rw [passB_append, g1 a b _ op hab ho]; exact g3 a b prev op hab ho
 ·rw [endC_append]; exact g2 _ (g4 prev)
theorem mul_four (c : Int) (h : mulOp c) : c = 43 ∨ c = 45 ∨ c = 42 ∨ c = 47 := by unfold mulOp at h; omega
theorem add_four (c : Int) (h : addOp c) : c = 43 ∨ c = 45 ∨ c = 42 ∨ c = 47 := by unfold addOp at h; omega

theorem fc_pass : ∀ (n : Nat) (t : List Int) (p : Nat) (r : Rs), Fc n t p r → PassIn t ∧ (∀ a b, isOps a b → PassAt a b t) ∧ Ends' t
 | 0, t, p, r, h => by
  obtain ⟨m, core, r0, rfl, h2, _⟩ := h
  exact minus_pass m (atom_pass h2)
 | n + 1, t, p, r, h => by
  obtain ⟨m, core, r0, rfl, h2, _⟩ := h
  refine minus_pass m ?_
  rcases h2 with h2 | ⟨t', rfl, h2⟩
  ·exact atom_pass h2
  ·have ih := fc_pass n
   refine paren_pass (ch_pass add_four (fun t p r ht => ch_pass mul_four (fun t p r ht => ⟨(ih t p r ht).1, (ih t p r ht).2.2⟩) t p r ht) t' _ _ h2).1
theorem pd_pass (n : Nat) (t : List Int) (p : Nat) (r : Rs) (h : Pd n t p r) : PassIn t ∧ Ends' t := ch_pass mul_four (fun t p r ht => ⟨(fc_pass n t p r ht).1, (fc_pass n t p r ht).2.2⟩) t p r h
theorem sm_pass (n : Nat) (t : List Int) (p : Nat) (r : Rs) (h : Sm n t p r) : PassIn t ∧ Ends' t := ch_pass add_four (pd_pass n) t p r h

theorem pd_at (n : Nat) (t : List Int) (p : Nat) (r : Rs) (h : Pd n t p r) : PassAt 43 45 t := by
 obtain ⟨m, f, s', rf, rfl, h2, h3⟩ := h
 have hab : isOps 43 45 := Or.inl ⟨rfl, rfl⟩
 have key : ∀ (k : Nat) (acc : Rs) (p : Nat) (s : List Int) (r : Rs), ChT (Fc n) mulOp k acc p s r → ∀ prev, passB 43 45 s prev 0 = some 0 := by
  intro k
  induction k with
  | zero => intro acc p s r h prev; obtain ⟨rfl, _⟩ := h; rfl
  | succ k ih =>
   intro acc p s r h prev
   obtain ⟨c, t, s', rt, h1, rfl, h3, h4⟩ := h
   have hc : c = 42 ∨ c = 47 := h1
   refine pass_sign _ ?_ (by omega) (Or.inr ⟨rfl, Or.inr (by omega)⟩)
   rw [passB_append, ih _ _ s' r h4]
   exact (fc_pass n t _ rt h3).2.1 43 45 hab c (not_closed (by omega))
 intro prev hp
 rw [passB_append, key m rf _ s' r h3]
 exact (fc_pass n f _ rf h2).2.1 43 45 hab prev hp

/-- One more operation behind a chain. -/
theorem chT_snoc {F : List Int → Nat → Rs → Prop} {ops : Int → Prop} {c : Int} {t : List Int} {rt : Rs} (hc : ops c) : ∀ (k : Nat) (acc : Rs) (p : Nat) (s : List Int) (r : Rs), ChT F ops k acc p s r → F t (p + s.length + 1) rt → ChT F ops (k + 1) acc p (s ++ c :: t) (opR c (p + s.length) r rt)
 | 0, acc, p, s, r, h, ht => by
  obtain ⟨rfl, rfl⟩ := h
  exact ⟨c, t, [], rt, hc, by simp, ht, rfl, rfl⟩
 | k + 1, acc, p, s, r, h, ht => by
  obtain ⟨c', t', s', rt', h1, rfl, h3, h4⟩ := h
  refine ⟨c', t', s' ++ c :: t, rt', h1, by simp, h3, ?_⟩
  simp only [List.length_cons, List.length_append] at ht ⊢
  have := chT_snoc hc k _ _ s' r h4 (by rw [show p + 1 + t'.length + s'.length + 1 = p + (t'.length + s'.length + 1) + 1 by omega]; exact ht)
  rwa [show p + 1 + t'.length + s'.length = p + (t'.length + s'.length + 1) by omega] at this

/-- A chain taken apart at its last operation. -/
def LeftF (F : List Int → Nat → Rs → Prop) (ops : Int → Prop) (s : List Int) (p : Nat) (r : Rs) : Prop :=
 F s p r ∨ ∃ s1 c t r1 rt, s = s1 ++ c :: t ∧ ops c ∧ Ch F ops s1 p r1 ∧ F t (p + s1.length + 1) rt ∧ r = opR c (p + s1.length) r1 rt
theorem ch_left {F : List Int → Nat → Rs → Prop} {ops : Int → Prop} {p : Nat} : ∀ (k : Nat) (s0 : List Int) (acc : Rs) (s : List Int) (r : Rs), Ch F ops s0 p acc → LeftF F ops s0 p acc → ChT F ops k acc (p + s0.length) s r → LeftF F ops (s0 ++ s) p r
 | 0, s0, acc, s, r, _, h0, h => by
  obtain ⟨rfl, rfl⟩ := h
  rwa [List.append_nil]
 | k + 1, s0, acc, s, r, hc, _, h => by
  obtain ⟨c, t, s', rt, h1, rfl, h3, h4⟩ := h
  have hnew : Ch F ops (s0 ++ c :: t) p (opR c (p + s0.length) acc rt) := by
   obtain ⟨m, f, s1, rf, rfl, g2, g3⟩ := hc
   refine ⟨m + 1, f, s1 ++ c :: t, rf, by simp, g2, ?_⟩
   have := chT_snoc h1 m rf (p + f.length) s1 acc g3 (by rw [List.length_append] at h3; rw [show p + f.length + s1.length + 1 = p + (f.length + s1.length) + 1 by omega]; exact h3)
   rwa [List.length_append, show p + (f.length + s1.length) = p + f.length + s1.length by omega]
  have hleft : LeftF F ops (s0 ++ c :: t) p (opR c (p + s0.length) acc rt) := Or.inr ⟨s0, c, t, acc, rt, rfl, h1, hc, h3, rfl⟩
  have := ch_left k (s0 ++ c :: t) _ s' r hnew hleft (by
   rw [List.length_append, List.length_cons, show p + (s0.length + (t.length + 1)) = p + s0.length + 1 + t.length by omega]; exact h4)
  rwa [List.append_assoc, List.cons_append] at this
theorem ch_leftF {F : List Int → Nat → Rs → Prop} {ops : Int → Prop} {s : List Int} {p : Nat} {r : Rs} (h : Ch F ops s p r) : LeftF F ops s p r := by
 obtain ⟨m, f, s', rf, rfl, h2, h3⟩ := h
 exact ch_left m f rf s' r ⟨0, f, [], rf, by simp, h2, rfl, rfl⟩ (Or.inl h2) h3

/-- The reference's scan: from the right, down to the second byte. -/
def lst (l : List Int) (a b : Int) : Nat → Int → Int
 | 0, _ => -1
 | i + 1, op => if at0 l (i + 1) = 41 then lst l a b i (op + 1) else if at0 l (i + 1) = 40 then lst l a b i (op - 1)
  else if op = 0 ∧ (at0 l (i + 1) = a ∨ at0 l (i + 1) = b) ∧ (isDig (at0 l i) = true ∨ at0 l i = 41) then ((i + 1 : Nat) : Int) else lst l a b i op

theorem at0_end2 : ∀ (h : Int) (l1 l2 : List Int), at0 (h :: (l1 ++ l2)) l1.length = endC h l1
 | h, [], l2 => by simp [at0, endC]
 | h, c :: l1, l2 => by
  have := at0_end2 c l1 l2
  simpa [at0, endC] using this

theorem lst_pass {a b : Int} (h : Int) (l : List Int) : ∀ (l2 l1 : List Int) (op o : Int), l = l1 ++ l2 → passB a b l2 (endC h l1) op = some o → lst (h :: l) a b l.length op = lst (h :: l) a b l1.length o
 | [], l1, op, o, e, hp => by
  simp only [passB, Option.some.injEq] at hp
  rw [e, List.append_nil, hp]
 | c :: l2, l1, op, o, e, hp => by
  simp only [passB] at hp
  cases h1 : passB a b l2 c op with
  | none => rw [h1] at hp; cases hp
  | some o1 =>
   rw [h1] at hp
   simp only at hp
   have ih := lst_pass (a := a) (b := b) h l l2 (l1 ++ [c]) op o1 (by rw [e]; simp) (by rw [endC_append]; exact h1)
   rw [ih, List.length_append, List.length_singleton]
   have hc : at0 (h :: l) (l1.length + 1) = c := by rw [e]; unfold at0; simp
   have hpv : at0 (h :: l) l1.length = endC h l1 := by rw [e]; exact at0_end2 h l1 (c :: l2)
   show (if at0 (h :: l) (l1.length + 1) = 41 then _ else _) = _
   rw [hc, hpv]
   split at hp
   ·rename_i h2; rw [if_pos h2]; cases hp; rfl
   ·rename_i h2; rw [if_neg h2]
    split at hp
    ·rename_i h3; rw [if_pos h3]; cases hp; rfl
    ·rename_i h3; rw [if_neg h3]
     split at hp
     ·cases hp
     ·rename_i h4; rw [if_neg h4]; cases hp; rfl

/-- There is no such sign. -/
theorem lst_none {a b : Int} {t : List Int} (h : PassAt a b t) (ht : t ≠ []) : lst t a b (t.length - 1) 0 = -1 := by
 cases t with
 | nil => exact absurd rfl ht
 | cons c l =>
  have h1 := h 43 (not_closed (by decide))
  simp only [passB] at h1
  cases h2 : passB a b l c 0 with
  | none => rw [h2] at h1; cases h1
  | some o =>
   rw [List.length_cons, Nat.add_sub_cancel, lst_pass c l l [] 0 o rfl h2]
   rfl
/-- The last one stands between two parts. -/
theorem lst_some {a b c : Int} {s1 t : List Int} (h : PassAt a b t) (hc : c = a ∨ c = b) (hcl : ¬ Closed c) (hn : c ≠ 41 ∧ c ≠ 40) (hs : s1 ≠ []) (he : Ends' s1) : lst (s1 ++ c :: t) a b ((s1 ++ c :: t).length - 1) 0 = s1.length := by
 cases s1 with
 | nil => exact absurd rfl hs
 | cons d s2 =>
  have h1 := h c hcl
  have e : (d :: s2 ++ c :: t).length - 1 = (s2 ++ c :: t).length := by simp
  rw [e, List.cons_append, lst_pass d (s2 ++ c :: t) t (s2 ++ [c]) 0 0 (by simp) (by rw [endC_append]; exact h1), List.length_append, List.length_singleton]
  have hc' : at0 (d :: (s2 ++ c :: t)) (s2.length + 1) = c := by unfold at0; simp
  have hpv : at0 (d :: (s2 ++ c :: t)) s2.length = endC d s2 := at0_end2 d s2 (c :: t)
  show (if at0 (d :: (s2 ++ c :: t)) (s2.length + 1) = 41 then _ else _) = _
  rw [hc', hpv, if_neg hn.1, if_neg hn.2, if_pos ⟨rfl, hc, he d⟩]
  rfl

theorem qinv_d {b : Qn} (hb : Qok b) (hz : ¬ (b.p = 0 ∧ b.q = 0)) : (qinv b).d = b.d := by
 have hi := qinv_ok hb hz
 have hback := (qreduce_back (b.r * b.p) (b.r * -b.q) (b.p * b.p + b.q * (-b.q * b.d)) b.d).2.1
 have hd : (qinv b).d = if (qinv b).q = 0 then 1 else b.d := rfl
 by_cases h : (qinv b).q = 0
 ·rw [hd, if_pos h]
  have h1 : (qreduce (b.r * b.p) (b.r * -b.q) (b.p * b.p + b.q * (-b.q * b.d)) b.d).q = 0 := h
  rw [h1, Int.mul_zero] at hback
  rcases Int.mul_eq_zero.mp hback with h2 | h2
  ·have := hb.r; omega
  ·exact (hb.q.mp (by omega)).symm
 ·rw [hd, if_neg h]

/-- The reference's way to a quotient. -/
theorem ref_div {a b : Qn} {D : Int} (ha : Qok a) (hb : Qok b) (hz : ¬ (b.p = 0 ∧ b.q = 0)) (hD : D = qroot a.d b.d) :
  qreduce ((qreduce ((a.p * b.p) + ((a.q * -b.q) * D)) ((a.p * -b.q) + (a.q * b.p)) (a.r * 1) D).p * b.r) ((qreduce ((a.p * b.p) + ((a.q * -b.q) * D)) ((a.p * -b.q) + (a.q * b.p)) (a.r * 1) D).q * b.r)
   ((qreduce ((a.p * b.p) + ((a.q * -b.q) * D)) ((a.p * -b.q) + (a.q * b.p)) (a.r * 1) D).r * ((b.p * b.p) - ((b.q * b.q) * b.d))) D = qmulN a (qinv b) := by
 have hN := norm_ne hb hz
 have eN : b.p * b.p - b.q * b.q * b.d = b.p * b.p + b.q * (-b.q * b.d) := by rw [Int.neg_mul, Int.mul_neg, Int.mul_assoc]; omega
 rw [eN]
 have hid := qinv_d hb hz
 have hdd : qroot a.d (qinv b).d = D := by rw [hid, hD]
 unfold qmulN
 rw [hdd]
 have hVb := qreduce_back (b.r * b.p) (b.r * -b.q) (b.p * b.p + b.q * (-b.q * b.d)) b.d
 have hk1 := qcom_ne (b.r * b.p) (b.r * -b.q) (b.p * b.p + b.q * (-b.q * b.d)) hN
 have hV : qreduce (b.r * b.p) (b.r * -b.q) (b.p * b.p + b.q * (-b.q * b.d)) b.d = qinv b := rfl
 rw [hV] at hVb
 have hVr : (qinv b).r ≠ 0 := by have := (qinv_ok hb hz).r; omega
 have har : a.r ≠ 0 := by have := ha.r; omega
 have hUb := qreduce_back ((a.p * b.p) + ((a.q * -b.q) * D)) ((a.p * -b.q) + (a.q * b.p)) (a.r * 1) D
 have hk2 := qcom_ne ((a.p * b.p) + ((a.q * -b.q) * D)) ((a.p * -b.q) + (a.q * b.p)) (a.r * 1) (by omega)
 have hUp := qreduce_pos ((a.p * b.p) + ((a.q * -b.q) * D)) ((a.p * -b.q) + (a.q * b.p)) (a.r * 1) D (by omega)
 generalize qreduce ((a.p * b.p) + ((a.q * -b.q) * D)) ((a.p * -b.q) + (a.q * b.p)) (a.r * 1) D = U at *
 generalize qcom ((a.p * b.p) + ((a.q * -b.q) * D)) ((a.p * -b.q) + (a.q * b.p)) (a.r * 1) = k2 at *
 generalize qcom (b.r * b.p) (b.r * -b.q) (b.p * b.p + b.q * (-b.q * b.d)) = k1 at *
 generalize b.p * b.p + b.q * (-b.q * b.d) = N at *
 generalize qinv b = V at *
 obtain ⟨u1, u2, u3⟩ := hUb
 obtain ⟨v1, v2, v3⟩ := hVb
 have hUN : U.r * N ≠ 0 := fun h => by rcases Int.mul_eq_zero.mp h with h | h <;> omega
 have haV : a.r * V.r ≠ 0 := fun h => by rcases Int.mul_eq_zero.mp h with h | h <;> omega
 rw [← qreduce_scale k2 (U.p * b.r) (U.q * b.r) (U.r * N) D hk2 hUN, ← qreduce_scale k1 (a.p * V.p + a.q * (V.q * D)) (a.p * V.q + a.q * V.p) (a.r * V.r) D hk1 haV]
 have e1 : k2 * (U.p * b.r) = k1 * (a.p * V.p + a.q * (V.q * D)) := by
  have x1 : k2 * (U.p * b.r) = (k2 * U.p) * b.r := by rw [Int.mul_assoc]
  have x2 : k1 * (a.p * V.p + a.q * (V.q * D)) = a.p * (k1 * V.p) + a.q * ((k1 * V.q) * D) := by grind
  rw [x1, x2, ← u1, ← v1, ← v2]
  grind
 have e2 : k2 * (U.q * b.r) = k1 * (a.p * V.q + a.q * V.p) := by
  have x1 : k2 * (U.q * b.r) = (k2 * U.q) * b.r := by rw [Int.mul_assoc]
  have x2 : k1 * (a.p * V.q + a.q * V.p) = a.p * (k1 * V.q) + a.q * (k1 * V.p) := by grind
  rw [x1, x2, ← u2, ← v1, ← v2]
  grind
 have e3 : k2 * (U.r * N) = k1 * (a.r * V.r) := by
  have x1 : k2 * (U.r * N) = (k2 * U.r) * N := by rw [Int.mul_assoc]
  have x2 : k1 * (a.r * V.r) = a.r * (k1 * V.r) := by grind
  rw [x1, x2, ← u3, ← v3]
  grind
 rw [e1, e2, e3]

end Go.Proofs.Ytjahbjjekednfaa
