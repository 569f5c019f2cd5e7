import Derived.Test.YtjahbjjekednfaaDoorG1
import Derived.Test.YtjahbjjekednfaaDoorH4
namespace Go.Proofs.YtjahbjjekednfaaDoor

theorem bl_app (x y : ByteArray) : bl (x ++ y) = bl x ++ bl y := by
 unfold bl
 simp [ByteArray.data_append]
theorem size_app (x y : ByteArray) : (x ++ y).size = x.size + y.size := by simp [ByteArray.size_append]

def Agrees (s t : ByteArray) : Prop := ∀ r1 r2, Rk s r1 → Rk t r2 → r1.e = 0 → r2.e = 0 → r1.v = r2.v
def Alike (s t : ByteArray) : Prop := ∀ r1 r2, Rk s r1 → Rk t r2 → r1.e = r2.e ∧ (r1.e = 0 → r1.v = r2.v)
def Is (s : ByteArray) (n : Int) : Prop := ∀ r, Rk s r → r.e = 1 ∨ r.e = 2 ∨ (r.e = 0 ∧ r.v = ⟨n, 0, 1, 1⟩)

theorem agrees_of {s t : ByteArray} {n m : Nat} {x y : Qn × Int} (h : Gv (Sm n) (bl s) x) (k : Gv (Sm m) (bl t) y) (e : x.2 = 0 → y.2 = 0 → x.1 = y.1) : Agrees s t := by
 intro r1 r2 h1 h2 e1 e2
 rcases rk_gv h1 h with ⟨g, _⟩ | ⟨g, _⟩ | ⟨_, _, g1, g2⟩
 ·omega
 ·omega
 rcases rk_gv h2 k with ⟨g, _⟩ | ⟨g, _⟩ | ⟨_, _, k1, k2⟩
 ·omega
 ·omega
 rw [g2 e1, k2 e2]
 exact e (by omega) (by omega)
theorem is_of {s : ByteArray} {n : Nat} {z : Int} (h : Gv (Sm n) (bl s) (⟨z, 0, 1, 1⟩, 0)) : Is s z := by
 intro r h1
 rcases rk_gv h1 h with ⟨g, _⟩ | ⟨g, _⟩ | ⟨_, _, g1, g2⟩
 ·exact Or.inl g
 ·exact Or.inr (Or.inl g)
 ·exact Or.inr (Or.inr ⟨g1, g2 g1⟩)

/-- A text in brackets. -/
def inB (a : ByteArray) : ByteArray := (⟨#[40]⟩ ++ a) ++ ⟨#[41]⟩
theorem bl_inB (a : ByteArray) : bl (inB a) = 40 :: (bl a ++ [41]) := by
 unfold inB
 rw [bl_app, bl_app]
 rfl
theorem inB_size (a : ByteArray) : (inB a).size = a.size + 2 := by
 unfold inB
 rw [size_app, size_app]
 show 1 + a.size + 1 = _
 omega
theorem gv_inB {a : ByteArray} {r : Rs} (h : Rk a r) (he : r.e = 0) (n : Nat) : Gv (Fc (n + 9)) (bl (inB a)) (r.v, 0) := by
 rw [bl_inB]
 exact Gv.mono (fc_shf 9 (n + 9) (by omega)) ((rk_read h he).1.paren)
theorem ends_rk {a : ByteArray} {r : Rs} (h : Rk a r) (he : r.e = 0) : Ends ⟨0, 18, 0⟩ (bl a) := (fault_iff a).1 (rk_read h he).2.2

theorem alike_of {a b : ByteArray} {ra rb : Rs} {c : UInt8} {n : Nat} {x y : Qn × Int} (h1 : Rk a ra) (h2 : Rk b rb) (e1 : ra.e = 0) (e2 : rb.e = 0) (hc : (c.toNat : Int) = 43 ∨ (c.toNat : Int) = 45 ∨ (c.toNat : Int) = 42 ∨ (c.toNat : Int) = 47)
  (g : Gv (Sm n) (bl (inB a ++ ⟨#[c]⟩ ++ inB b)) x) (k : Gv (Sm n) (bl (inB b ++ ⟨#[c]⟩ ++ inB a)) y) (e : x = y) : Alike (inB a ++ ⟨#[c]⟩ ++ inB b) (inB b ++ ⟨#[c]⟩ ++ inB a) := by
 have z1 := size_app (inB a ++ ⟨#[c]⟩) (inB b)
 have z2 := size_app (inB b ++ ⟨#[c]⟩) (inB a)
 have z3 := size_app (inB a) ⟨#[c]⟩
 have z4 := size_app (inB b) ⟨#[c]⟩
 have hf : ∀ u v : ByteArray, Ends ⟨0, 18, 0⟩ (bl u) → Ends ⟨0, 18, 0⟩ (bl v) → (plFault (inB u ++ ⟨#[c]⟩ ++ inB v) 0 (inB u ++ ⟨#[c]⟩ ++ inB v).size = -1 ↔ Fits (bl u) ∧ Fits (bl v)) := by
  intro u v hu hv
  rw [fault_iff]
  have : bl (inB u ++ ⟨#[c]⟩ ++ inB v) = 40 :: (bl u ++ 41 :: (c.toNat : Int) :: 40 :: (bl v ++ [41])) := by
   rw [bl_app, bl_app, bl_inB, bl_inB]
   simp [bl]
  rw [this]
  exact ends_two hc hu hv
 have f1 := hf a b (ends_rk h1 e1) (ends_rk h2 e2)
 have f2 := hf b a (ends_rk h2 e2) (ends_rk h1 e1)
 intro r1 r2 k1 k2
 subst e
 have m1 := plFault_ge (inB a ++ ⟨#[c]⟩ ++ inB b) (inB a ++ ⟨#[c]⟩ ++ inB b).size 0
 have m2 := plFault_ge (inB b ++ ⟨#[c]⟩ ++ inB a) (inB b ++ ⟨#[c]⟩ ++ inB a).size 0
 rcases rk_gv k1 g with ⟨g1, g2⟩ | ⟨g1, g2, g3⟩ | ⟨g0, g1, g2, g3⟩ <;> rcases rk_gv k2 k with ⟨q1, q2⟩ | ⟨q1, q2, q3⟩ | ⟨q0, q1, q2, q3⟩
 ·exact ⟨by omega, by omega⟩
 ·omega
 ·omega
 ·omega
 ·exact ⟨by omega, by omega⟩
 ·have := f1.2 ((f2.1 q1).symm)
  omega
 ·omega
 ·have := f2.2 ((f1.1 g1).symm)
  omega
 ·exact ⟨by omega, fun h => by rw [g3 h, q3 (by omega)]⟩

theorem add43 {n : Nat} {s t : List Int} {x y : Qn × Int} (h : Gv (Sm n) s x) (k : Gv (Pd n) t y) : Gv (Sm n) (s ++ 43 :: t) (opX 43 x y) := Gv.op (Or.inl rfl) h k
theorem mul42 {n : Nat} {s t : List Int} {x y : Qn × Int} (h : Gv (Pd n) s x) (k : Gv (Fc n) t y) : Gv (Pd n) (s ++ 42 :: t) (opX 42 x y) := Gv.op (Or.inl rfl) h k
theorem f2p {n : Nat} {s : List Int} {x : Qn × Int} (h : Gv (Fc n) s x) : Gv (Pd n) s x := h.one
theorem p2s {n : Nat} {s : List Int} {x : Qn × Int} (h : Gv (Pd n) s x) : Gv (Sm n) s x := h.one

theorem t_nought {a : ByteArray} {ra : Rs} (h1 : Rk a ra) (e1 : ra.e = 0) : Is (inB a ++ ⟨#[45]⟩ ++ inB a) 0 := by
 refine is_of (n := 9) ?_
 rw [bl_app, bl_app, List.append_assoc, ← law_nought (rk_cn h1 e1)]
 exact Gv.op (Or.inr rfl) (gv_inB h1 e1 0).one.one (gv_inB h1 e1 0).one
theorem t_minus {a : ByteArray} {ra : Rs} (h1 : Rk a ra) (e1 : ra.e = 0) : Agrees (⟨#[45, 45]⟩ ++ inB a) (inB a) := by
 refine agrees_of (n := 9) (m := 9) (x := (qneg (qneg ra.v), 0)) (y := (ra.v, 0)) ?_ (gv_inB h1 e1 0).one.one (fun _ _ => neg_neg _)
 rw [bl_app]
 exact (gv_inB h1 e1 0).minus.minus.one.one
theorem t_turned {a : ByteArray} {ra : Rs} (h1 : Rk a ra) (e1 : ra.e = 0) : Agrees (⟨#[45]⟩ ++ inB a) (⟨#[48, 45]⟩ ++ inB a) := by
 refine agrees_of (n := 9) (m := 9) (x := (qneg ra.v, 0)) (y := opX 45 (⟨0, 0, 1, 1⟩, 0) (ra.v, 0)) ?_ ?_ (fun _ _ => by rw [law_turned (rk_cn h1 e1)])
 ·rw [bl_app]
  exact (gv_inB h1 e1 0).minus.one.one
 ·rw [bl_app]
  exact Gv.op (s := [48]) (Or.inr rfl) Gv.nought.one.one (gv_inB h1 e1 0).one
theorem t_one {a : ByteArray} {ra : Rs} (h1 : Rk a ra) (e1 : ra.e = 0) (hz : ¬ (ra.v.p = 0 ∧ ra.v.q = 0)) : Is (inB a ++ ⟨#[47]⟩ ++ inB a) 1 := by
 refine is_of (n := 9) ?_
 rw [bl_app, bl_app, List.append_assoc, ← law_one (rk_cn h1 e1) hz]
 exact (Gv.op (Or.inr rfl) (gv_inB h1 e1 0).one (gv_inB h1 e1 0)).one
theorem t_none {a : ByteArray} {ra : Rs} (h1 : Rk a ra) (e1 : ra.e = 0) (hz : ra.v.p = 0 ∧ ra.v.q = 0) {r : Rs} (h : Rk (inB a ++ ⟨#[47]⟩ ++ inB a) r) : r.e = 3 ∨ r.e = 1 ∨ r.e = 2 := by
 have g : Gv (Sm 9) (bl (inB a ++ ⟨#[47]⟩ ++ inB a)) (opX 47 (ra.v, 0) (ra.v, 0)) := by
  rw [bl_app, bl_app, List.append_assoc]
  exact (Gv.op (Or.inr rfl) (gv_inB h1 e1 0).one (gv_inB h1 e1 0)).one
 rcases rk_gv h g with ⟨g1, _⟩ | ⟨g1, _⟩ | ⟨_, _, g1, _⟩
 ·exact Or.inr (Or.inl g1)
 ·exact Or.inr (Or.inr g1)
 ·rw [law_none hz] at g1
  exact Or.inl g1
theorem t_sums {a b : ByteArray} {ra rb : Rs} (h1 : Rk a ra) (h2 : Rk b rb) (e1 : ra.e = 0) (e2 : rb.e = 0) : Alike (inB a ++ ⟨#[43]⟩ ++ inB b) (inB b ++ ⟨#[43]⟩ ++ inB a) := by
 refine alike_of (n := 9) (c := 43) h1 h2 e1 e2 (Or.inl rfl) (x := opX 43 (ra.v, 0) (rb.v, 0)) (y := opX 43 (rb.v, 0) (ra.v, 0)) ?_ ?_ ?_
 ·rw [bl_app, bl_app, List.append_assoc]
  exact Gv.op (Or.inl rfl) (gv_inB h1 e1 0).one.one (gv_inB h2 e2 0).one
 ·rw [bl_app, bl_app, List.append_assoc]
  exact Gv.op (Or.inl rfl) (gv_inB h2 e2 0).one.one (gv_inB h1 e1 0).one
 ·rw [opX_zero, opX_zero]
  exact qadd_comm (rk_cn h1 e1) (rk_cn h2 e2)
theorem t_products {a b : ByteArray} {ra rb : Rs} (h1 : Rk a ra) (h2 : Rk b rb) (e1 : ra.e = 0) (e2 : rb.e = 0) : Alike (inB a ++ ⟨#[42]⟩ ++ inB b) (inB b ++ ⟨#[42]⟩ ++ inB a) := by
 refine alike_of (n := 9) (c := 42) h1 h2 e1 e2 (Or.inr (Or.inr (Or.inl rfl))) (x := opX 42 (ra.v, 0) (rb.v, 0)) (y := opX 42 (rb.v, 0) (ra.v, 0)) ?_ ?_ ?_
 ·rw [bl_app, bl_app, List.append_assoc]
  exact (Gv.op (Or.inl rfl) (gv_inB h1 e1 0).one (gv_inB h2 e2 0)).one
 ·rw [bl_app, bl_app, List.append_assoc]
  exact (Gv.op (Or.inl rfl) (gv_inB h2 e2 0).one (gv_inB h1 e1 0)).one
 ·rw [opX_zero, opX_zero]
  exact qmul_comm (rk_cn h1 e1) (rk_cn h2 e2)
theorem t_back {a b : ByteArray} {ra rb : Rs} (h1 : Rk a ra) (h2 : Rk b rb) (e1 : ra.e = 0) (e2 : rb.e = 0) : Agrees (inB a ++ ⟨#[43]⟩ ++ inB b ++ ⟨#[45]⟩ ++ inB b) (inB a) := by
 refine agrees_of (n := 9) (m := 9) (x := opX 45 (opX 43 (ra.v, 0) (rb.v, 0)) (rb.v, 0)) (y := (ra.v, 0)) ?_ (gv_inB h1 e1 0).one.one (fun h _ => law_back (rk_cn h1 e1) (rk_cn h2 e2) h)
 rw [bl_app, bl_app, bl_app, bl_app, List.append_assoc, List.append_assoc (bl (inB a))]
 exact Gv.op (Or.inr rfl) (Gv.op (Or.inl rfl) (gv_inB h1 e1 0).one.one (gv_inB h2 e2 0).one) (gv_inB h2 e2 0).one
theorem t_over {a b : ByteArray} {ra rb : Rs} (h1 : Rk a ra) (h2 : Rk b rb) (e1 : ra.e = 0) (e2 : rb.e = 0) (hz : ¬ (rb.v.p = 0 ∧ rb.v.q = 0)) : Agrees (inB a ++ ⟨#[42]⟩ ++ inB b ++ ⟨#[47]⟩ ++ inB b) (inB a) := by
 refine agrees_of (n := 9) (m := 9) (x := opX 47 (opX 42 (ra.v, 0) (rb.v, 0)) (rb.v, 0)) (y := (ra.v, 0)) ?_ (gv_inB h1 e1 0).one.one (fun h _ => law_over (rk_cn h1 e1) (rk_cn h2 e2) hz h)
 rw [bl_app, bl_app, bl_app, bl_app, List.append_assoc, List.append_assoc (bl (inB a))]
 exact (Gv.op (Or.inr rfl) (Gv.op (Or.inl rfl) (gv_inB h1 e1 0).one (gv_inB h2 e2 0)) (gv_inB h2 e2 0)).one
theorem t_three {a b c : ByteArray} {ra rb rc : Rs} (h1 : Rk a ra) (h2 : Rk b rb) (h3 : Rk c rc) (e1 : ra.e = 0) (e2 : rb.e = 0) (e3 : rc.e = 0) : Agrees (inB a ++ ⟨#[43, 40]⟩ ++ inB b ++ ⟨#[43]⟩ ++ inB c ++ ⟨#[41]⟩) (inB a ++ ⟨#[43]⟩ ++ inB b ++ ⟨#[43]⟩ ++ inB c) := by
 refine agrees_of (n := 10) (m := 9) (x := opX 43 (ra.v, 0) (opX 43 (rb.v, 0) (rc.v, 0))) (y := opX 43 (opX 43 (ra.v, 0) (rb.v, 0)) (rc.v, 0)) ?_ ?_ (law_three (rk_cn h1 e1) (rk_cn h2 e2) (rk_cn h3 e3))
 ·have := add43 (p2s (f2p (gv_inB h1 e1 1))) (f2p (add43 (p2s (f2p (gv_inB h2 e2 0))) (f2p (gv_inB h3 e3 0))).paren)
  rw [show bl (inB a ++ ⟨#[43, 40]⟩ ++ inB b ++ ⟨#[43]⟩ ++ inB c ++ ⟨#[41]⟩) = bl (inB a) ++ 43 :: 40 :: ((bl (inB b) ++ 43 :: bl (inB c)) ++ [41]) by simp only [bl_app]; simp [bl]]
  exact this
 ·have := add43 (add43 (p2s (f2p (gv_inB h1 e1 0))) (f2p (gv_inB h2 e2 0))) (f2p (gv_inB h3 e3 0))
  rw [show bl (inB a ++ ⟨#[43]⟩ ++ inB b ++ ⟨#[43]⟩ ++ inB c) = (bl (inB a) ++ 43 :: bl (inB b)) ++ 43 :: bl (inB c) by simp only [bl_app]; simp [bl]]
  exact this
theorem t_also {a b c : ByteArray} {ra rb rc : Rs} (h1 : Rk a ra) (h2 : Rk b rb) (h3 : Rk c rc) (e1 : ra.e = 0) (e2 : rb.e = 0) (e3 : rc.e = 0) : Agrees (inB a ++ ⟨#[42, 40]⟩ ++ inB b ++ ⟨#[42]⟩ ++ inB c ++ ⟨#[41]⟩) (inB a ++ ⟨#[42]⟩ ++ inB b ++ ⟨#[42]⟩ ++ inB c) := by
 refine agrees_of (n := 10) (m := 9) (x := opX 42 (ra.v, 0) (opX 42 (rb.v, 0) (rc.v, 0))) (y := opX 42 (opX 42 (ra.v, 0) (rb.v, 0)) (rc.v, 0)) ?_ ?_ (law_also (rk_cn h1 e1) (rk_cn h2 e2) (rk_cn h3 e3))
 ·have := p2s (mul42 (f2p (gv_inB h1 e1 1)) (p2s (mul42 (f2p (gv_inB h2 e2 0)) (gv_inB h3 e3 0))).paren)
  rw [show bl (inB a ++ ⟨#[42, 40]⟩ ++ inB b ++ ⟨#[42]⟩ ++ inB c ++ ⟨#[41]⟩) = bl (inB a) ++ 42 :: 40 :: ((bl (inB b) ++ 42 :: bl (inB c)) ++ [41]) by simp only [bl_app]; simp [bl]]
  exact this
 ·have := p2s (mul42 (mul42 (f2p (gv_inB h1 e1 0)) (gv_inB h2 e2 0)) (gv_inB h3 e3 0))
  rw [show bl (inB a ++ ⟨#[42]⟩ ++ inB b ++ ⟨#[42]⟩ ++ inB c) = (bl (inB a) ++ 42 :: bl (inB b)) ++ 42 :: bl (inB c) by simp only [bl_app]; simp [bl]]
  exact this
theorem t_apart {a b c : ByteArray} {ra rb rc : Rs} (h1 : Rk a ra) (h2 : Rk b rb) (h3 : Rk c rc) (e1 : ra.e = 0) (e2 : rb.e = 0) (e3 : rc.e = 0) : Agrees (inB a ++ ⟨#[42, 40]⟩ ++ inB b ++ ⟨#[43]⟩ ++ inB c ++ ⟨#[41]⟩) (inB a ++ ⟨#[42]⟩ ++ inB b ++ ⟨#[43]⟩ ++ inB a ++ ⟨#[42]⟩ ++ inB c) := by
 refine agrees_of (n := 10) (m := 9) (x := opX 42 (ra.v, 0) (opX 43 (rb.v, 0) (rc.v, 0))) (y := opX 43 (opX 42 (ra.v, 0) (rb.v, 0)) (opX 42 (ra.v, 0) (rc.v, 0))) ?_ ?_ (law_apart (rk_cn h1 e1) (rk_cn h2 e2) (rk_cn h3 e3))
 ·have := p2s (mul42 (f2p (gv_inB h1 e1 1)) (add43 (p2s (f2p (gv_inB h2 e2 0))) (f2p (gv_inB h3 e3 0))).paren)
  rw [show bl (inB a ++ ⟨#[42, 40]⟩ ++ inB b ++ ⟨#[43]⟩ ++ inB c ++ ⟨#[41]⟩) = bl (inB a) ++ 42 :: 40 :: ((bl (inB b) ++ 43 :: bl (inB c)) ++ [41]) by simp only [bl_app]; simp [bl]]
  exact this
 ·have := add43 (p2s (mul42 (f2p (gv_inB h1 e1 0)) (gv_inB h2 e2 0))) (mul42 (f2p (gv_inB h1 e1 0)) (gv_inB h3 e3 0))
  rw [show bl (inB a ++ ⟨#[42]⟩ ++ inB b ++ ⟨#[43]⟩ ++ inB a ++ ⟨#[42]⟩ ++ inB c) = (bl (inB a) ++ 42 :: bl (inB b)) ++ 43 :: (bl (inB a) ++ 42 :: bl (inB c)) by simp only [bl_app]; simp [bl]]
  exact this
end Go.Proofs.YtjahbjjekednfaaDoor
