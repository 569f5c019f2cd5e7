import Derived.Test.YtjahbjjekednfaaB2
import Derived.Test.YtjahbjjekednfaaU2
import Derived.Test.YtjahbjjekednfaaRwe
import Derived.Test.YtjahbjjekednfaaSt
namespace Go.Proofs.Ytjahbjjekednfaa
open Go.RowKit

/-- The number of a rest is one. -/
theorem rl_same {g p q n : Int} {a b : Qn} (h : Rl g p q n a) (h' : Rl g p q n b) (hg : g ≠ 0) : a = b := by
 have ra := h.cn.ok.r
 have rb := h'.cn.ok.r
 have x1 := h.ex
 have x2 := h'.ex
 have y1 := h.ey
 have y2 := h'.ey
 have h1 : a.p * b.r = b.p * a.r := Int.eq_of_mul_eq_mul_right h.q0 (by grind)
 have h2 : a.q * b.r = b.q * a.r := Int.eq_of_mul_eq_mul_right h.q0 (by grind)
 have hr : a.r = b.r := Int.dvd_antisymm (by omega) (by omega) (dvd_of_low h.cn.g h1 h2) (dvd_of_low h'.cn.g h1.symm h2.symm)
 have hp : a.p = b.p := by rw [hr] at h1; exact Int.eq_of_mul_eq_mul_right (by omega) h1
 have hq : a.q = b.q := by rw [hr] at h2; exact Int.eq_of_mul_eq_mul_right (by omega) h2
 have hd : a.d = b.d := Int.eq_of_mul_eq_mul_left (Int.mul_ne_zero hg hg) (h.en.symm.trans h'.en)
 cases a; cases b
 simp_all
/-- The rest of an irrational number is one. -/
theorem rl_back {g p q p' q' n : Int} {a : Qn} (h : Rl g p q n a) (h' : Rl g p' q' n a) (hg : g ≠ 0) : p = p' ∧ q = q' := by
 have ra := h.cn.ok.r
 have x1 := h.ex
 have x2 := h'.ex
 have y1 := h.ey
 have y2 := h'.ey
 have ha : a.q ≠ 0 := fun k => by
  rw [k, Int.zero_mul] at y1
  exact Int.mul_ne_zero hg (by omega) y1.symm
 have hq : q = q' := Int.eq_of_mul_eq_mul_left ha (by omega)
 subst hq
 exact ⟨Int.eq_of_mul_eq_mul_right (show a.r ≠ 0 by omega) (by omega), rfl⟩
/-- The numbers one behind the other. -/
def nm (a : Qn) (i : Nat) : Qn := num a (p0 a) (q0 a) (n0 a) i
theorem nm_iff {a : Qn} (h : Cn a) (hd : a.d ≠ 1) (i j : Nat) : nm a i = nm a j ↔ rs a i = rs a j := by
 have hi := rl_num (rl_start h) i (fun k _ => rs_irr h hd k)
 have hj := rl_num (rl_start h) j (fun k _ => rs_irr h hd k)
 have h1 := h.ok.r
 have h2 : a.q ≠ 0 := fun k => hd (h.ok.q.1 k)
 have hg : (a.q.natAbs : Int) * a.r ≠ 0 := Int.mul_ne_zero (by omega) (by omega)
 constructor
 ·intro e
  unfold nm at e
  rw [← e] at hj
  obtain ⟨e1, e2⟩ := rl_back hi hj hg
  exact Prod.ext e1 e2
 ·intro e
  have e' : rst (p0 a) (q0 a) (n0 a) i = rst (p0 a) (q0 a) (n0 a) j := e
  rw [← e'] at hj
  exact rl_same hi hj hg

end Go.Proofs.Ytjahbjjekednfaa

namespace Go.Proofs.Ytjahbjjekednfaa
open Go.RowKit

theorem Try.infoRN : (Try.prog.info? 48).map (fun i => (i.zero, i.size, i.bytes)) = some (some (.agg #[.bool false, .slice none 0 0, .bool false, .slice none 0 0, .bool false, .slice none 0 0, .int .i64 0]), 7, 104) := by kernel_rfl
/-- The element at place i of a row of numbers. -/
def ElN (w : World) (b i : Nat) (a : Qn) : Prop := ∃ (b1 : Bool) (ao1 : Option Addr) (n1 c1 : Nat) (b2 : Bool) (ao2 : Option Addr) (n2 c2 : Nat) (b3 : Bool) (ao3 : Option Addr) (n3 c3 : Nat), w.cell? ⟨b, 7 * i + 0, none⟩ = some (.bool b1) ∧ w.cell? ⟨b, 7 * i + 1, none⟩ = some (.slice ao1 n1 c1) ∧ w.cell? ⟨b, 7 * i + 2, none⟩ = some (.bool b2) ∧ w.cell? ⟨b, 7 * i + 3, none⟩ = some (.slice ao2 n2 c2) ∧ w.cell? ⟨b, 7 * i + 4, none⟩ = some (.bool b3) ∧ w.cell? ⟨b, 7 * i + 5, none⟩ = some (.slice ao3 n3 c3) ∧ w.cell? ⟨b, 7 * i + 6, none⟩ = some (.int .i64 a.d) ∧ NN w (.agg #[.bool b1, .slice ao1 n1 c1, .bool b2, .slice ao2 n2 c2, .bool b3, .slice ao3 n3 c3, .int .i64 a.d]) a
/-- The slice v holds the first k numbers of f. -/
def RowN (w : World) (v : Value) (f : Nat → Qn) (k : Nat) : Prop := ∃ (ao : Option Addr) (cap b : Nat), v = .slice ao k cap ∧ k ≤ cap ∧ cap ≤ 9223372036854775807 ∧ (0 < k → ao = some ⟨b, 0, none⟩ ∧ b < w.heap.size) ∧
 (∀ i, i < k → ElN w b i (f i))
theorem ElN.keep {w W : World} {b i : Nat} {a : Qn} (hb : b < w.heap.size) (hk : Kp w W) (h : ElN w b i a) : ElN W b i a := by
 obtain ⟨b1, ao1, n1, c1, b2, ao2, n2, c2, b3, ao3, n3, c3, h0, h1, h2, h3, h4, h5, h6, hr⟩ := h
 have hB := hk.block b hb
 exact ⟨b1, ao1, n1, c1, b2, ao2, n2, c2, b3, ao3, n3, c3, (World.cell?_of_block (w := w) (a := ⟨b, 7 * i + 0, none⟩) hB).trans h0, (World.cell?_of_block (w := w) (a := ⟨b, 7 * i + 1, none⟩) hB).trans h1, (World.cell?_of_block (w := w) (a := ⟨b, 7 * i + 2, none⟩) hB).trans h2, (World.cell?_of_block (w := w) (a := ⟨b, 7 * i + 3, none⟩) hB).trans h3, (World.cell?_of_block (w := w) (a := ⟨b, 7 * i + 4, none⟩) hB).trans h4, (World.cell?_of_block (w := w) (a := ⟨b, 7 * i + 5, none⟩) hB).trans h5, (World.cell?_of_block (w := w) (a := ⟨b, 7 * i + 6, none⟩) hB).trans h6, hr.keep hk⟩
theorem RowN.keep {w W : World} {v : Value} {f : Nat → Qn} {k : Nat} (hk : Kp w W) (h : RowN w v f k) : RowN W v f k := by
 obtain ⟨ao, cap, b, h1, h2, h3, h4, h5⟩ := h
 exact ⟨ao, cap, b, h1, h2, h3, fun hp => ⟨(h4 hp).1, Nat.lt_of_lt_of_le (h4 hp).2 hk.size⟩, fun i hi => (h5 i hi).keep (h4 (by omega)).2 hk⟩
/-- Numbers of seven cells, one behind the other. -/
def IsN (w : World) (xs : List Value) (f : Nat → Qn) (k : Nat) : Prop := ∀ i, i < k → ∃ (b1 : Bool) (ao1 : Option Addr) (n1 c1 : Nat) (b2 : Bool) (ao2 : Option Addr) (n2 c2 : Nat) (b3 : Bool) (ao3 : Option Addr) (n3 c3 : Nat), xs[7 * i + 0]? = some (.bool b1) ∧ xs[7 * i + 1]? = some (.slice ao1 n1 c1) ∧ xs[7 * i + 2]? = some (.bool b2) ∧ xs[7 * i + 3]? = some (.slice ao2 n2 c2) ∧ xs[7 * i + 4]? = some (.bool b3) ∧ xs[7 * i + 5]? = some (.slice ao3 n3 c3) ∧ xs[7 * i + 6]? = some (.int .i64 (f i).d) ∧ NN w (.agg #[.bool b1, .slice ao1 n1 c1, .bool b2, .slice ao2 n2 c2, .bool b3, .slice ao3 n3 c3, .int .i64 (f i).d]) (f i)
theorem IsN.soft {w W : World} {xs : List Value} {f : Nat → Qn} {k : Nat} (hs : Sf 3 w W) (h : IsN w xs f k) : IsN W xs f k := fun i hi => by
 obtain ⟨b1, ao1, n1, c1, b2, ao2, n2, c2, b3, ao3, n3, c3, h0, h1, h2, h3, h4, h5, h6, hr⟩ := h i hi
 exact ⟨b1, ao1, n1, c1, b2, ao2, n2, c2, b3, ao3, n3, c3, h0, h1, h2, h3, h4, h5, h6, hr.soft hs⟩
theorem IsN.snoc {w : World} {xs : List Value} {f : Nat → Qn} {k : Nat} (h : IsN w xs f k) (hl : xs.length = 7 * k) {b1 : Bool} {ao1 : Option Addr} {n1 c1 : Nat} {b2 : Bool} {ao2 : Option Addr} {n2 c2 : Nat} {b3 : Bool} {ao3 : Option Addr} {n3 c3 : Nat} (hr : NN w (.agg #[.bool b1, .slice ao1 n1 c1, .bool b2, .slice ao2 n2 c2, .bool b3, .slice ao3 n3 c3, .int .i64 (f k).d]) (f k)) : IsN w (xs ++ [.bool b1, .slice ao1 n1 c1, .bool b2, .slice ao2 n2 c2, .bool b3, .slice ao3 n3 c3, .int .i64 (f k).d]) f (k + 1) := by
 intro i hi
 by_cases h1 : i < k
 ·obtain ⟨b11, ao11, n11, c11, b12, ao12, n12, c12, b13, ao13, n13, c13, h0, h1, h2, h3, h4, h5, h6, hq⟩ := h i h1
  exact ⟨b11, ao11, n11, c11, b12, ao12, n12, c12, b13, ao13, n13, c13, by rw [List.getElem?_append_left (by omega)]; exact h0, by rw [List.getElem?_append_left (by omega)]; exact h1, by rw [List.getElem?_append_left (by omega)]; exact h2, by rw [List.getElem?_append_left (by omega)]; exact h3, by rw [List.getElem?_append_left (by omega)]; exact h4, by rw [List.getElem?_append_left (by omega)]; exact h5, by rw [List.getElem?_append_left (by omega)]; exact h6, hq⟩
 ·have e : i = k := by omega
  subst e
  refine ⟨b1, ao1, n1, c1, b2, ao2, n2, c2, b3, ao3, n3, c3, ?_, ?_, ?_, ?_, ?_, ?_, ?_, hr⟩
  all_goals rw [List.getElem?_append_right (by omega), hl]
  ·simp
  ·rw [show 7 * i + 1 - 7 * i = 1 by omega]; rfl
  ·rw [show 7 * i + 2 - 7 * i = 2 by omega]; rfl
  ·rw [show 7 * i + 3 - 7 * i = 3 by omega]; rfl
  ·rw [show 7 * i + 4 - 7 * i = 4 by omega]; rfl
  ·rw [show 7 * i + 5 - 7 * i = 5 by omega]; rfl
  ·rw [show 7 * i + 6 - 7 * i = 6 by omega]; rfl
theorem RowN.of_owns {w : World} {base : Nat} {v : Value} {f : Nat → Qn} {k : Nat} {xs : List Value} (h : w.ownsRow base 48 7 v k xs) (hi : IsN w xs f k) : RowN w v f k := by
 obtain ⟨hl, h2⟩ := h
 rcases h2 with ⟨rfl, hz⟩ | ⟨g, cap, cur, rfl, hb, hg, hc, hm, hs, ht⟩
 ·exact ⟨none, 0, 0, by rw [hz], by omega, by omega, fun hp => absurd hp (by omega), fun i hi => absurd hi (by omega)⟩
 ·refine ⟨some ⟨g, 0, none⟩, cap, g, rfl, by omega, by unfold maxLen at hm; omega, fun _ => ⟨rfl, ?_⟩, fun i hii => ?_⟩
  ·by_cases hlt : g < w.heap.size
   ·exact hlt
   ·rw [Array.getElem?_eq_none (by omega)] at hg
    exact absurd hg (by simp)
  ·obtain ⟨b1, ao1, n1, c1, b2, ao2, n2, c2, b3, ao3, n3, c3, h0, h1, h2, h3, h4, h5, h6, hq⟩ := hi i hii
   have cell : ∀ j u, xs[j]? = some u → w.cell? ⟨g, j, none⟩ = some u := by
    intro j u hj
    rw [← ht, List.getElem?_take] at hj
    split at hj
    ·simp only [World.cell?, hg]
     rw [Array.getElem?_toList] at hj
     simpa using hj
    ·exact absurd hj (by simp)
   exact ⟨b1, ao1, n1, c1, b2, ao2, n2, c2, b3, ao3, n3, c3, cell _ _ h0, cell _ _ h1, cell _ _ h2, cell _ _ h3, cell _ _ h4, cell _ _ h5, cell _ _ h6, hq⟩

end Go.Proofs.Ytjahbjjekednfaa
