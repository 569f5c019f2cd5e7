import Derived.Test.YtjahbjjekednfaaDoorF8
import Derived.Test.YtjahbjjekednfaaDoorF10
namespace Go.Proofs.YtjahbjjekednfaaDoor

/-- The values of the first terms, last and ahead. -/
structure Cv where
 lp : Int
 lq : Int
 ap : Int
 aq : Int
def cv (p q n : Int) : Nat → Cv
 | 0 => ⟨1, 0, 0, 1⟩
 | k + 1 => ⟨tm p q n k * (cv p q n k).lp + (cv p q n k).ap, tm p q n k * (cv p q n k).lq + (cv p q n k).aq, (cv p q n k).lp, (cv p q n k).lq⟩
/-- The same from the last term on. -/
def bk : List Int → Int × Int
 | [] => (1, 0)
 | t :: l => (t * (bk l).1 + (bk l).2, (bk l).1)
/-- Folded up from the front. -/
def fw (l : List Int) (s : Int × Int) : Int × Int := l.foldl (fun s t => (t * s.1 + s.2, s.1)) s
theorem fw_bk : ∀ (l : List Int) (x y : Int), (fw l (x, y)).1 = x * (bk l).1 + y * (bk l).2
 | [], x, y => by simp [fw, bk]
 | t :: l, x, y => by
  have e : fw (t :: l) (x, y) = fw l (t * x + y, x) := rfl
  rw [e, fw_bk l]
  simp only [bk]
  grind
theorem fw_snoc (l : List Int) (t : Int) (s : Int × Int) : fw (l ++ [t]) s = (t * (fw l s).1 + (fw l s).2, (fw l s).1) := by simp [fw]
theorem cv_fw (p q n : Int) : ∀ k, fw (tms p q n k) (1, 0) = ((cv p q n k).lp, (cv p q n k).ap) ∧ fw (tms p q n k) (0, 1) = ((cv p q n k).lq, (cv p q n k).aq)
 | 0 => ⟨rfl, rfl⟩
 | k + 1 => by
  obtain ⟨h1, h2⟩ := cv_fw p q n k
  rw [tms_succ, fw_snoc, fw_snoc, h1, h2]
  exact ⟨rfl, rfl⟩
theorem cv_bk (p q n : Int) (k : Nat) : bk (tms p q n k) = ((cv p q n k).lp, (cv p q n k).lq) := by
 obtain ⟨h1, h2⟩ := cv_fw p q n k
 have a := fw_bk (tms p q n k) 1 0
 have b := fw_bk (tms p q n k) 0 1
 rw [h1] at a
 rw [h2] at b
 simp at a b
 rw [a, b]
theorem cv_ft {p q n : Int} {m : Nat} : ∀ k, (∀ i, i < k → Ft m (tm p q n i)) → Ft ((m + 1) * k + 1) (cv p q n k).lp ∧ Ft ((m + 1) * k + 1) (cv p q n k).lq ∧ Ft ((m + 1) * k + 1) (cv p q n k).ap ∧ Ft ((m + 1) * k + 1) (cv p q n k).aq
 | 0, _ => ⟨by simp [cv, Ft], by simp [cv, Ft], by simp [cv, Ft], by simp [cv, Ft]⟩
 | k + 1, h => by
  obtain ⟨h1, h2, h3, h4⟩ := cv_ft k (fun i hi => h i (by omega))
  have ht := h k (by omega)
  have e : (m + 1) * (k + 1) + 1 = m + ((m + 1) * k + 1) + 1 := by rw [Nat.mul_add]; omega
  simp only [cv]
  rw [e]
  exact ⟨Ft.add (ht.mul h1) (h3.mono (by omega)), Ft.add (ht.mul h2) (h4.mono (by omega)), h1.mono (by omega), h2.mono (by omega)⟩
theorem bk_ft {m : Nat} : ∀ l : List Int, (∀ t, t ∈ l → Ft m t) → Ft ((m + 1) * l.length + 1) (bk l).1 ∧ Ft ((m + 1) * l.length + 1) (bk l).2
 | [], _ => ⟨by simp [bk, Ft], by simp [bk, Ft]⟩
 | t :: l, h => by
  obtain ⟨h1, h2⟩ := bk_ft l (fun x hx => h x (List.mem_cons_of_mem _ hx))
  have ht := h t List.mem_cons_self
  have e : (m + 1) * (t :: l).length + 1 = m + ((m + 1) * l.length + 1) + 1 := by rw [List.length_cons, Nat.mul_add]; omega
  simp only [bk]
  rw [e]
  exact ⟨Ft.add (ht.mul h1) (h2.mono (by omega)), h1.mono (by omega)⟩
theorem bk_drop {l : List Int} {i : Nat} (h : i < l.length) : bk (l.drop i) = (at0 l i * (bk (l.drop (i + 1))).1 + (bk (l.drop (i + 1))).2, (bk (l.drop (i + 1))).1) := by
 rw [List.drop_eq_getElem_cons h, at0_eq h]
 rfl
open Go.RowKit

theorem begin_any (a : Qn) (m : Nat) (v : Value) (w : World) (hv : XN w v a) (hm : m ≤ 40000000) (f : QF m a) (hd : QD a) : Calls Tryd.prog 58 #[v] w (RetWK w (p0 a) (q0 a) (n0 a) 1 0 0 1) := by
 unfold p0 q0 n0
 by_cases h : a.q < 0
 ·rw [if_pos h, if_pos h]
  exact begin_core a _ _ _ v w hv (fun W hW => of_neg a m v W hW hm f hd (Int.sign_eq_neg_one_of_neg h))
 ·rw [if_neg h, if_neg h]
  refine begin_core a _ _ _ v w hv (fun W hW => of_pos a m v W hW hm f hd ?_)
  rcases sign3 a.q with ⟨s1, h1⟩ | ⟨s1, h1⟩ | ⟨s1, h1⟩ <;> omega
theorem WK.keep {w W : World} {v : Value} {p q n lp lq ap aq : Int} (hk : Kp w W) (h : WK w v p q n lp lq ap aq) : WK W v p q n lp lq ap aq := h.soft (Sf.keep hk)
theorem WK.rr {w : World} {b4 : Bool} {ao4 : Option Addr} {n4 c4 : Nat} {b5 : Bool} {ao5 : Option Addr} {n5 c5 : Nat} {b6 : Bool} {ao6 : Option Addr} {n6 c6 : Nat} {b7 : Bool} {ao7 : Option Addr} {n7 c7 : Nat} {b8 : Bool} {ao8 : Option Addr} {n8 c8 : Nat} {b9 : Bool} {ao9 : Option Addr} {n9 c9 : Nat} {b10 : Bool} {ao10 : Option Addr} {n10 c10 : Nat} {b11 : Bool} {ao11 : Option Addr} {n11 c11 : Nat} {p q n lp lq ap aq : Int} (h : WK w (.agg #[.bool b4, .slice ao4 n4 c4, .bool b5, .slice ao5 n5 c5, .bool b6, .slice ao6 n6 c6, .bool b7, .slice ao7 n7 c7, .bool b8, .slice ao8 n8 c8, .bool b9, .slice ao9 n9 c9, .bool b10, .slice ao10 n10 c10, .bool b11, .slice ao11 n11 c11]) p q n lp lq ap aq) : RR w (.agg #[.bool b4, .slice ao4 n4 c4, .bool b5, .slice ao5 n5 c5, .bool b6, .slice ao6 n6 c6, .bool b7, .slice ao7 n7 c7]) p q n ∧ WN w (.agg #[.bool b8, .slice ao8 n8 c8]) lp ∧ WN w (.agg #[.bool b9, .slice ao9 n9 c9]) lq := by
 obtain ⟨_, _, _, _, _, _, _, _, _, _, _, _, _, _, _, _, _, _, _, _, _, _, _, _, _, _, _, _, _, _, _, _, eW, g1, g2, g3, g4, g5, g6, _, _⟩ := h
 simp only [Value.agg.injEq, Array.mk.injEq, List.cons.injEq, Value.bool.injEq, Value.slice.injEq] at eW
 obtain ⟨rfl, ⟨rfl, rfl, rfl⟩, rfl, ⟨rfl, rfl, rfl⟩, rfl, ⟨rfl, rfl, rfl⟩, rfl, ⟨rfl, rfl, rfl⟩, rfl, ⟨rfl, rfl, rfl⟩, rfl, ⟨rfl, rfl, rfl⟩, _⟩ := eW
 exact ⟨⟨_, _, _, _, _, _, _, _, _, _, _, _, _, _, _, _, rfl, g1, g2, g3, g4⟩, g5, g6⟩

end Go.Proofs.YtjahbjjekednfaaDoor
