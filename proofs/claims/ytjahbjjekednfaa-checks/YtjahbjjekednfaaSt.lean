import Derived.Test.YtjahbjjekednfaaSoft
/-! A struct of 2 or of 7 cells, written whole. -/
namespace Go.Proofs.Ytjahbjjekednfaa
open Go.RowKit

theorem sf2 {E t : TypeId} {w : World} {A : Nat} {cs : Array Value} (x0 x1 : Value) (h : Blk w A cs t) (ht : t ≠ E) : Sf E w ((w.setCell ⟨A, 0, none⟩ x0).setCell ⟨A, 1, none⟩ x1) :=
  (Sf.set (t := t) (c := A) (o := 1) (y := x1) (Sf.set (t := t) (c := A) (o := 0) (y := x0) (Sf.refl E w) h.elem ht) (by simp only [elemOf_setCell]; exact h.elem) ht)
theorem kp2 {a w : World} {A : Nat} (x0 x1 : Value) (h : Kp a w) (hA : a.heap.size ≤ A) : Kp a ((w.setCell ⟨A, 0, none⟩ x0).setCell ⟨A, 1, none⟩ x1) :=
  (Below.setCell (Below.setCell h (p := ⟨A, 0, none⟩) hA x0) (p := ⟨A, 1, none⟩) hA x1)
theorem ot2 {w : World} {A b : Nat} {cs : Array Value} {t : TypeId} (x0 x1 : Value) (h : Blk w b cs t) (hb : b ≠ A) : Blk ((w.setCell ⟨A, 0, none⟩ x0).setCell ⟨A, 1, none⟩ x1) b cs t :=
  (Blk.other (c := A) (o := 1) (y := x1) (Blk.other (c := A) (o := 0) (y := x0) h hb) hb)
theorem bl2 {w : World} {A : Nat} {t : TypeId} {y0 y1 : Value} (x0 x1 : Value) (h : Blk w A #[y0, y1] t) : Blk ((w.setCell ⟨A, 0, none⟩ x0).setCell ⟨A, 1, none⟩ x1) A #[x0, x1] t := by
  have h' := (Blk.set (o := 1) (y := x1) (Blk.set (o := 0) (y := x0) h))
  simp only [List.setIfInBounds_toArray, List.set_cons_zero, List.set_cons_succ] at h'
  exact h'
theorem sf7 {E t : TypeId} {w : World} {A : Nat} {cs : Array Value} (x0 x1 x2 x3 x4 x5 x6 : Value) (h : Blk w A cs t) (ht : t ≠ E) : Sf E w (((((((w.setCell ⟨A, 0, none⟩ x0).setCell ⟨A, 1, none⟩ x1).setCell ⟨A, 2, none⟩ x2).setCell ⟨A, 3, none⟩ x3).setCell ⟨A, 4, none⟩ x4).setCell ⟨A, 5, none⟩ x5).setCell ⟨A, 6, none⟩ x6) :=
  (Sf.set (t := t) (c := A) (o := 6) (y := x6) (Sf.set (t := t) (c := A) (o := 5) (y := x5) (Sf.set (t := t) (c := A) (o := 4) (y := x4) (Sf.set (t := t) (c := A) (o := 3) (y := x3) (Sf.set (t := t) (c := A) (o := 2) (y := x2) (Sf.set (t := t) (c := A) (o := 1) (y := x1) (Sf.set (t := t) (c := A) (o := 0) (y := x0) (Sf.refl E w) h.elem ht) (by simp only [elemOf_setCell]; exact h.elem) ht) (by simp only [elemOf_setCell]; exact h.elem) ht) (by simp only [elemOf_setCell]; exact h.elem) ht) (by simp only [elemOf_setCell]; exact h.elem) ht) (by simp only [elemOf_setCell]; exact h.elem) ht) (by simp only [elemOf_setCell]; exact h.elem) ht)
theorem kp7 {a w : World} {A : Nat} (x0 x1 x2 x3 x4 x5 x6 : Value) (h : Kp a w) (hA : a.heap.size ≤ A) : Kp a (((((((w.setCell ⟨A, 0, none⟩ x0).setCell ⟨A, 1, none⟩ x1).setCell ⟨A, 2, none⟩ x2).setCell ⟨A, 3, none⟩ x3).setCell ⟨A, 4, none⟩ x4).setCell ⟨A, 5, none⟩ x5).setCell ⟨A, 6, none⟩ x6) :=
  (Below.setCell (Below.setCell (Below.setCell (Below.setCell (Below.setCell (Below.setCell (Below.setCell h (p := ⟨A, 0, none⟩) hA x0) (p := ⟨A, 1, none⟩) hA x1) (p := ⟨A, 2, none⟩) hA x2) (p := ⟨A, 3, none⟩) hA x3) (p := ⟨A, 4, none⟩) hA x4) (p := ⟨A, 5, none⟩) hA x5) (p := ⟨A, 6, none⟩) hA x6)
theorem ot7 {w : World} {A b : Nat} {cs : Array Value} {t : TypeId} (x0 x1 x2 x3 x4 x5 x6 : Value) (h : Blk w b cs t) (hb : b ≠ A) : Blk (((((((w.setCell ⟨A, 0, none⟩ x0).setCell ⟨A, 1, none⟩ x1).setCell ⟨A, 2, none⟩ x2).setCell ⟨A, 3, none⟩ x3).setCell ⟨A, 4, none⟩ x4).setCell ⟨A, 5, none⟩ x5).setCell ⟨A, 6, none⟩ x6) b cs t :=
  (Blk.other (c := A) (o := 6) (y := x6) (Blk.other (c := A) (o := 5) (y := x5) (Blk.other (c := A) (o := 4) (y := x4) (Blk.other (c := A) (o := 3) (y := x3) (Blk.other (c := A) (o := 2) (y := x2) (Blk.other (c := A) (o := 1) (y := x1) (Blk.other (c := A) (o := 0) (y := x0) h hb) hb) hb) hb) hb) hb) hb)
theorem bl7 {w : World} {A : Nat} {t : TypeId} {y0 y1 y2 y3 y4 y5 y6 : Value} (x0 x1 x2 x3 x4 x5 x6 : Value) (h : Blk w A #[y0, y1, y2, y3, y4, y5, y6] t) : Blk (((((((w.setCell ⟨A, 0, none⟩ x0).setCell ⟨A, 1, none⟩ x1).setCell ⟨A, 2, none⟩ x2).setCell ⟨A, 3, none⟩ x3).setCell ⟨A, 4, none⟩ x4).setCell ⟨A, 5, none⟩ x5).setCell ⟨A, 6, none⟩ x6) A #[x0, x1, x2, x3, x4, x5, x6] t := by
  have h' := (Blk.set (o := 6) (y := x6) (Blk.set (o := 5) (y := x5) (Blk.set (o := 4) (y := x4) (Blk.set (o := 3) (y := x3) (Blk.set (o := 2) (y := x2) (Blk.set (o := 1) (y := x1) (Blk.set (o := 0) (y := x0) h)))))))
  simp only [List.setIfInBounds_toArray, List.set_cons_zero, List.set_cons_succ] at h'
  exact h'

end Go.Proofs.Ytjahbjjekednfaa
