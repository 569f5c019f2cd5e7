import Derived.Test.YtjahbjjekednfaaSoft
import Derived.Deep.RegionHeld3
/-! A struct of 2 or of 7 cells, written whole. -/
namespace Go.Proofs.Ytjahbjjekednfaa
open Go.RowKit

theorem sf2 {E t : TypeId} {w : World} {A : Nat} {cs : Array Value} (x0 x1 : Value) (h : Blk w A cs t) (ht : t ≠ E) : Sf E w ((w.setCell ⟨A, 0, none⟩ x0).setCell ⟨A, 1, none⟩ x1) :=
  (Sf.set (t := t) (c := A) (o := 1) (y := x1) (Sf.set (t := t) (c := A) (o := 0) (y := x0) (Sf.refl E w) h.elem ht) (by simp only [elemOf_setCell]; exact h.elem) ht)
theorem kp2 {a w : World} {A : Nat} (x0 x1 : Value) (h : Kp a w) (hA : a.heap.size ≤ A) : Kp a ((w.setCell ⟨A, 0, none⟩ x0).setCell ⟨A, 1, none⟩ x1) :=
  (Below.setCell (Below.setCell h (p := ⟨A, 0, none⟩) hA x0) (p := ⟨A, 1, none⟩) hA x1)
theorem ot2 {w : World} {A b : Nat} {cs : Array Value} {t : TypeId} (x0 x1 : Value) (h : Blk w b cs t) (hb : b ≠ A) : Blk ((w.setCell ⟨A, 0, none⟩ x0).setCell ⟨A, 1, none⟩ x1) b cs t :=
  (Blk.other (c := A) (o := 1) (y := x1) (Blk.other (c := A) (o := 0) (y := x0) h hb) hb)
theorem bl2 {w : World} {A : Nat} {t : TypeId} {y0 y1 : Value} (x0 x1 : Value) (h : Blk w A #[y0, y1] t) : Blk ((w.setCell ⟨A, 0, none⟩ x0).setCell ⟨A, 1, none⟩ x1) A #[x0, x1] t := by
  have h' := (Blk.set (o := 1) (y := x1) (Blk.set (o := 0) (y := x0) h))
  simp only [List.setIfInBounds_toArray, List.set_cons_zero, List.set_cons_succ] at h'
  exact h'
theorem sf7 {E t : TypeId} {w : World} {A : Nat} {cs : Array Value} (x0 x1 x2 x3 x4 x5 x6 : Value) (h : Blk w A cs t) (ht : t ≠ E) : Sf E w (((((((w.setCell ⟨A, 0, none⟩ x0).setCell ⟨A, 1, none⟩ x1).setCell ⟨A, 2, none⟩ x2).setCell ⟨A, 3, none⟩ x3).setCell ⟨A, 4, none⟩ x4).setCell ⟨A, 5, none⟩ x5).setCell ⟨A, 6, none⟩ x6) :=
  (Sf.set (t := t) (c := A) (o := 6) (y := x6) (Sf.set (t := t) (c := A) (o := 5) (y := x5) (Sf.set (t := t) (c := A) (o := 4) (y := x4) (Sf.set (t := t) (c := A) (o := 3) (y := x3) (Sf.set (t := t) (c := A) (o := 2) (y := x2) (Sf.set (t := t) (c := A) (o := 1) (y := x1) (Sf.set (t := t) (c := A) (o := 0) (y := x0) (Sf.refl E w) h.elem ht) (by simp only [elemOf_setCell]; exact h.elem) ht) (by simp only [elemOf_setCell]; exact h.elem) ht) (by simp only [elemOf_setCell]; exact h.elem) ht) (by simp only [elemOf_setCell]; exact h.elem) ht) (by simp only [elemOf_setCell]; exact h.elem) ht) (by simp only [elemOf_setCell]; exact h.elem) ht)
theorem kp7 {a w : World} {A : Nat} (x0 x1 x2 x3 x4 x5 x6 : Value) (h : Kp a w) (hA : a.heap.size ≤ A) : Kp a (((((((w.setCell ⟨A, 0, none⟩ x0).setCell ⟨A, 1, none⟩ x1).setCell ⟨A, 2, none⟩ x2).setCell ⟨A, 3, none⟩ x3).setCell ⟨A, 4, none⟩ x4).setCell ⟨A, 5, none⟩ x5).setCell ⟨A, 6, none⟩ x6) :=
  (Below.setCell (Below.setCell (Below.setCell (Below.setCell (Below.setCell (Below.setCell (Below.setCell h (p := ⟨A, 0, none⟩) hA x0) (p := ⟨A, 1, none⟩) hA x1) (p := ⟨A, 2, none⟩) hA x2) (p := ⟨A, 3, none⟩) hA x3) (p := ⟨A, 4, none⟩) hA x4) (p := ⟨A, 5, none⟩) hA x5) (p := ⟨A, 6, none⟩) hA x6)
theorem ot7 {w : World} {A b : Nat} {cs : Array Value} {t : TypeId} (x0 x1 x2 x3 x4 x5 x6 : Value) (h : Blk w b cs t) (hb : b ≠ A) : Blk (((((((w.setCell ⟨A, 0, none⟩ x0).setCell ⟨A, 1, none⟩ x1).setCell ⟨A, 2, none⟩ x2).setCell ⟨A, 3, none⟩ x3).setCell ⟨A, 4, none⟩ x4).setCell ⟨A, 5, none⟩ x5).setCell ⟨A, 6, none⟩ x6) b cs t :=
  (Blk.other (c := A) (o := 6) (y := x6) (Blk.other (c := A) (o := 5) (y := x5) (Blk.other (c := A) (o := 4) (y := x4) (Blk.other (c := A) (o := 3) (y := x3) (Blk.other (c := A) (o := 2) (y := x2) (Blk.other (c := A) (o := 1) (y := x1) (Blk.other (c := A) (o := 0) (y := x0) h hb) hb) hb) hb) hb) hb) hb)
theorem bl7 {w : World} {A : Nat} {t : TypeId} {y0 y1 y2 y3 y4 y5 y6 : Value} (x0 x1 x2 x3 x4 x5 x6 : Value) (h : Blk w A #[y0, y1, y2, y3, y4, y5, y6] t) : Blk (((((((w.setCell ⟨A, 0, none⟩ x0).setCell ⟨A, 1, none⟩ x1).setCell ⟨A, 2, none⟩ x2).setCell ⟨A, 3, none⟩ x3).setCell ⟨A, 4, none⟩ x4).setCell ⟨A, 5, none⟩ x5).setCell ⟨A, 6, none⟩ x6) A #[x0, x1, x2, x3, x4, x5, x6] t := by
  have h' := (Blk.set (o := 6) (y := x6) (Blk.set (o := 5) (y := x5) (Blk.set (o := 4) (y := x4) (Blk.set (o := 3) (y := x3) (Blk.set (o := 2) (y := x2) (Blk.set (o := 1) (y := x1) (Blk.set (o := 0) (y := x0) h)))))))
  simp only [List.setIfInBounds_toArray, List.set_cons_zero, List.set_cons_succ] at h'
  exact h'
theorem stS2 {E t : TypeId} {w : World} {A : Nat} {cs : Array Value} (x0 x1 : Value) (h : Blk w A cs t) (ht : t ≠ E) : Sf E w ((w.setCell ⟨A, 0, none⟩ x0).setCell ⟨A, 1, none⟩ x1) := sf2 x0 x1 h ht
theorem stK2 {a w : World} {A : Nat} (x0 x1 : Value) (h : Kp a w) (hA : a.heap.size ≤ A) : Kp a ((w.setCell ⟨A, 0, none⟩ x0).setCell ⟨A, 1, none⟩ x1) := kp2 x0 x1 h hA
theorem stS7 {E t : TypeId} {w : World} {A : Nat} {cs : Array Value} (x0 x1 x2 x3 x4 x5 x6 : Value) (h : Blk w A cs t) (ht : t ≠ E) : Sf E w (((((((w.setCell ⟨A, 0, none⟩ x0).setCell ⟨A, 1, none⟩ x1).setCell ⟨A, 2, none⟩ x2).setCell ⟨A, 3, none⟩ x3).setCell ⟨A, 4, none⟩ x4).setCell ⟨A, 5, none⟩ x5).setCell ⟨A, 6, none⟩ x6) := sf7 x0 x1 x2 x3 x4 x5 x6 h ht
theorem stK7 {a w : World} {A : Nat} (x0 x1 x2 x3 x4 x5 x6 : Value) (h : Kp a w) (hA : a.heap.size ≤ A) : Kp a (((((((w.setCell ⟨A, 0, none⟩ x0).setCell ⟨A, 1, none⟩ x1).setCell ⟨A, 2, none⟩ x2).setCell ⟨A, 3, none⟩ x3).setCell ⟨A, 4, none⟩ x4).setCell ⟨A, 5, none⟩ x5).setCell ⟨A, 6, none⟩ x6) := kp7 x0 x1 x2 x3 x4 x5 x6 h hA

end Go.Proofs.Ytjahbjjekednfaa

/-! A region that draws its order and stores, at its very end, into a cell that it has read: a condition S that need not outlive the last operation. -/
namespace Go.Proofs.Ytjahbjjekednfaa
open Go

/-- What the laws of a region are written out with. -/
theorem sq : (∀ (α : Type) (xs : List α) (i : Nat) (h : i < xs.toArray.size), xs.toArray[i] = xs[i]'(by simpa using h)) ∧ (∀ (α : Type) (a : α) (l : List α) (h : 0 < (a :: l).length), (a :: l)[0] = a) ∧
  (∀ (α : Type) (a : α) (l : List α) (i : Nat) (h : i + 1 < (a :: l).length), (a :: l)[i + 1] = l[i]'(Nat.lt_of_succ_lt_succ h)) ∧
  (∀ (α : Type) (l : List α) (i : Nat) (a : α), l.toArray.setIfInBounds i a = (l.set i a).toArray) ∧ (∀ (α : Type) (a b : α) (l : List α), (a :: l).set 0 b = b :: l) ∧ (∀ (α : Type) (a b : α) (l : List α) (i : Nat), (a :: l).set (i + 1) b = a :: l.set i b) ∧
  (∀ (a : Act) (d : Option Tmp) (v : Value), a.put d v = match d with | some t => { a with tmps := a.tmps.setIfInBounds t v } | none => a) :=
 ⟨fun _ _ _ _ => by simp, fun _ _ _ _ => rfl, fun _ _ _ _ _ => rfl, fun _ _ _ _ => by simp, fun _ _ _ _ => rfl, fun _ _ _ _ _ => rfl, fun a d v => by cases d <;> rfl⟩

section
variable {P : Program} {ops : Array Oper} {Q : Exit → Act → World → Prop} {md : Region.Mode} {S : World → Prop}

/-- Is any operation left? -/
def left (listed : Array Bool) : Bool := listed.any (fun b => !b)
theorem left_of {listed : Array Bool} {k : Nat} (h : listed.getD k true = false) : left listed = true := by
 unfold left
 rcases Nat.lt_or_ge k listed.size with h' | h'
 ·rw [Array.any_eq_true]
  refine ⟨k, h', ?_⟩
  simp [h'] at h
  simp [h]
 ·simp [Array.getD, Nat.not_lt.mpr h'] at h

/-- Whatever order is picked from here on, and S holds behind every operation but the last. -/
def wpAnyL (P : Program) (md : Region.Mode) (ops : Array Oper) (Q : Exit → Act → World → Prop) (S : World → Prop) : Nat → Array Bool → Act → World → Prop
 | 0, listed, a, w => Region.ready md ops listed = [] ∧ Q .normal a w
 | fuel + 1, listed, a, w =>
  (Region.ready md ops listed = [] → Q .normal a w) ∧
  ∀ i ∈ Region.ready md ops listed, wpOp P ops Q i (fun a' w' => (left (listed.setIfInBounds i true) = true → S w') ∧ wpAnyL P md ops Q S fuel (listed.setIfInBounds i true) a' w') a w

theorem wpAny_of_l : ∀ (fuel : Nat) (listed : Array Bool) (a : Act) (w : World), wpAnyL P md ops Q S fuel listed a w → wpAny P md ops Q fuel listed a w
 | 0, _, _, _, h => h
 | fuel + 1, _, _, _, h => ⟨h.1, fun i hi => wpOp_mono (fun a' w' h' => wpAny_of_l fuel _ a' w' h'.2) (h.2 i hi)⟩

/-- Somebody who has not come up yet waits for i. -/
def Awaited (md : Region.Mode) (ops : Array Oper) (listed : Array Bool) (i : Nat) : Prop :=
 ∃ k ok, ops[k]? = some ok ∧ k ≠ i ∧ listed.getD k true = false ∧ ∃ e ∈ ok.after, Region.binds md e = true ∧ e.on = i

theorem wpAnyL_first {i : Nat} {oi : Oper} {v : Value} (hi : ops[i]? = some oi) (hsel : ∀ (j : Nat) (o : Oper) cs b, ops[j]? = some o → o.op ≠ .select cs b)
  (hQ : ∀ c a w, Q (.panic c) (a.put oi.dst v) w → Q (.panic c) a w) :
  ∀ (fuel : Nat) (listed : Array Bool) (a : Act) (w : World),
   (∀ j oj, ops[j]? = some oj → j ≠ i → listed.getD j true = false → (∀ e ∈ oj.after, Region.binds md e = true → e.on ≠ i) → oi.apart ops oj = true) →
   Awaited md ops listed i →
   i ∈ Region.ready md ops listed → YieldsIf P ops S oi v a → S w →
   wpAnyL P md ops Q S fuel (listed.setIfInBounds i true) (a.put oi.dst v) w → wpAnyL P md ops Q S (fuel + 1) listed a w := by
 intro fuel
 induction fuel with
 | zero =>
  intro listed a w _ _ hr hy hS H
  refine ⟨fun h => (by rw [h] at hr; cases hr), fun j hj => ?_⟩
  by_cases hji : j = i
  ·subst hji; exact hy.wpOp hi hS ⟨fun _ => hS, H⟩
  ·have := ready_mono hj hji
   rw [H.1] at this
   cases this
 | succ fuel ih =>
  intro listed a w hfree hwait hr hy hS H
  refine ⟨fun h => (by rw [h] at hr; cases hr), fun j hj => ?_⟩
  by_cases hji : j = i
  ·subst hji; exact hy.wpOp hi hS ⟨fun _ => hS, H⟩
  ·have h1 := H.2 j (ready_mono hj hji)
   obtain ⟨hjun, oj, hoj, hall⟩ := mem_ready.1 hj
   have hnot : ∀ e ∈ oj.after, Region.binds md e = true → e.on ≠ i := fun e he hb heq => by
    have h1 := hall e he hb
    have h0 := (mem_ready.1 hr).1
    rw [heq] at h1
    rcases Nat.lt_or_ge i listed.size with h' | h'
    ·simp [h'] at h0 h1; rw [h0] at h1; cases h1
    ·simp [Array.getElem?_eq_none h'] at h1
   obtain ⟨k, ok, hk1, hk2, hk3, e, he1, he2, he3⟩ := hwait
   have hkj : j ≠ k := fun e' => by
    subst e'
    rw [hoj] at hk1
    cases hk1
    exact hnot e he1 he2 he3
   have hk4 : (listed.setIfInBounds j true).getD k true = false := by rw [getD_set_ne true hkj]; exact hk3
   have hk5 : ((listed.setIfInBounds i true).setIfInBounds j true).getD k true = false := by
    rw [getD_set_ne true hkj, getD_set_ne true (Ne.symm hk2)]; exact hk3
   have h2 := wpOp_putIf hoj (hfree j oj hoj hji hjun hnot) (fun cs b => hsel i oi cs b hi) (fun cs b => hsel j oj cs b hoj) hQ hy h1
   have hfree' : ∀ k ok, ops[k]? = some ok → k ≠ i → (listed.setIfInBounds j true).getD k true = false →
     (∀ e ∈ ok.after, Region.binds md e = true → e.on ≠ i) → oi.apart ops ok = true := fun k ok hk hki hun hno => by
    refine hfree k ok hk hki ?_ hno
    by_cases hjk : j = k
    ·subst hjk; exact hjun
    ·rw [getD_set_ne true hjk] at hun; exact hun
   refine wpOp_mono (fun a' w' h3 => ⟨fun _ => h3.2.1 (left_of hk5), ih (listed.setIfInBounds j true) a' w' hfree' ⟨k, ok, hk1, hk2, hk4, e, he1, he2, he3⟩ (ready_mono hr (Ne.symm hji)) h3.1 (h3.2.1 (left_of hk5)) ?_⟩) h2
   rw [Array.setIfInBounds_comm _ _ hji]
   exact h3.2.2

/-- Is k one who waits for i? -/
def awaits (md : Region.Mode) (ops : Array Oper) (listed : Array Bool) (i k : Nat) : Bool :=
 match ops[k]? with
 | none => false
 | some ok => k != i && !(listed.getD k true) && ok.after.any (fun e => Region.binds md e && e.on == i)
theorem awaits_spec {listed : Array Bool} {i k : Nat} (h : awaits md ops listed i k = true) : Awaited md ops listed i := by
 unfold awaits at h
 split at h
 ·cases h
 ·rename_i ok hk
  simp only [Bool.and_eq_true, bne_iff_ne, ne_eq, Bool.not_eq_true'] at h
  obtain ⟨⟨h1, h2⟩, h3⟩ := h
  rw [Array.any_eq_true] at h3
  obtain ⟨j, hj, h4⟩ := h3
  simp only [Bool.and_eq_true, beq_iff_eq] at h4
  exact ⟨k, ok, hk, h1, h2, ok.after[j], Array.getElem_mem hj, h4.1, h4.2⟩

theorem wpAnyL_take {i k : Nat} {oi : Oper} {v : Value} {fuel : Nat} {listed : Array Bool} {a : Act} {w : World} (hi : ops[i]? = some oi)
  (hs : Region.noSelect ops = true) (hf : Region.free md ops listed i = true) (hr : (Region.ready md ops listed).contains i = true) (hw : awaits md ops listed i k = true)
  (hQ : ∀ c a w, Q (.panic c) (a.put oi.dst v) w → Q (.panic c) a w) (hy : YieldsIf P ops S oi v a) (hS : S w)
  (h : wpAnyL P md ops Q S fuel (listed.setIfInBounds i true) (a.put oi.dst v) w) : wpAnyL P md ops Q S (fuel + 1) listed a w :=
 wpAnyL_first hi (Region.noSelect_spec hs) hQ fuel listed a w (Region.free_spec hi hf) (awaits_spec hw) (by simpa using hr) hy hS h

/-- One alone may come up, and it is not the last. -/
theorem wpAnyL_one {i : Nat} {o : Oper} {fuel : Nat} {listed : Array Bool} {a : Act} {w : World} (ho : ops[i]? = some o) (hr : Region.ready md ops listed = [i])
  (h : ∀ K' : Act → World → Prop, Shut (∀ a w, S w → (S w → wpAnyL P md ops Q S fuel (listed.setIfInBounds i true) a w) → K' a w) → if Region.wanted o (yielded ops a.tmps) = true then Oper.wp P o a w K' Q else K' (a.put o.dst undef) w) :
  wpAnyL P md ops Q S (fuel + 1) listed a w := by
 refine ⟨fun h0 => absurd (hr ▸ h0) (by simp), ?_⟩
 rw [hr]
 intro j hj
 rcases List.mem_singleton.mp hj with rfl
 exact wpOp_step ho (fun K' hK => h K' (fun a w hS hW => hK a w ⟨fun _ => hS, hW hS⟩))

/-- All that may come up. -/
def AllReadyL (P : Program) (md : Region.Mode) (ops : Array Oper) (Q : Exit → Act → World → Prop) (S : World → Prop) (fuel : Nat) (listed : Array Bool) (a : Act) (w : World) (rs : List Nat) : Prop :=
 ∀ i ∈ rs, wpOp P ops Q i (fun a' w' => (left (listed.setIfInBounds i true) = true → S w') ∧ wpAnyL P md ops Q S fuel (listed.setIfInBounds i true) a' w') a w
theorem AllReadyL.nil {fuel : Nat} {listed : Array Bool} {a : Act} {w : World} : AllReadyL P md ops Q S fuel listed a w [] := fun _ h => by cases h
theorem AllReadyL.cons {fuel : Nat} {listed : Array Bool} {a : Act} {w : World} {i : Nat} {o : Oper} {rs : List Nat} (ho : ops[i]? = some o)
  (h : ∀ K' : Act → World → Prop, Shut (∀ a w, S w → (S w → wpAnyL P md ops Q S fuel (listed.setIfInBounds i true) a w) → K' a w) → if Region.wanted o (yielded ops a.tmps) = true then Oper.wp P o a w K' Q else K' (a.put o.dst undef) w)
  (hs : AllReadyL P md ops Q S fuel listed a w rs) : AllReadyL P md ops Q S fuel listed a w (i :: rs) := fun j hj => by
 rcases List.mem_cons.1 hj with rfl | hj
 ·exact wpOp_step ho (fun K' hK => h K' (fun a w hS hW => hK a w ⟨fun _ => hS, hW hS⟩))
 ·exact hs j hj
theorem wpAnyL_ready {rs : List Nat} {fuel : Nat} {listed : Array Bool} {a : Act} {w : World} (hr : Region.ready md ops listed = rs) (hne : rs ≠ [])
  (h : AllReadyL P md ops Q S fuel listed a w rs) : wpAnyL P md ops Q S (fuel + 1) listed a w := by
 subst hr
 exact ⟨fun h0 => absurd h0 hne, h⟩

/-- The last one. -/
theorem wpAnyL_last {i : Nat} {o : Oper} {fuel : Nat} {listed : Array Bool} {a : Act} {w : World} (ho : ops[i]? = some o) (hr : Region.ready md ops listed = [i]) (hl : left (listed.setIfInBounds i true) = false) (hd : Region.ready md ops (listed.setIfInBounds i true) = [])
  (h : ∀ K' : Act → World → Prop, Shut (∀ a w, Q .normal a w → K' a w) → if Region.wanted o (yielded ops a.tmps) = true then Oper.wp P o a w K' Q else K' (a.put o.dst undef) w) :
  wpAnyL P md ops Q S (fuel + 1) listed a w := by
 have hdone : ∀ a' w', Q .normal a' w' → wpAnyL P md ops Q S fuel (listed.setIfInBounds i true) a' w' := by
  intro a' w' hq
  cases fuel with
  | zero => exact ⟨hd, hq⟩
  | succ f => exact ⟨fun _ => hq, by rw [hd]; simp⟩
 refine ⟨fun h0 => absurd (hr ▸ h0) (by simp), ?_⟩
 rw [hr]
 intro j hj
 rcases List.mem_singleton.mp hj with rfl
 exact wpOp_step ho (fun K' hK => h K' (fun a w hq => hK a w ⟨fun hh => (by rw [hl] at hh; cases hh), hdone a w hq⟩))

theorem wp_region_l {id : Nat} {a : Act} {w : World} (hm : P.follows .mixedOrders = true) (hS : S w.drew)
  (h : S w.drew → wpAnyL P .any ops Q S ops.size (Array.replicate ops.size false) a w.drew) : (Code.region id ops true).wp P Q a w :=
 wp_region_any hm (wpAny_of_l _ _ _ _ (h hS))

/-- Take number 'i' first; what is asked besides is found by reckoning. -/
theorem wpAnyL_tk {i k : Nat} {oi : Oper} {v : Value} {fuel : Nat} {listed : Array Bool} {a : Act} {w : World} (hi : ops[i]? = some oi) (hy : ∀ w, S w → (execOp a.eval oi).run P w = .ok (.value v) w) (hS : S w)
  (h : wpAnyL P md ops Q S fuel (listed.setIfInBounds i true) (a.put oi.dst v) w)
  (hs : Region.noSelect ops = true := by kernel_rfl) (hf : Region.free md ops listed i = true := by kernel_rfl) (hr : (Region.ready md ops listed).contains i = true := by kernel_rfl) (hw : awaits md ops listed i k = true := by kernel_rfl)
  (hQ : ∀ c a w, Q (.panic c) (a.put oi.dst v) w → Q (.panic c) a w := by exact fun _ _ _ h => h) (hg : Region.wanted oi (yielded ops a.tmps) = true := by rfl) : wpAnyL P md ops Q S (fuel + 1) listed a w :=
 wpAnyL_take hi hs hf hr hw hQ (Or.inl ⟨hg, hy⟩) hS h
/-- One alone may come up, and it is not the last. -/
theorem wpAnyL_on {i : Nat} {o : Oper} {fuel : Nat} {listed : Array Bool} {a : Act} {w : World} (ho : ops[i]? = some o)
  (h : ∀ K' : Act → World → Prop, Shut (∀ a w, S w → (S w → wpAnyL P md ops Q S fuel (listed.setIfInBounds i true) a w) → K' a w) → if Region.wanted o (yielded ops a.tmps) = true then Oper.wp P o a w K' Q else K' (a.put o.dst undef) w)
  (hr : Region.ready md ops listed = [i] := by kernel_rfl) : wpAnyL P md ops Q S (fuel + 1) listed a w := wpAnyL_one ho hr h

end
end Go.Proofs.Ytjahbjjekednfaa
