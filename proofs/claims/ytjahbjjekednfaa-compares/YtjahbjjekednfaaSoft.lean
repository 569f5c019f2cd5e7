import Derived.Test.YtjahbjjekednfaaW8
/-! What becomes of rows of integers when cells of other blocks are written. -/
namespace Go.Proofs.Ytjahbjjekednfaa
open Go.RowKit

/-- All blocks of elements E are as they were. -/
structure Sf (E : TypeId) (w W : World) : Prop where
 blk : ∀ k, elemOf w k = some E → W.heap[k]? = w.heap[k]?

theorem elemOf_drew (w : World) (b : Nat) : elemOf w.drew b = elemOf w b := rfl
theorem Sf.refl (E : TypeId) (w : World) : Sf E w w := ⟨fun _ _ => rfl⟩
theorem Sf.elem {E : TypeId} {w W : World} (h : Sf E w W) {k : Nat} (hk : elemOf w k = some E) : elemOf W k = some E := by rw [elemOf_block (h.blk k hk), hk]
theorem Sf.trans {E : TypeId} {a b c : World} (h : Sf E a b) (k : Sf E b c) : Sf E a c := ⟨fun i hi => (k.blk i (h.elem hi)).trans (h.blk i hi)⟩
theorem Sf.keep {E : TypeId} {w W : World} (h : Kp w W) : Sf E w W := ⟨fun k hk => h.block k (elemOf_lt hk)⟩
theorem Sf.alloc {E : TypeId} {w W : World} (h : Sf E w W) (o : Obj) : Sf E w (W.alloc o) := h.trans (Sf.keep (kp_alloc _ _))
theorem Sf.drew {E : TypeId} {w W : World} (h : Sf E w W) : Sf E w W.drew := h.trans (Sf.keep (Below.refl _ _).drew)
theorem Sf.set {E t : TypeId} {w W : World} (h : Sf E w W) {c o : Nat} {y : Value} (hc : elemOf W c = some t) (ht : t ≠ E) : Sf E w (W.setCell ⟨c, o, none⟩ y) :=
 h.trans ⟨fun k hk => Below.heap_setCell W ⟨c, o, none⟩ y k (fun e => by
  have e' : k = c := e
  subst e'
  rw [hc] at hk
  exact ht (Option.some.inj hk))⟩
theorem Sf.but {E : TypeId} {c : Nat} {w W : World} (h : KeepsBut c w W) (hc : elemOf w c ≠ some E) : Sf E w W :=
 ⟨fun k hk => h.block k (elemOf_lt hk) (fun e => hc (by rw [← e]; exact hk))⟩

theorem Row.soft {w W : World} {E : TypeId} {v : Value} {l : List Int} (hk : Sf E w W) (h : Row w E v l) : Row W E v l := by
 obtain ⟨ao, cap, b, off, h1, h2, h3, h4, h5, h6⟩ := h
 refine ⟨ao, cap, b, off, h1, h2, h3, h4, fun hp => ⟨(h5 hp).1, hk.elem (h5 hp).2⟩, fun i hi => ?_⟩
 rw [World.cell?_of_block (w := w) (hk.blk b (h5 (by omega)).2)]
 exact h6 i hi
theorem Rp.soft {E : TypeId} {B : Int} {w W : World} {v : Value} {x : Int} (hk : Sf E w W) (h : Rp E B w v x) : Rp E B W v x := by
 obtain ⟨l, h1, h2⟩ := h
 exact ⟨l, h1.soft hk, h2⟩
theorem WN.soft {w W : World} {v : Value} {z : Int} (hk : Sf 2 w W) (h : WN w v z) : WN W v z := by
 obtain ⟨ao, n, c, h1, h2⟩ := h
 exact ⟨ao, n, c, h1, h2.soft hk⟩
theorem WN.keep {w W : World} {v : Value} {z : Int} (hk : Kp w W) (h : WN w v z) : WN W v z := h.soft (Sf.keep hk)

theorem elemOf_at3 (w : World) (o p q : Obj) (c : Array Value) (t : TypeId) : elemOf ((((w.alloc o).alloc p).alloc q).alloc (.cells c t)) (w.heap.size + 3) = some t := by
 have := elemOf_alloc_new (((w.alloc o).alloc p).alloc q) c t
 simpa using this

theorem tdiv_abs (x y : Int) : ((x.tdiv y).natAbs : Int) = (x.natAbs : Int) / (y.natAbs : Int) := by
 rw [Int.natAbs_tdiv]; exact Int.natCast_ediv _ _
theorem tmod_abs (x y : Int) : ((x.tmod y).natAbs : Int) = (x.natAbs : Int) % (y.natAbs : Int) := by
 rw [Int.natAbs_tmod]; simp
theorem tdiv_nn {x y : Int} (h : (x < 0 ∧ y < 0) ∨ (0 ≤ x ∧ 0 ≤ y)) : 0 ≤ x.tdiv y := by
 rcases h with ⟨h1, h2⟩ | ⟨h1, h2⟩
 ·have := Int.tdiv_nonneg (a := -x) (b := -y) (by omega) (by omega)
  rwa [Int.neg_tdiv_neg] at this
 ·exact Int.tdiv_nonneg h1 h2
theorem tdiv_np {x y : Int} (h : (x < 0 ∧ 0 ≤ y) ∨ (0 ≤ x ∧ y < 0)) : x.tdiv y ≤ 0 := by
 rcases h with ⟨h1, h2⟩ | ⟨h1, h2⟩
 ·have := Int.tdiv_nonneg (a := -x) (b := y) (by omega) h2
  rw [Int.neg_tdiv] at this
  omega
 ·have := Int.tdiv_nonneg (a := x) (b := -y) h1 (by omega)
  rw [Int.tdiv_neg] at this
  omega
theorem tmod_nn {x y : Int} (h : 0 ≤ x) : 0 ≤ x.tmod y := Int.tmod_nonneg y h
theorem tmod_np {x y : Int} (h : x < 0) : x.tmod y ≤ 0 := by
 have := Int.tmod_nonneg y (a := -x) (by omega)
 rw [Int.neg_tmod] at this
 omega

end Go.Proofs.Ytjahbjjekednfaa

namespace Go.Proofs.Ytjahbjjekednfaa
open Go.RowKit

/-- Two whole numbers. -/
def RetW2 (w : World) (q r : Int) (e : Ending) (w' : World) : Prop := ∃ u v, e = .returned (.tuple #[u, v]) ∧ WN w' u q ∧ WN w' v r ∧ Kp w w'

theorem Ft.abs {m : Nat} {x : Int} (h : Ft m x) : Ft m (x.natAbs : Int) := by
 unfold Ft at *
 simpa using h

theorem retW2_end {w w1 W : World} {q r : Int} {b b' : Bool} {ao ao' : Option Addr} {n c n' c' : Nat} (h1 : b = decide (q < 0)) (h2 : b' = decide (r < 0)) (hq : Rp 2 1000000000 w1 (.slice ao n c) (q.natAbs : Int)) (hr : Rp 2 1000000000 w1 (.slice ao' n' c') (r.natAbs : Int))
  (hs : Sf 2 w1 W) (hk : Kp w W) : RetW2 w q r (.returned (.tuple #[.agg #[.bool b, .slice ao n c], .agg #[.bool b', .slice ao' n' c']])) W :=
 ⟨_, _, rfl, ⟨ao, n, c, by rw [h1], hq.soft hs⟩, ⟨ao', n', c', by rw [h2], hr.soft hs⟩, hk⟩

set_option maxHeartbeats 1600000 in
theorem divide_tt (x y : Int) (m : Nat) (ao ao' : Option Addr) (n c n' c' : Nat) (w : World) (hs : Rp 2 1000000000 w (.slice ao n c) (x.natAbs : Int)) (hs' : Rp 2 1000000000 w (.slice ao' n' c') (y.natAbs : Int)) (hm : m ≤ 300000000) (fx : Ft m x) (fy : Ft m y) (h1 : x < 0) (h2 : y < 0) :
  Calls Try.prog 69 #[.agg #[.bool true, .slice ao n c], .agg #[.bool true, .slice ao' n' c']] w (RetW2 w (x.tdiv y) (x.tmod y)) := by
 have HB1 := Hid.mk h1
 have HB2 := Hid.mk h2
 clear h1 h2
 go_enter Try.func69, Try.ntmps69
 go_wp2_with fail
 refine (divideLimbs_any (x.natAbs : Int) (y.natAbs : Int) m _ _ _ (hs.keep ((((kp_alloc w _).alloc' _).alloc' _).alloc' _)) (hs'.keep ((((kp_alloc w _).alloc' _).alloc' _).alloc' _)) hm fx.abs fy.abs).mono ?_
 rintro e w1 ⟨v1, v2, rfl, hv1, hv2, hk1⟩
 obtain ⟨ao1, n1, c1, rfl⟩ := hv1.shape
 obtain ⟨ao2, n2, c2, rfl⟩ := hv2.shape
 obtain ⟨hc, hf⟩ := bcell hk1
 have hz1 : w.heap.size + 3 < w1.heap.size := by have := hk1.size; simp at this; omega
 have z0 : w.heap.size < w1.heap.size := by omega
 have z1 : w.heap.size + 1 < w1.heap.size := by omega
 have z2 : w.heap.size + 1 + 1 < w1.heap.size := by omega
 have z3 : w.heap.size + 1 + 1 + 1 < w1.heap.size := by omega
 go_wp2_with fail
 go_region
 all_goals go_wp2_with fail
 refine bodyPost_ret (v := .tuple #[.agg #[.bool false, .slice ao1 n1 c1], .agg #[.bool (decide (0 < (n2 : Int))), .slice ao2 n2 c2]]) (by simp [results, Try.results69, go_sem, hc, z1, z2, z3]) rfl ?_
 have he2 : elemOf w1 (w.heap.size + 1 + 1) = some 39 := by rw [elemOf_keep hk1 (by simp), elemOf_alloc_old _ _ (by simp)]; exact elemOf_at2 _ _ _ _ _
 have he3 : elemOf w1 (w.heap.size + 1 + 1 + 1) = some 39 := by rw [elemOf_keep hk1 (by simp)]; exact elemOf_at3 _ _ _ _ _ _
 refine retW2_end ((decide_eq_false (by have := tdiv_nn (x := x) (y := y) (by first | exact Or.inl ⟨HB1.out, HB2.out⟩ | exact Or.inr ⟨HB1.out, HB2.out⟩); omega)).symm) (neg_len (by decide) hv2 (by rw [← tmod_abs]; have := tmod_np (x := x) (y := y) HB1.out; omega)) (by rw [tdiv_abs]; exact hv1) (by rw [tmod_abs]; exact hv2) ?_ ?_
 ·refine Sf.drew (Sf.alloc (Sf.alloc (Sf.set (t := 39) (Sf.set (t := 39) (Sf.set (t := 39) (Sf.set (Sf.refl _ _) he2 (by decide)) ?_ (by decide)) ?_ (by decide)) ?_ (by decide)) _) _)
  ·simp only [elemOf_setCell]; exact he2
  ·simp only [elemOf_setCell]; exact he3
  ·simp only [elemOf_setCell]; exact he3
 ·have hk : Kp w w1 := ((((kp_alloc w _).alloc' _).alloc' _).alloc' _).trans' hk1
  exact ((Kp.alloc' (Kp.alloc' ((((hk.setCell (by simp; omega) _).setCell (by simp; omega) _).setCell (by simp; omega) _).setCell (by simp; omega) _) _) _)).drew

set_option maxHeartbeats 1600000 in
theorem divide_tf (x y : Int) (m : Nat) (ao ao' : Option Addr) (n c n' c' : Nat) (w : World) (hs : Rp 2 1000000000 w (.slice ao n c) (x.natAbs : Int)) (hs' : Rp 2 1000000000 w (.slice ao' n' c') (y.natAbs : Int)) (hm : m ≤ 300000000) (fx : Ft m x) (fy : Ft m y) (h1 : x < 0) (h2 : 0 ≤ y) :
  Calls Try.prog 69 #[.agg #[.bool true, .slice ao n c], .agg #[.bool false, .slice ao' n' c']] w (RetW2 w (x.tdiv y) (x.tmod y)) := by
 have HB1 := Hid.mk h1
 have HB2 := Hid.mk h2
 clear h1 h2
 go_enter Try.func69, Try.ntmps69
 go_wp2_with fail
 refine (divideLimbs_any (x.natAbs : Int) (y.natAbs : Int) m _ _ _ (hs.keep ((((kp_alloc w _).alloc' _).alloc' _).alloc' _)) (hs'.keep ((((kp_alloc w _).alloc' _).alloc' _).alloc' _)) hm fx.abs fy.abs).mono ?_
 rintro e w1 ⟨v1, v2, rfl, hv1, hv2, hk1⟩
 obtain ⟨ao1, n1, c1, rfl⟩ := hv1.shape
 obtain ⟨ao2, n2, c2, rfl⟩ := hv2.shape
 obtain ⟨hc, hf⟩ := bcell hk1
 have hz1 : w.heap.size + 3 < w1.heap.size := by have := hk1.size; simp at this; omega
 have z0 : w.heap.size < w1.heap.size := by omega
 have z1 : w.heap.size + 1 < w1.heap.size := by omega
 have z2 : w.heap.size + 1 + 1 < w1.heap.size := by omega
 have z3 : w.heap.size + 1 + 1 + 1 < w1.heap.size := by omega
 go_wp2_with fail
 go_region
 all_goals go_wp2_with fail
 refine bodyPost_ret (v := .tuple #[.agg #[.bool (decide (0 < (n1 : Int))), .slice ao1 n1 c1], .agg #[.bool (decide (0 < (n2 : Int))), .slice ao2 n2 c2]]) (by simp [results, Try.results69, go_sem, hc, z1, z2, z3]) rfl ?_
 have he2 : elemOf w1 (w.heap.size + 1 + 1) = some 39 := by rw [elemOf_keep hk1 (by simp), elemOf_alloc_old _ _ (by simp)]; exact elemOf_at2 _ _ _ _ _
 have he3 : elemOf w1 (w.heap.size + 1 + 1 + 1) = some 39 := by rw [elemOf_keep hk1 (by simp)]; exact elemOf_at3 _ _ _ _ _ _
 refine retW2_end (neg_len (by decide) hv1 (by rw [← tdiv_abs]; have := tdiv_np (x := x) (y := y) (by first | exact Or.inl ⟨HB1.out, HB2.out⟩ | exact Or.inr ⟨HB1.out, HB2.out⟩); omega)) (neg_len (by decide) hv2 (by rw [← tmod_abs]; have := tmod_np (x := x) (y := y) HB1.out; omega)) (by rw [tdiv_abs]; exact hv1) (by rw [tmod_abs]; exact hv2) ?_ ?_
 ·refine Sf.drew (Sf.alloc (Sf.alloc (Sf.set (t := 39) (Sf.set (t := 39) (Sf.set (t := 39) (Sf.set (Sf.refl _ _) he2 (by decide)) ?_ (by decide)) ?_ (by decide)) ?_ (by decide)) _) _)
  ·simp only [elemOf_setCell]; exact he2
  ·simp only [elemOf_setCell]; exact he3
  ·simp only [elemOf_setCell]; exact he3
 ·have hk : Kp w w1 := ((((kp_alloc w _).alloc' _).alloc' _).alloc' _).trans' hk1
  exact ((Kp.alloc' (Kp.alloc' ((((hk.setCell (by simp; omega) _).setCell (by simp; omega) _).setCell (by simp; omega) _).setCell (by simp; omega) _) _) _)).drew

set_option maxHeartbeats 1600000 in
theorem divide_ft (x y : Int) (m : Nat) (ao ao' : Option Addr) (n c n' c' : Nat) (w : World) (hs : Rp 2 1000000000 w (.slice ao n c) (x.natAbs : Int)) (hs' : Rp 2 1000000000 w (.slice ao' n' c') (y.natAbs : Int)) (hm : m ≤ 300000000) (fx : Ft m x) (fy : Ft m y) (h1 : 0 ≤ x) (h2 : y < 0) :
  Calls Try.prog 69 #[.agg #[.bool false, .slice ao n c], .agg #[.bool true, .slice ao' n' c']] w (RetW2 w (x.tdiv y) (x.tmod y)) := by
 have HB1 := Hid.mk h1
 have HB2 := Hid.mk h2
 clear h1 h2
 go_enter Try.func69, Try.ntmps69
 go_wp2_with fail
 refine (divideLimbs_any (x.natAbs : Int) (y.natAbs : Int) m _ _ _ (hs.keep ((((kp_alloc w _).alloc' _).alloc' _).alloc' _)) (hs'.keep ((((kp_alloc w _).alloc' _).alloc' _).alloc' _)) hm fx.abs fy.abs).mono ?_
 rintro e w1 ⟨v1, v2, rfl, hv1, hv2, hk1⟩
 obtain ⟨ao1, n1, c1, rfl⟩ := hv1.shape
 obtain ⟨ao2, n2, c2, rfl⟩ := hv2.shape
 obtain ⟨hc, hf⟩ := bcell hk1
 have hz1 : w.heap.size + 3 < w1.heap.size := by have := hk1.size; simp at this; omega
 have z0 : w.heap.size < w1.heap.size := by omega
 have z1 : w.heap.size + 1 < w1.heap.size := by omega
 have z2 : w.heap.size + 1 + 1 < w1.heap.size := by omega
 have z3 : w.heap.size + 1 + 1 + 1 < w1.heap.size := by omega
 go_wp2_with fail
 go_region
 all_goals go_wp2_with fail
 refine bodyPost_ret (v := .tuple #[.agg #[.bool (decide (0 < (n1 : Int))), .slice ao1 n1 c1], .agg #[.bool false, .slice ao2 n2 c2]]) (by simp [results, Try.results69, go_sem, hc, z1, z2, z3]) rfl ?_
 have he2 : elemOf w1 (w.heap.size + 1 + 1) = some 39 := by rw [elemOf_keep hk1 (by simp), elemOf_alloc_old _ _ (by simp)]; exact elemOf_at2 _ _ _ _ _
 have he3 : elemOf w1 (w.heap.size + 1 + 1 + 1) = some 39 := by rw [elemOf_keep hk1 (by simp)]; exact elemOf_at3 _ _ _ _ _ _
 refine retW2_end (neg_len (by decide) hv1 (by rw [← tdiv_abs]; have := tdiv_np (x := x) (y := y) (by first | exact Or.inl ⟨HB1.out, HB2.out⟩ | exact Or.inr ⟨HB1.out, HB2.out⟩); omega)) ((decide_eq_false (by have := tmod_nn (x := x) (y := y) HB1.out; omega)).symm) (by rw [tdiv_abs]; exact hv1) (by rw [tmod_abs]; exact hv2) ?_ ?_
 ·refine Sf.drew (Sf.alloc (Sf.alloc (Sf.set (t := 39) (Sf.set (t := 39) (Sf.set (t := 39) (Sf.set (Sf.refl _ _) he2 (by decide)) ?_ (by decide)) ?_ (by decide)) ?_ (by decide)) _) _)
  ·simp only [elemOf_setCell]; exact he2
  ·simp only [elemOf_setCell]; exact he3
  ·simp only [elemOf_setCell]; exact he3
 ·have hk : Kp w w1 := ((((kp_alloc w _).alloc' _).alloc' _).alloc' _).trans' hk1
  exact ((Kp.alloc' (Kp.alloc' ((((hk.setCell (by simp; omega) _).setCell (by simp; omega) _).setCell (by simp; omega) _).setCell (by simp; omega) _) _) _)).drew

set_option maxHeartbeats 1600000 in
theorem divide_ff (x y : Int) (m : Nat) (ao ao' : Option Addr) (n c n' c' : Nat) (w : World) (hs : Rp 2 1000000000 w (.slice ao n c) (x.natAbs : Int)) (hs' : Rp 2 1000000000 w (.slice ao' n' c') (y.natAbs : Int)) (hm : m ≤ 300000000) (fx : Ft m x) (fy : Ft m y) (h1 : 0 ≤ x) (h2 : 0 ≤ y) :
  Calls Try.prog 69 #[.agg #[.bool false, .slice ao n c], .agg #[.bool false, .slice ao' n' c']] w (RetW2 w (x.tdiv y) (x.tmod y)) := by
 have HB1 := Hid.mk h1
 have HB2 := Hid.mk h2
 clear h1 h2
 go_enter Try.func69, Try.ntmps69
 go_wp2_with fail
 refine (divideLimbs_any (x.natAbs : Int) (y.natAbs : Int) m _ _ _ (hs.keep ((((kp_alloc w _).alloc' _).alloc' _).alloc' _)) (hs'.keep ((((kp_alloc w _).alloc' _).alloc' _).alloc' _)) hm fx.abs fy.abs).mono ?_
 rintro e w1 ⟨v1, v2, rfl, hv1, hv2, hk1⟩
 obtain ⟨ao1, n1, c1, rfl⟩ := hv1.shape
 obtain ⟨ao2, n2, c2, rfl⟩ := hv2.shape
 obtain ⟨hc, hf⟩ := bcell hk1
 have hz1 : w.heap.size + 3 < w1.heap.size := by have := hk1.size; simp at this; omega
 have z0 : w.heap.size < w1.heap.size := by omega
 have z1 : w.heap.size + 1 < w1.heap.size := by omega
 have z2 : w.heap.size + 1 + 1 < w1.heap.size := by omega
 have z3 : w.heap.size + 1 + 1 + 1 < w1.heap.size := by omega
 go_wp2_with fail
 go_region
 all_goals go_wp2_with fail
 refine bodyPost_ret (v := .tuple #[.agg #[.bool false, .slice ao1 n1 c1], .agg #[.bool false, .slice ao2 n2 c2]]) (by simp [results, Try.results69, go_sem, hc, z1, z2, z3]) rfl ?_
 have he2 : elemOf w1 (w.heap.size + 1 + 1) = some 39 := by rw [elemOf_keep hk1 (by simp), elemOf_alloc_old _ _ (by simp)]; exact elemOf_at2 _ _ _ _ _
 have he3 : elemOf w1 (w.heap.size + 1 + 1 + 1) = some 39 := by rw [elemOf_keep hk1 (by simp)]; exact elemOf_at3 _ _ _ _ _ _
 refine retW2_end ((decide_eq_false (by have := tdiv_nn (x := x) (y := y) (by first | exact Or.inl ⟨HB1.out, HB2.out⟩ | exact Or.inr ⟨HB1.out, HB2.out⟩); omega)).symm) ((decide_eq_false (by have := tmod_nn (x := x) (y := y) HB1.out; omega)).symm) (by rw [tdiv_abs]; exact hv1) (by rw [tmod_abs]; exact hv2) ?_ ?_
 ·refine Sf.drew (Sf.alloc (Sf.alloc (Sf.set (t := 39) (Sf.set (t := 39) (Sf.set (t := 39) (Sf.set (Sf.refl _ _) he2 (by decide)) ?_ (by decide)) ?_ (by decide)) ?_ (by decide)) _) _)
  ·simp only [elemOf_setCell]; exact he2
  ·simp only [elemOf_setCell]; exact he3
  ·simp only [elemOf_setCell]; exact he3
 ·have hk : Kp w w1 := ((((kp_alloc w _).alloc' _).alloc' _).alloc' _).trans' hk1
  exact ((Kp.alloc' (Kp.alloc' ((((hk.setCell (by simp; omega) _).setCell (by simp; omega) _).setCell (by simp; omega) _).setCell (by simp; omega) _) _) _)).drew

theorem divide_any (x y : Int) (m : Nat) (u v : Value) (w : World) (hx : WN w u x) (hy : WN w v y) (hm : m ≤ 300000000) (fx : Ft m x) (fy : Ft m y) : Calls Try.prog 69 #[u, v] w (RetW2 w (x.tdiv y) (x.tmod y)) := by
 obtain ⟨ao, n, c, rfl, hs⟩ := hx
 obtain ⟨ao', n', c', rfl, hs'⟩ := hy
 by_cases h1 : x < 0
 ·rw [decide_eq_true h1]
  by_cases h2 : y < 0
  ·rw [decide_eq_true h2]
   exact divide_tt x y m ao ao' n c n' c' w hs hs' hm fx fy h1 h2
  ·rw [decide_eq_false h2]
   exact divide_tf x y m ao ao' n c n' c' w hs hs' hm fx fy h1 (by omega)
 ·rw [decide_eq_false h1]
  by_cases h2 : y < 0
  ·rw [decide_eq_true h2]
   exact divide_ft x y m ao ao' n c n' c' w hs hs' hm fx fy (by omega) h2
  ·rw [decide_eq_false h2]
   exact divide_ff x y m ao ao' n c n' c' w hs hs' hm fx fy (by omega) (by omega)

end Go.Proofs.Ytjahbjjekednfaa

/-! Blocks of variables. -/
namespace Go.Proofs.Ytjahbjjekednfaa
open Go.RowKit

/-- Block b holds just these cells. -/
def Blk (w : World) (b : Nat) (cs : Array Value) (t : TypeId) : Prop := w.heap[b]? = some (.cells cs t (0, 0))

theorem Blk.cell {w : World} {b : Nat} {cs : Array Value} {t : TypeId} (h : Blk w b cs t) : ∀ o, w.cell? ⟨b, o, none⟩ = cs[o]? := by
 intro o
 unfold World.cell?
 unfold Blk at h
 simp [h]
theorem Blk.frozen {w : World} {b : Nat} {cs : Array Value} {t : TypeId} (h : Blk w b cs t) : ∀ o, w.frozen? ⟨b, o, none⟩ = false := by
 intro o
 unfold World.frozen?
 unfold Blk at h
 simp [h]
theorem Blk.lt {w : World} {b : Nat} {cs : Array Value} {t : TypeId} (h : Blk w b cs t) : b < w.heap.size := by
 unfold Blk at h
 rcases Nat.lt_or_ge b w.heap.size with h1 | h1
 ·exact h1
 ·rw [Array.getElem?_eq_none h1] at h
  cases h
theorem Blk.elem {w : World} {b : Nat} {cs : Array Value} {t : TypeId} (h : Blk w b cs t) : elemOf w b = some t := by
 unfold elemOf World.shape?
 unfold Blk at h
 rw [h]; rfl
theorem Blk.all {w : World} {b : Nat} {cs : Array Value} {t : TypeId} (h : Blk w b cs t) : (∀ o, w.cell? ⟨b, o, none⟩ = cs[o]?) ∧ (∀ o, w.frozen? ⟨b, o, none⟩ = false) ∧ b < w.heap.size := ⟨h.cell, h.frozen, h.lt⟩
theorem Blk.keep {w w' : World} {b : Nat} {cs : Array Value} {t : TypeId} (hk : Kp w w') (h : Blk w b cs t) : Blk w' b cs t := by
 unfold Blk
 rw [hk.block b h.lt]; exact h
theorem Blk.grown {W w1 : World} {row : Option Nat} {b : Nat} {cs : Array Value} {t : TypeId} (hg : W.grownBy w1 row) (hne : some b ≠ row) (h : Blk W b cs t) : Blk w1 b cs t := by
 unfold Blk
 rw [hg.block b h.lt hne]; exact h
theorem Blk.new (w : World) (cs : Array Value) (t : TypeId) : Blk (w.alloc (.cells cs t)) w.heap.size cs t := heap_alloc_new w _
theorem Blk.alloc {w : World} {b : Nat} {cs : Array Value} {t : TypeId} (h : Blk w b cs t) (o : Obj) : Blk (w.alloc o) b cs t := h.keep (kp_alloc w o)
theorem Blk.drew {w : World} {b : Nat} {cs : Array Value} {t : TypeId} (h : Blk w b cs t) : Blk w.drew b cs t := h
theorem Blk.other {w : World} {b c o : Nat} {cs : Array Value} {t : TypeId} {y : Value} (h : Blk w b cs t) (hc : b ≠ c) : Blk (w.setCell ⟨c, o, none⟩ y) b cs t := by
 unfold Blk
 rw [Below.heap_setCell w ⟨c, o, none⟩ y b hc]; exact h
theorem Blk.set {w : World} {b o : Nat} {cs : Array Value} {t : TypeId} {y : Value} (h : Blk w b cs t) : Blk (w.setCell ⟨b, o, none⟩ y) b (cs.setIfInBounds o y) t := by
 unfold Blk at *
 simp [World.setCell, Array.getElem?_modify, h]
theorem Blk.at {w : World} {b c : Nat} {cs : Array Value} {t : TypeId} (h : Blk w b cs t) (e : c = b) : Blk w c cs t := e ▸ h

theorem size_setCell' (w : World) (a : Addr) (y : Value) : (w.setCell a y).heap.size = w.heap.size := by simp [World.setCell]
theorem size_drew' (w : World) : w.drew.heap.size = w.heap.size := rfl

/-- The end of a call that returns a whole number. -/
theorem retW_mk {w w1 W : World} {z : Int} {v : Value} (h : WN w1 v z) (hs : Sf 2 w1 W) (hk : Kp w W) : RetW w z (.returned v) W := ⟨v, rfl, h.soft hs, hk⟩

/-- The cells of a whole number. -/
theorem WN.shape {w : World} {v : Value} {z : Int} (h : WN w v z) : ∃ ao n c, v = .agg #[.bool (decide (z < 0)), .slice ao n c] := by
 obtain ⟨ao, n, c, h1, _⟩ := h
 exact ⟨ao, n, c, h1⟩
theorem WN.shape' {w : World} {v : Value} {z : Int} (h : WN w v z) : ∃ b ao n c, v = .agg #[.bool b, .slice ao n c] := by
 obtain ⟨ao, n, c, h1, _⟩ := h
 exact ⟨_, ao, n, c, h1⟩

end Go.Proofs.Ytjahbjjekednfaa
