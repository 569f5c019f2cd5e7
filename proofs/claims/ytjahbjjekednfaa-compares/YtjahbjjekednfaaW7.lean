import Derived.Test.YtjahbjjekednfaaW6
namespace Go.Proofs.Ytjahbjjekednfaa
open Go.RowKit

theorem bcell {W w1 : World} (hb : Kp W w1) : (∀ b o, b < W.heap.size → w1.cell? ⟨b, o, none⟩ = W.cell? ⟨b, o, none⟩) ∧ (∀ b o, b < W.heap.size → w1.frozen? ⟨b, o, none⟩ = W.frozen? ⟨b, o, none⟩) :=
 ⟨fun b o h => hb.cell (p := ⟨b, o, none⟩) h, fun b o h => hb.frozen (p := ⟨b, o, none⟩) h⟩

/-- v is the program's whole number z. -/
def WN (w : World) (v : Value) (z : Int) : Prop := ∃ ao n c, v = .agg #[.bool (decide (z < 0)), .slice ao n c] ∧ Rp 2 1000000000 w (.slice ao n c) (z.natAbs : Int)
def RetW (w : World) (z : Int) (e : Ending) (w' : World) : Prop := ∃ v, e = .returned v ∧ WN w' v z ∧ Kp w w'

theorem Rp.shape {E : TypeId} {B : Int} {w : World} {v : Value} {x : Int} (h : Rp E B w v x) : ∃ ao n c, v = .slice ao n c := by
 obtain ⟨l, h1, _⟩ := h
 obtain ⟨ao, cap, h2, _⟩ := h1.slice
 exact ⟨ao, _, cap, h2⟩
theorem elemOf_alloc_new (w : World) (c : Array Value) (t : TypeId) : elemOf (w.alloc (.cells c t)) w.heap.size = some t := by
 unfold elemOf World.shape?
 have : (w.alloc (.cells c t)).heap[w.heap.size]? = some (.cells c t) := heap_alloc_new w _
 rw [this]; rfl
theorem elemOf_at1 (w : World) (o : Obj) (c : Array Value) (t : TypeId) : elemOf ((w.alloc o).alloc (.cells c t)) (w.heap.size + 1) = some t := by
 have := elemOf_alloc_new (w.alloc o) c t
 simpa using this
theorem elemOf_at2 (w : World) (o p : Obj) (c : Array Value) (t : TypeId) : elemOf (((w.alloc o).alloc p).alloc (.cells c t)) (w.heap.size + 2) = some t := by
 have := elemOf_alloc_new ((w.alloc o).alloc p) c t
 simpa using this
theorem elemOf_alloc_old (w : World) (o : Obj) {b : Nat} (h : b < w.heap.size) : elemOf (w.alloc o) b = elemOf w b := elemOf_block (Below.heap_alloc w o b h)
theorem elemOf_keep {w w' : World} (hk : Kp w w') {b : Nat} (hb : b < w.heap.size) : elemOf w' b = elemOf w b := elemOf_block (hk.block b hb)

/-- A number behind a store into a block of another type. -/
theorem Rp.store {E t : TypeId} {B : Int} {w : World} {v : Value} {x : Int} (h : Rp E B w v x) {c o : Nat} {y : Value} (hc : elemOf w c = some t) (ht : t ≠ E) : Rp E B (w.setCell ⟨c, o, none⟩ y) v x :=
 h.but ((KeepsBut.refl c w).setCell o y) (by rw [hc]; simpa using ht)
theorem elemOf_setCell (w : World) (c o b : Nat) (y : Value) : elemOf (w.setCell ⟨c, o, none⟩ y) b = elemOf w b := by
 unfold elemOf World.shape? World.setCell
 simp only [Array.getElem?_modify]
 by_cases h : c = b
 ·subst h
  rw [if_pos rfl]
  cases hh : w.heap[c]? with
  | none => rfl
  | some ob => cases ob <;> simp
 ·rw [if_neg h]

/-- The end of a call that lays its number into the cell of its result. -/
theorem retW_end {w w1 : World} {z : Int} {c : Nat} {ao : Option Addr} {n k : Nat} {b : Bool} {u0 u1 : Value} (hb : b = decide (z < 0)) (hr : Rp 2 1000000000 w1 (.slice ao n k) (z.natAbs : Int)) (hk : Kp w w1)
  (hc : w.heap.size ≤ c) (he : elemOf w1 c = some 39) :
  RetW w z (.returned (.agg #[.bool b, .slice ao n k])) ((w1.setCell ⟨c, 0, none⟩ u0).setCell ⟨c, 1, none⟩ u1) := by
 refine ⟨_, rfl, ⟨ao, n, k, by rw [hb], (hr.store he (by decide)).store (by rw [elemOf_setCell]; exact he) (by decide)⟩, ?_⟩
 exact (hk.setCell hc _).setCell hc _

theorem fit_abs {z : Int} (h : Fit z) : Fit (z.natAbs : Int) := by obtain ⟨n, h1, h2⟩ := h; exact ⟨n, h1, by simpa using h2⟩
theorem Rp.zero_len {E : TypeId} {B : Int} (hB : 1 < B) {w : World} {ao : Option Addr} {n c : Nat} {x : Int} (h : Rp E B w (.slice ao n c) x) : (n = 0 ↔ x = 0) ∧ n ≤ 9223372036854775807 := by
 obtain ⟨l, h1, h2, h3⟩ := h
 obtain ⟨ao', cap, h4, h5, h6⟩ := h1.slice
 simp only [Value.slice.injEq] at h4
 rw [h4.2.1]
 exact ⟨by rw [h2.zero_iff hB, h3], by omega⟩

set_option maxHeartbeats 800000 in
theorem negate_any (z : Int) (v : Value) (w : World) (hz : WN w v z) (fz : Fit z) : Calls Try.prog 25 #[v] w (RetW w (-z)) := by
 obtain ⟨ao, n, c, rfl, hs⟩ := hz
 have fz' := fit_abs fz
 rcases Int.lt_trichotomy z 0 with h | h | h
 ·rw [decide_eq_true h]
  go_enter Try.func25, Try.ntmps25
  go_wp2_with fail
  refine (copyLimbs_any _ _ _ (hs.keep ((kp_alloc w _).alloc' _)) fz').mono ?_
  rintro e w1 ⟨v1, rfl, hv1, hk1, hf1⟩
  obtain ⟨ao1, n1, c1, rfl⟩ := hv1.shape
  obtain ⟨hl1, hl2⟩ := hv1.zero_len (by decide)
  clear hl1
  obtain ⟨hc, hf⟩ := bcell hk1
  have hz1 : w.heap.size + 1 < w1.heap.size := by have := hk1.size; simp at this; omega
  have hk := ((kp_alloc w (.cells #[.bool true, .slice ao n c] 39)).alloc' (.cells #[.bool false, .slice none 0 0] 39)).trans' hk1
  go_wp2_with fail
  refine bodyPost_ret (v := .agg #[.bool false, .slice ao1 n1 c1]) (by simp [results, Try.results25, go_sem, hc]) rfl ?_
  exact retW_end (by simp; omega) (by rw [Int.natAbs_neg]; exact hv1) hk (by omega) (by rw [elemOf_keep hk1 (by simp)]; exact elemOf_at1 _ _ _ _)
 ·rw [decide_eq_false (by omega)]
  go_enter Try.func25, Try.ntmps25
  go_wp2_with fail
  refine (copyLimbs_any _ _ _ (hs.keep ((kp_alloc w _).alloc' _)) fz').mono ?_
  rintro e w1 ⟨v1, rfl, hv1, hk1, hf1⟩
  obtain ⟨ao1, n1, c1, rfl⟩ := hv1.shape
  obtain ⟨hl1, hl2⟩ := hv1.zero_len (by decide)
  have hl3 : n1 = 0 := by omega
  clear hl1 hl2
  subst hl3
  obtain ⟨hc, hf⟩ := bcell hk1
  have hz1 : w.heap.size + 1 < w1.heap.size := by have := hk1.size; simp at this; omega
  have hk := ((kp_alloc w (.cells #[.bool false, .slice ao n c] 39)).alloc' (.cells #[.bool false, .slice none 0 0] 39)).trans' hk1
  go_wp2_with fail
  refine bodyPost_ret (v := .agg #[.bool false, .slice ao1 0 c1]) (by simp [results, Try.results25, go_sem, hc]) rfl ?_
  exact retW_end (by simp; omega) (by rw [Int.natAbs_neg]; exact hv1) hk (by omega) (by rw [elemOf_keep hk1 (by simp)]; exact elemOf_at1 _ _ _ _)
 ·rw [decide_eq_false (by omega)]
  go_enter Try.func25, Try.ntmps25
  go_wp2_with fail
  refine (copyLimbs_any _ _ _ (hs.keep ((kp_alloc w _).alloc' _)) fz').mono ?_
  rintro e w1 ⟨v1, rfl, hv1, hk1, hf1⟩
  obtain ⟨ao1, n1, c1, rfl⟩ := hv1.shape
  obtain ⟨hl1, hl2⟩ := hv1.zero_len (by decide)
  have hl3 : 0 < n1 := by omega
  clear hl1
  obtain ⟨hc, hf⟩ := bcell hk1
  have hz1 : w.heap.size + 1 < w1.heap.size := by have := hk1.size; simp at this; omega
  have hk := ((kp_alloc w (.cells #[.bool false, .slice ao n c] 39)).alloc' (.cells #[.bool false, .slice none 0 0] 39)).trans' hk1
  go_wp2_with fail
  refine bodyPost_ret (v := .agg #[.bool true, .slice ao1 n1 c1]) (by simp [results, Try.results25, go_sem, hc]) rfl ?_
  exact retW_end (by simp; omega) (by rw [Int.natAbs_neg]; exact hv1) hk (by omega) (by rw [elemOf_keep hk1 (by simp)]; exact elemOf_at1 _ _ _ _)

set_option maxHeartbeats 800000 in
theorem sign_any (z : Int) (v : Value) (w : World) (hz : WN w v z) : Calls Try.prog 56 #[v] w (RetV w (.int .i64 z.sign)) := by
 obtain ⟨ao, n, c, rfl, hs⟩ := hz
 obtain ⟨hl1, hl2⟩ := hs.zero_len (by decide)
 rcases Int.lt_trichotomy z 0 with h | h | h
 ·rw [decide_eq_true h, Int.sign_eq_neg_one_of_neg h]
  clear hl1
  go_enter Try.func56, Try.ntmps56
  go_wp2
  go_ret
  exact ⟨rfl, kp_alloc _ _⟩
 ·have hl3 : n ≤ 0 := by omega
  rw [decide_eq_false (by omega), Int.sign_eq_zero_iff_zero.2 h]
  clear hl1 h
  go_enter Try.func56, Try.ntmps56
  go_wp2
  go_ret
  exact ⟨rfl, kp_alloc _ _⟩
 ·have hl3 : 0 < n := by omega
  rw [decide_eq_false (by omega), Int.sign_eq_one_of_pos h]
  clear hl1 h
  go_enter Try.func56, Try.ntmps56
  go_wp2
  go_ret
  exact ⟨rfl, kp_alloc _ _⟩

theorem rp_none (E : TypeId) (w : World) : Rp E 1000000000 w (.slice none 0 0) 0 := ⟨[], Row.nil _ _, Canon.nil (by decide), rfl⟩

set_option maxHeartbeats 3200000 in
theorem add_any (x y : Int) (u v : Value) (w : World) (hx : WN w u x) (hy : WN w v y) (fx : Fit x) (fy : Fit y) : Calls Try.prog 52 #[u, v] w (RetW w (x + y)) := by
 obtain ⟨ao, n, c, rfl, hs⟩ := hx
 obtain ⟨ao', n', c', rfl, hs'⟩ := hy
 have fx' := fit_abs fx
 have fy' := fit_abs fy
 clear fx fy
 by_cases h1 : x < 0
 ·by_cases h2 : y < 0
  ·rw [decide_eq_true h1, decide_eq_true h2]
   go_enter Try.func52, Try.ntmps52
   go_wp2_with fail
   refine (addLimbs_any _ _ _ _ _ (hs.keep (((kp_alloc w _).alloc' _).alloc' _)) (hs'.keep (((kp_alloc w _).alloc' _).alloc' _)) fx' fy').mono ?_
   rintro e w1 ⟨v1, rfl, hv1, hk1, hf1⟩
   obtain ⟨ao1, n1, c1, rfl⟩ := hv1.shape
   obtain ⟨hc, hf⟩ := bcell hk1
   have hz1 : w.heap.size + 2 < w1.heap.size := by have := hk1.size; simp at this; omega
   have hk := (((kp_alloc w (.cells #[.bool true, .slice ao n c] 39)).alloc' (.cells #[.bool true, .slice ao' n' c'] 39)).alloc' (.cells #[.bool false, .slice none 0 0] 39)).trans' hk1
   go_wp2_with fail
   refine bodyPost_ret (v := .agg #[.bool true, .slice ao1 n1 c1]) (by simp [results, Try.results52, go_sem, hc]) rfl ?_
   exact retW_end (by simp; omega) (by rw [show ((x + y).natAbs : Int) = x.natAbs + y.natAbs by omega]; exact hv1) hk (by omega) (by rw [elemOf_keep hk1 (by simp)]; exact elemOf_at2 _ _ _ _ _)
  ·rw [decide_eq_true h1, decide_eq_false h2]
   rcases Int.lt_trichotomy (x.natAbs : Int) (y.natAbs : Int) with h3 | h3 | h3
   ·have hcm0 := cmp3_lt h3
    have hcm := hcm0
    go_enter Try.func52, Try.ntmps52
    go_wp2_with fail
    refine (compareLimbs_any _ _ _ _ _ (hs.keep (((kp_alloc w _).alloc' _).alloc' _)) (hs'.keep (((kp_alloc w _).alloc' _).alloc' _))).mono ?_
    rintro e w1 ⟨rfl, hk1⟩
    rw [hcm]
    obtain ⟨hc, hf⟩ := bcell hk1
    have hz1 : w.heap.size + 2 < w1.heap.size := by have := hk1.size; simp at this; omega
    have hk := (((kp_alloc w (.cells #[.bool true, .slice ao n c] 39)).alloc' (.cells #[.bool false, .slice ao' n' c'] 39)).alloc' (.cells #[.bool false, .slice none 0 0] 39)).trans' hk1
    clear hcm hcm0
    go_wp2_with fail
    refine (subtractLimbs_any _ _ _ _ _ (hs'.keep hk) (hs.keep hk) fy' (by omega)).mono ?_
    rintro e w2 ⟨v2, rfl, hv2, hk2, hf2⟩
    obtain ⟨ao2, n2, c2, rfl⟩ := hv2.shape
    obtain ⟨hc2, hfz2⟩ := bcell (hk1.trans' hk2)
    clear hc hf
    have hz2 : w.heap.size + 2 < w2.heap.size := by have := hk2.size; omega
    have hk12 := hk.trans' hk2
    go_wp2_with fail
    refine bodyPost_ret (v := .agg #[.bool false, .slice ao2 n2 c2]) (by simp [results, Try.results52, go_sem, hc2]) rfl ?_
    exact retW_end (by simp; omega) (by rw [show ((x + y).natAbs : Int) = y.natAbs - x.natAbs by omega]; exact hv2) hk12 (by omega) (by rw [elemOf_keep hk2 (by omega), elemOf_keep hk1 (by simp)]; exact elemOf_at2 _ _ _ _ _)
   ·have hcm0 := cmp3_eq h3
    have hcm := hcm0
    go_enter Try.func52, Try.ntmps52
    go_wp2_with fail
    refine (compareLimbs_any _ _ _ _ _ (hs.keep (((kp_alloc w _).alloc' _).alloc' _)) (hs'.keep (((kp_alloc w _).alloc' _).alloc' _))).mono ?_
    rintro e w1 ⟨rfl, hk1⟩
    rw [hcm]
    obtain ⟨hc, hf⟩ := bcell hk1
    have hz1 : w.heap.size + 2 < w1.heap.size := by have := hk1.size; simp at this; omega
    have hk := (((kp_alloc w (.cells #[.bool true, .slice ao n c] 39)).alloc' (.cells #[.bool false, .slice ao' n' c'] 39)).alloc' (.cells #[.bool false, .slice none 0 0] 39)).trans' hk1
    clear hcm hcm0
    go_wp2_with fail
    refine bodyPost_ret (v := .agg #[.bool false, .slice none 0 0]) (by simp [results, Try.results52, go_sem, hc]) rfl ?_
    exact retW_end (by simp; omega) (by rw [show ((x + y).natAbs : Int) = 0 by omega]; exact rp_none _ _) hk (by omega) (by rw [elemOf_keep hk1 (by simp)]; exact elemOf_at2 _ _ _ _ _)
   ·have hcm0 := cmp3_gt h3
    have hcm := hcm0
    go_enter Try.func52, Try.ntmps52
    go_wp2_with fail
    refine (compareLimbs_any _ _ _ _ _ (hs.keep (((kp_alloc w _).alloc' _).alloc' _)) (hs'.keep (((kp_alloc w _).alloc' _).alloc' _))).mono ?_
    rintro e w1 ⟨rfl, hk1⟩
    rw [hcm]
    obtain ⟨hc, hf⟩ := bcell hk1
    have hz1 : w.heap.size + 2 < w1.heap.size := by have := hk1.size; simp at this; omega
    have hk := (((kp_alloc w (.cells #[.bool true, .slice ao n c] 39)).alloc' (.cells #[.bool false, .slice ao' n' c'] 39)).alloc' (.cells #[.bool false, .slice none 0 0] 39)).trans' hk1
    clear hcm hcm0
    go_wp2_with fail
    refine (subtractLimbs_any _ _ _ _ _ (hs.keep hk) (hs'.keep hk) fx' (by omega)).mono ?_
    rintro e w2 ⟨v2, rfl, hv2, hk2, hf2⟩
    obtain ⟨ao2, n2, c2, rfl⟩ := hv2.shape
    obtain ⟨hc2, hfz2⟩ := bcell (hk1.trans' hk2)
    clear hc hf
    have hz2 : w.heap.size + 2 < w2.heap.size := by have := hk2.size; omega
    have hk12 := hk.trans' hk2
    go_wp2_with fail
    refine bodyPost_ret (v := .agg #[.bool true, .slice ao2 n2 c2]) (by simp [results, Try.results52, go_sem, hc2]) rfl ?_
    exact retW_end (by simp; omega) (by rw [show ((x + y).natAbs : Int) = x.natAbs - y.natAbs by omega]; exact hv2) hk12 (by omega) (by rw [elemOf_keep hk2 (by omega), elemOf_keep hk1 (by simp)]; exact elemOf_at2 _ _ _ _ _)
 ·by_cases h2 : y < 0
  ·rw [decide_eq_false h1, decide_eq_true h2]
   rcases Int.lt_trichotomy (x.natAbs : Int) (y.natAbs : Int) with h3 | h3 | h3
   ·have hcm0 := cmp3_lt h3
    have hcm := hcm0
    go_enter Try.func52, Try.ntmps52
    go_wp2_with fail
    refine (compareLimbs_any _ _ _ _ _ (hs.keep (((kp_alloc w _).alloc' _).alloc' _)) (hs'.keep (((kp_alloc w _).alloc' _).alloc' _))).mono ?_
    rintro e w1 ⟨rfl, hk1⟩
    rw [hcm]
    obtain ⟨hc, hf⟩ := bcell hk1
    have hz1 : w.heap.size + 2 < w1.heap.size := by have := hk1.size; simp at this; omega
    have hk := (((kp_alloc w (.cells #[.bool false, .slice ao n c] 39)).alloc' (.cells #[.bool true, .slice ao' n' c'] 39)).alloc' (.cells #[.bool false, .slice none 0 0] 39)).trans' hk1
    clear hcm hcm0
    go_wp2_with fail
    refine (subtractLimbs_any _ _ _ _ _ (hs'.keep hk) (hs.keep hk) fy' (by omega)).mono ?_
    rintro e w2 ⟨v2, rfl, hv2, hk2, hf2⟩
    obtain ⟨ao2, n2, c2, rfl⟩ := hv2.shape
    obtain ⟨hc2, hfz2⟩ := bcell (hk1.trans' hk2)
    clear hc hf
    have hz2 : w.heap.size + 2 < w2.heap.size := by have := hk2.size; omega
    have hk12 := hk.trans' hk2
    go_wp2_with fail
    refine bodyPost_ret (v := .agg #[.bool true, .slice ao2 n2 c2]) (by simp [results, Try.results52, go_sem, hc2]) rfl ?_
    exact retW_end (by simp; omega) (by rw [show ((x + y).natAbs : Int) = y.natAbs - x.natAbs by omega]; exact hv2) hk12 (by omega) (by rw [elemOf_keep hk2 (by omega), elemOf_keep hk1 (by simp)]; exact elemOf_at2 _ _ _ _ _)
   ·have hcm0 := cmp3_eq h3
    have hcm := hcm0
    go_enter Try.func52, Try.ntmps52
    go_wp2_with fail
    refine (compareLimbs_any _ _ _ _ _ (hs.keep (((kp_alloc w _).alloc' _).alloc' _)) (hs'.keep (((kp_alloc w _).alloc' _).alloc' _))).mono ?_
    rintro e w1 ⟨rfl, hk1⟩
    rw [hcm]
    obtain ⟨hc, hf⟩ := bcell hk1
    have hz1 : w.heap.size + 2 < w1.heap.size := by have := hk1.size; simp at this; omega
    have hk := (((kp_alloc w (.cells #[.bool false, .slice ao n c] 39)).alloc' (.cells #[.bool true, .slice ao' n' c'] 39)).alloc' (.cells #[.bool false, .slice none 0 0] 39)).trans' hk1
    clear hcm hcm0
    go_wp2_with fail
    refine bodyPost_ret (v := .agg #[.bool false, .slice none 0 0]) (by simp [results, Try.results52, go_sem, hc]) rfl ?_
    exact retW_end (by simp; omega) (by rw [show ((x + y).natAbs : Int) = 0 by omega]; exact rp_none _ _) hk (by omega) (by rw [elemOf_keep hk1 (by simp)]; exact elemOf_at2 _ _ _ _ _)
   ·have hcm0 := cmp3_gt h3
    have hcm := hcm0
    go_enter Try.func52, Try.ntmps52
    go_wp2_with fail
    refine (compareLimbs_any _ _ _ _ _ (hs.keep (((kp_alloc w _).alloc' _).alloc' _)) (hs'.keep (((kp_alloc w _).alloc' _).alloc' _))).mono ?_
    rintro e w1 ⟨rfl, hk1⟩
    rw [hcm]
    obtain ⟨hc, hf⟩ := bcell hk1
    have hz1 : w.heap.size + 2 < w1.heap.size := by have := hk1.size; simp at this; omega
    have hk := (((kp_alloc w (.cells #[.bool false, .slice ao n c] 39)).alloc' (.cells #[.bool true, .slice ao' n' c'] 39)).alloc' (.cells #[.bool false, .slice none 0 0] 39)).trans' hk1
    clear hcm hcm0
    go_wp2_with fail
    refine (subtractLimbs_any _ _ _ _ _ (hs.keep hk) (hs'.keep hk) fx' (by omega)).mono ?_
    rintro e w2 ⟨v2, rfl, hv2, hk2, hf2⟩
    obtain ⟨ao2, n2, c2, rfl⟩ := hv2.shape
    obtain ⟨hc2, hfz2⟩ := bcell (hk1.trans' hk2)
    clear hc hf
    have hz2 : w.heap.size + 2 < w2.heap.size := by have := hk2.size; omega
    have hk12 := hk.trans' hk2
    go_wp2_with fail
    refine bodyPost_ret (v := .agg #[.bool false, .slice ao2 n2 c2]) (by simp [results, Try.results52, go_sem, hc2]) rfl ?_
    exact retW_end (by simp; omega) (by rw [show ((x + y).natAbs : Int) = x.natAbs - y.natAbs by omega]; exact hv2) hk12 (by omega) (by rw [elemOf_keep hk2 (by omega), elemOf_keep hk1 (by simp)]; exact elemOf_at2 _ _ _ _ _)
  ·rw [decide_eq_false h1, decide_eq_false h2]
   go_enter Try.func52, Try.ntmps52
   go_wp2_with fail
   refine (addLimbs_any _ _ _ _ _ (hs.keep (((kp_alloc w _).alloc' _).alloc' _)) (hs'.keep (((kp_alloc w _).alloc' _).alloc' _)) fx' fy').mono ?_
   rintro e w1 ⟨v1, rfl, hv1, hk1, hf1⟩
   obtain ⟨ao1, n1, c1, rfl⟩ := hv1.shape
   obtain ⟨hc, hf⟩ := bcell hk1
   have hz1 : w.heap.size + 2 < w1.heap.size := by have := hk1.size; simp at this; omega
   have hk := (((kp_alloc w (.cells #[.bool false, .slice ao n c] 39)).alloc' (.cells #[.bool false, .slice ao' n' c'] 39)).alloc' (.cells #[.bool false, .slice none 0 0] 39)).trans' hk1
   go_wp2_with fail
   refine bodyPost_ret (v := .agg #[.bool false, .slice ao1 n1 c1]) (by simp [results, Try.results52, go_sem, hc]) rfl ?_
   exact retW_end (by simp; omega) (by rw [show ((x + y).natAbs : Int) = x.natAbs + y.natAbs by omega]; exact hv1) hk (by omega) (by rw [elemOf_keep hk1 (by simp)]; exact elemOf_at2 _ _ _ _ _)

end Go.Proofs.Ytjahbjjekednfaa
