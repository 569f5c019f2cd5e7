import Derived.Test.YtjahbjjekednfabDoorB2
import Derived.Test.YtjahbjjekednfabDoorSt8
import Derived.Test.YtjahbjjekednfabDoorF8
import Derived.ArgAppend
namespace Go.Proofs.YtjahbjjekednfabDoor
open Go.RowKit

theorem Tryd.infoRest : (Tryd.prog.info? 69).map (fun i => (i.zero, i.size, i.bytes)) = some (some (.agg #[.bool false, .slice none 0 0, .bool false, .slice none 0 0, .bool false, .slice none 0 0, .bool false, .slice none 0 0]), 8, 128) := by kernel_rfl
theorem qof_any (a : Qn) (m : Nat) (v : Value) (w : World) (hv : XN w v a) (hm : m ≤ 40000000) (f : QF m a) (hd : QD a) : Calls Tryd.prog 32 #[v] w (RetRR w (p0 a) (q0 a) (n0 a)) := by
 unfold p0 q0 n0
 by_cases h : a.q < 0
 ·rw [if_pos h, if_pos h]
  exact of_neg a m v w hv hm f hd (Int.sign_eq_neg_one_of_neg h)
 ·rw [if_neg h, if_neg h]
  refine of_pos a m v w hv hm f hd ?_
  rcases sign3 a.q with ⟨s1, h1⟩ | ⟨s1, h1⟩ | ⟨s1, h1⟩ <;> omega
/-- Rests of eight cells, one behind the other. -/
def IsQ (w : World) (xs : List Value) (f : Nat → Int × Int) (n : Int) (k : Nat) : Prop := ∀ i, i < k → ∃ (b1 : Bool) (ao1 : Option Addr) (n1 c1 : Nat) (b2 : Bool) (ao2 : Option Addr) (n2 c2 : Nat) (b3 : Bool) (ao3 : Option Addr) (n3 c3 : Nat) (b4 : Bool) (ao4 : Option Addr) (n4 c4 : Nat), xs[8 * i + 0]? = some (.bool b1) ∧ xs[8 * i + 1]? = some (.slice ao1 n1 c1) ∧ xs[8 * i + 2]? = some (.bool b2) ∧ xs[8 * i + 3]? = some (.slice ao2 n2 c2) ∧ xs[8 * i + 4]? = some (.bool b3) ∧ xs[8 * i + 5]? = some (.slice ao3 n3 c3) ∧ xs[8 * i + 6]? = some (.bool b4) ∧ xs[8 * i + 7]? = some (.slice ao4 n4 c4) ∧ RR w (.agg #[.bool b1, .slice ao1 n1 c1, .bool b2, .slice ao2 n2 c2, .bool b3, .slice ao3 n3 c3, .bool b4, .slice ao4 n4 c4]) (f i).1 (f i).2 n
theorem IsQ.soft {w W : World} {xs : List Value} {f : Nat → Int × Int} {n : Int} {k : Nat} (hs : Sf 2 w W) (h : IsQ w xs f n k) : IsQ W xs f n k := fun i hi => by
 obtain ⟨b1, ao1, n1, c1, b2, ao2, n2, c2, b3, ao3, n3, c3, b4, ao4, n4, c4, h0, h1, h2, h3, h4, h5, h6, h7, hr⟩ := h i hi
 exact ⟨b1, ao1, n1, c1, b2, ao2, n2, c2, b3, ao3, n3, c3, b4, ao4, n4, c4, h0, h1, h2, h3, h4, h5, h6, h7, hr.soft hs⟩
theorem IsQ.snoc {w : World} {xs : List Value} {f : Nat → Int × Int} {n : Int} {k : Nat} (h : IsQ w xs f n k) (hl : xs.length = 8 * k) {b1 : Bool} {ao1 : Option Addr} {n1 c1 : Nat} {b2 : Bool} {ao2 : Option Addr} {n2 c2 : Nat} {b3 : Bool} {ao3 : Option Addr} {n3 c3 : Nat} {b4 : Bool} {ao4 : Option Addr} {n4 c4 : Nat} (hr : RR w (.agg #[.bool b1, .slice ao1 n1 c1, .bool b2, .slice ao2 n2 c2, .bool b3, .slice ao3 n3 c3, .bool b4, .slice ao4 n4 c4]) (f k).1 (f k).2 n) : IsQ w (xs ++ [.bool b1, .slice ao1 n1 c1, .bool b2, .slice ao2 n2 c2, .bool b3, .slice ao3 n3 c3, .bool b4, .slice ao4 n4 c4]) f n (k + 1) := by
 intro i hi
 by_cases h1 : i < k
 ·obtain ⟨b11, ao11, n11, c11, b12, ao12, n12, c12, b13, ao13, n13, c13, b14, ao14, n14, c14, h0, h1, h2, h3, h4, h5, h6, h7, hq⟩ := h i h1
  exact ⟨b11, ao11, n11, c11, b12, ao12, n12, c12, b13, ao13, n13, c13, b14, ao14, n14, c14, by rw [List.getElem?_append_left (by omega)]; exact h0, by rw [List.getElem?_append_left (by omega)]; exact h1, by rw [List.getElem?_append_left (by omega)]; exact h2, by rw [List.getElem?_append_left (by omega)]; exact h3, by rw [List.getElem?_append_left (by omega)]; exact h4, by rw [List.getElem?_append_left (by omega)]; exact h5, by rw [List.getElem?_append_left (by omega)]; exact h6, by rw [List.getElem?_append_left (by omega)]; exact h7, hq⟩
 ·have e : i = k := by omega
  subst e
  refine ⟨b1, ao1, n1, c1, b2, ao2, n2, c2, b3, ao3, n3, c3, b4, ao4, n4, c4, ?_, ?_, ?_, ?_, ?_, ?_, ?_, ?_, hr⟩
  all_goals rw [List.getElem?_append_right (by omega), hl]
  ·simp
  ·rw [show 8 * i + 1 - 8 * i = 1 by omega]; rfl
  ·rw [show 8 * i + 2 - 8 * i = 2 by omega]; rfl
  ·rw [show 8 * i + 3 - 8 * i = 3 by omega]; rfl
  ·rw [show 8 * i + 4 - 8 * i = 4 by omega]; rfl
  ·rw [show 8 * i + 5 - 8 * i = 5 by omega]; rfl
  ·rw [show 8 * i + 6 - 8 * i = 6 by omega]; rfl
  ·rw [show 8 * i + 7 - 8 * i = 7 by omega]; rfl
theorem RowQ.of_owns {w : World} {base : Nat} {v : Value} {f : Nat → Int × Int} {n : Int} {k : Nat} {xs : List Value} (h : w.ownsRow base 69 8 v k xs) (hi : IsQ w xs f n k) : RowQ w v f n k := by
 obtain ⟨hl, h2⟩ := h
 rcases h2 with ⟨rfl, hz⟩ | ⟨g, cap, cur, rfl, hb, hg, hc, hm, hs, ht⟩
 ·exact ⟨none, 0, 0, by rw [hz], by omega, by omega, fun hp => absurd hp (by omega), fun i hi => absurd hi (by omega)⟩
 ·refine ⟨some ⟨g, 0, none⟩, cap, g, rfl, by omega, by unfold maxLen at hm; omega, fun _ => ⟨rfl, ?_⟩, fun i hii => ?_⟩
  ·by_cases hlt : g < w.heap.size
   ·exact hlt
   ·rw [Array.getElem?_eq_none (by omega)] at hg
    exact absurd hg (by simp)
  ·obtain ⟨b1, ao1, n1, c1, b2, ao2, n2, c2, b3, ao3, n3, c3, b4, ao4, n4, c4, h0, h1, h2, h3, h4, h5, h6, h7, hq⟩ := hi i hii
   have cell : ∀ j u, xs[j]? = some u → w.cell? ⟨g, j, none⟩ = some u := by
    intro j u hj
    rw [← ht, List.getElem?_take] at hj
    split at hj
    ·simp only [World.cell?, hg]
     rw [Array.getElem?_toList] at hj
     simpa using hj
    ·exact absurd hj (by simp)
   exact ⟨b1, ao1, n1, c1, b2, ao2, n2, c2, b3, ao3, n3, c3, b4, ao4, n4, c4, cell _ _ h0, cell _ _ h1, cell _ _ h2, cell _ _ h3, cell _ _ h4, cell _ _ h5, cell _ _ h6, cell _ _ h7, hq⟩
/-- The list of the rests so far: empty yet, or a row of its own that lies behind block AR. -/
def Seen (w : World) (AR g0 : Nat) (s : Value) (f : Nat → Int × Int) (n : Int) (j : Nat) : Prop :=
 (j = 0 ∧ s = .slice (some ⟨g0, 0, none⟩) 0 0) ∨ ∃ base xs, AR < base ∧ base ≤ w.heap.size ∧ w.ownsRow base 69 8 s j xs ∧ IsQ w xs f n j
theorem Seen.keep {w W : World} {AR g0 : Nat} {s : Value} {f : Nat → Int × Int} {n : Int} {j : Nat} (hk : Kp w W) (h : Seen w AR g0 s f n j) : Seen W AR g0 s f n j := by
 rcases h with h | ⟨base, xs, h1, h2, h3, h4⟩
 ·exact Or.inl h
 ·exact Or.inr ⟨base, xs, h1, Nat.le_trans h2 hk.size, owns_keep hk h3, h4.soft (Sf.keep hk)⟩
theorem Seen.row {w : World} {AR g0 : Nat} {s : Value} {f : Nat → Int × Int} {n : Int} {j : Nat} (h : Seen w AR g0 s f n j) : RowQ w s f n j := by
 rcases h with ⟨rfl, rfl⟩ | ⟨base, xs, _, _, h3, h4⟩
 ·exact ⟨_, 0, 0, rfl, by omega, by omega, fun hp => absurd hp (by omega), fun i hi => absurd hi (by omega)⟩
 ·exact RowQ.of_owns h3 h4
theorem Seen.shape {w : World} {AR g0 : Nat} {s : Value} {f : Nat → Int × Int} {n : Int} {j : Nat} (h : Seen w AR g0 s f n j) : ∃ ao cap, s = .slice ao j cap := by
 obtain ⟨ao, cap, _, h1, _⟩ := h.row
 exact ⟨ao, cap, h1⟩
theorem owns_set {w : World} {base : Nat} {e : TypeId} {size : Nat} {v : Value} {n : Nat} {xs : List Value} {A o : Nat} {y : Value} (hA : A < base) (h : w.ownsRow base e size v n xs) : (w.setCell ⟨A, o, none⟩ y).ownsRow base e size v n xs := by
 obtain ⟨hl, h2⟩ := h
 refine ⟨hl, ?_⟩
 rcases h2 with h2 | ⟨g, cap, cur, h3, hb, hg, hr⟩
 ·exact Or.inl h2
 ·refine Or.inr ⟨g, cap, cur, h3, hb, ?_, hr⟩
  rw [Below.heap_setCell w ⟨A, o, none⟩ y g (by simp; omega)]
  exact hg
theorem Seen.stored {w : World} {AR g0 : Nat} {s : Value} {f : Nat → Int × Int} {n : Int} {j : Nat} {cs : Array Value} (hB : Blk w AR cs 69) (h : Seen w AR g0 s f n j) (x0 x1 x2 x3 x4 x5 x6 x7 : Value) : Seen ((((((((w.setCell ⟨AR, 0, none⟩ (x0)).setCell ⟨AR, 1, none⟩ (x1)).setCell ⟨AR, 2, none⟩ (x2)).setCell ⟨AR, 3, none⟩ (x3)).setCell ⟨AR, 4, none⟩ (x4)).setCell ⟨AR, 5, none⟩ (x5)).setCell ⟨AR, 6, none⟩ (x6)).setCell ⟨AR, 7, none⟩ (x7)) AR g0 s f n j := by
 have hs := sf8 (E := 2) x0 x1 x2 x3 x4 x5 x6 x7 hB (by decide)
 rcases h with h | ⟨base, xs, h1, h2, h3, h4⟩
 ·exact Or.inl h
 ·exact Or.inr ⟨base, xs, h1, by simp only [size_setCell']; exact h2, owns_set h1 (owns_set h1 (owns_set h1 (owns_set h1 (owns_set h1 (owns_set h1 (owns_set h1 (owns_set h1 h3))))))), h4.soft hs⟩
def perV (J i : Nat) : Value := if J ≤ 200 then .tuple #[.int .i64 i, .int .i64 ((J : Int) - i), .bool true] else .tuple #[.int .i64 0, .int .i64 0, .bool false]

set_option maxHeartbeats 6400000 in
set_option maxRecDepth 100000 in
/-- expansion.Period: the rest J is the first that was there before, at i; or J is 201. -/
theorem period_any (a : Qn) (J i : Nat) (v : Value) (w : World) (hv : XN w v a) (hc : Cn a) (f : QF 1100000 a) (hd : QD a) (hq : ∀ j, j ≤ 201 → (rs a j).2 ≠ 0) (hJ : J ≤ 201)
 (hno : ∀ j, j < J → ∀ i, i < j → ¬ ((rs a i).1 = (rs a j).1 ∧ (rs a i).2 = (rs a j).2)) (hyes : J ≤ 200 → i < J ∧ (rs a i).1 = (rs a J).1 ∧ (rs a i).2 = (rs a J).2) :
 Calls Tryd.prog 31 #[v, .int .i64 200] w (RetV w (perV J i)) := by
 obtain ⟨i0, hi, hz0, hz1, hz2⟩ := info_parts Tryd.infoRest
 have HSZ : Hid (∀ j, j ≤ 201 → Sz a j) := fun j hj => sz_all hc f (by omega) (fun k hk => hq k (by omega))
 have HNN := Hid.mk (n0_nn hc)
 have HOF := Hid.mk (fun (W : World) (hW : XN W v a) => qof_any a 1100000 v W hW (by decide) f hd)
 have HQ := Hid.mk hq
 have HNO := Hid.mk hno
 have HYE := Hid.mk hyes
 obtain ⟨b21, ao21, n21, c21, b22, ao22, n22, c22, b23, ao23, n23, c23, rfl, _, _, _⟩ := id hv
 clear hc f hd hq hno hyes
 generalize a.d = D at *
 have kp0 : Kp w ((w.alloc (.cells #[.bool b21, .slice ao21 n21 c21, .bool b22, .slice ao22 n22 c22, .bool b23, .slice ao23 n23 c23, .int .i64 D] 62)).alloc (.cells #[] 69)) := Kp.alloc' (kp_alloc w _) _
 have BX : Blk ((w.alloc (.cells #[.bool b21, .slice ao21 n21 c21, .bool b22, .slice ao22 n22 c22, .bool b23, .slice ao23 n23 c23, .int .i64 D] 62)).alloc (.cells #[] 69)) w.heap.size #[.bool b21, .slice ao21 n21 c21, .bool b22, .slice ao22 n22 c22, .bool b23, .slice ao23 n23 c23, .int .i64 D] 62 := Blk.alloc (Blk.new w _ _) _
 have hO := HOF.out _ (hv.keep kp0)
 have bxc := BX.cell
 have bxl := BX.lt
 go_enter Tryd.func31, Tryd.ntmps31
 go_wp2_with fail
 refine hO.mono ?_
 rintro e w3 ⟨v3, rfl, hR0, hk3⟩
 obtain ⟨b1, ao1, n1, c1, b2, ao2, n2, c2, b3, ao3, n3, c3, b4, ao4, n4, c4, rfl, _, _, _, _⟩ := id hR0
 have BR0 := Blk.new w3 #[.bool b1, .slice ao1 n1 c1, .bool b2, .slice ao2 n2 c2, .bool b3, .slice ao3 n3 c3, .bool b4, .slice ao4 n4 c4] 69
 have hkw0 := (kp0.trans' hk3).alloc' (.cells #[.bool b1, .slice ao1 n1 c1, .bool b2, .slice ao2 n2 c2, .bool b3, .slice ao3 n3 c3, .bool b4, .slice ao4 n4 c4] 69)
 replace hR0 := hR0.keep (kp_alloc w3 (.cells #[.bool b1, .slice ao1 n1 c1, .bool b2, .slice ao2 n2 c2, .bool b3, .slice ao3 n3 c3, .bool b4, .slice ao4 n4 c4] 69))
 have hAR : w.heap.size ≤ w3.heap.size := (kp0.trans' hk3).size
 clear kp0 BX hO bxc bxl hk3 HOF hv
 go_wp2_with fail
 generalize w3.alloc (.cells #[.bool b1, .slice ao1 n1 c1, .bool b2, .slice ao2 n2 c2, .bool b3, .slice ao3 n3 c3, .bool b4, .slice ao4 n4 c4] 69) = wa at *
 generalize w3.heap.size = AR at *
 go_loopg [7, 9, 10, 11] 202 (fun g s _ _ _ wr => ∃ (j : Nat) (b1 : Bool) (ao1 : Option Addr) (n1 c1 : Nat) (b2 : Bool) (ao2 : Option Addr) (n2 c2 : Nat) (b3 : Bool) (ao3 : Option Addr) (n3 c3 : Nat) (b4 : Bool) (ao4 : Option Addr) (n4 c4 : Nat), j + g = 202 ∧ j ≤ J ∧ Blk wr AR #[.bool b1, .slice ao1 n1 c1, .bool b2, .slice ao2 n2 c2, .bool b3, .slice ao3 n3 c3, .bool b4, .slice ao4 n4 c4] 69 ∧ RR wr (.agg #[.bool b1, .slice ao1 n1 c1, .bool b2, .slice ao2 n2 c2, .bool b3, .slice ao3 n3 c3, .bool b4, .slice ao4 n4 c4]) (rs a j).1 (rs a j).2 (n0 a) ∧ Hid (Seen wr AR (w.heap.size + 1) s (rs a) (n0 a) j) ∧ Kp w wr)
 case atStart => exact ⟨0, _, _, _, _, _, _, _, _, _, _, _, _, _, _, _, _, rfl, by omega, BR0, hR0, Or.inl ⟨rfl, rfl⟩, hkw0⟩
 case round =>
  clear BR0 hR0 hkw0
  obtain ⟨j, b1, ao1, n1, c1, b2, ao2, n2, c2, b3, ao3, n3, c3, b4, ao4, n4, c4, hjg, hjJ, BR, hR, hSEEN, hkr⟩ := hrel
  obtain ⟨sao, scap, hsh⟩ := hSEEN.out.shape
  subst hsh
  by_cases hj2 : j ≤ 200
  ·have hji : (j : Int) ≤ 200 := by omega
   have hEn := ended_any _ _ _ _ wr hR
   rw [decide_eq_false (HQ.out j (by omega))] at hEn
   have brc := BR.cell
   have brl := BR.lt
   go_wp2_with fail
   refine hEn.mono ?_
   rintro e w4 ⟨rfl, hk4⟩
   replace BR := BR.keep hk4
   replace hR := hR.keep hk4
   replace hkr := hkr.trans' hk4
   replace hSEEN := Hid.mk (hSEEN.out.keep hk4)
   clear brc brl hEn hk4
   have brc := BR.cell
   have brl := BR.lt
   by_cases hjE : j = J
   ·obtain ⟨y1, y2, y3⟩ := HYE.out (by omega)
    have hPl := place_any _ _ (rs a) (n0 a) _ _ j i w4 hSEEN.out.row hR (by omega) (by omega) (fun i' hi' k => HNO.out i (by omega) i' hi' ⟨by rw [k.1, y2, hjE], by rw [k.2, y3, hjE]⟩) (fun _ => ⟨by rw [y2, hjE], by rw [y3, hjE]⟩)
    have HPV : Hid (perV J i = .tuple #[.int .i64 i, .int .i64 ((j : Int) - i), .bool true]) := by
     unfold Hid perV
     rw [if_pos (by omega), hjE]
    have hij : (i : Int) < (j : Int) := by omega
    clear y1 y2 y3 hjE
    go_wp2_with fail
    refine hPl.mono ?_
    rintro e w5 ⟨rfl, hk5⟩
    go_wp2_with fail
    refine bodyPost_ret (v := .tuple #[.int .i64 i, .int .i64 ((j : Int) - i), .bool true]) (by simp [results, Tryd.results31, go_sem]) rfl ?_
    exact ⟨by rw [HPV.out], hkr.trans' hk5⟩
   ·have hPl := place_any _ _ (rs a) (n0 a) _ _ j j w4 hSEEN.out.row hR (by omega) (by omega) (fun i' hi' => HNO.out j (by omega) i' hi') (fun h => absurd h (by omega))
    have hjJ2 : j + 1 ≤ J := by omega
    clear hjE
    go_wp2_with fail
    refine hPl.mono ?_
    rintro e w5 ⟨rfl, hk5⟩
    replace BR := BR.keep hk5
    replace hR := hR.keep hk5
    replace hkr := hkr.trans' hk5
    replace hSEEN := Hid.mk (hSEEN.out.keep hk5)
    clear brc brl hPl hk5
    have brc := BR.cell
    have brl := BR.lt
    rcases hSEEN.out with ⟨hj0, hs0⟩ | ⟨base, xs, hb1, hb2, hown, hIQ⟩
    ·simp only [Value.slice.injEq] at hs0
     obtain ⟨rfl, _, rfl⟩ := hs0
     subst hj0
     go_wp2_with (at_builtin; (refine wpList_append_grows _ rfl _ _ 101 rfl 69 i0 _ 8 128 Tryd.underlying101 hi hz0 hz1 hz2 rfl (by decide) (some ⟨w.heap.size + 1, 0, none⟩) 0 0 [] rfl (fun h => by cases h) rfl (fun b hb k u hu => by simp at hu) ⟨w5.heap.size, 0, none⟩ 1 1 [.bool b1, .slice ao1 n1 c1, .bool b2, .slice ao2 n2 c2, .bool b3, .slice ao3 n3 c3, .bool b4, .slice ao4 n4 c4] rfl rfl (cells_new w5 #[.bool b1, .slice ao1 n1 c1, .bool b2, .slice ao2 n2 c2, .bool b3, .slice ao3 n3 c3, .bool b4, .slice ao4 n4 c4] 69) (by simp [Value.oneCell']) (by decide) (by unfold maxLen; omega) (by decide) ?_))
     intro s' w7 hown' hgr
     have hsf : Sf 2 w5 w7 := (Sf.keep (kp_alloc w5 _)).trans ⟨fun k hk => hgr.block k (elemOf_lt hk) (by simp)⟩
     replace BR := Blk.grown hgr (by simp) (BR.alloc _)
     replace hkr := (hkr.alloc' _).grown' hgr (fun k h => by cases h)
     have hIS : IsQ w7 ([] ++ [.bool b1, .slice ao1 n1 c1, .bool b2, .slice ao2 n2 c2, .bool b3, .slice ao3 n3 c3, .bool b4, .slice ao4 n4 c4]) (rs a) (n0 a) (0 + 1) := IsQ.snoc (fun i hi => absurd hi (by omega)) rfl (hR.soft hsf)
     replace hR := hR.soft hsf
     have hAR5 : AR < w5.heap.size := brl
     replace hSEEN : Hid (Seen w7 AR (w.heap.size + 1) s' (rs a) (n0 a) (0 + 1)) := Or.inr ⟨w5.heap.size + 1, _, by omega, by have := hgr.size; simpa using this, hown', hIS⟩
     obtain ⟨sao2, scap2, hsh⟩ := hSEEN.out.shape
     subst hsh
     clear hown' hgr hsf hIS brc brl hAR5
     have hq := HQ.out 0 (by omega)
     have hs := HSZ.out 0 (by omega)
     have hNx := next_any _ _ _ 4500000 _ _ hR (by decide) (hs.p.mono (by decide)) (hs.q.mono (by decide)) hs.n (hs.r.mono (by decide)) hq HNN.out
     clear hq hs
     have brc := BR.cell
     have brl := BR.lt
     go_wp2_with fail
     refine hNx.mono ?_
     rintro e w6 ⟨ut, uy, rfl, hT, hY, hk6⟩
     obtain ⟨b9, ao9, n9, c9, rfl⟩ := hT.shape'
     obtain ⟨b5, ao5, n5, c5, b6, ao6, n6, c6, b7, ao7, n7, c7, b8, ao8, n8, c8, rfl, _, _, _, _⟩ := id hY
     have BY : Blk ((w6.alloc (.cells #[.bool b9, .slice ao9 n9 c9] 60)).alloc (.cells #[.bool b5, .slice ao5 n5 c5, .bool b6, .slice ao6 n6 c6, .bool b7, .slice ao7 n7 c7, .bool b8, .slice ao8 n8 c8] 69)) (w6.heap.size + 1) #[.bool b5, .slice ao5 n5 c5, .bool b6, .slice ao6 n6 c6, .bool b7, .slice ao7 n7 c7, .bool b8, .slice ao8 n8 c8] 69 := Blk.at (Blk.new (w6.alloc (.cells #[.bool b9, .slice ao9 n9 c9] 60)) _ _) (by simp)
     replace BR := BR.keep hk6
     replace hkr := hkr.trans' hk6
     replace hSEEN := Hid.mk (hSEEN.out.keep hk6)
     clear brc brl hNx hk6 hT hR
     have brc := BR.cell
     have brf := BR.frozen
     have brl := BR.lt
     have byc := BY.cell
     have byl := BY.lt
     go_wp2_with fail
     have sfR := (sf8 (E := 2) (.bool b5) (.slice ao5 n5 c5) (.bool b6) (.slice ao6 n6 c6) (.bool b7) (.slice ao7 n7 c7) (.bool b8) (.slice ao8 n8 c8) BR (by decide))
     replace hY := hY.soft sfR
     replace hkr := (kp8 (A := AR) (.bool b5) (.slice ao5 n5 c5) (.bool b6) (.slice ao6 n6 c6) (.bool b7) (.slice ao7 n7 c7) (.bool b8) (.slice ao8 n8 c8) hkr (by omega))
     replace hSEEN := Hid.mk (Seen.stored BR hSEEN.out (.bool b5) (.slice ao5 n5 c5) (.bool b6) (.slice ao6 n6 c6) (.bool b7) (.slice ao7 n7 c7) (.bool b8) (.slice ao8 n8 c8))
     replace BR := (bl8 (.bool b5) (.slice ao5 n5 c5) (.bool b6) (.slice ao6 n6 c6) (.bool b7) (.slice ao7 n7 c7) (.bool b8) (.slice ao8 n8 c8) BR)
     clear brc brf brl byc byl sfR BY
     have ka := fun (x : World) => Kp.alloc' (kp_alloc x (.cells #[.bool b9, .slice ao9 n9 c9] 60)) (.cells #[.bool b5, .slice ao5 n5 c5, .bool b6, .slice ao6 n6 c6, .bool b7, .slice ao7 n7 c7, .bool b8, .slice ao8 n8 c8] 69)
     replace BR := BR.keep (ka _)
     replace hY := hY.keep (ka _)
     replace hkr := hkr.trans' (ka _)
     replace hSEEN := Hid.mk (hSEEN.out.keep (ka _))
     clear ka
     go_roundg (202 - (0 + 1))
     case rel => exact ⟨0 + 1, _, _, _, _, _, _, _, _, _, _, _, _, _, _, _, _, by omega, by omega, BR, hY, hSEEN, hkr⟩
     case measure => omega
    ·have hob : ∀ k, (Value.slice sao j scap).ownBlock = some k → base ≤ k := fun k hk => (hown.lt k hk).1
     go_wp2_with (at_builtin; (refine wpList_append_own _ rfl _ _ 101 rfl base 69 i0 _ 8 128 Tryd.underlying101 hi hz0 hz1 hz2 rfl (by decide) (.slice sao j scap) j xs rfl (hown.alloc _) ⟨w5.heap.size, 0, none⟩ 1 1 [.bool b1, .slice ao1 n1 c1, .bool b2, .slice ao2 n2 c2, .bool b3, .slice ao3 n3 c3, .bool b4, .slice ao4 n4 c4] rfl rfl (cells_new w5 #[.bool b1, .slice ao1 n1 c1, .bool b2, .slice ao2 n2 c2, .bool b3, .slice ao3 n3 c3, .bool b4, .slice ao4 n4 c4] 69) (by simp [Value.oneCell']) (by unfold maxLen; omega) (by omega) (by simp; omega) ?_))
     intro s' w7 hown' hgr _
     have hsf : Sf 2 w5 w7 := (Sf.keep (kp_alloc w5 (.cells #[.bool b1, .slice ao1 n1 c1, .bool b2, .slice ao2 n2 c2, .bool b3, .slice ao3 n3 c3, .bool b4, .slice ao4 n4 c4] 69))).trans (sf_grown hgr (by decide) (owns_elem (hown.alloc _)))
     replace BR := Blk.grown hgr (fun h => by have := hob _ h.symm; omega) (BR.alloc _)
     replace hkr := (hkr.alloc' _).grown' hgr (fun k h => by have := hob _ h; omega)
     have hIS := IsQ.snoc (IsQ.soft hsf hIQ) (by rw [hown.1, Nat.mul_comm]) (hR.soft hsf)
     replace hR := hR.soft hsf
     replace hSEEN : Hid (Seen w7 AR (w.heap.size + 1) s' (rs a) (n0 a) (j + 1)) := Or.inr ⟨base, _, hb1, Nat.le_trans hb2 (Nat.le_trans (kp_alloc w5 (.cells #[.bool b1, .slice ao1 n1 c1, .bool b2, .slice ao2 n2 c2, .bool b3, .slice ao3 n3 c3, .bool b4, .slice ao4 n4 c4] 69)).size hgr.size), hown', hIS⟩
     obtain ⟨sao2, scap2, hsh⟩ := hSEEN.out.shape
     subst hsh
     clear hown' hgr hsf hIS brc brl hown hIQ hob
     have hq := HQ.out j (by omega)
     have hs := HSZ.out j (by omega)
     have hNx := next_any _ _ _ 4500000 _ _ hR (by decide) (hs.p.mono (by decide)) (hs.q.mono (by decide)) hs.n (hs.r.mono (by decide)) hq HNN.out
     clear hq hs
     have brc := BR.cell
     have brl := BR.lt
     go_wp2_with fail
     refine hNx.mono ?_
     rintro e w6 ⟨ut, uy, rfl, hT, hY, hk6⟩
     obtain ⟨b9, ao9, n9, c9, rfl⟩ := hT.shape'
     obtain ⟨b5, ao5, n5, c5, b6, ao6, n6, c6, b7, ao7, n7, c7, b8, ao8, n8, c8, rfl, _, _, _, _⟩ := id hY
     have BY : Blk ((w6.alloc (.cells #[.bool b9, .slice ao9 n9 c9] 60)).alloc (.cells #[.bool b5, .slice ao5 n5 c5, .bool b6, .slice ao6 n6 c6, .bool b7, .slice ao7 n7 c7, .bool b8, .slice ao8 n8 c8] 69)) (w6.heap.size + 1) #[.bool b5, .slice ao5 n5 c5, .bool b6, .slice ao6 n6 c6, .bool b7, .slice ao7 n7 c7, .bool b8, .slice ao8 n8 c8] 69 := Blk.at (Blk.new (w6.alloc (.cells #[.bool b9, .slice ao9 n9 c9] 60)) _ _) (by simp)
     replace BR := BR.keep hk6
     replace hkr := hkr.trans' hk6
     replace hSEEN := Hid.mk (hSEEN.out.keep hk6)
     clear brc brl hNx hk6 hT hR
     have brc := BR.cell
     have brf := BR.frozen
     have brl := BR.lt
     have byc := BY.cell
     have byl := BY.lt
     go_wp2_with fail
     have sfR := (sf8 (E := 2) (.bool b5) (.slice ao5 n5 c5) (.bool b6) (.slice ao6 n6 c6) (.bool b7) (.slice ao7 n7 c7) (.bool b8) (.slice ao8 n8 c8) BR (by decide))
     replace hY := hY.soft sfR
     replace hkr := (kp8 (A := AR) (.bool b5) (.slice ao5 n5 c5) (.bool b6) (.slice ao6 n6 c6) (.bool b7) (.slice ao7 n7 c7) (.bool b8) (.slice ao8 n8 c8) hkr (by omega))
     replace hSEEN := Hid.mk (Seen.stored BR hSEEN.out (.bool b5) (.slice ao5 n5 c5) (.bool b6) (.slice ao6 n6 c6) (.bool b7) (.slice ao7 n7 c7) (.bool b8) (.slice ao8 n8 c8))
     replace BR := (bl8 (.bool b5) (.slice ao5 n5 c5) (.bool b6) (.slice ao6 n6 c6) (.bool b7) (.slice ao7 n7 c7) (.bool b8) (.slice ao8 n8 c8) BR)
     clear brc brf brl byc byl sfR BY
     have ka := fun (x : World) => Kp.alloc' (kp_alloc x (.cells #[.bool b9, .slice ao9 n9 c9] 60)) (.cells #[.bool b5, .slice ao5 n5 c5, .bool b6, .slice ao6 n6 c6, .bool b7, .slice ao7 n7 c7, .bool b8, .slice ao8 n8 c8] 69)
     replace BR := BR.keep (ka _)
     replace hY := hY.keep (ka _)
     replace hkr := hkr.trans' (ka _)
     replace hSEEN := Hid.mk (hSEEN.out.keep (ka _))
     clear ka
     go_roundg (202 - (j + 1))
     case rel => exact ⟨j + 1, _, _, _, _, _, _, _, _, _, _, _, _, _, _, _, _, by omega, by omega, BR, hY, hSEEN, hkr⟩
     case measure => omega
  ·have hJ2 : J = 201 := by omega
   have hji : ¬ (j : Int) ≤ 200 := by omega
   have HPV : Hid (perV J i = .tuple #[.int .i64 0, .int .i64 0, .bool false]) := by
    unfold Hid perV
    rw [if_neg (by omega)]
   clear hJ2
   go_wp2_with fail
   refine bodyPost_ret (v := .tuple #[.int .i64 0, .int .i64 0, .bool false]) (by simp [results, Tryd.results31, go_sem]) rfl ?_
   exact ⟨by rw [HPV.out], hkr⟩

end Go.Proofs.YtjahbjjekednfabDoor
