import Derived.Test.YtjahbjjekednfaaGreatDoorSoft
import Derived.Test.YtjahbjjekednfaaGreatDoorR3
import Derived.Test.YtjahbjjekednfaaGreatDoorJ3
import Derived.Test.YtjahbjjekednfaaGreatDoorR17
import Derived.Test.YtjahbjjekednfaaGreatDoorF8
/-! Rows whose elements are strings, or numbers of two cells. -/
namespace Go.Proofs.YtjahbjjekednfaaGreatDoor
open Go.RowKit

theorem cells_new (w : World) (cs : Array Value) (t : TypeId) : ∀ j u, cs.toList[j]? = some u → (w.alloc (.cells cs t)).cell? ((⟨w.heap.size, 0, none⟩ : Addr).add j) = some u := by
 intro j u hj
 have h1 : (w.alloc (.cells cs t)).heap[w.heap.size]? = some (.cells cs t (0, 0)) := heap_alloc_new w _
 rw [Addr.add_lit]
 simp only [World.cell?, h1]
 rw [Array.getElem?_toList] at hj
 simpa using hj

theorem sf_grown {E e : TypeId} {w w' : World} {v : Value} (hg : w.grownBy w' v.ownBlock) (hne : e ≠ E) (he : ∀ k, v.ownBlock = some k → elemOf w k = some e) : Sf E w w' :=
 ⟨fun k hk => hg.block k (elemOf_lt hk) (fun h => by have := he k h.symm; rw [hk] at this; exact hne (Option.some.inj this).symm)⟩
theorem owns_elem {w : World} {base : Nat} {e : TypeId} {size : Nat} {v : Value} {n : Nat} {xs : List Value} (h : w.ownsRow base e size v n xs) : ∀ k, v.ownBlock = some k → elemOf w k = some e := by
 intro k hk
 rcases h.2 with ⟨rfl, _⟩ | ⟨g, cap, cur, rfl, hb, hg, _⟩
 ·simp [Value.ownBlock] at hk
 ·simp only [Value.ownBlock, Option.some.injEq] at hk
  subst hk
  simp [elemOf, World.shape?, hg]

/-- 'append(own, y)': an element of any size. -/
theorem wpList_append_el {P : Program} (w : World) {ops : Array Oper} {rest : List Oper} {o : Oper} {a : Act} {Q : Exit → Act → World → Prop} (hgd : o.guard = none) (s x : Operand) (t : TypeId)
  (ho : o.op = .call { callee := .builtin .append, args := #[s, x], argTypes := #[t, t] })
  (a0 : World) (e : TypeId) (i : TypeInfo) (z : Value) (size bytes : Nat) (ht : P.underlying t = some (.slice e)) (hi : P.info? e = some i) (hz : i.zero = some z)
  (hsize : i.size = size) (hby : i.bytes = bytes) (hzs : z.cells.size = size) (hsz : 0 < size)
  (v : Value) (n : Nat) (xs : List Value) (cs : Array Value) (hcs : cs.toList.length = 1 * size) (h1 : ∀ u ∈ cs.toList, u.oneCell' = true) (hs : a.eval s = v) (hown : w.ownsRow a0.heap.size e size v n xs) (hk : Kp a0 w)
  (hx : a.eval x = .slice (some ⟨w.heap.size, 0, none⟩) 1 1)
  (h63 : n + 1 ≤ maxLen) (hbytes : (n + 1) * bytes ≤ 140737488355328)
  (h : ∀ v' w', w'.ownsRow a0.heap.size e size v' (n + 1) (xs ++ cs.toList) → Kp a0 w' → (∀ E, e ≠ E → Sf E w w') → wpList P ops Q rest (a.put o.dst v') w') :
  wpList P ops Q (o :: rest) a (w.alloc (.cells cs e)) := by
 refine wpList_append_own _ hgd s x t ho a0.heap.size e i z size bytes ht hi hz hsize hby hzs hsz v n xs hs (hown.alloc _) ⟨w.heap.size, 0, none⟩ 1 1 cs.toList hx hcs (cells_new _ _ _) h1 h63 hbytes (by have := hk.size; simp; omega) ?_
 intro v' w' q1 q2 _
 refine h v' w' q1 ((hk.alloc' _).grown' q2 ?_) ?_
 ·intro k hkk
  exact (hown.lt k hkk).1
 ·intro E hE
  exact (Sf.keep (kp_alloc w _)).trans (sf_grown q2 hE (owns_elem (hown.alloc _)))

/-- Numbers of two cells, one behind the other. -/
def IsI (w : World) (xs : List Value) (ts : List Int) : Prop := ∀ i, i < ts.length → ∃ b ao n c, xs[2 * i]? = some (.bool b) ∧ xs[2 * i + 1]? = some (.slice ao n c) ∧ IN w (.agg #[.bool b, .slice ao n c]) (at0 ts i)
theorem IsI.soft {w W : World} {xs : List Value} {ts : List Int} (hs : Sf 3 w W) (h : IsI w xs ts) : IsI W xs ts := fun i hi => by
 obtain ⟨b, ao, n, c, h1, h2, h3⟩ := h i hi
 exact ⟨b, ao, n, c, h1, h2, h3.soft hs⟩
theorem IsI.nil (w : World) : IsI w [] [] := fun i hi => absurd hi (by simp)
theorem IsI.snoc {w : World} {xs : List Value} {ts : List Int} (h : IsI w xs ts) (hl : xs.length = 2 * ts.length) {b : Bool} {ao : Option Addr} {n c : Nat} {t : Int} (ht : IN w (.agg #[.bool b, .slice ao n c]) t) : IsI w (xs ++ [.bool b, .slice ao n c]) (ts ++ [t]) := by
 intro i hi
 rw [List.length_append, List.length_singleton] at hi
 by_cases h1 : i < ts.length
 ·obtain ⟨b', ao', n', c', h2, h3, h4⟩ := h i h1
  refine ⟨b', ao', n', c', ?_, ?_, ?_⟩
  ·rw [List.getElem?_append_left (by omega), h2]
  ·rw [List.getElem?_append_left (by omega), h3]
  ·rw [at0_append_lt h1]; exact h4
 ·have e : i = ts.length := by omega
  subst e
  refine ⟨b, ao, n, c, ?_, ?_, ?_⟩
  ·rw [List.getElem?_append_right (by omega), hl]; simp
  ·rw [List.getElem?_append_right (by omega), hl, show 2 * ts.length + 1 - 2 * ts.length = 1 by omega]; rfl
  ·rw [at0_append_ge (Nat.le_refl _), Nat.sub_self]; exact ht

/-- The slice v holds the numbers ts. -/
def RowI (w : World) (v : Value) (ts : List Int) : Prop := ∃ (ao : Option Addr) (cap b : Nat), v = .slice ao ts.length cap ∧ ts.length ≤ cap ∧ cap ≤ 9223372036854775807 ∧ (0 < ts.length → ao = some ⟨b, 0, none⟩ ∧ b < w.heap.size) ∧
 (∀ i, i < ts.length → ∃ bb aa nn cc, w.cell? ⟨b, 2 * i, none⟩ = some (.bool bb) ∧ w.cell? ⟨b, 2 * i + 1, none⟩ = some (.slice aa nn cc) ∧ IN w (.agg #[.bool bb, .slice aa nn cc]) (at0 ts i))
theorem RowI.keep {w W : World} {v : Value} {ts : List Int} (hk : Kp w W) (h : RowI w v ts) : RowI W v ts := by
 obtain ⟨ao, cap, b, h1, h2, h3, h4, h5⟩ := h
 refine ⟨ao, cap, b, h1, h2, h3, fun hp => ⟨(h4 hp).1, Nat.lt_of_lt_of_le (h4 hp).2 hk.size⟩, fun i hi => ?_⟩
 obtain ⟨bb, aa, nn, cc, g1, g2, g3⟩ := h5 i hi
 have hb := hk.block b (h4 (by omega)).2
 exact ⟨bb, aa, nn, cc, (World.cell?_of_block (w := w) (a := ⟨b, 2 * i, none⟩) hb).trans g1, (World.cell?_of_block (w := w) (a := ⟨b, 2 * i + 1, none⟩) hb).trans g2, g3.keep hk⟩
theorem RowI.of_owns {w : World} {base : Nat} {v : Value} {n : Nat} {xs : List Value} {ts : List Int} (h : w.ownsRow base 52 2 v n xs) (hn : ts.length = n) (hi : IsI w xs ts) : RowI w v ts := by
 obtain ⟨hl, h2⟩ := h
 rcases h2 with ⟨rfl, hz⟩ | ⟨g, cap, cur, rfl, hb, hg, hc, hm, hs, ht⟩
 ·refine ⟨none, 0, 0, by rw [hn, hz], by omega, by omega, fun hp => absurd hp (by omega), fun i hi => absurd hi (by omega)⟩
 ·refine ⟨some ⟨g, 0, none⟩, cap, g, by rw [hn], by omega, by unfold maxLen at hm; omega, fun _ => ⟨rfl, ?_⟩, fun i hii => ?_⟩
  ·by_cases hlt : g < w.heap.size
   ·exact hlt
   ·rw [Array.getElem?_eq_none (by omega)] at hg
    exact absurd hg (by simp)
  ·obtain ⟨bb, aa, nn, cc, g1, g2, g3⟩ := hi i hii
   have cell : ∀ j u, xs[j]? = some u → w.cell? ⟨g, j, none⟩ = some u := by
    intro j u hj
    rw [← ht, List.getElem?_take] at hj
    split at hj
    ·simp only [World.cell?, hg]
     rw [Array.getElem?_toList] at hj
     simpa using hj
    ·exact absurd hj (by simp)
   exact ⟨bb, aa, nn, cc, cell _ _ g1, cell _ _ g2, g3⟩
open Go.RowKit

theorem qok_one : Qok ⟨1, 0, 1, 1⟩ := ⟨by decide, by decide, by decide, by decide, sqfree_one⟩
theorem qf_one {m : Nat} : QF (m + m + 1) ⟨1, 0, 1, 1⟩ := ⟨Ft.mono (m := 1) (by unfold Ft; decide) (by omega), Ft.zero _, Ft.mono (m := 1) (by unfold Ft; decide) (by omega)⟩
/-- A call that returns a term, what the expansion goes on with, and whether it does. -/
def RetSt (w : World) (t : Int) (b : Qn) (more : Bool) (e : Ending) (w' : World) : Prop := ∃ v1 v2, e = .returned (.tuple #[v1, v2, .bool more]) ∧ IN w' v1 t ∧ NN w' v2 b ∧ Kp w w'

set_option maxHeartbeats 6400000 in
set_option maxRecDepth 100000 in
/-- surdref.step. -/
theorem step_core (a B : Qn) (more : Bool) (t : Int) (m : Nat) (u : Value) (w : World) (ha : NN w u a) (hm : m ≤ 3000000) (f : QF m a) (ft : Ft m t) (oa : Cn a) (hP : ∀ x, 0 ≤ ovr a x ↔ x ≤ t)
  (HB : Hid (((les a t).p = 0 ∧ (les a t).q = 0 → B = les a t ∧ more = false) ∧ (¬ ((les a t).p = 0 ∧ (les a t).q = 0) → B = nxa a t ∧ more = true))) : Calls Tryz.prog 46 #[u] w (RetSt w t B more) := by
 have HFL := Hid.mk (fun (W : World) (hk : Kp w W) => floor_ref a t m u W (ha.keep hk) (by omega) f ft (by have := oa.ok.d0; omega) (by have := oa.ok.d1; omega) hP)
 obtain ⟨b1, ao1, n1, c1, b2, ao2, n2, c2, b3, ao3, n3, c3, rfl, hp, hq, hr⟩ := ha
 have fT : Fit t := ft.fit (by omega)
 have fR : Fit a.r := f.2.2.fit (by omega)
 have fPp : Fit a.p := f.1.fit (by omega)
 have fTR : Fit (t * a.r) := (ft.mul f.2.2).fit (by omega)
 have HY : Hid (QF (m + m + 1) (les a t)) := by
  refine ⟨?_, f.2.1.mono (by omega), f.2.2.mono (by omega)⟩
  have := Ft.add (f.1.mono (show m ≤ m + m by omega)) (ft.mul f.2.2).neg
  rwa [← Int.sub_eq_add_neg] at this
 have HCN := Hid.mk (les_cn oa t)
 have HNX := Hid.mk (fun hz => nxa_ok oa (t := t) hz)
 clear oa hP f ft
 have kp0 : Kp w (((w.alloc (.cells #[.bool b1, .slice ao1 n1 c1, .bool b2, .slice ao2 n2 c2, .bool b3, .slice ao3 n3 c3, .int .i64 a.d] 54)).alloc (.cells #[.bool false, .slice none 0 0] 52)).alloc (.cells #[.bool false, .slice none 0 0, .bool false, .slice none 0 0, .bool false, .slice none 0 0, .int .i64 0] 54)) := Kp.alloc' (Kp.alloc' (kp_alloc w _) _) _
 have BX : Blk (((w.alloc (.cells #[.bool b1, .slice ao1 n1 c1, .bool b2, .slice ao2 n2 c2, .bool b3, .slice ao3 n3 c3, .int .i64 a.d] 54)).alloc (.cells #[.bool false, .slice none 0 0] 52)).alloc (.cells #[.bool false, .slice none 0 0, .bool false, .slice none 0 0, .bool false, .slice none 0 0, .int .i64 0] 54)) (w.heap.size) #[.bool b1, .slice ao1 n1 c1, .bool b2, .slice ao2 n2 c2, .bool b3, .slice ao3 n3 c3, .int .i64 a.d] 54 := Blk.alloc (Blk.alloc (Blk.new w _ _) _) _
 have BE : Blk (((w.alloc (.cells #[.bool b1, .slice ao1 n1 c1, .bool b2, .slice ao2 n2 c2, .bool b3, .slice ao3 n3 c3, .int .i64 a.d] 54)).alloc (.cells #[.bool false, .slice none 0 0] 52)).alloc (.cells #[.bool false, .slice none 0 0, .bool false, .slice none 0 0, .bool false, .slice none 0 0, .int .i64 0] 54)) (w.heap.size + 1) #[.bool false, .slice none 0 0] 52 := Blk.alloc (Blk.at (Blk.new (w.alloc (.cells #[.bool b1, .slice ao1 n1 c1, .bool b2, .slice ao2 n2 c2, .bool b3, .slice ao3 n3 c3, .int .i64 a.d] 54)) _ _) (by simp)) _
 have BN : Blk (((w.alloc (.cells #[.bool b1, .slice ao1 n1 c1, .bool b2, .slice ao2 n2 c2, .bool b3, .slice ao3 n3 c3, .int .i64 a.d] 54)).alloc (.cells #[.bool false, .slice none 0 0] 52)).alloc (.cells #[.bool false, .slice none 0 0, .bool false, .slice none 0 0, .bool false, .slice none 0 0, .int .i64 0] 54)) (w.heap.size + 1 + 1) #[.bool false, .slice none 0 0, .bool false, .slice none 0 0, .bool false, .slice none 0 0, .int .i64 0] 54 := Blk.at (Blk.new ((w.alloc (.cells #[.bool b1, .slice ao1 n1 c1, .bool b2, .slice ao2 n2 c2, .bool b3, .slice ao3 n3 c3, .int .i64 a.d] 54)).alloc (.cells #[.bool false, .slice none 0 0] 52)) _ _) (by simp)
 have bxc := BX.cell
 have hFl := HFL.out _ kp0
 go_enter Tryz.func46, Tryz.ntmps46
 go_wp2_with fail
 refine hFl.mono ?_
 rintro e w1 ⟨v4, rfl, hT, hk1⟩
 obtain ⟨b4, ao4, n4, c4, rfl⟩ := hT.shape'
 have hkw := (kp0.trans' hk1).alloc' (.cells #[.bool b4, .slice ao4 n4 c4] 52)
 replace hp := hp.keep hkw
 replace hq := hq.keep hkw
 replace hr := hr.keep hkw
 replace hT := hT.keep (kp_alloc w1 (.cells #[.bool b4, .slice ao4 n4 c4] 52))
 replace BX := (BX.keep hk1).alloc (.cells #[.bool b4, .slice ao4 n4 c4] 52)
 replace BE := (BE.keep hk1).alloc (.cells #[.bool b4, .slice ao4 n4 c4] 52)
 replace BN := (BN.keep hk1).alloc (.cells #[.bool b4, .slice ao4 n4 c4] 52)
 have BT : Blk (w1.alloc (.cells #[.bool b4, .slice ao4 n4 c4] 52)) (w1.heap.size) #[.bool b4, .slice ao4 n4 c4] 52 := Blk.new w1 _ _
 have hsz : w.heap.size + 3 ≤ w1.heap.size := by have := hk1.size; simp only [World.size_alloc] at this; omega
 clear hk1 kp0 bxc hFl HFL
 go_wp2_with fail
 generalize w1.alloc (.cells #[.bool b4, .slice ao4 n4 c4] 52) = wb at *
 generalize w1.heap.size = A5 at *
 go_cut [6] from 9 to 36 (fun p wx => ∃ (bp : Nat) (b5 : Bool) (ao5 : Option Addr) (n5 c5 : Nat), p = .pointer (some ⟨bp, 0, none⟩) ∧ Blk wx (bp) #[.bool b5, .slice ao5 n5 c5, .bool b2, .slice ao2 n2 c2, .bool b3, .slice ao3 n3 c3, .int .i64 a.d] 54 ∧ IN wx (.agg #[.bool b5, .slice ao5 n5 c5]) (a.p - t * a.r) ∧ IN wx (.agg #[.bool b2, .slice ao2 n2 c2]) a.q ∧ IN wx (.agg #[.bool b3, .slice ao3 n3 c3]) a.r ∧ Kp wb wx ∧ wb.heap.size ≤ bp)
 case first =>
  refine wp_region_l (S := fun w' => Kp wb w') (by kernel_rfl) (Kp.drew' (Below.refl _ _)) (fun hS0 => ?_)
  generalize wb.drew = wd at *
  refine wpAnyL_tk (i := 0) (k := 1) (v := .pointer (some ⟨w.heap.size, 0, none⟩)) rfl ?_ hS0 ?_
  ·intro w' hw'; go_simp
  simp only [sq]
  refine wpAnyL_tk (i := 1) (k := 6) (v := .agg #[.bool b1, .slice ao1 n1 c1]) rfl ?_ hS0 ?_
  ·intro w' hw'; have hc := ((BX).keep hw').cell; go_simp
  simp only [sq]
  refine wpAnyL_tk (i := 2) (k := 5) (v := .agg #[.bool b4, .slice ao4 n4 c4]) rfl ?_ hS0 ?_
  ·intro w' hw'; have hc := ((BT).keep hw').cell; go_simp
  simp only [sq]
  refine wpAnyL_tk (i := 3) (k := 4) (v := .pointer (some ⟨w.heap.size, 4, none⟩)) rfl ?_ hS0 ?_
  ·intro w' hw'; go_simp
  simp only [sq]
  refine wpAnyL_tk (i := 4) (k := 5) (v := .agg #[.bool b3, .slice ao3 n3 c3]) rfl ?_ hS0 ?_
  ·intro w' hw'; have hc := ((BX).keep hw').cell; go_simp
  simp only [sq]
  refine wpAnyL_tk (i := 7) (k := 8) (v := .pointer (some ⟨w.heap.size, 2, none⟩)) rfl ?_ hS0 ?_
  ·intro w' hw'; go_simp
  simp only [sq]
  refine wpAnyL_tk (i := 8) (k := 13) (v := .agg #[.bool b2, .slice ao2 n2 c2]) rfl ?_ hS0 ?_
  ·intro w' hw'; have hc := ((BX).keep hw').cell; go_simp
  simp only [sq]
  refine wpAnyL_tk (i := 9) (k := 10) (v := .pointer (some ⟨w.heap.size, 4, none⟩)) rfl ?_ hS0 ?_
  ·intro w' hw'; go_simp
  simp only [sq]
  refine wpAnyL_tk (i := 10) (k := 13) (v := .agg #[.bool b3, .slice ao3 n3 c3]) rfl ?_ hS0 ?_
  ·intro w' hw'; have hc := ((BX).keep hw').cell; go_simp
  simp only [sq]
  refine wpAnyL_tk (i := 11) (k := 12) (v := .pointer (some ⟨w.heap.size, 6, none⟩)) rfl ?_ hS0 ?_
  ·intro w' hw'; go_simp
  simp only [sq]
  refine wpAnyL_tk (i := 12) (k := 13) (v := .int .i64 a.d) rfl ?_ hS0 ?_
  ·intro w' hw'; have hc := ((BX).keep hw').cell; go_simp
  simp only [sq]
  refine wpAnyL_ready (rs := [5, 14]) (by kernel_rfl) (by simp) ?_
  refine AllReadyL.cons rfl (fun K hK => ?_) ?_
  ·go_simp
   refine (rtimes_any t a.r _ _ _ (hT.keep hS0) (hr.keep hS0) fT fR).mono ?_
   rintro e w105 ⟨v105, rfl, hv105, hk105⟩
   obtain ⟨b105, ao105, n105, c105, rfl⟩ := hv105.shape'
   go_wp2_with fail
   refine hK.out _ _ (hS0.trans' hk105) (fun hS1 => ?_)
   clear hK K
   refine wpAnyL_ready (rs := [6, 14]) (by kernel_rfl) (by simp) ?_
   refine AllReadyL.cons rfl (fun K hK => ?_) ?_
   ·go_simp
    refine (rminus_any a.p (t * a.r) _ _ _ (hp.keep hS1) hv105 fPp fTR).mono ?_
    rintro e w106 ⟨v106, rfl, hv106, hk106⟩
    obtain ⟨b106, ao106, n106, c106, rfl⟩ := hv106.shape'
    go_wp2_with fail
    refine hK.out _ _ (hS1.trans' hk106) (fun hS2 => ?_)
    clear hK K
    refine wpAnyL_tk (i := 13) (k := 15) (v := .agg #[.bool b106, .slice ao106 n106 c106, .bool b2, .slice ao2 n2 c2, .bool b3, .slice ao3 n3 c3, .int .i64 a.d]) rfl ?_ hS2 ?_
    ·intro w' hw'; go_simp
    simp only [sq]
    refine wpAnyL_on (i := 14) rfl (fun K hK => ?_)
    go_simp
    refine hK.out _ _ (Kp.alloc' hS2 (.cells #[.bool false, .slice none 0 0, .bool false, .slice none 0 0, .bool false, .slice none 0 0, .int .i64 0] 54)) (fun hS3 => ?_)
    clear hK K
    have NB14 := Blk.new w106 #[.bool false, .slice none 0 0, .bool false, .slice none 0 0, .bool false, .slice none 0 0, .int .i64 0] 54
    have ge14 : wb.heap.size ≤ w106.heap.size := hS2.size
    replace hv106 := hv106.keep (kp_alloc w106 (.cells #[.bool false, .slice none 0 0, .bool false, .slice none 0 0, .bool false, .slice none 0 0, .int .i64 0] 54))
    try simp only [sq]
    generalize hA14 : w106.heap.size = A14 at *
    generalize w106.alloc (.cells #[.bool false, .slice none 0 0, .bool false, .slice none 0 0, .bool false, .slice none 0 0, .int .i64 0] 54) = wn14 at *
    have st_c := NB14.cell
    have st_f := NB14.frozen
    have st_l := NB14.lt
    refine wpAnyL_last (i := 15) rfl (by kernel_rfl) (by kernel_rfl) (by kernel_rfl) (fun K hK => ?_)
    go_simp
    refine hK.out _ _ ?_
    clear hK K
    have sfE := (sf7 (E := 3) (.bool b106) (.slice ao106 n106 c106) (.bool b2) (.slice ao2 n2 c2) (.bool b3) (.slice ao3 n3 c3) (.int .i64 a.d) NB14 (by decide))
    go_wp2_with fail
    go_meet
    case rel => exact ⟨A14, _, _, _, _, rfl, (bl7 (.bool b106) (.slice ao106 n106 c106) (.bool b2) (.slice ao2 n2 c2) (.bool b3) (.slice ao3 n3 c3) (.int .i64 a.d) NB14), hv106.soft sfE, (hq.keep hS3).soft sfE, (hr.keep hS3).soft sfE, (kp7 (A := A14) (.bool b106) (.slice ao106 n106 c106) (.bool b2) (.slice ao2 n2 c2) (.bool b3) (.slice ao3 n3 c3) (.int .i64 a.d) hS3 ge14), ge14⟩
   refine AllReadyL.cons rfl (fun K hK => ?_) ?_
   ·go_simp
    refine hK.out _ _ (Kp.alloc' hS1 (.cells #[.bool false, .slice none 0 0, .bool false, .slice none 0 0, .bool false, .slice none 0 0, .int .i64 0] 54)) (fun hS2 => ?_)
    clear hK K
    have NB14 := Blk.new w105 #[.bool false, .slice none 0 0, .bool false, .slice none 0 0, .bool false, .slice none 0 0, .int .i64 0] 54
    have ge14 : wb.heap.size ≤ w105.heap.size := hS1.size
    replace hv105 := hv105.keep (kp_alloc w105 (.cells #[.bool false, .slice none 0 0, .bool false, .slice none 0 0, .bool false, .slice none 0 0, .int .i64 0] 54))
    try simp only [sq]
    generalize hA14 : w105.heap.size = A14 at *
    generalize w105.alloc (.cells #[.bool false, .slice none 0 0, .bool false, .slice none 0 0, .bool false, .slice none 0 0, .int .i64 0] 54) = wn14 at *
    refine wpAnyL_on (i := 6) rfl (fun K hK => ?_)
    go_simp
    refine (rminus_any a.p (t * a.r) _ _ _ (hp.keep hS2) hv105 fPp fTR).mono ?_
    rintro e w106 ⟨v106, rfl, hv106, hk106⟩
    obtain ⟨b106, ao106, n106, c106, rfl⟩ := hv106.shape'
    replace NB14 := NB14.keep hk106
    go_wp2_with fail
    refine hK.out _ _ (hS2.trans' hk106) (fun hS3 => ?_)
    clear hK K
    refine wpAnyL_tk (i := 13) (k := 15) (v := .agg #[.bool b106, .slice ao106 n106 c106, .bool b2, .slice ao2 n2 c2, .bool b3, .slice ao3 n3 c3, .int .i64 a.d]) rfl ?_ hS3 ?_
    ·intro w' hw'; go_simp
    simp only [sq]
    have st_c := NB14.cell
    have st_f := NB14.frozen
    have st_l := NB14.lt
    refine wpAnyL_last (i := 15) rfl (by kernel_rfl) (by kernel_rfl) (by kernel_rfl) (fun K hK => ?_)
    go_simp
    refine hK.out _ _ ?_
    clear hK K
    have sfE := (sf7 (E := 3) (.bool b106) (.slice ao106 n106 c106) (.bool b2) (.slice ao2 n2 c2) (.bool b3) (.slice ao3 n3 c3) (.int .i64 a.d) NB14 (by decide))
    go_wp2_with fail
    go_meet
    case rel => exact ⟨A14, _, _, _, _, rfl, (bl7 (.bool b106) (.slice ao106 n106 c106) (.bool b2) (.slice ao2 n2 c2) (.bool b3) (.slice ao3 n3 c3) (.int .i64 a.d) NB14), hv106.soft sfE, (hq.keep hS3).soft sfE, (hr.keep hS3).soft sfE, (kp7 (A := A14) (.bool b106) (.slice ao106 n106 c106) (.bool b2) (.slice ao2 n2 c2) (.bool b3) (.slice ao3 n3 c3) (.int .i64 a.d) hS3 ge14), ge14⟩
   exact AllReadyL.nil
  refine AllReadyL.cons rfl (fun K hK => ?_) ?_
  ·go_simp
   refine hK.out _ _ (Kp.alloc' hS0 (.cells #[.bool false, .slice none 0 0, .bool false, .slice none 0 0, .bool false, .slice none 0 0, .int .i64 0] 54)) (fun hS1 => ?_)
   clear hK K
   have NB14 := Blk.new wd #[.bool false, .slice none 0 0, .bool false, .slice none 0 0, .bool false, .slice none 0 0, .int .i64 0] 54
   have ge14 : wb.heap.size ≤ wd.heap.size := hS0.size
   try simp only [sq]
   generalize hA14 : wd.heap.size = A14 at *
   generalize wd.alloc (.cells #[.bool false, .slice none 0 0, .bool false, .slice none 0 0, .bool false, .slice none 0 0, .int .i64 0] 54) = wn14 at *
   refine wpAnyL_on (i := 5) rfl (fun K hK => ?_)
   go_simp
   refine (rtimes_any t a.r _ _ _ (hT.keep hS1) (hr.keep hS1) fT fR).mono ?_
   rintro e w105 ⟨v105, rfl, hv105, hk105⟩
   obtain ⟨b105, ao105, n105, c105, rfl⟩ := hv105.shape'
   replace NB14 := NB14.keep hk105
   go_wp2_with fail
   refine hK.out _ _ (hS1.trans' hk105) (fun hS2 => ?_)
   clear hK K
   refine wpAnyL_on (i := 6) rfl (fun K hK => ?_)
   go_simp
   refine (rminus_any a.p (t * a.r) _ _ _ (hp.keep hS2) hv105 fPp fTR).mono ?_
   rintro e w106 ⟨v106, rfl, hv106, hk106⟩
   obtain ⟨b106, ao106, n106, c106, rfl⟩ := hv106.shape'
   replace NB14 := NB14.keep hk106
   go_wp2_with fail
   refine hK.out _ _ (hS2.trans' hk106) (fun hS3 => ?_)
   clear hK K
   refine wpAnyL_tk (i := 13) (k := 15) (v := .agg #[.bool b106, .slice ao106 n106 c106, .bool b2, .slice ao2 n2 c2, .bool b3, .slice ao3 n3 c3, .int .i64 a.d]) rfl ?_ hS3 ?_
   ·intro w' hw'; go_simp
   simp only [sq]
   have st_c := NB14.cell
   have st_f := NB14.frozen
   have st_l := NB14.lt
   refine wpAnyL_last (i := 15) rfl (by kernel_rfl) (by kernel_rfl) (by kernel_rfl) (fun K hK => ?_)
   go_simp
   refine hK.out _ _ ?_
   clear hK K
   have sfE := (sf7 (E := 3) (.bool b106) (.slice ao106 n106 c106) (.bool b2) (.slice ao2 n2 c2) (.bool b3) (.slice ao3 n3 c3) (.int .i64 a.d) NB14 (by decide))
   go_wp2_with fail
   go_meet
   case rel => exact ⟨A14, _, _, _, _, rfl, (bl7 (.bool b106) (.slice ao106 n106 c106) (.bool b2) (.slice ao2 n2 c2) (.bool b3) (.slice ao3 n3 c3) (.int .i64 a.d) NB14), hv106.soft sfE, (hq.keep hS3).soft sfE, (hr.keep hS3).soft sfE, (kp7 (A := A14) (.bool b106) (.slice ao106 n106 c106) (.bool b2) (.slice ao2 n2 c2) (.bool b3) (.slice ao3 n3 c3) (.int .i64 a.d) hS3 ge14), ge14⟩
  exact AllReadyL.nil
 case rest =>
  obtain ⟨bp, b5, ao5, n5, c5, rfl, BY, hy1, hy2, hy3, hkc, hge⟩ := hcut
  have hY : NN wc (.agg #[.bool b5, .slice ao5 n5 c5, .bool b2, .slice ao2 n2 c2, .bool b3, .slice ao3 n3 c3, .int .i64 a.d]) (les a t) := ⟨_, _, _, _, _, _, _, _, _, _, _, _, rfl, hy1, hy2, hy3⟩
  have hbl := BT.lt
  replace BE := BE.keep hkc
  replace BN := BN.keep hkc
  replace BT := BT.keep hkc
  replace hT := hT.keep hkc
  replace hkw := hkw.trans' hkc
  clear hy1 hy2 hy3 BX hp hq hr hkc
  have byc := BY.cell
  go_wp2_with fail
  refine (zero_ref _ _ _ hY).mono ?_
  rintro e w2 ⟨rfl, hk2⟩
  replace BE := BE.keep hk2
  replace BN := BN.keep hk2
  replace BT := BT.keep hk2
  replace BY := BY.keep hk2
  replace hT := hT.keep hk2
  replace hY := hY.keep hk2
  replace hkw := hkw.trans' hk2
  clear byc hk2
  have btc := BT.cell
  have byc := BY.cell
  have bec := BE.cell
  have bef := BE.frozen
  have bel := BE.lt
  have bnc := BN.cell
  have bnf := BN.frozen
  have bnl := BN.lt
  by_cases hz : (les a t).p = 0 ∧ (les a t).q = 0
  ·obtain ⟨rfl, rfl⟩ := HB.out.1 hz
   rw [decide_eq_true hz]
   clear hz HB HNX
   go_wp2_with fail
   go_region
   have BE1 := (bl2 (.bool b4) (.slice ao4 n4 c4) BE)
   have BN1 := (ot2 (A := w.heap.size + 1) (.bool b4) (.slice ao4 n4 c4) BN (by omega))
   have sfA := (sf2 (E := 3) (.bool b4) (.slice ao4 n4 c4) BE (by decide)).trans (sf7 (.bool b5) (.slice ao5 n5 c5) (.bool b2) (.slice ao2 n2 c2) (.bool b3) (.slice ao3 n3 c3) (.int .i64 a.d) BN1 (by decide))
   have hkA := (kp7 (A := w.heap.size + 1 + 1) (.bool b5) (.slice ao5 n5 c5) (.bool b2) (.slice ao2 n2 c2) (.bool b3) (.slice ao3 n3 c3) (.int .i64 a.d) (kp2 (A := w.heap.size + 1) (.bool b4) (.slice ao4 n4 c4) hkw (by omega)) (by omega))
   have BE2 := (ot7 (A := w.heap.size + 1 + 1) (.bool b5) (.slice ao5 n5 c5) (.bool b2) (.slice ao2 n2 c2) (.bool b3) (.slice ao3 n3 c3) (.int .i64 a.d) BE1 (by omega))
   have BN2 := (bl7 (.bool b5) (.slice ao5 n5 c5) (.bool b2) (.slice ao2 n2 c2) (.bool b3) (.slice ao3 n3 c3) (.int .i64 a.d) BN1)
   have hT2 := hT.soft sfA
   have hY2 := hY.soft sfA
   clear BE1 BN1 sfA btc byc bec bef bel bnc bnf bnl BE BN BT BY hT hY hkw
   generalize (((((((((w2.setCell ⟨w.heap.size + 1, 0, none⟩ (.bool b4)).setCell ⟨w.heap.size + 1, 1, none⟩ (.slice ao4 n4 c4)).setCell ⟨w.heap.size + 1 + 1, 0, none⟩ (.bool b5)).setCell ⟨w.heap.size + 1 + 1, 1, none⟩ (.slice ao5 n5 c5)).setCell ⟨w.heap.size + 1 + 1, 2, none⟩ (.bool b2)).setCell ⟨w.heap.size + 1 + 1, 3, none⟩ (.slice ao2 n2 c2)).setCell ⟨w.heap.size + 1 + 1, 4, none⟩ (.bool b3)).setCell ⟨w.heap.size + 1 + 1, 5, none⟩ (.slice ao3 n3 c3)).setCell ⟨w.heap.size + 1 + 1, 6, none⟩ (.int .i64 a.d)) = wz at *
   have be2c := BE2.cell
   have bn2c := BN2.cell
   go_wp2_with fail
   refine bodyPost_ret (v := .tuple #[.agg #[.bool b4, .slice ao4 n4 c4], .agg #[.bool b5, .slice ao5 n5 c5, .bool b2, .slice ao2 n2 c2, .bool b3, .slice ao3 n3 c3, .int .i64 a.d], .bool false]) (by simp [results, Tryz.results46, go_sem, be2c, bn2c]) rfl ?_
   exact ⟨_, _, rfl, hT2.keep (Kp.drew' (Below.refl _ _)), hY2.keep (Kp.drew' (Below.refl _ _)), Kp.drew' hkA⟩
  ·obtain ⟨rfl, rfl⟩ := HB.out.2 hz
   rw [decide_eq_false hz]
   obtain ⟨hx1, hx2, _, _⟩ := HNX.out hz
   have HCB : Hid ((comb 47 ⟨1, 0, 1, 1⟩ (les a t)).2 = 0) := by unfold Hid; rw [hx1]
   have HCE : Hid ((comb 47 ⟨1, 0, 1, 1⟩ (les a t)).1 = nxa a t) := by unfold Hid; rw [hx1]
   have hyl0 := BY.lt
   clear hz hx1 hx2 HNX btc byc bec bef bnc bnf bnl bel HB
   go_wp2_with fail
   refine (of_any 1 _ (by decide) (by decide)).mono ?_
   rintro e w3 ⟨v7, rfl, h7, hk3⟩
   obtain ⟨b7, ao7, n7, c7, rfl⟩ := h7.shape'
   go_wp2_with fail
   refine (of_any 1 _ (by decide) (by decide)).mono ?_
   rintro e w4 ⟨v8, rfl, h8, hk4⟩
   obtain ⟨b8, ao8, n8, c8, rfl⟩ := h8.shape'
   have hk34 := (hk3.trans' hk4).alloc' (.cells #[.bool b7, .slice ao7 n7 c7, .bool false, .slice none 0 0, .bool b8, .slice ao8 n8 c8, .int .i64 1] 54)
   replace BE := BE.keep hk34
   replace BN := BN.keep hk34
   replace BT := BT.keep hk34
   replace BY := BY.keep hk34
   replace hT := hT.keep hk34
   replace hY := hY.keep hk34
   replace hkw := hkw.trans' hk34
   have ka := kp_alloc w4 (.cells #[.bool b7, .slice ao7 n7 c7, .bool false, .slice none 0 0, .bool b8, .slice ao8 n8 c8, .int .i64 1] 54)
   have BO : Blk (w4.alloc (.cells #[.bool b7, .slice ao7 n7 c7, .bool false, .slice none 0 0, .bool b8, .slice ao8 n8 c8, .int .i64 1] 54)) (w4.heap.size) #[.bool b7, .slice ao7 n7 c7, .bool false, .slice none 0 0, .bool b8, .slice ao8 n8 c8, .int .i64 1] 54 := Blk.new w4 _ _
   have hO : NN (w4.alloc (.cells #[.bool b7, .slice ao7 n7 c7, .bool false, .slice none 0 0, .bool b8, .slice ao8 n8 c8, .int .i64 1] 54)) (.agg #[.bool b7, .slice ao7 n7 c7, .bool false, .slice none 0 0, .bool b8, .slice ao8 n8 c8, .int .i64 1]) ⟨1, 0, 1, 1⟩ := ⟨_, _, _, _, _, _, _, _, _, _, _, _, rfl, (h7.keep hk4).keep ka, in_zero _, h8.keep ka⟩
   have hs4 : w2.heap.size ≤ w4.heap.size := (hk3.trans' hk4).size
   have hyl : bp < w2.heap.size := hyl0
   clear h7 h8 hk3 hk4 hk34 ka
   go_wp2_with fail
   generalize w4.alloc (.cells #[.bool b7, .slice ao7 n7 c7, .bool false, .slice none 0 0, .bool b8, .slice ao8 n8 c8, .int .i64 1] 54) = wo at *
   generalize w4.heap.size = A8 at *
   have kd : Kp wo wo.drew := Kp.drew' (Below.refl _ _)
   refine wp_region_l (S := fun w' => Blk w' (A5) #[.bool b4, .slice ao4 n4 c4] 52 ∧ Blk w' (A8) #[.bool b7, .slice ao7 n7 c7, .bool false, .slice none 0 0, .bool b8, .slice ao8 n8 c8, .int .i64 1] 54 ∧ Blk w' (bp) #[.bool b5, .slice ao5 n5 c5, .bool b2, .slice ao2 n2 c2, .bool b3, .slice ao3 n3 c3, .int .i64 a.d] 54 ∧ Kp w w') (by kernel_rfl) ⟨BT.keep kd, BO.keep kd, BY.keep kd, hkw.trans' kd⟩ (fun hS0 => ?_)
   replace BE := BE.keep kd
   replace BN := BN.keep kd
   replace hT := hT.keep kd
   replace hY := hY.keep kd
   replace hO := hO.keep kd
   clear hkw BT BO BY kd
   generalize wo.drew = wd at *
   refine wpAnyL_tk (i := 0) (k := 4) (v := .agg #[.bool b4, .slice ao4 n4 c4]) rfl ?_ hS0 ?_
   ·intro w' hw'; have hc := hw'.1.cell; go_simp
   simp only [sq]
   refine wpAnyL_tk (i := 1) (k := 3) (v := .agg #[.bool b7, .slice ao7 n7 c7, .bool false, .slice none 0 0, .bool b8, .slice ao8 n8 c8, .int .i64 1]) rfl ?_ hS0 ?_
   ·intro w' hw'; have hc := hw'.2.1.cell; go_simp
   simp only [sq]
   refine wpAnyL_tk (i := 2) (k := 3) (v := .agg #[.bool b5, .slice ao5 n5 c5, .bool b2, .slice ao2 n2 c2, .bool b3, .slice ao3 n3 c3, .int .i64 a.d]) rfl ?_ hS0 ?_
   ·intro w' hw'; have hc := hw'.2.2.1.cell; go_simp
   simp only [sq]
   refine wpAnyL_on (i := 3) rfl (fun K hK => ?_)
   go_simp
   refine (worked_any 47 ⟨1, 0, 1, 1⟩ (les a t) (m + m + 1) _ _ _ hO hY qok_one HCN.out.ok (by omega) qf_one HY.out (by omega) HCB.out).mono ?_
   rw [HCE.out]
   rintro e w5 ⟨v9, rfl, hB, hk5⟩
   generalize nxa a t = B at *
   obtain ⟨b9, ao9, n9, c9, b10, ao10, n10, c10, b11, ao11, n11, c11, rfl, _, _, _⟩ := id hB
   replace BE := BE.keep hk5
   replace BN := BN.keep hk5
   replace hT := hT.keep hk5
   go_wp2_with fail
   refine hK.out _ _ ⟨hS0.1.keep hk5, hS0.2.1.keep hk5, hS0.2.2.1.keep hk5, hS0.2.2.2.trans' hk5⟩ (fun hS1 => ?_)
   clear hK K hS0 hk5
   refine wpAnyL_on (i := 4) rfl (fun K hK => ?_)
   have bec := BE.cell
   have bef := BE.frozen
   have bel := BE.lt
   go_simp
   refine hK.out _ _ ⟨(ot2 (A := w.heap.size + 1) (.bool b4) (.slice ao4 n4 c4) hS1.1 (by omega)), (ot2 (A := w.heap.size + 1) (.bool b4) (.slice ao4 n4 c4) hS1.2.1 (by omega)), (ot2 (A := w.heap.size + 1) (.bool b4) (.slice ao4 n4 c4) hS1.2.2.1 (by omega)), (kp2 (A := w.heap.size + 1) (.bool b4) (.slice ao4 n4 c4) hS1.2.2.2 (by omega))⟩ (fun hS2 => ?_)
   clear hK K hS1
   have sf1 := (sf2 (E := 3) (.bool b4) (.slice ao4 n4 c4) BE (by decide))
   replace BN := (ot2 (A := w.heap.size + 1) (.bool b4) (.slice ao4 n4 c4) BN (by omega))
   replace BE := (bl2 (.bool b4) (.slice ao4 n4 c4) BE)
   replace hT := hT.soft sf1
   replace hB := hB.soft sf1
   clear bec bef bel sf1
   generalize ((w5.setCell ⟨w.heap.size + 1, 0, none⟩ (.bool b4)).setCell ⟨w.heap.size + 1, 1, none⟩ (.slice ao4 n4 c4)) = w6 at *
   refine wpAnyL_on (i := 5) rfl (fun K hK => ?_)
   have bnc := BN.cell
   have bnf := BN.frozen
   have bnl := BN.lt
   go_simp
   refine hK.out _ _ ⟨(ot7 (A := w.heap.size + 1 + 1) (.bool b9) (.slice ao9 n9 c9) (.bool b10) (.slice ao10 n10 c10) (.bool b11) (.slice ao11 n11 c11) (.int .i64 B.d) hS2.1 (by omega)), (ot7 (A := w.heap.size + 1 + 1) (.bool b9) (.slice ao9 n9 c9) (.bool b10) (.slice ao10 n10 c10) (.bool b11) (.slice ao11 n11 c11) (.int .i64 B.d) hS2.2.1 (by omega)), (ot7 (A := w.heap.size + 1 + 1) (.bool b9) (.slice ao9 n9 c9) (.bool b10) (.slice ao10 n10 c10) (.bool b11) (.slice ao11 n11 c11) (.int .i64 B.d) hS2.2.2.1 (by omega)), (kp7 (A := w.heap.size + 1 + 1) (.bool b9) (.slice ao9 n9 c9) (.bool b10) (.slice ao10 n10 c10) (.bool b11) (.slice ao11 n11 c11) (.int .i64 B.d) hS2.2.2.2 (by omega))⟩ (fun hS3 => ?_)
   clear hK K hS2
   have sf1 := (sf7 (E := 3) (.bool b9) (.slice ao9 n9 c9) (.bool b10) (.slice ao10 n10 c10) (.bool b11) (.slice ao11 n11 c11) (.int .i64 B.d) BN (by decide))
   replace BE := (ot7 (A := w.heap.size + 1 + 1) (.bool b9) (.slice ao9 n9 c9) (.bool b10) (.slice ao10 n10 c10) (.bool b11) (.slice ao11 n11 c11) (.int .i64 B.d) BE (by omega))
   replace BN := (bl7 (.bool b9) (.slice ao9 n9 c9) (.bool b10) (.slice ao10 n10 c10) (.bool b11) (.slice ao11 n11 c11) (.int .i64 B.d) BN)
   replace hT := hT.soft sf1
   replace hB := hB.soft sf1
   clear bnc bnf bnl sf1
   generalize (((((((w6.setCell ⟨w.heap.size + 1 + 1, 0, none⟩ (.bool b9)).setCell ⟨w.heap.size + 1 + 1, 1, none⟩ (.slice ao9 n9 c9)).setCell ⟨w.heap.size + 1 + 1, 2, none⟩ (.bool b10)).setCell ⟨w.heap.size + 1 + 1, 3, none⟩ (.slice ao10 n10 c10)).setCell ⟨w.heap.size + 1 + 1, 4, none⟩ (.bool b11)).setCell ⟨w.heap.size + 1 + 1, 5, none⟩ (.slice ao11 n11 c11)).setCell ⟨w.heap.size + 1 + 1, 6, none⟩ (.int .i64 B.d)) = w7 at *
   refine wpAnyL_last (i := 6) rfl (by kernel_rfl) (by kernel_rfl) (by kernel_rfl) (fun K hK => ?_)
   go_simp
   refine hK.out _ _ ?_
   clear hK K
   have be2c := BE.cell
   have bn2c := BN.cell
   go_wp2_with fail
   refine bodyPost_ret (v := .tuple #[.agg #[.bool b4, .slice ao4 n4 c4], .agg #[.bool b9, .slice ao9 n9 c9, .bool b10, .slice ao10 n10 c10, .bool b11, .slice ao11 n11 c11, .int .i64 B.d], .bool true]) (by simp [results, Tryz.results46, go_sem, be2c, bn2c]) rfl ?_
   exact ⟨_, _, rfl, hT, hB, hS3.2.2.2⟩

theorem step_ref (a : Qn) (t : Int) (m : Nat) (u : Value) (w : World) (ha : NN w u a) (hm : m ≤ 3000000) (f : QF m a) (ft : Ft m t) (oa : Cn a) (hP : ∀ x, 0 ≤ ovr a x ↔ x ≤ t) :
  Calls Tryz.prog 46 #[u] w (if a.p - t * a.r = 0 ∧ a.q = 0 then RetSt w t (les a t) false else RetSt w t (nxa a t) true) := by
 by_cases hz : a.p - t * a.r = 0 ∧ a.q = 0
 ·rw [if_pos hz]
  exact step_core a _ _ t m u w ha hm f ft oa hP ⟨fun _ => ⟨rfl, rfl⟩, fun h => absurd hz h⟩
 ·rw [if_neg hz]
  exact step_core a _ _ t m u w ha hm f ft oa hP ⟨fun h => absurd h hz, fun _ => ⟨rfl, rfl⟩⟩
open Go.RowKit

theorem Tryz.infoRI : (Tryz.prog.info? 52).map (fun i => (i.zero, i.size, i.bytes)) = some (some (.agg #[.bool false, .slice none 0 0]), 2, 32) := by kernel_rfl
theorem Blk.sf {w W : World} {b : Nat} {cs : Array Value} {t : TypeId} (hs : Sf t w W) (h : Blk w b cs t) : Blk W b cs t := (hs.blk b h.elem).trans h

theorem owns_sf {w W : World} {base : Nat} {e : TypeId} {size : Nat} {v : Value} {n : Nat} {xs : List Value} (hs : Sf e w W) (h : w.ownsRow base e size v n xs) : W.ownsRow base e size v n xs := by
 refine ⟨h.1, ?_⟩
 have he := owns_elem h
 rcases h.2 with h2 | ⟨g, cap, cur, rfl, hb, hg, hr⟩
 ·exact Or.inl h2
 ·exact Or.inr ⟨g, cap, cur, rfl, hb, (hs.blk g (he g rfl)).trans hg, hr⟩

/-- A call that returns terms, and whether these are all. -/
def RetTs (w : World) (ts : List Int) (all : Bool) (e : Ending) (w' : World) : Prop := ∃ v, e = .returned (.tuple #[v, .bool all]) ∧ RowI w' v ts ∧ Kp w w'

set_option maxHeartbeats 3200000 in
set_option maxRecDepth 100000 in
/-- surdref.terms. -/
theorem terms_ref (g p q n : Int) (a : Qn) (N K m : Nat) (u : Value) (w : World) (ha : NN w u a) (hR : Rl g p q n a) (hK : Exq p q n N K) (hm : m ≤ 3000000) (hN : N ≤ 1000) (hf : ∀ i, i < K → QF m (num a p q n i) ∧ Ft m (tm p q n i)) :
  Calls Tryz.prog 20 #[u, .int .i64 N] w (RetTs w (tms p q n K) (decide ((rst p q n K).2 = 0))) := by
 obtain ⟨i0, hi, hz0, hz1, hz2⟩ := info_parts Tryz.infoRI
 obtain ⟨bxp, aoxp, nxp, cxp, bxq, aoxq, nxq, cxq, bxr, aoxr, nxr, cxr, rfl, _, _, _⟩ := id ha
 have HR := Hid.mk hR
 have HK := Hid.mk hK
 have HF := Hid.mk hf
 clear hR hK hf
 go_enter Tryz.func20, Tryz.ntmps20
 go_wp2_with fail
 go_loopw [6, 7] (fun l i wr => ∃ (k : Nat) (xs : List Value) (bxp : Bool) (aoxp : Option Addr) (nxp cxp : Nat) (bxq : Bool) (aoxq : Option Addr) (nxq cxq : Nat) (bxr : Bool) (aoxr : Option Addr) (nxr cxr : Nat), i = .int .i64 k ∧ k ≤ N ∧ k ≤ K ∧ wr.ownsRow w.heap.size 52 2 l k xs ∧ Blk wr w.heap.size #[.bool bxp, .slice aoxp nxp cxp, .bool bxq, .slice aoxq nxq cxq, .bool bxr, .slice aoxr nxr cxr, .int .i64 (num a p q n k).d] 54 ∧ NN wr (.agg #[.bool bxp, .slice aoxp nxp cxp, .bool bxq, .slice aoxq nxq cxq, .bool bxr, .slice aoxr nxr cxr, .int .i64 (num a p q n k).d]) (num a p q n k) ∧ Hid (IsI wr xs (tms p q n k)) ∧ Kp w wr ∧ Hid ((rst p q n k).2 ≠ 0))
  (fun _ i _ => N - (intOf i).toNat)
 case atStart => exact ⟨0, [], _, _, _, _, _, _, _, _, _, _, _, _, rfl, by omega, by omega, World.ownsRow_nil _ _ _ _, Blk.new w _ _, ha.keep (kp_alloc w _), IsI.nil _, kp_alloc w _, HR.out.q0⟩
 case round =>
  clear ha
  obtain ⟨k, xs, bxp, aoxp, nxp, cxp, bxq, aoxq, nxq, cxq, bxr, aoxr, nxr, cxr, rfl, hkN, hkK, hown, BX, hX, hI, hkr, HQ⟩ := hrel
  have bxc := BX.cell
  have bxl := BX.lt
  by_cases h1 : k < N
  ·have hkK2 : k < K := by
    rcases Nat.lt_or_ge k K with e | e
    ·exact e
    ·exfalso
     have e2 : k = K := by omega
     subst e2
     rcases HK.out.stop with s | s
     ·omega
     ·exact HQ.out s
   have HRk := Hid.mk (rl_num HR.out k (fun j hj => HK.out.on j (by omega)))
   have hS := step_ref (num a p q n k) (tm p q n k) m _ wr hX hm (HF.out k hkK2).1 (HF.out k hkK2).2 HRk.out.cn (fun x => rl_iff HRk.out x)
   have hzz : (rst p q n (k + 1)).2 = 0 ↔ (num a p q n k).p - tm p q n k * (num a p q n k).r = 0 ∧ (num a p q n k).q = 0 := nxq_zero HRk.out
   have BX0 := BX
   by_cases hz : (num a p q n k).p - tm p q n k * (num a p q n k).r = 0 ∧ (num a p q n k).q = 0
   ·have HKK : Hid (K = k + 1) := by
     have h2 := hzz.2 hz
     have : ¬ k + 1 < K := fun hlt => HK.out.on _ hlt h2
     unfold Hid
     omega
    have HE : Hid (decide ((rst p q n K).2 = 0) = true) := by unfold Hid; rw [HKK.out]; exact decide_eq_true (hzz.2 hz)
    rw [if_pos hz] at hS
    clear hz hzz HRk
    generalize les (num a p q n k) (tm p q n k) = Y at hS
    go_wp2_with fail
    refine hS.mono ?_
    rintro e w1 ⟨v1, v2, rfl, hT, hY, hk1⟩
    obtain ⟨bt, aot, nt, ct, rfl⟩ := hT.shape'
    obtain ⟨byp, aoyp, nyp, cyp, byq, aoyq, nyq, cyq, byr, aoyr, nyr, cyr, rfl, _, _, _⟩ := id hY
    have ka : Kp w1 ((w1.alloc (.cells #[.bool bt, .slice aot nt ct] 52)).alloc (.cells #[.bool byp, .slice aoyp nyp cyp, .bool byq, .slice aoyq nyq cyq, .bool byr, .slice aoyr nyr cyr, .int .i64 Y.d] 54)) := Kp.alloc' (kp_alloc w1 _) _
    replace BX := BX.keep (hk1.trans' ka)
    have BT : Blk ((w1.alloc (.cells #[.bool bt, .slice aot nt ct] 52)).alloc (.cells #[.bool byp, .slice aoyp nyp cyp, .bool byq, .slice aoyq nyq cyq, .bool byr, .slice aoyr nyr cyr, .int .i64 Y.d] 54)) w1.heap.size #[.bool bt, .slice aot nt ct] 52 := Blk.alloc (Blk.new w1 _ _) _
    have BY : Blk ((w1.alloc (.cells #[.bool bt, .slice aot nt ct] 52)).alloc (.cells #[.bool byp, .slice aoyp nyp cyp, .bool byq, .slice aoyq nyq cyq, .bool byr, .slice aoyr nyr cyr, .int .i64 Y.d] 54)) (w1.heap.size + 1) #[.bool byp, .slice aoyp nyp cyp, .bool byq, .slice aoyq nyq cyq, .bool byr, .slice aoyr nyr cyr, .int .i64 Y.d] 54 := Blk.at (Blk.new (w1.alloc (.cells #[.bool bt, .slice aot nt ct] 52)) _ _) (by simp)
    replace hT := hT.keep ka
    replace hY := hY.keep ka
    replace hown := owns_keep (hk1.trans' ka) hown
    replace hI := Hid.mk (IsI.soft (Sf.keep (hk1.trans' ka)) hI.out)
    replace hkr := hkr.trans' (hk1.trans' ka)
    have hb0 : w.heap.size < w1.heap.size := Nat.lt_of_lt_of_le BX0.lt hk1.size
    have btc := BT.cell
    have btl := BT.lt
    clear bxc bxl hk1 ka BX0
    go_wp2_with (at_builtin; (refine wpList_append_el ((w1.alloc (.cells #[.bool bt, .slice aot nt ct] 52)).alloc (.cells #[.bool byp, .slice aoyp nyp cyp, .bool byq, .slice aoyq nyq cyq, .bool byr, .slice aoyr nyr cyr, .int .i64 Y.d] 54)) rfl _ _ 57 rfl w 52 i0 (.agg #[.bool false, .slice none 0 0]) 2 32 Tryz.underlying57 hi hz0 hz1 hz2 rfl (by decide) u6 k xs #[.bool bt, .slice aot nt ct] rfl (by simp [Value.oneCell']) rfl hown hkr (by show Value.slice (some ⟨w1.heap.size + 1 + 1, 0, none⟩) 1 1 = _; simp) (by unfold maxLen; omega) (by omega) ?_))
    intro l' w2 hown' hkr' hsf
    have hs1 := hsf 3 (by decide)
    have hs2 := hsf 54 (by decide)
    replace BX := Blk.sf hs2 BX
    replace BY := Blk.sf hs2 BY
    replace hT := hT.soft hs1
    replace hY := hY.soft hs1
    have hI' := Hid.mk (IsI.snoc (IsI.soft hs1 hI.out) (by rw [hown.1, tms_len, Nat.mul_comm]) hT)
    clear hown hkr hsf hs1 hs2 hI BT btc btl hT
    have bxc := BX.cell
    have bxf := BX.frozen
    have bxl := BX.lt
    have byc := BY.cell
    have byl := BY.lt
    go_wp2_with fail
    refine bodyPost_ret (v := .tuple #[l', .bool true]) (by simp [results, Tryz.results20, go_sem]) rfl ?_
    refine ⟨l', by rw [HE.out], ?_, hkr'⟩
    rw [HKK.out, tms_succ]
    exact RowI.of_owns hown' (by rw [List.length_append, tms_len]; rfl) hI'.out
   ·have HQ' : Hid ((rst p q n (k + 1)).2 ≠ 0) := fun e => hz (hzz.1 e)
    rw [if_neg hz] at hS
    clear hz hzz HRk
    have HN : Hid (num a p q n (k + 1) = nxa (num a p q n k) (tm p q n k)) := rfl
    rw [← HN.out] at hS
    generalize hYY : num a p q n (k + 1) = Y at hS
    go_wp2_with fail
    refine hS.mono ?_
    rintro e w1 ⟨v1, v2, rfl, hT, hY, hk1⟩
    obtain ⟨bt, aot, nt, ct, rfl⟩ := hT.shape'
    obtain ⟨byp, aoyp, nyp, cyp, byq, aoyq, nyq, cyq, byr, aoyr, nyr, cyr, rfl, _, _, _⟩ := id hY
    have ka : Kp w1 ((w1.alloc (.cells #[.bool bt, .slice aot nt ct] 52)).alloc (.cells #[.bool byp, .slice aoyp nyp cyp, .bool byq, .slice aoyq nyq cyq, .bool byr, .slice aoyr nyr cyr, .int .i64 Y.d] 54)) := Kp.alloc' (kp_alloc w1 _) _
    replace BX := BX.keep (hk1.trans' ka)
    have BT : Blk ((w1.alloc (.cells #[.bool bt, .slice aot nt ct] 52)).alloc (.cells #[.bool byp, .slice aoyp nyp cyp, .bool byq, .slice aoyq nyq cyq, .bool byr, .slice aoyr nyr cyr, .int .i64 Y.d] 54)) w1.heap.size #[.bool bt, .slice aot nt ct] 52 := Blk.alloc (Blk.new w1 _ _) _
    have BY : Blk ((w1.alloc (.cells #[.bool bt, .slice aot nt ct] 52)).alloc (.cells #[.bool byp, .slice aoyp nyp cyp, .bool byq, .slice aoyq nyq cyq, .bool byr, .slice aoyr nyr cyr, .int .i64 Y.d] 54)) (w1.heap.size + 1) #[.bool byp, .slice aoyp nyp cyp, .bool byq, .slice aoyq nyq cyq, .bool byr, .slice aoyr nyr cyr, .int .i64 Y.d] 54 := Blk.at (Blk.new (w1.alloc (.cells #[.bool bt, .slice aot nt ct] 52)) _ _) (by simp)
    replace hT := hT.keep ka
    replace hY := hY.keep ka
    replace hown := owns_keep (hk1.trans' ka) hown
    replace hI := Hid.mk (IsI.soft (Sf.keep (hk1.trans' ka)) hI.out)
    replace hkr := hkr.trans' (hk1.trans' ka)
    have hb0 : w.heap.size < w1.heap.size := Nat.lt_of_lt_of_le BX0.lt hk1.size
    have btc := BT.cell
    have btl := BT.lt
    clear bxc bxl hk1 ka BX0
    go_wp2_with (at_builtin; (refine wpList_append_el ((w1.alloc (.cells #[.bool bt, .slice aot nt ct] 52)).alloc (.cells #[.bool byp, .slice aoyp nyp cyp, .bool byq, .slice aoyq nyq cyq, .bool byr, .slice aoyr nyr cyr, .int .i64 Y.d] 54)) rfl _ _ 57 rfl w 52 i0 (.agg #[.bool false, .slice none 0 0]) 2 32 Tryz.underlying57 hi hz0 hz1 hz2 rfl (by decide) u6 k xs #[.bool bt, .slice aot nt ct] rfl (by simp [Value.oneCell']) rfl hown hkr (by show Value.slice (some ⟨w1.heap.size + 1 + 1, 0, none⟩) 1 1 = _; simp) (by unfold maxLen; omega) (by omega) ?_))
    intro l' w2 hown' hkr' hsf
    have hs1 := hsf 3 (by decide)
    have hs2 := hsf 54 (by decide)
    replace BX := Blk.sf hs2 BX
    replace BY := Blk.sf hs2 BY
    replace hT := hT.soft hs1
    replace hY := hY.soft hs1
    have hI' := Hid.mk (IsI.snoc (IsI.soft hs1 hI.out) (by rw [hown.1, tms_len, Nat.mul_comm]) hT)
    clear hown hkr hsf hs1 hs2 hI BT btc btl hT
    have bxc := BX.cell
    have bxf := BX.frozen
    have bxl := BX.lt
    have byc := BY.cell
    have byl := BY.lt
    go_wp2_with fail
    subst hYY
    go_roundw
    case rel => exact ⟨k + 1, _, _, _, _, _, _, _, _, _, _, _, _, _, by go_num, by omega, by omega, owns_sf (sf7 (.bool byp) (.slice aoyp nyp cyp) (.bool byq) (.slice aoyq nyq cyq) (.bool byr) (.slice aoyr nyr cyr) (.int .i64 (num a p q n (k + 1)).d) BX (by decide)) hown', (bl7 (.bool byp) (.slice aoyp nyp cyp) (.bool byq) (.slice aoyq nyq cyq) (.bool byr) (.slice aoyr nyr cyr) (.int .i64 (num a p q n (k + 1)).d) BX), hY.soft (sf7 (.bool byp) (.slice aoyp nyp cyp) (.bool byq) (.slice aoyq nyq cyq) (.bool byr) (.slice aoyr nyr cyr) (.int .i64 (num a p q n (k + 1)).d) BX (by decide)), by rw [tms_succ]; exact IsI.soft (sf7 (.bool byp) (.slice aoyp nyp cyp) (.bool byq) (.slice aoyq nyq cyq) (.bool byr) (.slice aoyr nyr cyr) (.int .i64 (num a p q n (k + 1)).d) BX (by decide)) hI'.out, (kp7 (A := w.heap.size) (.bool byp) (.slice aoyp nyp cyp) (.bool byq) (.slice aoyq nyq cyq) (.bool byr) (.slice aoyr nyr cyr) (.int .i64 (num a p q n (k + 1)).d) hkr' (Nat.le_refl _)), HQ'⟩
    case measure => simp [intOf]; omega
  ·have HKN : Hid (K = N) := by
    have := HK.out.le
    unfold Hid
    omega
   have hke : k = N := by omega
   subst hke
   have HE : Hid (decide ((rst p q n K).2 = 0) = false) := by unfold Hid; rw [HKN.out]; exact decide_eq_false HQ.out
   go_wp2_with fail
   refine bodyPost_ret (v := .tuple #[u6, .bool false]) (by simp [results, Tryz.results20, go_sem]) rfl ?_
   refine ⟨_, by rw [HE.out], ?_, hkr⟩
   rw [HKN.out]
   exact RowI.of_owns hown (tms_len _ _ _ _) hI.out

end Go.Proofs.YtjahbjjekednfaaGreatDoor
