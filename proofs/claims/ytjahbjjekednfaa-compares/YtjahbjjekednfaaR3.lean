import Derived.Test.YtjahbjjekednfaaR1
import Derived.Deep.RegionHeld3
namespace Go.Proofs.Ytjahbjjekednfaa
open Go.RowKit

/-- Behind 'x.D = append(x.D, d)', whatever lies between. -/
theorem push_end2 {wB wr w1 : World} {xb : Nat} {ao2 : Option Addr} {l2 c2 gg cap' : Nat} {b : Bool} {D D' : List Int} {d : Int} {o : Obj} (hk : KeepsBut xb wB wr) (hxb : xb < wB.heap.size)
  (hown : wr.ownsRow wB.heap.size 3 1 (.slice ao2 l2 c2) l2 (vals D))
  (hgrow : ((wr.alloc o).drew).grownBy w1 (Value.slice ao2 l2 c2).ownBlock) (hB1 : Blk w1 xb #[.bool b, .slice ao2 l2 c2] 46)
  (hown1 : w1.ownsRow wB.heap.size 3 1 (.slice (some ⟨gg, 0, none⟩) (l2 + 1) cap') (l2 + 1) (vals D ++ vals [d])) (hD : D' = D ++ [d]) :
  Blk (w1.setCell ⟨xb, 1, none⟩ (.slice (some ⟨gg, 0, none⟩) (l2 + 1) cap')) xb #[.bool b, .slice (some ⟨gg, 0, none⟩) (l2 + 1) cap'] 46 ∧
  (w1.setCell ⟨xb, 1, none⟩ (.slice (some ⟨gg, 0, none⟩) (l2 + 1) cap')).ownsRow wB.heap.size 3 1 (.slice (some ⟨gg, 0, none⟩) (l2 + 1) cap') (l2 + 1) (vals D') ∧
  KeepsBut xb wB (w1.setCell ⟨xb, 1, none⟩ (.slice (some ⟨gg, 0, none⟩) (l2 + 1) cap')) := by
 refine ⟨hB1.set, ?_, ?_⟩
 ·rw [hD, vals_append]
  exact ownsRow_setCell_below hown1 hxb _
 ·refine KeepsBut.setCell ?_ _ _
  have h1 := KeepsBut.drew (hk.alloc o)
  refine ⟨hgrow.os.trans h1.os, hgrow.tape.trans h1.tape, hgrow.output.trans h1.output, Nat.le_trans h1.size hgrow.size, fun k hk2 hne => ?_⟩
  refine (hgrow.block k (Nat.lt_of_lt_of_le hk2 h1.size) (fun hr => ?_)).trans (h1.block k hk2 hne)
  have := (hown.lt k hr.symm).1
  omega

theorem tops_full (c : List Int) (j : Nat) (hj : j < c.length) : tops c c.length j = tops c c.length (j + 1) ++ [at0 c j] := tops_step c c.length j hj (Nat.le_refl _)

theorem pow4_small {n : Int} {k : Nat} (h0 : 0 ≤ n) (h : n ≤ 9223372036854775807) (hk : 5 ≤ k) : n / 10000 ^ k = 0 := by
 have h1 := pow_mono (B := 10000) (by decide) hk
 have h2 : (10000 : Int) ^ 5 = 100000000000000000000 := by decide
 exact Int.ediv_eq_zero_of_lt h0 (by omega)

set_option maxHeartbeats 3200000 in
set_option maxRecDepth 100000 in
theorem of_any (n : Int) (w : World) (h0 : 0 ≤ n) (hn : n ≤ 9223372036854775807) : Calls Try.prog 36 #[.int .i64 n] w (RetI w n) := by
 obtain ⟨i0, hi, hz0, hz1, hz2⟩ := info_parts Try.infoInt
 have hneg : ¬ n < 0 := by omega
 go_enter Try.func36, Try.ntmps36
 go_wp2_with fail
 go_loopw [0, 4, 5] (fun r s _ wr => ∃ k : Nat, k ≤ 5 ∧ r = .int .i64 (n / 10000 ^ k) ∧ wr.ownsRow (w.heap.size + 1 + 1) 3 1 s k (vals (digTo 10000 n k)) ∧ Kp ((w.alloc (.cells #[.bool false, .slice none 0 0] 46)).alloc (.cells #[.bool false, .slice none 0 0] 46)) wr ∧ Hid (k = 0 ∨ 0 < n / 10000 ^ (k - 1)))
  (fun r _ _ _ => (intOf r).toNat)
 case atStart => exact ⟨0, by omega, by simp, World.ownsRow_nil _ _ _ _, Below.refl _ _, Or.inl rfl⟩
 case round =>
  obtain ⟨k, hk, rfl, hown, hkr, hprev⟩ := hrel
  have hq0 : 0 ≤ n / 10000 ^ k := Int.ediv_nonneg h0 (Int.le_of_lt (pow_pos' (by decide) k))
  have hq1 : n / 10000 ^ k ≤ n := Int.ediv_le_self _ h0
  have HS := Hid.mk (digTo_succ 10000 n k)
  have HD := Hid.mk (div_pow_succ (B := 10000) (by decide) n k)
  have HP := Hid.mk (fun h => pow4_small (k := k) h0 hn h)
  have HE := Hid.mk (fun h => digTo_done (B := 10000) (n := n) (k := k) (by decide) h hprev.out)
  generalize hq : n / 10000 ^ k = q at *
  have HQ := Hid.mk hq
  clear hq
  by_cases h1 : q = 0
  ·have HE2 := Hid.mk (HE.out h1)
   subst h1
   have hrow := Row.of_owns hown
   have hcl := digTo_length 10000 n k
   have BX : Blk wr (w.heap.size + 1) #[.bool false, .slice none 0 0] 46 := (Blk.at (Blk.new _ _ _) (by simp)).keep hkr
   have BR : Blk wr w.heap.size #[.bool false, .slice none 0 0] 46 := (Blk.alloc (Blk.new _ _ _) _).keep hkr
   have HK0 := Hid.mk (((kp_alloc w (.cells #[.bool false, .slice none 0 0] 46)).alloc' (.cells #[.bool false, .slice none 0 0] 46)).trans' hkr)
   generalize hcg : digTo 10000 n k = c at *
   clear hcg hown HS HD HP HE hprev hkr
   obtain ⟨aoc, capc, pc, offc, hvc, hcapc, hmaxc, hnc, haoc, hcellc⟩ := id hrow
   rw [hcl] at hvc hcapc haoc hcellc
   subst hvc
   clear hnc
   generalize wr = wA at *
   have lX := BX.lt
   have lR := BR.lt
   go_wp2_with fail
   go_loopw [6] (fun i wq => ∃ (t l2 c2 : Nat) (ao2 : Option Addr), t ≤ k ∧ i = .int .i64 ((t : Int) - 1) ∧ l2 + t ≤ k ∧ Hid (l2 = k - t) ∧ Blk wq (w.heap.size + 1) #[.bool false, .slice ao2 l2 c2] 46 ∧ wq.ownsRow wA.heap.size 3 1 (.slice ao2 l2 c2) l2 (vals (tops c k t)) ∧ KeepsBut (w.heap.size + 1) wA wq)
    (fun i _ => (intOf i + 1).toNat)
   case atStart => exact ⟨k, 0, 0, none, by omega, by go_num, by omega, by unfold Hid; omega, BX, by rw [tops_end c k k (Nat.le_refl _)]; exact World.ownsRow_nil _ _ _ _, KeepsBut.refl _ _⟩
   case round =>
    obtain ⟨t, l2, c2, ao2, ht, rfl, hlt, hl2, hB, hown, hkq⟩ := hrel
    obtain ⟨hBc, hBf, hBl⟩ := hB.all
    by_cases h0 : 0 < t
    ·have hac := (haoc (by omega)).1
     have hec := (haoc (by omega)).2
     subst hac
     have hpc : pc < wA.heap.size := elemOf_lt hec
     have hpx : pc ≠ w.heap.size + 1 := fun e => by have := BX.elem; rw [← e, hec] at this; exact absurd this (by decide)
     have hcc : wr.cell? ⟨pc, offc + (t - 1), none⟩ = some (.int .i64 (at0 c (t - 1))) := (World.cell?_of_block (w := wA) (hkq.block pc hpc hpx)).trans (hcellc (t - 1) (by omega))
     have hob : (Value.slice ao2 l2 c2).ownBlock ≠ some pc := fun h => by have := (hown.lt pc h).1; omega
     have hob2 : (Value.slice ao2 l2 c2).ownBlock ≠ some (w.heap.size + 1) := fun h => by have := (hown.lt _ h).1; omega
     have ht0 : (0 : Int) ≤ (t : Int) - 1 := by omega
     have ht1 : (t : Int) - 1 < (k : Int) := by omega
     have hbs : wA.heap.size ≤ wr.heap.size := hkq.size
     have HT := Hid.mk (tops_step c k (t - 1) (by omega) (by omega))
     rw [show t - 1 + 1 = t by omega] at HT
     clear hcellc haoc
     go_wp2_with fail
     go_region_law
      ((refine step_append_lies _ (by rfl) _ _ _ (by rfl) wA.heap.size 3 i0 _ 1 8 Try.underlying44 hi hz0 hz1 hz2 rfl (by omega) (.slice ao2 l2 c2) l2 (vals (tops c k t)) (by rfl) ((hown.alloc _).drew) ⟨wr.heap.size, 0, none⟩ 1 1 (vals [at0 c (t - 1)]) (by rfl) (by rfl) (World.news_of_block (cs := #[.int .i64 (at0 c (t - 1))]) (t := 3) (fr := (0, 0)) (heap_alloc_new wr _)) (vals_oneCell _) (by omega) (by unfold maxLen; omega) (by omega) (by simp; omega) (wr.heap.size + 1) (by simp) ?_; intro gg cap' w1 hown1 hgrow hat hlt1; have hB1 := Blk.grown hgrow (Ne.symm hob2) ((hB.alloc _).drew); have hB1c := hB1.cell; have hB1f := hB1.frozen; have hB1l := hB1.lt; have hcc1 := (hgrow.cell_far ⟨pc, offc + (t - 1), none⟩ (by simp; omega) (Ne.symm hob)).trans (cell_later (Kp.drew' (kp_alloc wr _)) hcc)))
     all_goals go_wp2_with fail
     all_goals
      go_roundw
      case rel => exact ⟨t - 1, l2 + 1, cap', some ⟨gg, 0, none⟩, by omega, by go_num, by omega, by have := hl2.out; unfold Hid; omega, push_end2 hkq lX hown hgrow hB1 hown1 HT⟩
      case measure => simp [intOf]; omega
    ·have ht0 : t = 0 := by omega
     subst ht0
     have BR' : Blk wr w.heap.size #[.bool false, .slice none 0 0] 46 := by
      unfold Blk
      rw [hkq.block w.heap.size lR (by omega)]; exact BR
     have cR := BR'.cell
     have fR := BR'.frozen
     have hrow2 := Row.of_owns hown
     rw [tops_all, List.take_of_length_le (by omega)] at hrow2
     have hX : Rb wr (.slice ao2 l2 c2) n := ⟨_, hrow2, HE2.out⟩
     have eR := BR'.elem
     have lR' := BR'.lt
     have hkE : Kp w wr := by
      have h1 := HK0.out
      refine ⟨hkq.os.trans h1.os, hkq.tape.trans h1.tape, hkq.output.trans h1.output, Nat.le_trans h1.size hkq.size, fun i hi => ?_⟩
      exact (hkq.block i (Nat.lt_of_lt_of_le hi h1.size) (by omega)).trans (h1.block i hi)
     clear hown hrow2 hcellc haoc hB BR' BR hl2
     go_wp2_with fail
     refine bodyPost_ret (v := .agg #[.bool false, .slice ao2 l2 c2]) (by simp [results, Try.results36, go_sem, cR]) rfl ?_
     have hR := retI_end (neg := false) (W := (wr.setCell ⟨w.heap.size, 0, none⟩ (.bool false)).setCell ⟨w.heap.size, 1, none⟩ (.slice ao2 l2 c2)) hX rfl (Sf.set (t := 46) (Sf.set (Sf.refl _ _) eR (by decide)) (by simp only [elemOf_setCell]; exact eR) (by decide)) (Below.setCell (Below.setCell hkE (Nat.le_refl _) _) (Nat.le_refl _) _)
     exact hR
  ·have hb : (q != 0) = true := by simp [h1]
   have hk2 : k < 5 := by
    rcases Nat.lt_or_ge k 5 with h | h
    ·exact h
    ·exact absurd (HP.out h) h1
   have Hq := Hid.mk h1
   clear h1 HE HP
   go_wp2_with (at_builtin; (refine wpList_append_one wr rfl _ _ 44 rfl ((w.alloc (.cells #[.bool false, .slice none 0 0] 46)).alloc (.cells #[.bool false, .slice none 0 0] 46)) 3 i0 (.int .i64 0) 8 Try.underlying44 hi hz0 hz1 hz2 rfl _ k (digTo 10000 n k) (q % 10000) rfl (by rw [World.size_alloc, World.size_alloc]; exact hown) hkr rfl (by unfold maxLen; omega) (by omega) ?_))
   intro v' w1 hown' hbw'
   clear hown hkr
   go_wp2_with fail
   go_roundw
   case rel => exact ⟨k + 1, by omega, by rw [HD.out], by rw [HS.out]; exact hown', hbw', Or.inr (by rw [show k + 1 - 1 = k by omega, HQ.out]; have := Hq.out; omega)⟩
   case measure => simp [intOf]; have := Hq.out; omega

end Go.Proofs.Ytjahbjjekednfaa

namespace Go.Proofs.Ytjahbjjekednfaa
open Go.RowKit

theorem IN.keep {w W : World} {v : Value} {z : Int} (hk : Kp w W) (h : IN w v z) : IN W v z := h.soft (Sf.keep hk)
theorem Rb.keep {w W : World} {v : Value} {z : Int} (hk : Kp w W) (h : Rb w v z) : Rb W v z := h.soft (Sf.keep hk)
theorem IN.shape' {w : World} {v : Value} {z : Int} (h : IN w v z) : ∃ b ao n c, v = .agg #[.bool b, .slice ao n c] := by
 obtain ⟨ao, n, c, h1, _⟩ := h
 exact ⟨_, ao, n, c, h1⟩
theorem retI_mk {w w1 W : World} {z : Int} {v : Value} (h : IN w1 v z) (hs : Sf 3 w1 W) (hk : Kp w W) : RetI w z (.returned v) W := ⟨v, rfl, h.soft hs, hk⟩
theorem in_zero (w : World) : IN w (.agg #[.bool false, .slice none 0 0]) 0 := ⟨none, 0, 0, rfl, [], Row.nil _ _, Canon.nil (by decide), rfl⟩

set_option maxHeartbeats 800000 in
theorem rsign_any (z : Int) (v : Value) (w : World) (hz : IN w v z) : Calls Try.prog 34 #[v] w (RetV w (.int .i64 z.sign)) := by
 obtain ⟨ao, n, c, rfl, hs⟩ := hz
 obtain ⟨hl1, hl2⟩ := hs.zero_len
 rcases Int.lt_trichotomy z 0 with h | h | h
 ·have hl3 : 0 < n := by omega
  rw [decide_eq_true h, Int.sign_eq_neg_one_of_neg h]
  clear hl1
  go_enter Try.func34, Try.ntmps34
  go_wp2
  go_ret
  exact ⟨rfl, kp_alloc _ _⟩
 ·have hl3 : n = 0 := by omega
  rw [decide_eq_false (by omega), Int.sign_eq_zero_iff_zero.2 h]
  subst hl3
  clear hl1 h
  go_enter Try.func34, Try.ntmps34
  go_wp2
  go_ret
  exact ⟨rfl, kp_alloc _ _⟩
 ·have hl3 : 0 < n := by omega
  rw [decide_eq_false (by omega), Int.sign_eq_one_of_pos h]
  clear hl1 h
  go_enter Try.func34, Try.ntmps34
  go_wp2
  go_ret
  exact ⟨rfl, kp_alloc _ _⟩

set_option maxHeartbeats 800000 in
theorem size_any (z : Int) (v : Value) (w : World) (hz : IN w v z) : Calls Try.prog 87 #[v] w (RetI w (z.natAbs : Int)) := by
 obtain ⟨ao, n, c, rfl, hs⟩ := hz
 generalize decide (z < 0) = b
 go_enter Try.func87, Try.ntmps87
 go_wp2
 refine bodyPost_ret (v := .agg #[.bool false, .slice ao n c]) (by simp [results, Try.results87, go_sem]) rfl ?_
 exact ⟨_, rfl, ⟨ao, n, c, by simp, by simpa using hs.keep ((kp_alloc w _).alloc' _)⟩, (kp_alloc w _).alloc' _⟩

set_option maxHeartbeats 800000 in
theorem less_any (z : Int) (v : Value) (w : World) (hz : IN w v z) : Calls Try.prog 59 #[v] w (RetI w (-z)) := by
 obtain ⟨ao, n, c, rfl, hs⟩ := hz
 obtain ⟨hl1, hl2⟩ := hs.zero_len
 by_cases h : z < 0
 ·rw [decide_eq_true h]
  go_enter Try.func59, Try.ntmps59
  go_wp2
  refine bodyPost_ret (v := .agg #[.bool false, .slice ao n c]) (by simp [results, Try.results59, go_sem]) rfl ?_
  exact ⟨_, rfl, ⟨ao, n, c, by simp; omega, by rw [Int.natAbs_neg]; exact hs.keep ((kp_alloc w _).alloc' _)⟩, (kp_alloc w _).alloc' _⟩
 ·rw [decide_eq_false h]
  have HL := Hid.mk hl1
  clear hl1
  go_enter Try.func59, Try.ntmps59
  go_wp2
  refine bodyPost_ret (v := .agg #[.bool (decide (0 < (n : Int))), .slice ao n c]) (by simp [results, Try.results59, go_sem]) rfl ?_
  exact ⟨_, rfl, ⟨ao, n, c, by have := HL.out; simp; omega, by rw [Int.natAbs_neg]; exact hs.keep ((kp_alloc w _).alloc' _)⟩, (kp_alloc w _).alloc' _⟩

/-- The digits of a sum or a difference, not yet clean. -/
def sumTo (way : Int) (l m : List Int) : Nat → List Int
 | 0 => []
 | k + 1 => sumTo way l m k ++ [at0 l k + way * at0 m k]
theorem sumTo_succ (way : Int) (l m : List Int) (k : Nat) : sumTo way l m (k + 1) = sumTo way l m k ++ [at0 l k + way * at0 m k] := rfl
theorem sumTo_length (way : Int) (l m : List Int) : ∀ k, (sumTo way l m k).length = k
 | 0 => rfl
 | k + 1 => by rw [sumTo_succ, List.length_append, sumTo_length way l m k]; rfl
theorem sumTo_val (B way : Int) (l m : List Int) : ∀ k, val B (sumTo way l m k) = val B (l.take k) + way * val B (m.take k)
 | 0 => by simp [sumTo, val]
 | k + 1 => by
  rw [sumTo_succ, val_snoc, sumTo_length, sumTo_val B way l m k, val_take_succ, val_take_succ]
  grind
theorem sumTo_at (way : Int) (l m : List Int) : ∀ k i, at0 (sumTo way l m k) i = if i < k then at0 l i + way * at0 m i else 0
 | 0, i => by simp [sumTo, at0_nil]
 | k + 1, i => by
  rw [sumTo_succ]
  rcases Nat.lt_or_ge i k with h | h
  ·rw [at0_append_lt (by rw [sumTo_length]; exact h), sumTo_at way l m k i, if_pos h, if_pos (by omega)]
  ·rw [at0_append_ge (by rw [sumTo_length]; exact h), sumTo_length]
   rcases Nat.lt_or_ge k i with h2 | h2
   ·rw [if_neg (by omega), show i - k = (i - k - 1) + 1 by omega, at0_cons_succ, at0_nil]
   ·have : i = k := by omega
    subst this
    rw [if_pos (by omega), Nat.sub_self, at0_cons_zero]
theorem sumTo_mid {way : Int} (hw : way = 1 ∨ way = -1) {l m : List Int} (hl : Dig 10000 l) (hm : Dig 10000 m) (k : Nat) : Mid (sumTo way l m k) := by
 intro i
 rw [sumTo_at]
 have h1 := hl i
 have h2 := hm i
 split
 ·rcases hw with rfl | rfl <;> omega
 ·omega

end Go.Proofs.Ytjahbjjekednfaa
