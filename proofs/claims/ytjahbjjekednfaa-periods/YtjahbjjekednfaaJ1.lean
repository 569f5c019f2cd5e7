import Derived.Test.YtjahbjjekednfaaR3
import Derived.Test.YtjahbjjekednfaaC5
import Derived.Test.YtjahbjjekednfaaF8
namespace Go.Proofs.Ytjahbjjekednfaa
open Go.RowKit

set_option maxHeartbeats 3200000 in
set_option maxRecDepth 100000 in
theorem of_m1 (w : World) : Calls Try.prog 36 #[.int .i64 (-1)] w (RetI w (-1)) := by
 obtain ⟨i0, hi, hz0, hz1, hz2⟩ := info_parts Try.infoInt
 go_enter Try.func36, Try.ntmps36
 go_wp2_with fail
 go_loopw [0, 4, 5] (fun r s _ wr => ∃ (k : Nat) (z : Int), ((k = 0 ∧ z = -1) ∨ (k = 1 ∧ z = 0)) ∧ r = .int .i64 z ∧ wr.ownsRow (w.heap.size + 1 + 1) 3 1 s k (vals (List.replicate k 1)) ∧ Kp ((w.alloc (.cells #[.bool false, .slice none 0 0] 46)).alloc (.cells #[.bool true, .slice none 0 0] 46)) wr)
  (fun r _ _ _ => (- intOf r).toNat)
 case atStart => exact ⟨0, -1, Or.inl ⟨rfl, rfl⟩, rfl, World.ownsRow_nil _ _ _ _, Below.refl _ _⟩
 case round =>
  obtain ⟨k, z, hk, rfl, hown, hkr⟩ := hrel
  by_cases h1 : k = 1
  ·subst h1
   obtain rfl : z = 0 := by omega
   clear hk
   have hrow := Row.of_owns hown
   have hcl : (List.replicate 1 (1 : Int)).length = 1 := rfl
   have BX : Blk wr (w.heap.size + 1) #[.bool true, .slice none 0 0] 46 := (Blk.at (Blk.new _ _ _) (by simp)).keep hkr
   have BR : Blk wr w.heap.size #[.bool false, .slice none 0 0] 46 := (Blk.alloc (Blk.new _ _ _) _).keep hkr
   have HK0 := Hid.mk (((kp_alloc w (.cells #[.bool false, .slice none 0 0] 46)).alloc' (.cells #[.bool true, .slice none 0 0] 46)).trans' hkr)
   have HE2 : Hid (Canon 10000 (List.replicate 1 (1 : Int)) ∧ val 10000 (List.replicate 1 (1 : Int)) = 1) := Hid.mk ⟨⟨fun i => by cases i <;> simp [at0, List.replicate], fun _ => by simp [at0, List.replicate]⟩, by simp [val, List.replicate]⟩
   generalize hcg : List.replicate 1 (1 : Int) = c at *
   clear hcg hown hkr
   obtain ⟨aoc, capc, pc, offc, hvc, hcapc, hmaxc, hnc, haoc, hcellc⟩ := id hrow
   rw [hcl] at hvc hcapc haoc hcellc
   subst hvc
   clear hnc
   generalize wr = wA at *
   have lX := BX.lt
   have lR := BR.lt
   go_wp2_with fail
   go_loopw [6] (fun i wq => ∃ (t l2 c2 : Nat) (ao2 : Option Addr), t ≤ 1 ∧ i = .int .i64 ((t : Int) - 1) ∧ l2 + t ≤ 1 ∧ Hid (l2 = 1 - t) ∧ Blk wq (w.heap.size + 1) #[.bool true, .slice ao2 l2 c2] 46 ∧ wq.ownsRow wA.heap.size 3 1 (.slice ao2 l2 c2) l2 (vals (tops c 1 t)) ∧ KeepsBut (w.heap.size + 1) wA wq)
    (fun i _ => (intOf i + 1).toNat)
   case atStart => exact ⟨1, 0, 0, none, by omega, by go_num, by omega, by unfold Hid; omega, BX, by rw [tops_end c 1 1 (Nat.le_refl _)]; exact World.ownsRow_nil _ _ _ _, KeepsBut.refl _ _⟩
   case round =>
    obtain ⟨t, l2, c2, ao2, ht, rfl, hlt, hl2, hB, hown, hkq⟩ := hrel
    obtain ⟨hBc, hBf, hBl⟩ := hB.all
    by_cases h0 : 0 < t
    ·obtain rfl : t = 1 := by omega
     have hac := (haoc (by omega)).1
     have hec := (haoc (by omega)).2
     subst hac
     have hpc : pc < wA.heap.size := elemOf_lt hec
     have hpx : pc ≠ w.heap.size + 1 := fun e => by have := BX.elem; rw [← e, hec] at this; exact absurd this (by decide)
     have hcc : wr.cell? ⟨pc, offc, none⟩ = some (.int .i64 (at0 c 0)) := (World.cell?_of_block (w := wA) (hkq.block pc hpc hpx)).trans (hcellc 0 (by omega))
     have hob : (Value.slice ao2 l2 c2).ownBlock ≠ some pc := fun h => by have := (hown.lt pc h).1; omega
     have hob2 : (Value.slice ao2 l2 c2).ownBlock ≠ some (w.heap.size + 1) := fun h => by have := (hown.lt _ h).1; omega
     have ht0 : (0 : Int) ≤ (0 : Int) := by omega
     have ht1 : (0 : Int) < 1 := by omega
     have hbs : wA.heap.size ≤ wr.heap.size := hkq.size
     have HT := Hid.mk (tops_step c 1 0 (by omega) (by omega))
     rw [show 0 + 1 = 1 by omega] at HT
     clear hcellc haoc
     go_wp2_with fail
     go_region_law
      ((refine step_append_lies _ (by rfl) _ _ _ (by rfl) wA.heap.size 3 i0 _ 1 8 Try.underlying44 hi hz0 hz1 hz2 rfl (by omega) (.slice ao2 l2 c2) l2 (vals (tops c 1 1)) (by rfl) ((hown.alloc _).drew) ⟨wr.heap.size, 0, none⟩ 1 1 (vals [at0 c 0]) (by rfl) (by rfl) (World.news_of_block (cs := #[.int .i64 (at0 c 0)]) (t := 3) (fr := (0, 0)) (heap_alloc_new wr _)) (vals_oneCell _) (by omega) (by unfold maxLen; omega) (by omega) (by simp; omega) (wr.heap.size + 1) (by simp) ?_; intro gg cap' w1 hown1 hgrow hat hlt1; have hB1 := Blk.grown hgrow (Ne.symm hob2) ((hB.alloc _).drew); have hB1c := hB1.cell; have hB1f := hB1.frozen; have hB1l := hB1.lt; have hcc1 := (hgrow.cell_far ⟨pc, offc, none⟩ (by simp; omega) (Ne.symm hob)).trans (cell_later (Kp.drew' (kp_alloc wr _)) hcc)))
     all_goals go_wp2_with fail
     all_goals
      go_roundw
      case rel => exact ⟨0, l2 + 1, cap', some ⟨gg, 0, none⟩, by omega, by go_num, by omega, by have := hl2.out; unfold Hid; omega, push_end2 hkq lX hown hgrow hB1 hown1 HT⟩
      case measure => simp [intOf]
    ·have ht0 : t = 0 := by omega
     subst ht0
     have hl1 : Hid (l2 = 1) := Hid.mk (by have := hl2.out; omega)
     have BR' : Blk wr w.heap.size #[.bool false, .slice none 0 0] 46 := by
      unfold Blk
      rw [hkq.block w.heap.size lR (by omega)]; exact BR
     have cR := BR'.cell
     have fR := BR'.frozen
     have hrow2 := Row.of_owns hown
     rw [tops_all, List.take_of_length_le (by omega)] at hrow2
     have hX : Rb wr (.slice ao2 l2 c2) 1 := ⟨_, hrow2, HE2.out⟩
     have eR := BR'.elem
     have lR' := BR'.lt
     have hkE : Kp w wr := by
      have h1 := HK0.out
      refine ⟨hkq.os.trans h1.os, hkq.tape.trans h1.tape, hkq.output.trans h1.output, Nat.le_trans h1.size hkq.size, fun i hi => ?_⟩
      exact (hkq.block i (Nat.lt_of_lt_of_le hi h1.size) (by omega)).trans (h1.block i hi)
     clear hown hrow2 hcellc haoc hB BR' BR hl2
     go_wp2_with fail
     refine bodyPost_ret (v := .agg #[.bool true, .slice ao2 l2 c2]) (by simp [results, Try.results36, go_sem, cR]) rfl ?_
     have hR := retI_end (neg := true) (W := (wr.setCell ⟨w.heap.size, 0, none⟩ (.bool true)).setCell ⟨w.heap.size, 1, none⟩ (.slice ao2 l2 c2)) hX rfl (Sf.set (t := 46) (Sf.set (Sf.refl _ _) eR (by decide)) (by simp only [elemOf_setCell]; exact eR) (by decide)) (Below.setCell (Below.setCell hkE (Nat.le_refl _) _) (Nat.le_refl _) _)
     have e := hl1.out
     subst e
     exact hR
  ·obtain rfl : k = 0 := by omega
   obtain rfl : z = -1 := by omega
   clear h1 hk
   go_wp2_with (at_builtin; (refine wpList_append_one wr rfl _ _ 44 rfl ((w.alloc (.cells #[.bool false, .slice none 0 0] 46)).alloc (.cells #[.bool true, .slice none 0 0] 46)) 3 i0 (.int .i64 0) 8 Try.underlying44 hi hz0 hz1 hz2 rfl _ 0 [] 1 rfl (by rw [World.size_alloc, World.size_alloc]; exact hown) hkr rfl (by unfold maxLen; omega) (by omega) ?_))
   intro v' w1 hown' hbw'
   clear hown hkr
   go_wp2_with fail
   go_roundw
   case rel => exact ⟨1, 0, Or.inr ⟨rfl, rfl⟩, rfl, hown', hbw'⟩
   case measure => simp [intOf]

end Go.Proofs.Ytjahbjjekednfaa

namespace Go.Proofs.Ytjahbjjekednfaa
open Go.RowKit

set_option maxHeartbeats 3200000 in
set_option maxRecDepth 100000 in
theorem over_any (a : Qn) (t : Int) (m : Nat) (u v : Value) (w : World) (ha : NN w u a) (ht : IN w v t) (hm : m ≤ 40000000) (f : QF m a) (ft : Ft m t) (d0 : 0 ≤ a.d) (d1 : a.d ≤ 1000000) :
  Calls Try.prog 70 #[u, v] w (RetV w (.int .i64 (ovr a t))) := by
 obtain ⟨b1, ao1, n1, c1, b2, ao2, n2, c2, b3, ao3, n3, c3, rfl, hp, hq, hr⟩ := ha
 obtain ⟨b4, ao4, n4, c4, rfl⟩ := ht.shape'
 have fx : Ft (m + m + 1) (a.p - t * a.r) := by
  have := Ft.add (f.1.mono (show m ≤ m + m by omega)) (ft.mul f.2.2).neg
  rwa [← Int.sub_eq_add_neg] at this
 unfold ovr
 have hkb : Kp w ((w.alloc (.cells #[.bool b1, .slice ao1 n1 c1, .bool b2, .slice ao2 n2 c2, .bool b3, .slice ao3 n3 c3, .int .i64 a.d] 48)).alloc (.cells #[.bool b4, .slice ao4 n4 c4] 46)) := Kp.alloc' (kp_alloc w _) _
 have BX : Blk ((w.alloc (.cells #[.bool b1, .slice ao1 n1 c1, .bool b2, .slice ao2 n2 c2, .bool b3, .slice ao3 n3 c3, .int .i64 a.d] 48)).alloc (.cells #[.bool b4, .slice ao4 n4 c4] 46)) w.heap.size #[.bool b1, .slice ao1 n1 c1, .bool b2, .slice ao2 n2 c2, .bool b3, .slice ao3 n3 c3, .int .i64 a.d] 48 := Blk.alloc (Blk.new w _ _) _
 have BT : Blk ((w.alloc (.cells #[.bool b1, .slice ao1 n1 c1, .bool b2, .slice ao2 n2 c2, .bool b3, .slice ao3 n3 c3, .int .i64 a.d] 48)).alloc (.cells #[.bool b4, .slice ao4 n4 c4] 46)) (w.heap.size + 1) #[.bool b4, .slice ao4 n4 c4] 46 := Blk.at (Blk.new (w.alloc (.cells #[.bool b1, .slice ao1 n1 c1, .bool b2, .slice ao2 n2 c2, .bool b3, .slice ao3 n3 c3, .int .i64 a.d] 48)) _ _) (by simp)
 replace hp := hp.keep hkb
 replace hq := hq.keep hkb
 replace hr := hr.keep hkb
 replace ht := ht.keep hkb
 have HS := fun (uu vv : Value) (W : World) (h1 : IN W uu (a.p - t * a.r)) (h2 : IN W vv a.q) => sign_ref (a.p - t * a.r) a.q a.d (m + m + 1) uu vv W h1 h2 (by omega) fx (f.2.1.mono (by omega)) d0 d1
 generalize rsg (a.p - t * a.r) a.q a.d = o at HS ⊢
 go_enter Try.func70, Try.ntmps70
 go_wp2_with fail
 generalize (w.alloc (.cells #[.bool b1, .slice ao1 n1 c1, .bool b2, .slice ao2 n2 c2, .bool b3, .slice ao3 n3 c3, .int .i64 a.d] 48)).alloc (.cells #[.bool b4, .slice ao4 n4 c4] 46) = wb at *
 refine wp_region_l (S := fun w' => Kp wb w') (by kernel_rfl) (Kp.drew' (Below.refl _ _)) (fun hS0 => ?_)
 generalize wb.drew = wd at *
 refine wpAnyL_tk (i := 0) (k := 1) (v := .pointer (some ⟨w.heap.size, 0, none⟩)) rfl ?_ hS0 ?_
 ·intro w' hw'; go_simp
 simp only [sq]
 refine wpAnyL_tk (i := 1) (k := 6) (v := .agg #[.bool b1, .slice ao1 n1 c1]) rfl ?_ hS0 ?_
 ·intro w' hw'; have hc := ((BX).keep hw').cell; go_simp
 simp only [sq]
 refine wpAnyL_tk (i := 2) (k := 5) (v := .agg #[.bool b4, .slice ao4 n4 c4]) rfl ?_ hS0 ?_
 ·intro w' hw'; have hc := ((BT).keep hw').cell; go_simp
 simp only [sq]
 refine wpAnyL_tk (i := 3) (k := 4) (v := .pointer (some ⟨w.heap.size, 4, none⟩)) rfl ?_ hS0 ?_
 ·intro w' hw'; go_simp
 simp only [sq]
 refine wpAnyL_tk (i := 4) (k := 5) (v := .agg #[.bool b3, .slice ao3 n3 c3]) rfl ?_ hS0 ?_
 ·intro w' hw'; have hc := ((BX).keep hw').cell; go_simp
 simp only [sq]
 refine wpAnyL_tk (i := 7) (k := 8) (v := .pointer (some ⟨w.heap.size, 2, none⟩)) rfl ?_ hS0 ?_
 ·intro w' hw'; go_simp
 simp only [sq]
 refine wpAnyL_tk (i := 8) (k := 11) (v := .agg #[.bool b2, .slice ao2 n2 c2]) rfl ?_ hS0 ?_
 ·intro w' hw'; have hc := ((BX).keep hw').cell; go_simp
 simp only [sq]
 refine wpAnyL_tk (i := 9) (k := 10) (v := .pointer (some ⟨w.heap.size, 6, none⟩)) rfl ?_ hS0 ?_
 ·intro w' hw'; go_simp
 simp only [sq]
 refine wpAnyL_tk (i := 10) (k := 11) (v := .int .i64 a.d) rfl ?_ hS0 ?_
 ·intro w' hw'; have hc := ((BX).keep hw').cell; go_simp
 simp only [sq]
 refine wpAnyL_on (i := 5) rfl (fun K hK => ?_)
 go_simp
 refine (rtimes_any t a.r _ _ _ (ht.keep hS0) (hr.keep hS0) (ft.fit (by omega)) (f.2.2.fit (by omega))).mono ?_
 rintro e w105 ⟨v105, rfl, hv105, hk105⟩
 obtain ⟨b105, ao105, n105, c105, rfl⟩ := hv105.shape'
 go_wp2_with fail
 refine hK.out _ _ (hS0.trans' hk105) (fun hS1 => ?_)
 clear hK K
 refine wpAnyL_on (i := 6) rfl (fun K hK => ?_)
 go_simp
 refine (rminus_any a.p (t * a.r) _ _ _ (hp.keep hS1) hv105 (f.1.fit (by omega)) ((ft.mul f.2.2).fit (by omega))).mono ?_
 rintro e w106 ⟨v106, rfl, hv106, hk106⟩
 obtain ⟨b106, ao106, n106, c106, rfl⟩ := hv106.shape'
 go_wp2_with fail
 refine hK.out _ _ (hS1.trans' hk106) (fun hS2 => ?_)
 clear hK K
 refine wpAnyL_on (i := 11) rfl (fun K hK => ?_)
 go_simp
 refine (HS _ _ _ hv106 (hq.keep hS2)).mono ?_
 rintro e w111 ⟨rfl, hk111⟩
 go_wp2_with fail
 refine hK.out _ _ (hS2.trans' hk111) (fun hS3 => ?_)
 clear hK K
 refine wpAnyL_last (i := 12) rfl (by kernel_rfl) (by kernel_rfl) (by kernel_rfl) (fun K hK => ?_)
 go_simp
 refine hK.out _ _ ?_
 clear hK K
 go_wp2_with fail
 go_ret
 exact ⟨rfl, hkb.trans' (hS3)⟩

end Go.Proofs.Ytjahbjjekednfaa
