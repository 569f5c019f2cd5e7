import Derived.Test.YtjahbjjekednfaaR3
import Derived.Deep.RegionLaw
import Derived.Test.YtjahbjjekednfaaSt
import Derived.Test.YtjahbjjekednfaaMath4
import Derived.Deep.DrawnRows
namespace Go.Proofs.Ytjahbjjekednfaa
open Go.RowKit

theorem Rb.len {w : World} {v : Value} {x : Int} (h : Rb w v x) (hf : Fit x) : ∃ m, RowR w v m ∧ Canon 10000 m ∧ val 10000 m = x ∧ m.length ≤ 400000000 := by
 obtain ⟨m, h1, h2, h3⟩ := h
 exact ⟨m, h1, h2, h3, h2.len_fit (by decide) (by rw [h3]; exact hf)⟩
theorem RowR.keep {w W : World} {v : Value} {m : List Int} (hk : Kp w W) (h : RowR w v m) : RowR W v m := Row.keep hk h
theorem way_one (a b : Int) : a + 1 * b = a + b := by omega
theorem way_neg (a b : Int) : a + (-1) * b = a + -b := by omega

set_option maxHeartbeats 3200000 in
set_option maxRecDepth 100000 in
theorem plus_tt (x y : Int) (ao ao' : Option Addr) (n c n' c' : Nat) (w : World) (hx : Rb w (.slice ao n c) x) (hy : Rb w (.slice ao' n' c') y) (fx : Fit x) (hle : y ≤ x) :
  Calls Try.prog 35 #[.agg #[.bool true, .slice ao n c], .agg #[.bool true, .slice ao' n' c']] w (RetI w (signed true (x + 1 * y))) := by
 have hcm : ¬ cmp3 x y < 0 := by unfold cmp3; split <;> (try split) <;> omega
 obtain ⟨l, hl, cl, hlv, ll⟩ := hx.len fx
 obtain ⟨m, hm, cm, hmv⟩ := id hy
 have hlm : m.length ≤ l.length := by
  rcases Nat.lt_or_ge l.length m.length with h | h
  ·have := cl.lt_of_len (by decide) cm h; omega
  ·exact h
 have hval : val 10000 (sumTo 1 l m l.length) = x + 1 * y := by rw [sumTo_val, List.take_length, List.take_of_length_le hlm, hlv, hmv]
 have hy0 := hy.nn
 have hnn : 0 ≤ val 10000 (sumTo 1 l m l.length) := by rw [hval]; omega
 have hmid := sumTo_mid (way := 1) (by decide) cl.1 cm.1 l.length
 have DL := Hid.mk cl.1
 have DM := Hid.mk cm.1
 obtain ⟨ao0, cap0, hsl, _, _⟩ := hl.slice
 simp only [Value.slice.injEq] at hsl
 obtain ⟨rfl, rfl, rfl⟩ := hsl
 have HV := Hid.mk hval
 have HN := Hid.mk hnn
 have HM := Hid.mk hmid
 clear hval hnn hmid cl cm hlv hmv
 obtain ⟨i0, hi, hz0, hz1, hz2⟩ := info_parts Try.infoInt
 go_enter Try.func35, Try.ntmps35
 go_wp2_with fail
 have hk0 : Kp w _ := ((kp_alloc w (.cells #[.bool true, .slice ao l.length c] 46)).alloc' (.cells #[.bool true, .slice ao' n' c'] 46)).alloc' (.cells #[.bool false, .slice none 0 0] 46)
 refine (order_any x y _ _ _ (hx.keep hk0) (hy.keep hk0)).mono ?_
 rintro e w1 ⟨rfl, hk1⟩
 generalize cmp3 x y = cv at *
 have hk1' := hk0.trans' hk1
 have B0 : Blk w1 w.heap.size #[.bool true, .slice ao l.length c] 46 := (Blk.alloc (Blk.alloc (Blk.new _ _ _) _) _).keep hk1
 have B1 : Blk w1 (w.heap.size + 1) #[.bool true, .slice ao' n' c'] 46 := (Blk.alloc (Blk.at (Blk.new _ _ _) (by simp)) _).keep hk1
 have B2 : Blk w1 (w.heap.size + 1 + 1) #[.bool false, .slice none 0 0] 46 := (Blk.at (Blk.new _ _ _) (by simp)).keep hk1
 have c0 := B0.cell
 have c1 := B1.cell
 have l0 := B0.lt
 have l1 := B1.lt
 have l2 := B2.lt
 have hl1 := hl.keep hk1'
 have hm1 := hm.keep hk1'
 clear hx hy hl hm hk0 hk1
 go_wp2_with fail
 go_loopw [7, 8] (fun s k wr => ∃ j : Nat, j ≤ l.length ∧ k = .int .i64 j ∧ wr.ownsRow w1.heap.size 3 1 s j (vals (sumTo 1 l m j)) ∧ Kp w1 wr) (fun _ k _ => l.length - (intOf k).toNat)
 case atStart => exact ⟨0, by omega, rfl, World.ownsRow_nil _ _ _ _, Below.refl _ _⟩
 case round =>
  obtain ⟨j, hj, rfl, hown, hkr⟩ := hrel
  have B0' := B0.keep hkr
  have B1' := B1.keep hkr
  have B2' := B2.keep hkr
  have c0' := B0'.cell
  have c1' := B1'.cell
  have l0' := B0'.lt
  clear c0 c1
  by_cases h1 : j < l.length
  ·have d1 := DL.out j
   have d2 := DM.out j
   have HS := Hid.mk (sumTo_succ 1 l m j)
   rw [way_one] at HS
   have hl2 : RowR wr.drew (.slice ao l.length c) l := hl1.keep hkr.drew'
   have hm2 : RowR wr.drew (.slice ao' n' c') m := hm1.keep hkr.drew'
   have hw1 : IntKind.i64.wrap (at0 m j) = at0 m j := IntWalk.i64_in _ (by omega)
   have hw2 : IntKind.i64.wrap (at0 l j + at0 m j) = at0 l j + at0 m j := IntWalk.i64_in _ (by omega)
   go_wp2_with fail
   have hob0 : (u7 : Value).ownBlock ≠ some w.heap.size := fun h => by have := (hown.lt _ h).1; omega
   have hob1 : (u7 : Value).ownBlock ≠ some (w.heap.size + 1) := fun h => by have := (hown.lt _ h).1; omega
   have hbs : w1.heap.size ≤ wr.heap.size := hkr.size
   go_region_held3 (fun w' => w'.cell? ⟨w.heap.size, 1, none⟩ = some (.slice ao l.length c) ∧ w'.cell? ⟨w.heap.size + 1, 1, none⟩ = some (.slice ao' n' c'))
    (first | go_keep | (simp [B0c, B1c]))
    ((first
     | (go_at_call_of 62 (Value.slice ao l.length c); refine (at_any l _ j _ (by omega) hl2).mono ?_; rintro e w' ⟨rfl, rfl⟩)
     | (go_at_call_of 62 (Value.slice ao' n' c'); refine (at_any m _ j _ (by omega) hm2).mono ?_; rintro e w' ⟨rfl, rfl⟩)
     | (refine step_append_lies _ (by rfl) _ _ _ (by rfl) w1.heap.size 3 i0 _ 1 8 Try.underlying44 hi hz0 hz1 hz2 rfl (by omega) u7 j (vals (sumTo 1 l m j)) (by rfl) ((hown.alloc _).drew) ⟨wr.heap.size, 0, none⟩ 1 1 (vals [at0 l j + at0 m j]) (by rfl) (by rfl) (World.news_of_block (cs := #[.int .i64 (at0 l j + at0 m j)]) (t := 3) (fr := (0, 0)) (heap_alloc_new wr _)) (vals_oneCell _) (by omega) (by unfold maxLen; omega) (by omega) (by simp; omega) (wr.heap.size + 1) (by simp) ?_; intro gg cap' w2 hown2 hgrow hat hlt1; have B0b := Blk.grown hgrow (Ne.symm hob0) ((B0'.alloc _).drew); have B0c := B0b.cell; have B1b := Blk.grown hgrow (Ne.symm hob1) ((B1'.alloc _).drew); have B1c := B1b.cell)))
   all_goals
    have hk2 : Kp w1 w2 := (Kp.drew' (hkr.alloc' _)).grown' hgrow (fun k hk => (hown.lt k hk).1)
    go_wp2_with fail
    go_roundw
    case rel => exact ⟨j + 1, by omega, by go_num, by rw [HS.out, vals_append]; exact hown2, hk2⟩
    case measure => simp [intOf]; omega
  ·have hje : j = l.length := by omega
   subst hje
   have hrow := Row.of_owns hown
   go_wp2_with fail
   refine (made_any true (sumTo 1 l m l.length) _ _ hrow HM.out HN.out (by rw [sumTo_length]; omega)).mono ?_
   rintro e w3 ⟨v3, rfl, hv3, hk3⟩
   obtain ⟨b5, ao5, n5, c5, rfl⟩ := hv3.shape'
   rw [HV.out] at hv3
   have B2e := B2'.keep hk3
   have c2e := B2e.cell
   have f2e := B2e.frozen
   have l2e := B2e.lt
   have hkE := (hk1'.trans' hkr).trans' hk3
   go_wp2_with fail
   refine bodyPost_ret (v := .agg #[.bool b5, .slice ao5 n5 c5]) (by simp [results, Try.results35, go_sem, c2e]) rfl ?_
   refine retI_mk hv3 (Sf.set (t := 46) (Sf.set (Sf.refl _ _) B2e.elem (by decide)) (by simp only [elemOf_setCell]; exact B2e.elem) (by decide)) (Below.setCell (Below.setCell hkE ?_ _) ?_ _)
   ·show w.heap.size ≤ w.heap.size + 1 + 1; omega
   ·show w.heap.size ≤ w.heap.size + 1 + 1; omega

set_option maxHeartbeats 3200000 in
set_option maxRecDepth 100000 in
theorem plus_tf (x y : Int) (ao ao' : Option Addr) (n c n' c' : Nat) (w : World) (hx : Rb w (.slice ao n c) x) (hy : Rb w (.slice ao' n' c') y) (fx : Fit x) (hle : y ≤ x) :
  Calls Try.prog 35 #[.agg #[.bool true, .slice ao n c], .agg #[.bool false, .slice ao' n' c']] w (RetI w (signed true (x + (-1) * y))) := by
 have hcm : ¬ cmp3 x y < 0 := by unfold cmp3; split <;> (try split) <;> omega
 obtain ⟨l, hl, cl, hlv, ll⟩ := hx.len fx
 obtain ⟨m, hm, cm, hmv⟩ := id hy
 have hlm : m.length ≤ l.length := by
  rcases Nat.lt_or_ge l.length m.length with h | h
  ·have := cl.lt_of_len (by decide) cm h; omega
  ·exact h
 have hval : val 10000 (sumTo (-1) l m l.length) = x + (-1) * y := by rw [sumTo_val, List.take_length, List.take_of_length_le hlm, hlv, hmv]
 have hy0 := hy.nn
 have hnn : 0 ≤ val 10000 (sumTo (-1) l m l.length) := by rw [hval]; omega
 have hmid := sumTo_mid (way := (-1)) (by decide) cl.1 cm.1 l.length
 have DL := Hid.mk cl.1
 have DM := Hid.mk cm.1
 obtain ⟨ao0, cap0, hsl, _, _⟩ := hl.slice
 simp only [Value.slice.injEq] at hsl
 obtain ⟨rfl, rfl, rfl⟩ := hsl
 have HV := Hid.mk hval
 have HN := Hid.mk hnn
 have HM := Hid.mk hmid
 clear hval hnn hmid cl cm hlv hmv
 obtain ⟨i0, hi, hz0, hz1, hz2⟩ := info_parts Try.infoInt
 go_enter Try.func35, Try.ntmps35
 go_wp2_with fail
 have hk0 : Kp w _ := ((kp_alloc w (.cells #[.bool true, .slice ao l.length c] 46)).alloc' (.cells #[.bool false, .slice ao' n' c'] 46)).alloc' (.cells #[.bool false, .slice none 0 0] 46)
 refine (order_any x y _ _ _ (hx.keep hk0) (hy.keep hk0)).mono ?_
 rintro e w1 ⟨rfl, hk1⟩
 generalize cmp3 x y = cv at *
 have hk1' := hk0.trans' hk1
 have B0 : Blk w1 w.heap.size #[.bool true, .slice ao l.length c] 46 := (Blk.alloc (Blk.alloc (Blk.new _ _ _) _) _).keep hk1
 have B1 : Blk w1 (w.heap.size + 1) #[.bool false, .slice ao' n' c'] 46 := (Blk.alloc (Blk.at (Blk.new _ _ _) (by simp)) _).keep hk1
 have B2 : Blk w1 (w.heap.size + 1 + 1) #[.bool false, .slice none 0 0] 46 := (Blk.at (Blk.new _ _ _) (by simp)).keep hk1
 have c0 := B0.cell
 have c1 := B1.cell
 have l0 := B0.lt
 have l1 := B1.lt
 have l2 := B2.lt
 have hl1 := hl.keep hk1'
 have hm1 := hm.keep hk1'
 clear hx hy hl hm hk0 hk1
 go_wp2_with fail
 go_loopw [7, 8] (fun s k wr => ∃ j : Nat, j ≤ l.length ∧ k = .int .i64 j ∧ wr.ownsRow w1.heap.size 3 1 s j (vals (sumTo (-1) l m j)) ∧ Kp w1 wr) (fun _ k _ => l.length - (intOf k).toNat)
 case atStart => exact ⟨0, by omega, rfl, World.ownsRow_nil _ _ _ _, Below.refl _ _⟩
 case round =>
  obtain ⟨j, hj, rfl, hown, hkr⟩ := hrel
  have B0' := B0.keep hkr
  have B1' := B1.keep hkr
  have B2' := B2.keep hkr
  have c0' := B0'.cell
  have c1' := B1'.cell
  have l0' := B0'.lt
  clear c0 c1
  by_cases h1 : j < l.length
  ·have d1 := DL.out j
   have d2 := DM.out j
   have HS := Hid.mk (sumTo_succ (-1) l m j)
   rw [way_neg] at HS
   have hl2 : RowR wr.drew (.slice ao l.length c) l := hl1.keep hkr.drew'
   have hm2 : RowR wr.drew (.slice ao' n' c') m := hm1.keep hkr.drew'
   have hw1 : IntKind.i64.wrap (-at0 m j) = -at0 m j := IntWalk.i64_in _ (by omega)
   have hw2 : IntKind.i64.wrap (at0 l j + -at0 m j) = at0 l j + -at0 m j := IntWalk.i64_in _ (by omega)
   go_wp2_with fail
   have hob0 : (u7 : Value).ownBlock ≠ some w.heap.size := fun h => by have := (hown.lt _ h).1; omega
   have hob1 : (u7 : Value).ownBlock ≠ some (w.heap.size + 1) := fun h => by have := (hown.lt _ h).1; omega
   have hbs : w1.heap.size ≤ wr.heap.size := hkr.size
   go_region_held3 (fun w' => w'.cell? ⟨w.heap.size, 1, none⟩ = some (.slice ao l.length c) ∧ w'.cell? ⟨w.heap.size + 1, 1, none⟩ = some (.slice ao' n' c'))
    (first | go_keep | (simp [B0c, B1c]))
    ((first
     | (go_at_call_of 62 (Value.slice ao l.length c); refine (at_any l _ j _ (by omega) hl2).mono ?_; rintro e w' ⟨rfl, rfl⟩)
     | (go_at_call_of 62 (Value.slice ao' n' c'); refine (at_any m _ j _ (by omega) hm2).mono ?_; rintro e w' ⟨rfl, rfl⟩)
     | (refine step_append_lies _ (by rfl) _ _ _ (by rfl) w1.heap.size 3 i0 _ 1 8 Try.underlying44 hi hz0 hz1 hz2 rfl (by omega) u7 j (vals (sumTo (-1) l m j)) (by rfl) ((hown.alloc _).drew) ⟨wr.heap.size, 0, none⟩ 1 1 (vals [at0 l j + -at0 m j]) (by rfl) (by rfl) (World.news_of_block (cs := #[.int .i64 (at0 l j + -at0 m j)]) (t := 3) (fr := (0, 0)) (heap_alloc_new wr _)) (vals_oneCell _) (by omega) (by unfold maxLen; omega) (by omega) (by simp; omega) (wr.heap.size + 1) (by simp) ?_; intro gg cap' w2 hown2 hgrow hat hlt1; have B0b := Blk.grown hgrow (Ne.symm hob0) ((B0'.alloc _).drew); have B0c := B0b.cell; have B1b := Blk.grown hgrow (Ne.symm hob1) ((B1'.alloc _).drew); have B1c := B1b.cell)))
   all_goals
    have hk2 : Kp w1 w2 := (Kp.drew' (hkr.alloc' _)).grown' hgrow (fun k hk => (hown.lt k hk).1)
    go_wp2_with fail
    go_roundw
    case rel => exact ⟨j + 1, by omega, by go_num, by rw [HS.out, vals_append]; exact hown2, hk2⟩
    case measure => simp [intOf]; omega
  ·have hje : j = l.length := by omega
   subst hje
   have hrow := Row.of_owns hown
   go_wp2_with fail
   refine (made_any true (sumTo (-1) l m l.length) _ _ hrow HM.out HN.out (by rw [sumTo_length]; omega)).mono ?_
   rintro e w3 ⟨v3, rfl, hv3, hk3⟩
   obtain ⟨b5, ao5, n5, c5, rfl⟩ := hv3.shape'
   rw [HV.out] at hv3
   have B2e := B2'.keep hk3
   have c2e := B2e.cell
   have f2e := B2e.frozen
   have l2e := B2e.lt
   have hkE := (hk1'.trans' hkr).trans' hk3
   go_wp2_with fail
   refine bodyPost_ret (v := .agg #[.bool b5, .slice ao5 n5 c5]) (by simp [results, Try.results35, go_sem, c2e]) rfl ?_
   refine retI_mk hv3 (Sf.set (t := 46) (Sf.set (Sf.refl _ _) B2e.elem (by decide)) (by simp only [elemOf_setCell]; exact B2e.elem) (by decide)) (Below.setCell (Below.setCell hkE ?_ _) ?_ _)
   ·show w.heap.size ≤ w.heap.size + 1 + 1; omega
   ·show w.heap.size ≤ w.heap.size + 1 + 1; omega

set_option maxHeartbeats 3200000 in
set_option maxRecDepth 100000 in
theorem plus_ft (x y : Int) (ao ao' : Option Addr) (n c n' c' : Nat) (w : World) (hx : Rb w (.slice ao n c) x) (hy : Rb w (.slice ao' n' c') y) (fx : Fit x) (hle : y ≤ x) :
  Calls Try.prog 35 #[.agg #[.bool false, .slice ao n c], .agg #[.bool true, .slice ao' n' c']] w (RetI w (signed false (x + (-1) * y))) := by
 have hcm : ¬ cmp3 x y < 0 := by unfold cmp3; split <;> (try split) <;> omega
 obtain ⟨l, hl, cl, hlv, ll⟩ := hx.len fx
 obtain ⟨m, hm, cm, hmv⟩ := id hy
 have hlm : m.length ≤ l.length := by
  rcases Nat.lt_or_ge l.length m.length with h | h
  ·have := cl.lt_of_len (by decide) cm h; omega
  ·exact h
 have hval : val 10000 (sumTo (-1) l m l.length) = x + (-1) * y := by rw [sumTo_val, List.take_length, List.take_of_length_le hlm, hlv, hmv]
 have hy0 := hy.nn
 have hnn : 0 ≤ val 10000 (sumTo (-1) l m l.length) := by rw [hval]; omega
 have hmid := sumTo_mid (way := (-1)) (by decide) cl.1 cm.1 l.length
 have DL := Hid.mk cl.1
 have DM := Hid.mk cm.1
 obtain ⟨ao0, cap0, hsl, _, _⟩ := hl.slice
 simp only [Value.slice.injEq] at hsl
 obtain ⟨rfl, rfl, rfl⟩ := hsl
 have HV := Hid.mk hval
 have HN := Hid.mk hnn
 have HM := Hid.mk hmid
 clear hval hnn hmid cl cm hlv hmv
 obtain ⟨i0, hi, hz0, hz1, hz2⟩ := info_parts Try.infoInt
 go_enter Try.func35, Try.ntmps35
 go_wp2_with fail
 have hk0 : Kp w _ := ((kp_alloc w (.cells #[.bool false, .slice ao l.length c] 46)).alloc' (.cells #[.bool true, .slice ao' n' c'] 46)).alloc' (.cells #[.bool false, .slice none 0 0] 46)
 refine (order_any x y _ _ _ (hx.keep hk0) (hy.keep hk0)).mono ?_
 rintro e w1 ⟨rfl, hk1⟩
 generalize cmp3 x y = cv at *
 have hk1' := hk0.trans' hk1
 have B0 : Blk w1 w.heap.size #[.bool false, .slice ao l.length c] 46 := (Blk.alloc (Blk.alloc (Blk.new _ _ _) _) _).keep hk1
 have B1 : Blk w1 (w.heap.size + 1) #[.bool true, .slice ao' n' c'] 46 := (Blk.alloc (Blk.at (Blk.new _ _ _) (by simp)) _).keep hk1
 have B2 : Blk w1 (w.heap.size + 1 + 1) #[.bool false, .slice none 0 0] 46 := (Blk.at (Blk.new _ _ _) (by simp)).keep hk1
 have c0 := B0.cell
 have c1 := B1.cell
 have l0 := B0.lt
 have l1 := B1.lt
 have l2 := B2.lt
 have hl1 := hl.keep hk1'
 have hm1 := hm.keep hk1'
 clear hx hy hl hm hk0 hk1
 go_wp2_with fail
 go_loopw [7, 8] (fun s k wr => ∃ j : Nat, j ≤ l.length ∧ k = .int .i64 j ∧ wr.ownsRow w1.heap.size 3 1 s j (vals (sumTo (-1) l m j)) ∧ Kp w1 wr) (fun _ k _ => l.length - (intOf k).toNat)
 case atStart => exact ⟨0, by omega, rfl, World.ownsRow_nil _ _ _ _, Below.refl _ _⟩
 case round =>
  obtain ⟨j, hj, rfl, hown, hkr⟩ := hrel
  have B0' := B0.keep hkr
  have B1' := B1.keep hkr
  have B2' := B2.keep hkr
  have c0' := B0'.cell
  have c1' := B1'.cell
  have l0' := B0'.lt
  clear c0 c1
  by_cases h1 : j < l.length
  ·have d1 := DL.out j
   have d2 := DM.out j
   have HS := Hid.mk (sumTo_succ (-1) l m j)
   rw [way_neg] at HS
   have hl2 : RowR wr.drew (.slice ao l.length c) l := hl1.keep hkr.drew'
   have hm2 : RowR wr.drew (.slice ao' n' c') m := hm1.keep hkr.drew'
   have hw1 : IntKind.i64.wrap (-at0 m j) = -at0 m j := IntWalk.i64_in _ (by omega)
   have hw2 : IntKind.i64.wrap (at0 l j + -at0 m j) = at0 l j + -at0 m j := IntWalk.i64_in _ (by omega)
   go_wp2_with fail
   have hob0 : (u7 : Value).ownBlock ≠ some w.heap.size := fun h => by have := (hown.lt _ h).1; omega
   have hob1 : (u7 : Value).ownBlock ≠ some (w.heap.size + 1) := fun h => by have := (hown.lt _ h).1; omega
   have hbs : w1.heap.size ≤ wr.heap.size := hkr.size
   go_region_held3 (fun w' => w'.cell? ⟨w.heap.size, 1, none⟩ = some (.slice ao l.length c) ∧ w'.cell? ⟨w.heap.size + 1, 1, none⟩ = some (.slice ao' n' c'))
    (first | go_keep | (simp [B0c, B1c]))
    ((first
     | (go_at_call_of 62 (Value.slice ao l.length c); refine (at_any l _ j _ (by omega) hl2).mono ?_; rintro e w' ⟨rfl, rfl⟩)
     | (go_at_call_of 62 (Value.slice ao' n' c'); refine (at_any m _ j _ (by omega) hm2).mono ?_; rintro e w' ⟨rfl, rfl⟩)
     | (refine step_append_lies _ (by rfl) _ _ _ (by rfl) w1.heap.size 3 i0 _ 1 8 Try.underlying44 hi hz0 hz1 hz2 rfl (by omega) u7 j (vals (sumTo (-1) l m j)) (by rfl) ((hown.alloc _).drew) ⟨wr.heap.size, 0, none⟩ 1 1 (vals [at0 l j + -at0 m j]) (by rfl) (by rfl) (World.news_of_block (cs := #[.int .i64 (at0 l j + -at0 m j)]) (t := 3) (fr := (0, 0)) (heap_alloc_new wr _)) (vals_oneCell _) (by omega) (by unfold maxLen; omega) (by omega) (by simp; omega) (wr.heap.size + 1) (by simp) ?_; intro gg cap' w2 hown2 hgrow hat hlt1; have B0b := Blk.grown hgrow (Ne.symm hob0) ((B0'.alloc _).drew); have B0c := B0b.cell; have B1b := Blk.grown hgrow (Ne.symm hob1) ((B1'.alloc _).drew); have B1c := B1b.cell)))
   all_goals
    have hk2 : Kp w1 w2 := (Kp.drew' (hkr.alloc' _)).grown' hgrow (fun k hk => (hown.lt k hk).1)
    go_wp2_with fail
    go_roundw
    case rel => exact ⟨j + 1, by omega, by go_num, by rw [HS.out, vals_append]; exact hown2, hk2⟩
    case measure => simp [intOf]; omega
  ·have hje : j = l.length := by omega
   subst hje
   have hrow := Row.of_owns hown
   go_wp2_with fail
   refine (made_any false (sumTo (-1) l m l.length) _ _ hrow HM.out HN.out (by rw [sumTo_length]; omega)).mono ?_
   rintro e w3 ⟨v3, rfl, hv3, hk3⟩
   obtain ⟨b5, ao5, n5, c5, rfl⟩ := hv3.shape'
   rw [HV.out] at hv3
   have B2e := B2'.keep hk3
   have c2e := B2e.cell
   have f2e := B2e.frozen
   have l2e := B2e.lt
   have hkE := (hk1'.trans' hkr).trans' hk3
   go_wp2_with fail
   refine bodyPost_ret (v := .agg #[.bool b5, .slice ao5 n5 c5]) (by simp [results, Try.results35, go_sem, c2e]) rfl ?_
   refine retI_mk hv3 (Sf.set (t := 46) (Sf.set (Sf.refl _ _) B2e.elem (by decide)) (by simp only [elemOf_setCell]; exact B2e.elem) (by decide)) (Below.setCell (Below.setCell hkE ?_ _) ?_ _)
   ·show w.heap.size ≤ w.heap.size + 1 + 1; omega
   ·show w.heap.size ≤ w.heap.size + 1 + 1; omega

set_option maxHeartbeats 3200000 in
set_option maxRecDepth 100000 in
theorem plus_ff (x y : Int) (ao ao' : Option Addr) (n c n' c' : Nat) (w : World) (hx : Rb w (.slice ao n c) x) (hy : Rb w (.slice ao' n' c') y) (fx : Fit x) (hle : y ≤ x) :
  Calls Try.prog 35 #[.agg #[.bool false, .slice ao n c], .agg #[.bool false, .slice ao' n' c']] w (RetI w (signed false (x + 1 * y))) := by
 have hcm : ¬ cmp3 x y < 0 := by unfold cmp3; split <;> (try split) <;> omega
 obtain ⟨l, hl, cl, hlv, ll⟩ := hx.len fx
 obtain ⟨m, hm, cm, hmv⟩ := id hy
 have hlm : m.length ≤ l.length := by
  rcases Nat.lt_or_ge l.length m.length with h | h
  ·have := cl.lt_of_len (by decide) cm h; omega
  ·exact h
 have hval : val 10000 (sumTo 1 l m l.length) = x + 1 * y := by rw [sumTo_val, List.take_length, List.take_of_length_le hlm, hlv, hmv]
 have hy0 := hy.nn
 have hnn : 0 ≤ val 10000 (sumTo 1 l m l.length) := by rw [hval]; omega
 have hmid := sumTo_mid (way := 1) (by decide) cl.1 cm.1 l.length
 have DL := Hid.mk cl.1
 have DM := Hid.mk cm.1
 obtain ⟨ao0, cap0, hsl, _, _⟩ := hl.slice
 simp only [Value.slice.injEq] at hsl
 obtain ⟨rfl, rfl, rfl⟩ := hsl
 have HV := Hid.mk hval
 have HN := Hid.mk hnn
 have HM := Hid.mk hmid
 clear hval hnn hmid cl cm hlv hmv
 obtain ⟨i0, hi, hz0, hz1, hz2⟩ := info_parts Try.infoInt
 go_enter Try.func35, Try.ntmps35
 go_wp2_with fail
 have hk0 : Kp w _ := ((kp_alloc w (.cells #[.bool false, .slice ao l.length c] 46)).alloc' (.cells #[.bool false, .slice ao' n' c'] 46)).alloc' (.cells #[.bool false, .slice none 0 0] 46)
 refine (order_any x y _ _ _ (hx.keep hk0) (hy.keep hk0)).mono ?_
 rintro e w1 ⟨rfl, hk1⟩
 generalize cmp3 x y = cv at *
 have hk1' := hk0.trans' hk1
 have B0 : Blk w1 w.heap.size #[.bool false, .slice ao l.length c] 46 := (Blk.alloc (Blk.alloc (Blk.new _ _ _) _) _).keep hk1
 have B1 : Blk w1 (w.heap.size + 1) #[.bool false, .slice ao' n' c'] 46 := (Blk.alloc (Blk.at (Blk.new _ _ _) (by simp)) _).keep hk1
 have B2 : Blk w1 (w.heap.size + 1 + 1) #[.bool false, .slice none 0 0] 46 := (Blk.at (Blk.new _ _ _) (by simp)).keep hk1
 have c0 := B0.cell
 have c1 := B1.cell
 have l0 := B0.lt
 have l1 := B1.lt
 have l2 := B2.lt
 have hl1 := hl.keep hk1'
 have hm1 := hm.keep hk1'
 clear hx hy hl hm hk0 hk1
 go_wp2_with fail
 go_loopw [7, 8] (fun s k wr => ∃ j : Nat, j ≤ l.length ∧ k = .int .i64 j ∧ wr.ownsRow w1.heap.size 3 1 s j (vals (sumTo 1 l m j)) ∧ Kp w1 wr) (fun _ k _ => l.length - (intOf k).toNat)
 case atStart => exact ⟨0, by omega, rfl, World.ownsRow_nil _ _ _ _, Below.refl _ _⟩
 case round =>
  obtain ⟨j, hj, rfl, hown, hkr⟩ := hrel
  have B0' := B0.keep hkr
  have B1' := B1.keep hkr
  have B2' := B2.keep hkr
  have c0' := B0'.cell
  have c1' := B1'.cell
  have l0' := B0'.lt
  clear c0 c1
  by_cases h1 : j < l.length
  ·have d1 := DL.out j
   have d2 := DM.out j
   have HS := Hid.mk (sumTo_succ 1 l m j)
   rw [way_one] at HS
   have hl2 : RowR wr.drew (.slice ao l.length c) l := hl1.keep hkr.drew'
   have hm2 : RowR wr.drew (.slice ao' n' c') m := hm1.keep hkr.drew'
   have hw1 : IntKind.i64.wrap (at0 m j) = at0 m j := IntWalk.i64_in _ (by omega)
   have hw2 : IntKind.i64.wrap (at0 l j + at0 m j) = at0 l j + at0 m j := IntWalk.i64_in _ (by omega)
   go_wp2_with fail
   have hob0 : (u7 : Value).ownBlock ≠ some w.heap.size := fun h => by have := (hown.lt _ h).1; omega
   have hob1 : (u7 : Value).ownBlock ≠ some (w.heap.size + 1) := fun h => by have := (hown.lt _ h).1; omega
   have hbs : w1.heap.size ≤ wr.heap.size := hkr.size
   go_region_held3 (fun w' => w'.cell? ⟨w.heap.size, 1, none⟩ = some (.slice ao l.length c) ∧ w'.cell? ⟨w.heap.size + 1, 1, none⟩ = some (.slice ao' n' c'))
    (first | go_keep | (simp [B0c, B1c]))
    ((first
     | (go_at_call_of 62 (Value.slice ao l.length c); refine (at_any l _ j _ (by omega) hl2).mono ?_; rintro e w' ⟨rfl, rfl⟩)
     | (go_at_call_of 62 (Value.slice ao' n' c'); refine (at_any m _ j _ (by omega) hm2).mono ?_; rintro e w' ⟨rfl, rfl⟩)
     | (refine step_append_lies _ (by rfl) _ _ _ (by rfl) w1.heap.size 3 i0 _ 1 8 Try.underlying44 hi hz0 hz1 hz2 rfl (by omega) u7 j (vals (sumTo 1 l m j)) (by rfl) ((hown.alloc _).drew) ⟨wr.heap.size, 0, none⟩ 1 1 (vals [at0 l j + at0 m j]) (by rfl) (by rfl) (World.news_of_block (cs := #[.int .i64 (at0 l j + at0 m j)]) (t := 3) (fr := (0, 0)) (heap_alloc_new wr _)) (vals_oneCell _) (by omega) (by unfold maxLen; omega) (by omega) (by simp; omega) (wr.heap.size + 1) (by simp) ?_; intro gg cap' w2 hown2 hgrow hat hlt1; have B0b := Blk.grown hgrow (Ne.symm hob0) ((B0'.alloc _).drew); have B0c := B0b.cell; have B1b := Blk.grown hgrow (Ne.symm hob1) ((B1'.alloc _).drew); have B1c := B1b.cell)))
   all_goals
    have hk2 : Kp w1 w2 := (Kp.drew' (hkr.alloc' _)).grown' hgrow (fun k hk => (hown.lt k hk).1)
    go_wp2_with fail
    go_roundw
    case rel => exact ⟨j + 1, by omega, by go_num, by rw [HS.out, vals_append]; exact hown2, hk2⟩
    case measure => simp [intOf]; omega
  ·have hje : j = l.length := by omega
   subst hje
   have hrow := Row.of_owns hown
   go_wp2_with fail
   refine (made_any false (sumTo 1 l m l.length) _ _ hrow HM.out HN.out (by rw [sumTo_length]; omega)).mono ?_
   rintro e w3 ⟨v3, rfl, hv3, hk3⟩
   obtain ⟨b5, ao5, n5, c5, rfl⟩ := hv3.shape'
   rw [HV.out] at hv3
   have B2e := B2'.keep hk3
   have c2e := B2e.cell
   have f2e := B2e.frozen
   have l2e := B2e.lt
   have hkE := (hk1'.trans' hkr).trans' hk3
   go_wp2_with fail
   refine bodyPost_ret (v := .agg #[.bool b5, .slice ao5 n5 c5]) (by simp [results, Try.results35, go_sem, c2e]) rfl ?_
   refine retI_mk hv3 (Sf.set (t := 46) (Sf.set (Sf.refl _ _) B2e.elem (by decide)) (by simp only [elemOf_setCell]; exact B2e.elem) (by decide)) (Below.setCell (Below.setCell hkE ?_ _) ?_ _)
   ·show w.heap.size ≤ w.heap.size + 1 + 1; omega
   ·show w.heap.size ≤ w.heap.size + 1 + 1; omega

end Go.Proofs.Ytjahbjjekednfaa

namespace Go.Proofs.Ytjahbjjekednfaa
open Go.RowKit

theorem plus_ge (x y : Int) (u v : Value) (w : World) (hx : IN w u x) (hy : IN w v y) (fx : Fit x) (hle : y.natAbs ≤ x.natAbs) : Calls Try.prog 35 #[u, v] w (RetI w (x + y)) := by
 obtain ⟨ao, n, c, rfl, hs⟩ := hx
 obtain ⟨ao', n', c', rfl, hs'⟩ := hy
 by_cases h1 : x < 0
 ·rw [decide_eq_true h1]
  by_cases h2 : y < 0
  ·rw [decide_eq_true h2]
   have := plus_tt (x.natAbs : Int) (y.natAbs : Int) ao ao' n c n' c' w hs hs' (fit_abs fx) (by omega)
   rwa [show signed true ((x.natAbs : Int) + 1 * (y.natAbs : Int)) = x + y by unfold signed; simp; omega] at this
  ·rw [decide_eq_false h2]
   have := plus_tf (x.natAbs : Int) (y.natAbs : Int) ao ao' n c n' c' w hs hs' (fit_abs fx) (by omega)
   rwa [show signed true ((x.natAbs : Int) + (-1) * (y.natAbs : Int)) = x + y by unfold signed; simp; omega] at this
 ·rw [decide_eq_false h1]
  by_cases h2 : y < 0
  ·rw [decide_eq_true h2]
   have := plus_ft (x.natAbs : Int) (y.natAbs : Int) ao ao' n c n' c' w hs hs' (fit_abs fx) (by omega)
   rwa [show signed false ((x.natAbs : Int) + (-1) * (y.natAbs : Int)) = x + y by unfold signed; simp; omega] at this
  ·rw [decide_eq_false h2]
   have := plus_ff (x.natAbs : Int) (y.natAbs : Int) ao ao' n c n' c' w hs hs' (fit_abs fx) (by omega)
   rwa [show signed false ((x.natAbs : Int) + 1 * (y.natAbs : Int)) = x + y by unfold signed; simp; omega] at this

theorem IN.rb {w : World} {b : Bool} {ao : Option Addr} {n c : Nat} {z : Int} (h : IN w (.agg #[.bool b, .slice ao n c]) z) : Rb w (.slice ao n c) (z.natAbs : Int) := by
 obtain ⟨ao', n', c', h1, h2⟩ := h
 simp only [Value.agg.injEq, Array.mk.injEq, List.cons.injEq, Value.slice.injEq, and_true] at h1
 obtain ⟨_, rfl, rfl, rfl⟩ := h1
 exact h2

set_option maxHeartbeats 1600000 in
theorem plus_lt (x y : Int) (u v : Value) (w : World) (hx : IN w u x) (hy : IN w v y) (fy : Fit y) (hlt : x.natAbs < y.natAbs) : Calls Try.prog 35 #[u, v] w (RetI w (x + y)) := by
 obtain ⟨b1, ao1, n1, c1, rfl⟩ := hx.shape'
 obtain ⟨b2, ao2, n2, c2, rfl⟩ := hy.shape'
 have HC := Hid.mk (cmp3_lt (x := (x.natAbs : Int)) (y := (y.natAbs : Int)) (by omega))
 go_enter Try.func35, Try.ntmps35
 go_wp2_with fail
 have kp0 : Kp w _ := (Kp.alloc' (Kp.alloc' (Kp.alloc' (Below.refl w.heap.size w) (.cells #[.bool b1, .slice ao1 n1 c1] 46)) (.cells #[.bool b2, .slice ao2 n2 c2] 46)) (.cells #[.bool false, .slice none 0 0] 46))
 have sf0 : Sf 3 w _ := (Sf.alloc (Sf.alloc (Sf.alloc (Sf.refl 3 w) (.cells #[.bool b1, .slice ao1 n1 c1] 46)) (.cells #[.bool b2, .slice ao2 n2 c2] 46)) (.cells #[.bool false, .slice none 0 0] 46))
 refine (order_any _ _ _ _ _ (hx.soft sf0).rb (hy.soft sf0).rb).mono ?_
 rintro e w1 ⟨rfl, hk1⟩
 rw [HC.out]
 have kq0 := kp0.trans' hk1
 have sq0 := sf0.trans (Sf.keep hk1)
 have B1x : Blk w1 (w.heap.size) #[.bool b1, .slice ao1 n1 c1] 46 := Blk.keep hk1 (Blk.at (Blk.alloc (Blk.alloc (Blk.new _ _ _) _) _) (by simp))
 have B1y : Blk w1 (w.heap.size + 1) #[.bool b2, .slice ao2 n2 c2] 46 := Blk.keep hk1 (Blk.at (Blk.alloc (Blk.new _ _ _) _) (by simp))
 have B1res : Blk w1 (w.heap.size + 1 + 1) #[.bool false, .slice none 0 0] 46 := Blk.keep hk1 (Blk.at (Blk.new _ _ _) (by simp))
 obtain ⟨B1xc, B1xf, B1xl⟩ := B1x.all
 obtain ⟨B1yc, B1yf, B1yl⟩ := B1y.all
 obtain ⟨B1resc, B1resf, B1resl⟩ := B1res.all
 replace hx := hx.soft sq0
 replace hy := hy.soft sq0
 go_wp2_with fail
 have kp1 : Kp w _ := kq0
 have sf1 : Sf 3 w1 _ := (Sf.refl 3 w1)
 refine (plus_ge y x _ _ _ (hy.soft sf1) (hx.soft sf1) fy (by omega)).mono ?_
 rintro e w2 ⟨v2, rfl, hv2, hk2⟩
 obtain ⟨b3, ao3, n3, c3, rfl⟩ := hv2.shape'
 rw [Int.add_comm] at hv2
 have kq1 := kp1.trans' hk2
 have sq1 := sf1.trans (Sf.keep hk2)
 have B2res := Blk.keep hk2 B1res
 obtain ⟨B2resc, B2resf, B2resl⟩ := B2res.all
 have ge2res : w.heap.size ≤ w.heap.size + 1 + 1 := by (first | omega | (have := kp1.size; simp only [World.size_alloc, size_setCell', size_drew'] at this; omega))
 clear B1x B1xc B1xf B1y B1yc B1yf B1res B1resc B1resf
 go_wp2_with fail
 refine bodyPost_ret (v := .agg #[.bool b3, .slice ao3 n3 c3]) (by simp [results, Try.results35, go_sem, B2resc]) rfl ?_
 have kpE : Kp w _ := (stK2 (A := w.heap.size + 1 + 1) (.bool b3) (.slice ao3 n3 c3) kq1 (by have := ge2res; omega))
 have sfE : Sf 3 w2 _ := (stS2 (E := 3) (.bool b3) (.slice ao3 n3 c3) B2res (by decide))
 exact retI_mk hv2 sfE kpE

theorem rplus_any (x y : Int) (u v : Value) (w : World) (hx : IN w u x) (hy : IN w v y) (fx : Fit x) (fy : Fit y) : Calls Try.prog 35 #[u, v] w (RetI w (x + y)) := by
 rcases Nat.lt_or_ge x.natAbs y.natAbs with h | h
 ·exact plus_lt x y u v w hx hy fy h
 ·exact plus_ge x y u v w hx hy fx h

set_option maxHeartbeats 1600000 in
set_option maxRecDepth 100000 in
theorem rminus_any (x y : Int) (u v : Value) (w : World) (hx : IN w u x) (hy : IN w v y) (fx : Fit x) (fy : Fit y) : Calls Try.prog 32 #[u, v] w (RetI w (x - y)) := by
 obtain ⟨b1, ao1, n1, c1, rfl⟩ := hx.shape'
 obtain ⟨b2, ao2, n2, c2, rfl⟩ := hy.shape'
 have fy' : Fit (-y) := by obtain ⟨n, h1, h2⟩ := fy; exact ⟨n, h1, by rwa [Int.natAbs_neg]⟩
 have kp0 : Kp w _ := ((kp_alloc w (.cells #[.bool b1, .slice ao1 n1 c1] 46)).alloc' (.cells #[.bool b2, .slice ao2 n2 c2] 46)).alloc' (.cells #[.bool false, .slice none 0 0] 46)
 have X0 := (hx.keep (Kp.drew' kp0))
 have Y0 := (hy.keep (Kp.drew' kp0))
 have BX : Blk _ w.heap.size #[.bool b1, .slice ao1 n1 c1] 46 := Blk.drew (Blk.alloc (Blk.alloc (Blk.new w _ _) (.cells #[.bool b2, .slice ao2 n2 c2] 46)) (.cells #[.bool false, .slice none 0 0] 46))
 have BY : Blk _ (w.heap.size + 1) #[.bool b2, .slice ao2 n2 c2] 46 := Blk.drew (Blk.alloc (Blk.at (Blk.new (w.alloc (.cells #[.bool b1, .slice ao1 n1 c1] 46)) _ _) (by simp)) (.cells #[.bool false, .slice none 0 0] 46))
 have B2 : Blk _ (w.heap.size + 1 + 1) #[.bool false, .slice none 0 0] 46 := Blk.drew (Blk.at (Blk.new ((w.alloc (.cells #[.bool b1, .slice ao1 n1 c1] 46)).alloc (.cells #[.bool b2, .slice ao2 n2 c2] 46)) _ _) (by simp))
 have kp0' := Kp.drew' kp0
 clear hx hy
 go_enter Try.func32, Try.ntmps32
 go_wp2_with fail
 go_region_held3 (fun w' => w'.cell? ⟨w.heap.size, 0, none⟩ = some (.bool b1) ∧ w'.cell? ⟨w.heap.size, 1, none⟩ = some (.slice ao1 n1 c1) ∧ w'.cell? ⟨w.heap.size + 1, 0, none⟩ = some (.bool b2) ∧ w'.cell? ⟨w.heap.size + 1, 1, none⟩ = some (.slice ao2 n2 c2))
  (first | (go_keep; done) | (simp [BXc, BYc]; done) | (exact ⟨Blk.cell (Blk.other (Blk.other BX2 (by omega)) (by omega)) 0, Blk.cell (Blk.other (Blk.other BX2 (by omega)) (by omega)) 1, Blk.cell (Blk.other (Blk.other BY2 (by omega)) (by omega)) 0, Blk.cell (Blk.other (Blk.other BY2 (by omega)) (by omega)) 1⟩))
  ((first
   | (go_at_call 59; refine (less_any y _ _ Y0).mono ?_; rintro e w1 ⟨v1, rfl, hv1, hk1⟩; obtain ⟨b3, ao3, n3, c3, rfl⟩ := hv1.shape'; have BXc := (BX.keep hk1).cell; have BYc := (BY.keep hk1).cell)
   | (go_at_call 35; refine (rplus_any x (-y) _ _ _ (X0.keep hk1) hv1 fx fy').mono ?_; rintro e w2 ⟨v2, rfl, hv2, hk2⟩; obtain ⟨b4, ao4, n4, c4, rfl⟩ := hv2.shape'; have BX2 := BX.keep (hk1.trans' hk2); have BXc := BX2.cell; have BY2 := BY.keep (hk1.trans' hk2); have BYc := BY2.cell; have B2e := B2.keep (hk1.trans' hk2); have B2c := B2e.cell; have B2f := B2e.frozen; have B2l := B2e.lt)))
 all_goals go_wp2_with fail
 refine bodyPost_ret (v := .agg #[.bool b4, .slice ao4 n4 c4]) (by simp [results, Try.results32, go_sem, B2c]) rfl ?_
 rw [← Int.sub_eq_add_neg] at hv2
 refine retI_mk hv2 (Sf.set (t := 46) (Sf.set (Sf.refl _ _) B2e.elem (by decide)) (by simp only [elemOf_setCell]; exact B2e.elem) (by decide)) (Below.setCell (Below.setCell (kp0'.trans' (hk1.trans' hk2)) ?_ _) ?_ _)
 ·show w.heap.size ≤ w.heap.size + 1 + 1; omega
 ·show w.heap.size ≤ w.heap.size + 1 + 1; omega

set_option maxHeartbeats 1600000 in
theorem rcmp_any (x y : Int) (u v : Value) (w : World) (hx : IN w u x) (hy : IN w v y) (fx : Fit x) (fy : Fit y) : Calls Try.prog 61 #[u, v] w (RetV w (.int .i64 (x - y).sign)) := by
 obtain ⟨b1, ao1, n1, c1, rfl⟩ := hx.shape'
 obtain ⟨b2, ao2, n2, c2, rfl⟩ := hy.shape'
 go_enter Try.func61, Try.ntmps61
 go_wp2_with fail
 have kp0 : Kp w _ := (Kp.alloc' (Kp.alloc' (Below.refl w.heap.size w) (.cells #[.bool b1, .slice ao1 n1 c1] 46)) (.cells #[.bool b2, .slice ao2 n2 c2] 46))
 have sf0 : Sf 3 w _ := (Sf.alloc (Sf.alloc (Sf.refl 3 w) (.cells #[.bool b1, .slice ao1 n1 c1] 46)) (.cells #[.bool b2, .slice ao2 n2 c2] 46))
 refine (rminus_any x y _ _ _ (hx.soft sf0) (hy.soft sf0) fx fy).mono ?_
 rintro e w1 ⟨v1, rfl, hv1, hk1⟩
 obtain ⟨b3, ao3, n3, c3, rfl⟩ := hv1.shape'
 have kq0 := kp0.trans' hk1
 have sq0 := sf0.trans (Sf.keep hk1)
 go_wp2_with fail
 have kp1 : Kp w _ := kq0
 have sf1 : Sf 3 w1 _ := (Sf.refl 3 w1)
 refine (rsign_any (x - y) _ _ (hv1.soft sf1)).mono ?_
 rintro e w2 ⟨rfl, hk2⟩
 have kq1 := kp1.trans' hk2
 have sq1 := sf1.trans (Sf.keep hk2)
 generalize (x - y).sign = sg at *
 go_wp2_with fail
 go_ret
 exact ⟨rfl, kq1⟩

end Go.Proofs.Ytjahbjjekednfaa

namespace Go.Proofs.Ytjahbjjekednfaa
open Go.RowKit
attribute [local go_sem ↓] Go.wp_at_zero Go.wp_at_succ

theorem Blk.below {B : Nat} {w w' : World} {b : Nat} {cs : Array Value} {t : TypeId} (hk : Below B w w') (hb : b < B) (h : Blk w b cs t) : Blk w' b cs t := by
 unfold Blk
 rw [hk.block b hb]; exact h

set_option maxHeartbeats 6400000 in
set_option maxRecDepth 100000 in
theorem times_rb (b1 b2 : Bool) (x y : Int) (ao ao' : Option Addr) (n c n' c' : Nat) (w : World) (hx : Rb w (.slice ao n c) x) (hy : Rb w (.slice ao' n' c') y) (fx : Fit x) (fy : Fit y) :
  Calls Try.prog 33 #[.agg #[.bool b1, .slice ao n c], .agg #[.bool b2, .slice ao' n' c']] w (RetI w (signed (b1 != b2) (x * y))) := by
 obtain ⟨l, hl, cl, hlv, ll⟩ := hx.len fx
 obtain ⟨m, hm, cm, hmv, lm⟩ := hy.len fy
 have hval : val 10000 (timTo l m l.length) = x * y := by rw [tim_done, hlv, hmv]
 have hnn : 0 ≤ val 10000 (timTo l m l.length) := by rw [hval]; exact Int.mul_nonneg hx.nn hy.nn
 have hmid := timTo_mid cl.1 cm.1 ll
 have DL := Hid.mk cl.1
 have DM := Hid.mk cm.1
 obtain ⟨ao0, cap0, hsl, _, _⟩ := hl.slice
 simp only [Value.slice.injEq] at hsl
 obtain ⟨rfl, rfl, rfl⟩ := hsl
 obtain ⟨ao1, cap1, hsl, _, _⟩ := hm.slice
 simp only [Value.slice.injEq] at hsl
 obtain ⟨rfl, rfl, rfl⟩ := hsl
 have HV := Hid.mk hval
 have HN := Hid.mk hnn
 have HM := Hid.mk hmid
 clear hval hnn hmid cl cm hlv hmv hx hy fx fy
 obtain ⟨i0, hi, hz0, hz1, hz2⟩ := info_parts Try.infoInt
 have hk0 : Kp w _ := ((kp_alloc w (.cells #[.bool b1, .slice ao l.length c] 46)).alloc' (.cells #[.bool b2, .slice ao' m.length c'] 46)).alloc' (.cells #[.bool false, .slice none 0 0] 46)
 have B0 : Blk _ w.heap.size #[.bool b1, .slice ao l.length c] 46 := (Blk.alloc (Blk.alloc (Blk.new w _ _) (.cells #[.bool b2, .slice ao' m.length c'] 46)) (.cells #[.bool false, .slice none 0 0] 46))
 have B1 : Blk _ (w.heap.size + 1) #[.bool b2, .slice ao' m.length c'] 46 := (Blk.alloc (Blk.at (Blk.new (w.alloc (.cells #[.bool b1, .slice ao l.length c] 46)) _ _) (by simp)) (.cells #[.bool false, .slice none 0 0] 46))
 have B2 : Blk _ (w.heap.size + 1 + 1) #[.bool false, .slice none 0 0] 46 := (Blk.at (Blk.new ((w.alloc (.cells #[.bool b1, .slice ao l.length c] 46)).alloc (.cells #[.bool b2, .slice ao' m.length c'] 46)) _ _) (by simp))
 go_enter Try.func33, Try.ntmps33
 go_wp2_with (at_make; refine wpList_make_row _ rfl _ _ 44 rfl (((w.alloc (.cells #[.bool b1, .slice ao l.length c] 46)).alloc (.cells #[.bool b2, .slice ao' m.length c'] 46)).alloc (.cells #[.bool false, .slice none 0 0] 46)) 3 i0 8 Try.underlying44 hi hz0 hz1 hz2 _ _ _ _ (l.length + m.length) rfl rfl (by omega) (by omega) (by omega) (by unfold maxLen; omega) (Below.refl _ _) ?_)
 intro w1 hown1 hk1
 replace B0 := B0.keep hk1
 replace B1 := B1.keep hk1
 replace B2 := B2.keep hk1
 have hkw := hk0.trans' hk1
 have l0 := B0.lt
 have l1 := B1.lt
 have l2 := B2.lt
 have c0 := B0.cell
 have c1 := B1.cell
 have hg1 : w.heap.size + 1 + 1 + 1 < w1.heap.size := (hown1.lt _ rfl).2
 clear hk0 hk1
 go_wp2_with fail
 go_loopw [6, 7] (fun i _ wr => ∃ k : Nat, k ≤ l.length ∧ i = .int .i64 k ∧ wr.ownsRow (w.heap.size + 1 + 1 + 1) 3 1 (.slice (some ⟨w.heap.size + 1 + 1 + 1, 0, none⟩) (l.length + m.length) (l.length + m.length)) (l.length + m.length) (vals (timTo l m k)) ∧ Below (w.heap.size + 1 + 1 + 1) w1 wr)
  (fun i _ _ => l.length - (intOf i).toNat)
 case atStart => exact ⟨0, by omega, rfl, hown1, Below.refl _ _⟩
 case round =>
  obtain ⟨k, hk, rfl, hown, hkr⟩ := hrel
  clear hown1 c0 c1
  have B0' := Blk.below hkr (by omega) B0
  have B1' := Blk.below hkr (by omega) B1
  have B2' := Blk.below hkr (by omega) B2
  have c0 := B0'.cell
  have c1 := B1'.cell
  have l0' := B0'.lt
  have l1' := B1'.lt
  by_cases h1 : k < l.length
  ·have LOW := Hid.mk (timTo_bd DL.out DM.out k)
   have dl := DL.out k
   go_wp2_with fail
   go_loopw [7] (fun j wq => ∃ i : Nat, i ≤ m.length ∧ j = .int .i64 i ∧ wq.ownsRow (w.heap.size + 1 + 1 + 1) 3 1 (.slice (some ⟨w.heap.size + 1 + 1 + 1, 0, none⟩) (l.length + m.length) (l.length + m.length)) (l.length + m.length) (vals (timIn l m (timTo l m k) k i)) ∧ Below (w.heap.size + 1 + 1 + 1) w1 wq)
    (fun j _ => m.length - (intOf j).toNat)
   case atStart => exact ⟨0, by omega, rfl, hown, hkr⟩
   case round =>
    obtain ⟨i, hi', rfl, hownq, hkq⟩ := hrel
    clear hown hkr c0 c1 B0' B1' B2' l0' l1'
    have B0' := Blk.below hkq (by omega) B0
    have B1' := Blk.below hkq (by omega) B1
    have c0 := B0'.cell
    have c1 := B1'.cell
    have l0' := B0'.lt
    have l1' := B1'.lt
    by_cases h2 : i < m.length
    ·have dm := DM.out i
     have hmu := dig_mul dl dm
     have hm1 := hmu.1
     have hm2 : at0 l k * at0 m i ≤ 99980001 := hmu.2
     have hlo := (timIn_bd DL.out DM.out LOW.out i (k + i)).1
     have hkb : (k : Int) ≤ 400000000 := by omega
     have hw1 : IntKind.i64.wrap (at0 l k * at0 m i) = at0 l k * at0 m i := IntWalk.i64_in _ (by omega)
     have hw2 : IntKind.i64.wrap (at0 (timIn l m (timTo l m k) k i) (k + i) + at0 l k * at0 m i) = at0 (timIn l m (timTo l m k) k i) (k + i) + at0 l k * at0 m i := IntWalk.i64_in _ (by omega)
     have hw3 : IntKind.i64.wrap ((k : Int) + (i : Int)) = (k : Int) + (i : Int) := IntWalk.i64_in _ (by omega)
     have hco := owns_cell hownq (i := k + i) (by omega)
     have hfz : wr.frozen? ⟨w.heap.size + 1 + 1 + 1, k + i, none⟩ = false := hownq.frozenAt (k + i)
     have htn : ((k : Int) + (i : Int)).toNat = k + i := by omega
     have HS := Hid.mk (timIn_succ l m (timTo l m k) k i)
     have hkE := hkw.trans (hkq.mono (show w.heap.size ≤ w.heap.size + 1 + 1 + 1 by omega))
     have hl2 : RowR wr.drew (.slice ao l.length c) l := hl.keep (Kp.drew' hkE)
     have hm2' : RowR wr.drew (.slice ao' m.length c') m := hm.keep (Kp.drew' hkE)
     have hb0 : (0 : Int) ≤ (k : Int) + (i : Int) := by omega
     have hb1 : (k : Int) + (i : Int) < (l.length : Int) + (m.length : Int) := by omega
     have HST := Hid.mk (hownq.drew.stored (k + i) (.int .i64 (at0 (timIn l m (timTo l m k) k i) (k + i) + at0 l k * at0 m i)))
     clear LOW hlo
     go_wp2_with fail
     go_region_with
      (first
       | (go_at_call_of 62 (Value.slice ao l.length c); refine (at_any l _ k _ (by omega) hl2).mono ?_; rintro e w' ⟨rfl, rfl⟩)
       | (go_at_call_of 62 (Value.slice ao' m.length c'); refine (at_any m _ i _ (by omega) hm2').mono ?_; rintro e w' ⟨rfl, rfl⟩))
     all_goals
      go_wp2_with fail
      go_roundw
      case rel => exact ⟨i + 1, by omega, by go_num, by rw [HS.out, ← vals_set]; exact HST.out.1, Below.setCell hkq.drew (Nat.le_refl _) _⟩
      case measure => simp [intOf]; omega
    ·have hie : i = m.length := by omega
     subst hie
     have HS := Hid.mk (timTo_succ l m k)
     go_wp2_with fail
     go_roundw
     case rel => exact ⟨k + 1, by omega, by go_num, by rw [HS.out]; exact hownq, hkq⟩
     case measure => simp [intOf]; omega
  ·have hke : k = l.length := by omega
   subst hke
   have hrow := Row.of_owns hown
   have hkE := hkw.trans (hkr.mono (show w.heap.size ≤ w.heap.size + 1 + 1 + 1 by omega))
   go_wp2_with fail
   refine (made_any (b1 != b2) (timTo l m l.length) _ _ hrow HM.out HN.out (by rw [timTo_length]; omega)).mono ?_
   rintro e w3 ⟨v3, rfl, hv3, hk3⟩
   obtain ⟨b5, ao5, n5, c5, rfl⟩ := hv3.shape'
   rw [HV.out] at hv3
   have B2e := B2'.keep hk3
   have c2e := B2e.cell
   have f2e := B2e.frozen
   have l2e := B2e.lt
   have hkF := Kp.trans' hkE hk3
   go_wp2_with fail
   refine bodyPost_ret (v := .agg #[.bool b5, .slice ao5 n5 c5]) (by simp [results, Try.results33, go_sem, c2e]) rfl ?_
   refine retI_mk hv3 (Sf.set (t := 46) (Sf.set (Sf.refl _ _) B2e.elem (by decide)) (by simp only [elemOf_setCell]; exact B2e.elem) (by decide)) (Below.setCell (Below.setCell hkF ?_ _) ?_ _)
   ·show w.heap.size ≤ w.heap.size + 1 + 1; omega
   ·show w.heap.size ≤ w.heap.size + 1 + 1; omega

theorem rtimes_any (x y : Int) (u v : Value) (w : World) (hx : IN w u x) (hy : IN w v y) (fx : Fit x) (fy : Fit y) : Calls Try.prog 33 #[u, v] w (RetI w (x * y)) := by
 obtain ⟨ao, n, c, rfl, hs⟩ := hx
 obtain ⟨ao', n', c', rfl, hs'⟩ := hy
 have h := times_rb (decide (x < 0)) (decide (y < 0)) (x.natAbs : Int) (y.natAbs : Int) ao ao' n c n' c' w hs hs' (fit_abs fx) (fit_abs fy)
 have e : signed (decide (x < 0) != decide (y < 0)) ((x.natAbs : Int) * (y.natAbs : Int)) = x * y := by
  have h1 : (x.natAbs : Int) * y.natAbs = ((x * y).natAbs : Int) := by rw [Int.natAbs_mul]; simp
  rw [h1]
  by_cases hx : x < 0
  ·by_cases hy : y < 0
   ·have := mul_nonneg_of (x := x) (y := y) (Or.inl ⟨hx, hy⟩)
    simp [hx, hy, signed]; omega
   ·have := mul_neg_iff (x := x) (y := y) (Or.inl ⟨hx, by omega⟩)
    rw [h1] at this
    simp [hx, hy, signed]; omega
  ·by_cases hy : y < 0
   ·have := mul_neg_iff (x := x) (y := y) (Or.inr ⟨by omega, hy⟩)
    rw [h1] at this
    simp [hx, hy, signed]; omega
   ·have := mul_nonneg_of (x := x) (y := y) (Or.inr ⟨by omega, by omega⟩)
    simp [hx, hy, signed]; omega
 rwa [e] at h

end Go.Proofs.Ytjahbjjekednfaa
