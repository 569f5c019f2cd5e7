import Derived.Test.YtjahbjjekednfaaR3
import Derived.Deep.RegionLaw
namespace Go.Proofs.Ytjahbjjekednfaa
open Go.RowKit

theorem Rb.len {w : World} {v : Value} {x : Int} (h : Rb w v x) (hf : Fit x) : ∃ m, RowR w v m ∧ Canon 10000 m ∧ val 10000 m = x ∧ m.length ≤ 400000000 := by
  obtain ⟨m, h1, h2, h3⟩ := h
  exact ⟨m, h1, h2, h3, h2.len_fit (by decide) (by rw [h3]; exact hf)⟩
theorem RowR.keep {w W : World} {v : Value} {m : List Int} (hk : Kp w W) (h : RowR w v m) : RowR W v m := Row.keep hk h
theorem way_one (a b : Int) : a + 1 * b = a + b := by omega
theorem way_neg (a b : Int) : a + (-1) * b = a + -b := by omega

set_option maxHeartbeats 3200000 in
set_option maxRecDepth 100000 in
theorem plus_tt (x y : Int) (ao ao' : Option Addr) (n c n' c' : Nat) (w : World) (hx : Rb w (.slice ao n c) x) (hy : Rb w (.slice ao' n' c') y) (fx : Fit x) (hle : y ≤ x) :
    Calls Try.prog 35 #[.agg #[.bool true, .slice ao n c], .agg #[.bool true, .slice ao' n' c']] w (RetI w (signed true (x + 1 * y))) := by
  have hcm : ¬ cmp3 x y < 0 := by unfold cmp3; split <;> (try split) <;> omega
  obtain ⟨l, hl, cl, hlv, ll⟩ := hx.len fx
  obtain ⟨m, hm, cm, hmv⟩ := id hy
  have hlm : m.length ≤ l.length := by
    rcases Nat.lt_or_ge l.length m.length with h | h
    · have := cl.lt_of_len (by decide) cm h; omega
    · exact h
  have hval : val 10000 (sumTo 1 l m l.length) = x + 1 * y := by rw [sumTo_val, List.take_length, List.take_of_length_le hlm, hlv, hmv]
  have hy0 := hy.nn
  have hnn : 0 ≤ val 10000 (sumTo 1 l m l.length) := by rw [hval]; omega
  have hmid := sumTo_mid (way := 1) (by decide) cl.1 cm.1 l.length
  have DL := Hid.mk cl.1
  have DM := Hid.mk cm.1
  obtain ⟨ao0, cap0, hsl, _, _⟩ := hl.slice
  simp only [Value.slice.injEq] at hsl
  obtain ⟨rfl, rfl, rfl⟩ := hsl
  have HV := Hid.mk hval
  have HN := Hid.mk hnn
  have HM := Hid.mk hmid
  clear hval hnn hmid cl cm hlv hmv
  obtain ⟨i0, hi, hz0, hz1, hz2⟩ := info_parts Try.infoInt
  go_enter Try.func35, Try.ntmps35
  go_wp2_with fail
  have hk0 : Kp w _ := ((kp_alloc w (.cells #[.bool true, .slice ao l.length c] 46)).alloc' (.cells #[.bool true, .slice ao' n' c'] 46)).alloc' (.cells #[.bool false, .slice none 0 0] 46)
  refine (order_any x y _ _ _ (hx.keep hk0) (hy.keep hk0)).mono ?_
  rintro e w1 ⟨rfl, hk1⟩
  generalize cmp3 x y = cv at *
  have hk1' := hk0.trans' hk1
  have B0 : Blk w1 w.heap.size #[.bool true, .slice ao l.length c] 46 := (Blk.alloc (Blk.alloc (Blk.new _ _ _) _) _).keep hk1
  have B1 : Blk w1 (w.heap.size + 1) #[.bool true, .slice ao' n' c'] 46 := (Blk.alloc (Blk.at (Blk.new _ _ _) (by simp)) _).keep hk1
  have B2 : Blk w1 (w.heap.size + 1 + 1) #[.bool false, .slice none 0 0] 46 := (Blk.at (Blk.new _ _ _) (by simp)).keep hk1
  have c0 := B0.cell
  have c1 := B1.cell
  have l0 := B0.lt
  have l1 := B1.lt
  have l2 := B2.lt
  have hl1 := hl.keep hk1'
  have hm1 := hm.keep hk1'
  clear hx hy hl hm hk0 hk1
  go_wp2_with fail
  go_loopw [7, 8] (fun s k wr => ∃ j : Nat, j ≤ l.length ∧ k = .int .i64 j ∧ wr.ownsRow w1.heap.size 3 1 s j (vals (sumTo 1 l m j)) ∧ Kp w1 wr) (fun _ k _ => l.length - (intOf k).toNat)
  case atStart => exact ⟨0, by omega, rfl, World.ownsRow_nil _ _ _ _, Below.refl _ _⟩
  case round =>
    obtain ⟨j, hj, rfl, hown, hkr⟩ := hrel
    have B0' := B0.keep hkr
    have B1' := B1.keep hkr
    have B2' := B2.keep hkr
    have c0' := B0'.cell
    have c1' := B1'.cell
    have l0' := B0'.lt
    clear c0 c1
    by_cases h1 : j < l.length
    · have d1 := DL.out j
      have d2 := DM.out j
      have HS := Hid.mk (sumTo_succ 1 l m j)
      rw [way_one] at HS
      have hl2 : RowR wr.drew (.slice ao l.length c) l := hl1.keep hkr.drew'
      have hm2 : RowR wr.drew (.slice ao' n' c') m := hm1.keep hkr.drew'
      have hw1 : IntKind.i64.wrap (at0 m j) = at0 m j := IntWalk.i64_in _ (by omega)
      have hw2 : IntKind.i64.wrap (at0 l j + at0 m j) = at0 l j + at0 m j := IntWalk.i64_in _ (by omega)
      go_wp2_with fail
      have hob0 : (u7 : Value).ownBlock ≠ some w.heap.size := fun h => by have := (hown.lt _ h).1; omega
      have hob1 : (u7 : Value).ownBlock ≠ some (w.heap.size + 1) := fun h => by have := (hown.lt _ h).1; omega
      have hbs : w1.heap.size ≤ wr.heap.size := hkr.size
      go_region_held3 (fun w' => w'.cell? ⟨w.heap.size, 1, none⟩ = some (.slice ao l.length c) ∧ w'.cell? ⟨w.heap.size + 1, 1, none⟩ = some (.slice ao' n' c'))
        (first | go_keep | (simp [B0c, B1c]))
        ((first
          | (go_at_call_of 62 (Value.slice ao l.length c); refine (at_any l _ j _ (by omega) hl2).mono ?_; rintro e w' ⟨rfl, rfl⟩)
          | (go_at_call_of 62 (Value.slice ao' n' c'); refine (at_any m _ j _ (by omega) hm2).mono ?_; rintro e w' ⟨rfl, rfl⟩)
          | (refine step_append_lies _ (by rfl) _ _ _ (by rfl) w1.heap.size 3 i0 _ 1 8 Try.underlying44 hi hz0 hz1 hz2 rfl (by omega) u7 j (vals (sumTo 1 l m j)) (by rfl) ((hown.alloc _).drew) ⟨wr.heap.size, 0, none⟩ 1 1 (vals [at0 l j + at0 m j]) (by rfl) (by rfl) (World.news_of_block (cs := #[.int .i64 (at0 l j + at0 m j)]) (t := 3) (fr := (0, 0)) (heap_alloc_new wr _)) (vals_oneCell _) (by omega) (by unfold maxLen; omega) (by omega) (by simp; omega) (wr.heap.size + 1) (by simp) ?_; intro gg cap' w2 hown2 hgrow hat hlt1; have B0b := Blk.grown hgrow (Ne.symm hob0) ((B0'.alloc _).drew); have B0c := B0b.cell; have B1b := Blk.grown hgrow (Ne.symm hob1) ((B1'.alloc _).drew); have B1c := B1b.cell)))
      all_goals
        have hk2 : Kp w1 w2 := (Kp.drew' (hkr.alloc' _)).grown' hgrow (fun k hk => (hown.lt k hk).1)
        go_wp2_with fail
        go_roundw
        case rel => exact ⟨j + 1, by omega, by go_num, by rw [HS.out, vals_append]; exact hown2, hk2⟩
        case measure => simp [intOf]; omega
    · have hje : j = l.length := by omega
      subst hje
      have hrow := Row.of_owns hown
      go_wp2_with fail
      refine (made_any true (sumTo 1 l m l.length) _ _ hrow HM.out HN.out (by rw [sumTo_length]; omega)).mono ?_
      rintro e w3 ⟨v3, rfl, hv3, hk3⟩
      obtain ⟨b5, ao5, n5, c5, rfl⟩ := hv3.shape'
      rw [HV.out] at hv3
      have B2e := B2'.keep hk3
      have c2e := B2e.cell
      have f2e := B2e.frozen
      have l2e := B2e.lt
      have hkE := (hk1'.trans' hkr).trans' hk3
      go_wp2_with fail
      refine bodyPost_ret (v := .agg #[.bool b5, .slice ao5 n5 c5]) (by simp [results, Try.results35, go_sem, c2e]) rfl ?_
      refine retI_mk hv3 (Sf.set (t := 46) (Sf.set (Sf.refl _ _) B2e.elem (by decide)) (by simp only [elemOf_setCell]; exact B2e.elem) (by decide)) (Below.setCell (Below.setCell hkE ?_ _) ?_ _)
      · show w.heap.size ≤ w.heap.size + 1 + 1; omega
      · show w.heap.size ≤ w.heap.size + 1 + 1; omega

set_option maxHeartbeats 3200000 in
set_option maxRecDepth 100000 in
theorem plus_tf (x y : Int) (ao ao' : Option Addr) (n c n' c' : Nat) (w : World) (hx : Rb w (.slice ao n c) x) (hy : Rb w (.slice ao' n' c') y) (fx : Fit x) (hle : y ≤ x) :
    Calls Try.prog 35 #[.agg #[.bool true, .slice ao n c], .agg #[.bool false, .slice ao' n' c']] w (RetI w (signed true (x + (-1) * y))) := by
  have hcm : ¬ cmp3 x y < 0 := by unfold cmp3; split <;> (try split) <;> omega
  obtain ⟨l, hl, cl, hlv, ll⟩ := hx.len fx
  obtain ⟨m, hm, cm, hmv⟩ := id hy
  have hlm : m.length ≤ l.length := by
    rcases Nat.lt_or_ge l.length m.length with h | h
    · have := cl.lt_of_len (by decide) cm h; omega
    · exact h
  have hval : val 10000 (sumTo (-1) l m l.length) = x + (-1) * y := by rw [sumTo_val, List.take_length, List.take_of_length_le hlm, hlv, hmv]
  have hy0 := hy.nn
  have hnn : 0 ≤ val 10000 (sumTo (-1) l m l.length) := by rw [hval]; omega
  have hmid := sumTo_mid (way := (-1)) (by decide) cl.1 cm.1 l.length
  have DL := Hid.mk cl.1
  have DM := Hid.mk cm.1
  obtain ⟨ao0, cap0, hsl, _, _⟩ := hl.slice
  simp only [Value.slice.injEq] at hsl
  obtain ⟨rfl, rfl, rfl⟩ := hsl
  have HV := Hid.mk hval
  have HN := Hid.mk hnn
  have HM := Hid.mk hmid
  clear hval hnn hmid cl cm hlv hmv
  obtain ⟨i0, hi, hz0, hz1, hz2⟩ := info_parts Try.infoInt
  go_enter Try.func35, Try.ntmps35
  go_wp2_with fail
  have hk0 : Kp w _ := ((kp_alloc w (.cells #[.bool true, .slice ao l.length c] 46)).alloc' (.cells #[.bool false, .slice ao' n' c'] 46)).alloc' (.cells #[.bool false, .slice none 0 0] 46)
  refine (order_any x y _ _ _ (hx.keep hk0) (hy.keep hk0)).mono ?_
  rintro e w1 ⟨rfl, hk1⟩
  generalize cmp3 x y = cv at *
  have hk1' := hk0.trans' hk1
  have B0 : Blk w1 w.heap.size #[.bool true, .slice ao l.length c] 46 := (Blk.alloc (Blk.alloc (Blk.new _ _ _) _) _).keep hk1
  have B1 : Blk w1 (w.heap.size + 1) #[.bool false, .slice ao' n' c'] 46 := (Blk.alloc (Blk.at (Blk.new _ _ _) (by simp)) _).keep hk1
  have B2 : Blk w1 (w.heap.size + 1 + 1) #[.bool false, .slice none 0 0] 46 := (Blk.at (Blk.new _ _ _) (by simp)).keep hk1
  have c0 := B0.cell
  have c1 := B1.cell
  have l0 := B0.lt
  have l1 := B1.lt
  have l2 := B2.lt
  have hl1 := hl.keep hk1'
  have hm1 := hm.keep hk1'
  clear hx hy hl hm hk0 hk1
  go_wp2_with fail
  go_loopw [7, 8] (fun s k wr => ∃ j : Nat, j ≤ l.length ∧ k = .int .i64 j ∧ wr.ownsRow w1.heap.size 3 1 s j (vals (sumTo (-1) l m j)) ∧ Kp w1 wr) (fun _ k _ => l.length - (intOf k).toNat)
  case atStart => exact ⟨0, by omega, rfl, World.ownsRow_nil _ _ _ _, Below.refl _ _⟩
  case round =>
    obtain ⟨j, hj, rfl, hown, hkr⟩ := hrel
    have B0' := B0.keep hkr
    have B1' := B1.keep hkr
    have B2' := B2.keep hkr
    have c0' := B0'.cell
    have c1' := B1'.cell
    have l0' := B0'.lt
    clear c0 c1
    by_cases h1 : j < l.length
    · have d1 := DL.out j
      have d2 := DM.out j
      have HS := Hid.mk (sumTo_succ (-1) l m j)
      rw [way_neg] at HS
      have hl2 : RowR wr.drew (.slice ao l.length c) l := hl1.keep hkr.drew'
      have hm2 : RowR wr.drew (.slice ao' n' c') m := hm1.keep hkr.drew'
      have hw1 : IntKind.i64.wrap (-at0 m j) = -at0 m j := IntWalk.i64_in _ (by omega)
      have hw2 : IntKind.i64.wrap (at0 l j + -at0 m j) = at0 l j + -at0 m j := IntWalk.i64_in _ (by omega)
      go_wp2_with fail
      have hob0 : (u7 : Value).ownBlock ≠ some w.heap.size := fun h => by have := (hown.lt _ h).1; omega
      have hob1 : (u7 : Value).ownBlock ≠ some (w.heap.size + 1) := fun h => by have := (hown.lt _ h).1; omega
      have hbs : w1.heap.size ≤ wr.heap.size := hkr.size
      go_region_held3 (fun w' => w'.cell? ⟨w.heap.size, 1, none⟩ = some (.slice ao l.length c) ∧ w'.cell? ⟨w.heap.size + 1, 1, none⟩ = some (.slice ao' n' c'))
        (first | go_keep | (simp [B0c, B1c]))
        ((first
          | (go_at_call_of 62 (Value.slice ao l.length c); refine (at_any l _ j _ (by omega) hl2).mono ?_; rintro e w' ⟨rfl, rfl⟩)
          | (go_at_call_of 62 (Value.slice ao' n' c'); refine (at_any m _ j _ (by omega) hm2).mono ?_; rintro e w' ⟨rfl, rfl⟩)
          | (refine step_append_lies _ (by rfl) _ _ _ (by rfl) w1.heap.size 3 i0 _ 1 8 Try.underlying44 hi hz0 hz1 hz2 rfl (by omega) u7 j (vals (sumTo (-1) l m j)) (by rfl) ((hown.alloc _).drew) ⟨wr.heap.size, 0, none⟩ 1 1 (vals [at0 l j + -at0 m j]) (by rfl) (by rfl) (World.news_of_block (cs := #[.int .i64 (at0 l j + -at0 m j)]) (t := 3) (fr := (0, 0)) (heap_alloc_new wr _)) (vals_oneCell _) (by omega) (by unfold maxLen; omega) (by omega) (by simp; omega) (wr.heap.size + 1) (by simp) ?_; intro gg cap' w2 hown2 hgrow hat hlt1; have B0b := Blk.grown hgrow (Ne.symm hob0) ((B0'.alloc _).drew); have B0c := B0b.cell; have B1b := Blk.grown hgrow (Ne.symm hob1) ((B1'.alloc _).drew); have B1c := B1b.cell)))
      all_goals
        have hk2 : Kp w1 w2 := (Kp.drew' (hkr.alloc' _)).grown' hgrow (fun k hk => (hown.lt k hk).1)
        go_wp2_with fail
        go_roundw
        case rel => exact ⟨j + 1, by omega, by go_num, by rw [HS.out, vals_append]; exact hown2, hk2⟩
        case measure => simp [intOf]; omega
    · have hje : j = l.length := by omega
      subst hje
      have hrow := Row.of_owns hown
      go_wp2_with fail
      refine (made_any true (sumTo (-1) l m l.length) _ _ hrow HM.out HN.out (by rw [sumTo_length]; omega)).mono ?_
      rintro e w3 ⟨v3, rfl, hv3, hk3⟩
      obtain ⟨b5, ao5, n5, c5, rfl⟩ := hv3.shape'
      rw [HV.out] at hv3
      have B2e := B2'.keep hk3
      have c2e := B2e.cell
      have f2e := B2e.frozen
      have l2e := B2e.lt
      have hkE := (hk1'.trans' hkr).trans' hk3
      go_wp2_with fail
      refine bodyPost_ret (v := .agg #[.bool b5, .slice ao5 n5 c5]) (by simp [results, Try.results35, go_sem, c2e]) rfl ?_
      refine retI_mk hv3 (Sf.set (t := 46) (Sf.set (Sf.refl _ _) B2e.elem (by decide)) (by simp only [elemOf_setCell]; exact B2e.elem) (by decide)) (Below.setCell (Below.setCell hkE ?_ _) ?_ _)
      · show w.heap.size ≤ w.heap.size + 1 + 1; omega
      · show w.heap.size ≤ w.heap.size + 1 + 1; omega

set_option maxHeartbeats 3200000 in
set_option maxRecDepth 100000 in
theorem plus_ft (x y : Int) (ao ao' : Option Addr) (n c n' c' : Nat) (w : World) (hx : Rb w (.slice ao n c) x) (hy : Rb w (.slice ao' n' c') y) (fx : Fit x) (hle : y ≤ x) :
    Calls Try.prog 35 #[.agg #[.bool false, .slice ao n c], .agg #[.bool true, .slice ao' n' c']] w (RetI w (signed false (x + (-1) * y))) := by
  have hcm : ¬ cmp3 x y < 0 := by unfold cmp3; split <;> (try split) <;> omega
  obtain ⟨l, hl, cl, hlv, ll⟩ := hx.len fx
  obtain ⟨m, hm, cm, hmv⟩ := id hy
  have hlm : m.length ≤ l.length := by
    rcases Nat.lt_or_ge l.length m.length with h | h
    · have := cl.lt_of_len (by decide) cm h; omega
    · exact h
  have hval : val 10000 (sumTo (-1) l m l.length) = x + (-1) * y := by rw [sumTo_val, List.take_length, List.take_of_length_le hlm, hlv, hmv]
  have hy0 := hy.nn
  have hnn : 0 ≤ val 10000 (sumTo (-1) l m l.length) := by rw [hval]; omega
  have hmid := sumTo_mid (way := (-1)) (by decide) cl.1 cm.1 l.length
  have DL := Hid.mk cl.1
  have DM := Hid.mk cm.1
  obtain ⟨ao0, cap0, hsl, _, _⟩ := hl.slice
  simp only [Value.slice.injEq] at hsl
  obtain ⟨rfl, rfl, rfl⟩ := hsl
  have HV := Hid.mk hval
  have HN := Hid.mk hnn
  have HM := Hid.mk hmid
  clear hval hnn hmid cl cm hlv hmv
  obtain ⟨i0, hi, hz0, hz1, hz2⟩ := info_parts Try.infoInt
  go_enter Try.func35, Try.ntmps35
  go_wp2_with fail
  have hk0 : Kp w _ := ((kp_alloc w (.cells #[.bool false, .slice ao l.length c] 46)).alloc' (.cells #[.bool true, .slice ao' n' c'] 46)).alloc' (.cells #[.bool false, .slice none 0 0] 46)
  refine (order_any x y _ _ _ (hx.keep hk0) (hy.keep hk0)).mono ?_
  rintro e w1 ⟨rfl, hk1⟩
  generalize cmp3 x y = cv at *
  have hk1' := hk0.trans' hk1
  have B0 : Blk w1 w.heap.size #[.bool false, .slice ao l.length c] 46 := (Blk.alloc (Blk.alloc (Blk.new _ _ _) _) _).keep hk1
  have B1 : Blk w1 (w.heap.size + 1) #[.bool true, .slice ao' n' c'] 46 := (Blk.alloc (Blk.at (Blk.new _ _ _) (by simp)) _).keep hk1
  have B2 : Blk w1 (w.heap.size + 1 + 1) #[.bool false, .slice none 0 0] 46 := (Blk.at (Blk.new _ _ _) (by simp)).keep hk1
  have c0 := B0.cell
  have c1 := B1.cell
  have l0 := B0.lt
  have l1 := B1.lt
  have l2 := B2.lt
  have hl1 := hl.keep hk1'
  have hm1 := hm.keep hk1'
  clear hx hy hl hm hk0 hk1
  go_wp2_with fail
  go_loopw [7, 8] (fun s k wr => ∃ j : Nat, j ≤ l.length ∧ k = .int .i64 j ∧ wr.ownsRow w1.heap.size 3 1 s j (vals (sumTo (-1) l m j)) ∧ Kp w1 wr) (fun _ k _ => l.length - (intOf k).toNat)
  case atStart => exact ⟨0, by omega, rfl, World.ownsRow_nil _ _ _ _, Below.refl _ _⟩
  case round =>
    obtain ⟨j, hj, rfl, hown, hkr⟩ := hrel
    have B0' := B0.keep hkr
    have B1' := B1.keep hkr
    have B2' := B2.keep hkr
    have c0' := B0'.cell
    have c1' := B1'.cell
    have l0' := B0'.lt
    clear c0 c1
    by_cases h1 : j < l.length
    · have d1 := DL.out j
      have d2 := DM.out j
      have HS := Hid.mk (sumTo_succ (-1) l m j)
      rw [way_neg] at HS
      have hl2 : RowR wr.drew (.slice ao l.length c) l := hl1.keep hkr.drew'
      have hm2 : RowR wr.drew (.slice ao' n' c') m := hm1.keep hkr.drew'
      have hw1 : IntKind.i64.wrap (-at0 m j) = -at0 m j := IntWalk.i64_in _ (by omega)
      have hw2 : IntKind.i64.wrap (at0 l j + -at0 m j) = at0 l j + -at0 m j := IntWalk.i64_in _ (by omega)
      go_wp2_with fail
      have hob0 : (u7 : Value).ownBlock ≠ some w.heap.size := fun h => by have := (hown.lt _ h).1; omega
      have hob1 : (u7 : Value).ownBlock ≠ some (w.heap.size + 1) := fun h => by have := (hown.lt _ h).1; omega
      have hbs : w1.heap.size ≤ wr.heap.size := hkr.size
      go_region_held3 (fun w' => w'.cell? ⟨w.heap.size, 1, none⟩ = some (.slice ao l.length c) ∧ w'.cell? ⟨w.heap.size + 1, 1, none⟩ = some (.slice ao' n' c'))
        (first | go_keep | (simp [B0c, B1c]))
        ((first
          | (go_at_call_of 62 (Value.slice ao l.length c); refine (at_any l _ j _ (by omega) hl2).mono ?_; rintro e w' ⟨rfl, rfl⟩)
          | (go_at_call_of 62 (Value.slice ao' n' c'); refine (at_any m _ j _ (by omega) hm2).mono ?_; rintro e w' ⟨rfl, rfl⟩)
          | (refine step_append_lies _ (by rfl) _ _ _ (by rfl) w1.heap.size 3 i0 _ 1 8 Try.underlying44 hi hz0 hz1 hz2 rfl (by omega) u7 j (vals (sumTo (-1) l m j)) (by rfl) ((hown.alloc _).drew) ⟨wr.heap.size, 0, none⟩ 1 1 (vals [at0 l j + -at0 m j]) (by rfl) (by rfl) (World.news_of_block (cs := #[.int .i64 (at0 l j + -at0 m j)]) (t := 3) (fr := (0, 0)) (heap_alloc_new wr _)) (vals_oneCell _) (by omega) (by unfold maxLen; omega) (by omega) (by simp; omega) (wr.heap.size + 1) (by simp) ?_; intro gg cap' w2 hown2 hgrow hat hlt1; have B0b := Blk.grown hgrow (Ne.symm hob0) ((B0'.alloc _).drew); have B0c := B0b.cell; have B1b := Blk.grown hgrow (Ne.symm hob1) ((B1'.alloc _).drew); have B1c := B1b.cell)))
      all_goals
        have hk2 : Kp w1 w2 := (Kp.drew' (hkr.alloc' _)).grown' hgrow (fun k hk => (hown.lt k hk).1)
        go_wp2_with fail
        go_roundw
        case rel => exact ⟨j + 1, by omega, by go_num, by rw [HS.out, vals_append]; exact hown2, hk2⟩
        case measure => simp [intOf]; omega
    · have hje : j = l.length := by omega
      subst hje
      have hrow := Row.of_owns hown
      go_wp2_with fail
      refine (made_any false (sumTo (-1) l m l.length) _ _ hrow HM.out HN.out (by rw [sumTo_length]; omega)).mono ?_
      rintro e w3 ⟨v3, rfl, hv3, hk3⟩
      obtain ⟨b5, ao5, n5, c5, rfl⟩ := hv3.shape'
      rw [HV.out] at hv3
      have B2e := B2'.keep hk3
      have c2e := B2e.cell
      have f2e := B2e.frozen
      have l2e := B2e.lt
      have hkE := (hk1'.trans' hkr).trans' hk3
      go_wp2_with fail
      refine bodyPost_ret (v := .agg #[.bool b5, .slice ao5 n5 c5]) (by simp [results, Try.results35, go_sem, c2e]) rfl ?_
      refine retI_mk hv3 (Sf.set (t := 46) (Sf.set (Sf.refl _ _) B2e.elem (by decide)) (by simp only [elemOf_setCell]; exact B2e.elem) (by decide)) (Below.setCell (Below.setCell hkE ?_ _) ?_ _)
      · show w.heap.size ≤ w.heap.size + 1 + 1; omega
      · show w.heap.size ≤ w.heap.size + 1 + 1; omega

set_option maxHeartbeats 3200000 in
set_option maxRecDepth 100000 in
theorem plus_ff (x y : Int) (ao ao' : Option Addr) (n c n' c' : Nat) (w : World) (hx : Rb w (.slice ao n c) x) (hy : Rb w (.slice ao' n' c') y) (fx : Fit x) (hle : y ≤ x) :
    Calls Try.prog 35 #[.agg #[.bool false, .slice ao n c], .agg #[.bool false, .slice ao' n' c']] w (RetI w (signed false (x + 1 * y))) := by
  have hcm : ¬ cmp3 x y < 0 := by unfold cmp3; split <;> (try split) <;> omega
  obtain ⟨l, hl, cl, hlv, ll⟩ := hx.len fx
  obtain ⟨m, hm, cm, hmv⟩ := id hy
  have hlm : m.length ≤ l.length := by
    rcases Nat.lt_or_ge l.length m.length with h | h
    · have := cl.lt_of_len (by decide) cm h; omega
    · exact h
  have hval : val 10000 (sumTo 1 l m l.length) = x + 1 * y := by rw [sumTo_val, List.take_length, List.take_of_length_le hlm, hlv, hmv]
  have hy0 := hy.nn
  have hnn : 0 ≤ val 10000 (sumTo 1 l m l.length) := by rw [hval]; omega
  have hmid := sumTo_mid (way := 1) (by decide) cl.1 cm.1 l.length
  have DL := Hid.mk cl.1
  have DM := Hid.mk cm.1
  obtain ⟨ao0, cap0, hsl, _, _⟩ := hl.slice
  simp only [Value.slice.injEq] at hsl
  obtain ⟨rfl, rfl, rfl⟩ := hsl
  have HV := Hid.mk hval
  have HN := Hid.mk hnn
  have HM := Hid.mk hmid
  clear hval hnn hmid cl cm hlv hmv
  obtain ⟨i0, hi, hz0, hz1, hz2⟩ := info_parts Try.infoInt
  go_enter Try.func35, Try.ntmps35
  go_wp2_with fail
  have hk0 : Kp w _ := ((kp_alloc w (.cells #[.bool false, .slice ao l.length c] 46)).alloc' (.cells #[.bool false, .slice ao' n' c'] 46)).alloc' (.cells #[.bool false, .slice none 0 0] 46)
  refine (order_any x y _ _ _ (hx.keep hk0) (hy.keep hk0)).mono ?_
  rintro e w1 ⟨rfl, hk1⟩
  generalize cmp3 x y = cv at *
  have hk1' := hk0.trans' hk1
  have B0 : Blk w1 w.heap.size #[.bool false, .slice ao l.length c] 46 := (Blk.alloc (Blk.alloc (Blk.new _ _ _) _) _).keep hk1
  have B1 : Blk w1 (w.heap.size + 1) #[.bool false, .slice ao' n' c'] 46 := (Blk.alloc (Blk.at (Blk.new _ _ _) (by simp)) _).keep hk1
  have B2 : Blk w1 (w.heap.size + 1 + 1) #[.bool false, .slice none 0 0] 46 := (Blk.at (Blk.new _ _ _) (by simp)).keep hk1
  have c0 := B0.cell
  have c1 := B1.cell
  have l0 := B0.lt
  have l1 := B1.lt
  have l2 := B2.lt
  have hl1 := hl.keep hk1'
  have hm1 := hm.keep hk1'
  clear hx hy hl hm hk0 hk1
  go_wp2_with fail
  go_loopw [7, 8] (fun s k wr => ∃ j : Nat, j ≤ l.length ∧ k = .int .i64 j ∧ wr.ownsRow w1.heap.size 3 1 s j (vals (sumTo 1 l m j)) ∧ Kp w1 wr) (fun _ k _ => l.length - (intOf k).toNat)
  case atStart => exact ⟨0, by omega, rfl, World.ownsRow_nil _ _ _ _, Below.refl _ _⟩
  case round =>
    obtain ⟨j, hj, rfl, hown, hkr⟩ := hrel
    have B0' := B0.keep hkr
    have B1' := B1.keep hkr
    have B2' := B2.keep hkr
    have c0' := B0'.cell
    have c1' := B1'.cell
    have l0' := B0'.lt
    clear c0 c1
    by_cases h1 : j < l.length
    · have d1 := DL.out j
      have d2 := DM.out j
      have HS := Hid.mk (sumTo_succ 1 l m j)
      rw [way_one] at HS
      have hl2 : RowR wr.drew (.slice ao l.length c) l := hl1.keep hkr.drew'
      have hm2 : RowR wr.drew (.slice ao' n' c') m := hm1.keep hkr.drew'
      have hw1 : IntKind.i64.wrap (at0 m j) = at0 m j := IntWalk.i64_in _ (by omega)
      have hw2 : IntKind.i64.wrap (at0 l j + at0 m j) = at0 l j + at0 m j := IntWalk.i64_in _ (by omega)
      go_wp2_with fail
      have hob0 : (u7 : Value).ownBlock ≠ some w.heap.size := fun h => by have := (hown.lt _ h).1; omega
      have hob1 : (u7 : Value).ownBlock ≠ some (w.heap.size + 1) := fun h => by have := (hown.lt _ h).1; omega
      have hbs : w1.heap.size ≤ wr.heap.size := hkr.size
      go_region_held3 (fun w' => w'.cell? ⟨w.heap.size, 1, none⟩ = some (.slice ao l.length c) ∧ w'.cell? ⟨w.heap.size + 1, 1, none⟩ = some (.slice ao' n' c'))
        (first | go_keep | (simp [B0c, B1c]))
        ((first
          | (go_at_call_of 62 (Value.slice ao l.length c); refine (at_any l _ j _ (by omega) hl2).mono ?_; rintro e w' ⟨rfl, rfl⟩)
          | (go_at_call_of 62 (Value.slice ao' n' c'); refine (at_any m _ j _ (by omega) hm2).mono ?_; rintro e w' ⟨rfl, rfl⟩)
          | (refine step_append_lies _ (by rfl) _ _ _ (by rfl) w1.heap.size 3 i0 _ 1 8 Try.underlying44 hi hz0 hz1 hz2 rfl (by omega) u7 j (vals (sumTo 1 l m j)) (by rfl) ((hown.alloc _).drew) ⟨wr.heap.size, 0, none⟩ 1 1 (vals [at0 l j + at0 m j]) (by rfl) (by rfl) (World.news_of_block (cs := #[.int .i64 (at0 l j + at0 m j)]) (t := 3) (fr := (0, 0)) (heap_alloc_new wr _)) (vals_oneCell _) (by omega) (by unfold maxLen; omega) (by omega) (by simp; omega) (wr.heap.size + 1) (by simp) ?_; intro gg cap' w2 hown2 hgrow hat hlt1; have B0b := Blk.grown hgrow (Ne.symm hob0) ((B0'.alloc _).drew); have B0c := B0b.cell; have B1b := Blk.grown hgrow (Ne.symm hob1) ((B1'.alloc _).drew); have B1c := B1b.cell)))
      all_goals
        have hk2 : Kp w1 w2 := (Kp.drew' (hkr.alloc' _)).grown' hgrow (fun k hk => (hown.lt k hk).1)
        go_wp2_with fail
        go_roundw
        case rel => exact ⟨j + 1, by omega, by go_num, by rw [HS.out, vals_append]; exact hown2, hk2⟩
        case measure => simp [intOf]; omega
    · have hje : j = l.length := by omega
      subst hje
      have hrow := Row.of_owns hown
      go_wp2_with fail
      refine (made_any false (sumTo 1 l m l.length) _ _ hrow HM.out HN.out (by rw [sumTo_length]; omega)).mono ?_
      rintro e w3 ⟨v3, rfl, hv3, hk3⟩
      obtain ⟨b5, ao5, n5, c5, rfl⟩ := hv3.shape'
      rw [HV.out] at hv3
      have B2e := B2'.keep hk3
      have c2e := B2e.cell
      have f2e := B2e.frozen
      have l2e := B2e.lt
      have hkE := (hk1'.trans' hkr).trans' hk3
      go_wp2_with fail
      refine bodyPost_ret (v := .agg #[.bool b5, .slice ao5 n5 c5]) (by simp [results, Try.results35, go_sem, c2e]) rfl ?_
      refine retI_mk hv3 (Sf.set (t := 46) (Sf.set (Sf.refl _ _) B2e.elem (by decide)) (by simp only [elemOf_setCell]; exact B2e.elem) (by decide)) (Below.setCell (Below.setCell hkE ?_ _) ?_ _)
      · show w.heap.size ≤ w.heap.size + 1 + 1; omega
      · show w.heap.size ≤ w.heap.size + 1 + 1; omega

end Go.Proofs.Ytjahbjjekednfaa
