import Derived.Test.YtjahbjjekednfaaR6
import Derived.Test.YtjahbjjekednfaaMath5
import Derived.Deep.DrawnRows
namespace Go.Proofs.Ytjahbjjekednfaa
open Go.RowKit
attribute [local go_sem ↓] Go.wp_at_zero Go.wp_at_succ

theorem Blk.below {B : Nat} {w w' : World} {b : Nat} {cs : Array Value} {t : TypeId} (hk : Below B w w') (hb : b < B) (h : Blk w b cs t) : Blk w' b cs t := by
  unfold Blk
  rw [hk.block b hb]; exact h

set_option maxHeartbeats 6400000 in
set_option maxRecDepth 100000 in
theorem times_rb (b1 b2 : Bool) (x y : Int) (ao ao' : Option Addr) (n c n' c' : Nat) (w : World) (hx : Rb w (.slice ao n c) x) (hy : Rb w (.slice ao' n' c') y) (fx : Fit x) (fy : Fit y) :
    Calls Try.prog 33 #[.agg #[.bool b1, .slice ao n c], .agg #[.bool b2, .slice ao' n' c']] w (RetI w (signed (b1 != b2) (x * y))) := by
  obtain ⟨l, hl, cl, hlv, ll⟩ := hx.len fx
  obtain ⟨m, hm, cm, hmv, lm⟩ := hy.len fy
  have hval : val 10000 (timTo l m l.length) = x * y := by rw [tim_done, hlv, hmv]
  have hnn : 0 ≤ val 10000 (timTo l m l.length) := by rw [hval]; exact Int.mul_nonneg hx.nn hy.nn
  have hmid := timTo_mid cl.1 cm.1 ll
  have DL := Hid.mk cl.1
  have DM := Hid.mk cm.1
  obtain ⟨ao0, cap0, hsl, _, _⟩ := hl.slice
  simp only [Value.slice.injEq] at hsl
  obtain ⟨rfl, rfl, rfl⟩ := hsl
  obtain ⟨ao1, cap1, hsl, _, _⟩ := hm.slice
  simp only [Value.slice.injEq] at hsl
  obtain ⟨rfl, rfl, rfl⟩ := hsl
  have HV := Hid.mk hval
  have HN := Hid.mk hnn
  have HM := Hid.mk hmid
  clear hval hnn hmid cl cm hlv hmv hx hy fx fy
  obtain ⟨i0, hi, hz0, hz1, hz2⟩ := info_parts Try.infoInt
  have hk0 : Kp w _ := ((kp_alloc w (.cells #[.bool b1, .slice ao l.length c] 46)).alloc' (.cells #[.bool b2, .slice ao' m.length c'] 46)).alloc' (.cells #[.bool false, .slice none 0 0] 46)
  have B0 : Blk _ w.heap.size #[.bool b1, .slice ao l.length c] 46 := (Blk.alloc (Blk.alloc (Blk.new w _ _) (.cells #[.bool b2, .slice ao' m.length c'] 46)) (.cells #[.bool false, .slice none 0 0] 46))
  have B1 : Blk _ (w.heap.size + 1) #[.bool b2, .slice ao' m.length c'] 46 := (Blk.alloc (Blk.at (Blk.new (w.alloc (.cells #[.bool b1, .slice ao l.length c] 46)) _ _) (by simp)) (.cells #[.bool false, .slice none 0 0] 46))
  have B2 : Blk _ (w.heap.size + 1 + 1) #[.bool false, .slice none 0 0] 46 := (Blk.at (Blk.new ((w.alloc (.cells #[.bool b1, .slice ao l.length c] 46)).alloc (.cells #[.bool b2, .slice ao' m.length c'] 46)) _ _) (by simp))
  go_enter Try.func33, Try.ntmps33
  go_wp2_with (at_make; refine wpList_make_row _ rfl _ _ 44 rfl (((w.alloc (.cells #[.bool b1, .slice ao l.length c] 46)).alloc (.cells #[.bool b2, .slice ao' m.length c'] 46)).alloc (.cells #[.bool false, .slice none 0 0] 46)) 3 i0 8 Try.underlying44 hi hz0 hz1 hz2 _ _ _ _ (l.length + m.length) rfl rfl (by omega) (by omega) (by omega) (by unfold maxLen; omega) (Below.refl _ _) ?_)
  intro w1 hown1 hk1
  replace B0 := B0.keep hk1
  replace B1 := B1.keep hk1
  replace B2 := B2.keep hk1
  have hkw := hk0.trans' hk1
  have l0 := B0.lt
  have l1 := B1.lt
  have l2 := B2.lt
  have c0 := B0.cell
  have c1 := B1.cell
  have hg1 : w.heap.size + 1 + 1 + 1 < w1.heap.size := (hown1.lt _ rfl).2
  clear hk0 hk1
  go_wp2_with fail
  go_loopw [6, 7] (fun i _ wr => ∃ k : Nat, k ≤ l.length ∧ i = .int .i64 k ∧ wr.ownsRow (w.heap.size + 1 + 1 + 1) 3 1 (.slice (some ⟨w.heap.size + 1 + 1 + 1, 0, none⟩) (l.length + m.length) (l.length + m.length)) (l.length + m.length) (vals (timTo l m k)) ∧ Below (w.heap.size + 1 + 1 + 1) w1 wr)
    (fun i _ _ => l.length - (intOf i).toNat)
  case atStart => exact ⟨0, by omega, rfl, hown1, Below.refl _ _⟩
  case round =>
    obtain ⟨k, hk, rfl, hown, hkr⟩ := hrel
    clear hown1 c0 c1
    have B0' := Blk.below hkr (by omega) B0
    have B1' := Blk.below hkr (by omega) B1
    have B2' := Blk.below hkr (by omega) B2
    have c0 := B0'.cell
    have c1 := B1'.cell
    have l0' := B0'.lt
    have l1' := B1'.lt
    by_cases h1 : k < l.length
    · have LOW := Hid.mk (timTo_bd DL.out DM.out k)
      have dl := DL.out k
      go_wp2_with fail
      go_loopw [7] (fun j wq => ∃ i : Nat, i ≤ m.length ∧ j = .int .i64 i ∧ wq.ownsRow (w.heap.size + 1 + 1 + 1) 3 1 (.slice (some ⟨w.heap.size + 1 + 1 + 1, 0, none⟩) (l.length + m.length) (l.length + m.length)) (l.length + m.length) (vals (timIn l m (timTo l m k) k i)) ∧ Below (w.heap.size + 1 + 1 + 1) w1 wq)
        (fun j _ => m.length - (intOf j).toNat)
      case atStart => exact ⟨0, by omega, rfl, hown, hkr⟩
      case round =>
        obtain ⟨i, hi', rfl, hownq, hkq⟩ := hrel
        clear hown hkr c0 c1 B0' B1' B2' l0' l1'
        have B0' := Blk.below hkq (by omega) B0
        have B1' := Blk.below hkq (by omega) B1
        have c0 := B0'.cell
        have c1 := B1'.cell
        have l0' := B0'.lt
        have l1' := B1'.lt
        by_cases h2 : i < m.length
        · have dm := DM.out i
          have hmu := dig_mul dl dm
          have hm1 := hmu.1
          have hm2 : at0 l k * at0 m i ≤ 99980001 := hmu.2
          have hlo := (timIn_bd DL.out DM.out LOW.out i (k + i)).1
          have hkb : (k : Int) ≤ 400000000 := by omega
          have hw1 : IntKind.i64.wrap (at0 l k * at0 m i) = at0 l k * at0 m i := IntWalk.i64_in _ (by omega)
          have hw2 : IntKind.i64.wrap (at0 (timIn l m (timTo l m k) k i) (k + i) + at0 l k * at0 m i) = at0 (timIn l m (timTo l m k) k i) (k + i) + at0 l k * at0 m i := IntWalk.i64_in _ (by omega)
          have hw3 : IntKind.i64.wrap ((k : Int) + (i : Int)) = (k : Int) + (i : Int) := IntWalk.i64_in _ (by omega)
          have hco := owns_cell hownq (i := k + i) (by omega)
          have hfz : wr.frozen? ⟨w.heap.size + 1 + 1 + 1, k + i, none⟩ = false := hownq.frozenAt (k + i)
          have htn : ((k : Int) + (i : Int)).toNat = k + i := by omega
          have HS := Hid.mk (timIn_succ l m (timTo l m k) k i)
          have hkE := hkw.trans (hkq.mono (show w.heap.size ≤ w.heap.size + 1 + 1 + 1 by omega))
          have hl2 : RowR wr.drew (.slice ao l.length c) l := hl.keep (Kp.drew' hkE)
          have hm2' : RowR wr.drew (.slice ao' m.length c') m := hm.keep (Kp.drew' hkE)
          have hb0 : (0 : Int) ≤ (k : Int) + (i : Int) := by omega
          have hb1 : (k : Int) + (i : Int) < (l.length : Int) + (m.length : Int) := by omega
          have HST := Hid.mk (hownq.drew.stored (k + i) (.int .i64 (at0 (timIn l m (timTo l m k) k i) (k + i) + at0 l k * at0 m i)))
          clear LOW hlo
          go_wp2_with fail
          go_region_with
            (first
              | (go_at_call_of 62 (Value.slice ao l.length c); refine (at_any l _ k _ (by omega) hl2).mono ?_; rintro e w' ⟨rfl, rfl⟩)
              | (go_at_call_of 62 (Value.slice ao' m.length c'); refine (at_any m _ i _ (by omega) hm2').mono ?_; rintro e w' ⟨rfl, rfl⟩))
          all_goals
            go_wp2_with fail
            go_roundw
            case rel => exact ⟨i + 1, by omega, by go_num, by rw [HS.out, ← vals_set]; exact HST.out.1, Below.setCell hkq.drew (Nat.le_refl _) _⟩
            case measure => simp [intOf]; omega
        · have hie : i = m.length := by omega
          subst hie
          have HS := Hid.mk (timTo_succ l m k)
          go_wp2_with fail
          go_roundw
          case rel => exact ⟨k + 1, by omega, by go_num, by rw [HS.out]; exact hownq, hkq⟩
          case measure => simp [intOf]; omega
    · have hke : k = l.length := by omega
      subst hke
      have hrow := Row.of_owns hown
      have hkE := hkw.trans (hkr.mono (show w.heap.size ≤ w.heap.size + 1 + 1 + 1 by omega))
      go_wp2_with fail
      refine (made_any (b1 != b2) (timTo l m l.length) _ _ hrow HM.out HN.out (by rw [timTo_length]; omega)).mono ?_
      rintro e w3 ⟨v3, rfl, hv3, hk3⟩
      obtain ⟨b5, ao5, n5, c5, rfl⟩ := hv3.shape'
      rw [HV.out] at hv3
      have B2e := B2'.keep hk3
      have c2e := B2e.cell
      have f2e := B2e.frozen
      have l2e := B2e.lt
      have hkF := Kp.trans' hkE hk3
      go_wp2_with fail
      refine bodyPost_ret (v := .agg #[.bool b5, .slice ao5 n5 c5]) (by simp [results, Try.results33, go_sem, c2e]) rfl ?_
      refine retI_mk hv3 (Sf.set (t := 46) (Sf.set (Sf.refl _ _) B2e.elem (by decide)) (by simp only [elemOf_setCell]; exact B2e.elem) (by decide)) (Below.setCell (Below.setCell hkF ?_ _) ?_ _)
      · show w.heap.size ≤ w.heap.size + 1 + 1; omega
      · show w.heap.size ≤ w.heap.size + 1 + 1; omega

theorem rtimes_any (x y : Int) (u v : Value) (w : World) (hx : IN w u x) (hy : IN w v y) (fx : Fit x) (fy : Fit y) : Calls Try.prog 33 #[u, v] w (RetI w (x * y)) := by
  obtain ⟨ao, n, c, rfl, hs⟩ := hx
  obtain ⟨ao', n', c', rfl, hs'⟩ := hy
  have h := times_rb (decide (x < 0)) (decide (y < 0)) (x.natAbs : Int) (y.natAbs : Int) ao ao' n c n' c' w hs hs' (fit_abs fx) (fit_abs fy)
  have e : signed (decide (x < 0) != decide (y < 0)) ((x.natAbs : Int) * (y.natAbs : Int)) = x * y := by
    have h1 : (x.natAbs : Int) * y.natAbs = ((x * y).natAbs : Int) := by rw [Int.natAbs_mul]; simp
    rw [h1]
    by_cases hx : x < 0
    · by_cases hy : y < 0
      · have := mul_nonneg_of (x := x) (y := y) (Or.inl ⟨hx, hy⟩)
        simp [hx, hy, signed]; omega
      · have := mul_neg_iff (x := x) (y := y) (Or.inl ⟨hx, by omega⟩)
        rw [h1] at this
        simp [hx, hy, signed]; omega
    · by_cases hy : y < 0
      · have := mul_neg_iff (x := x) (y := y) (Or.inr ⟨by omega, hy⟩)
        rw [h1] at this
        simp [hx, hy, signed]; omega
      · have := mul_nonneg_of (x := x) (y := y) (Or.inr ⟨by omega, by omega⟩)
        simp [hx, hy, signed]; omega
  rwa [e] at h

end Go.Proofs.Ytjahbjjekednfaa
