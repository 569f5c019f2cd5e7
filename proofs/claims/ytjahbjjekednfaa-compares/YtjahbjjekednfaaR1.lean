import Derived.Test.YtjahbjjekednfaaSoft
import Derived.Test.YtjahbjjekednfaaMath4
import Derived.Deep.RegionLaw
import Derived.Deep.AppendLies
namespace Go.Proofs.Ytjahbjjekednfaa
open Go.RowKit

theorem Try.infoInt : (Try.prog.info? 3).map (fun i => (i.zero, i.size, i.bytes)) = some (some (.int .i64 0), 1, 8) := by kernel_rfl

theorem at0_reverse {m : List Int} {i : Nat} (h : i < m.length) : at0 m.reverse i = at0 m (m.length - 1 - i) := by
 rw [at0_eq (by simpa using h), at0_eq (by omega)]
 simp

/-- v reads as the digits m (the least first in m, the highest first in memory). -/
def RowR (w : World) (v : Value) (m : List Int) : Prop := Row w 3 v m.reverse
/-- v reads as the number x, from 0 on, to the base of 10000, the highest digit first. -/
def Rb (w : World) (v : Value) (x : Int) : Prop := ∃ m, RowR w v m ∧ Canon 10000 m ∧ val 10000 m = x

set_option maxHeartbeats 400000 in
theorem at_any (m : List Int) (v : Value) (k : Nat) (w : World) (hk : k ≤ 9223372036854775807) (hr : RowR w v m) :
  Calls Try.prog 62 #[v, .int .i64 k] w fun e w' => e = .returned (.int .i64 (at0 m k)) ∧ w' = w := by
 obtain ⟨ao, cap, b, off, rfl, hcap, hmax, hn, hao, hcell⟩ := hr
 rw [List.length_reverse] at hcap hao hcell
 rw [List.length_reverse]
 by_cases h : k < m.length
 ·have ha := (hao (by omega)).1
  subst ha
  have hc := hcell (m.length - 1 - k) (by omega)
  rw [at0_reverse (by omega), show m.length - 1 - (m.length - 1 - k) = k by omega] at hc
  clear hcell hao hn
  go_enter Try.func62, Try.ntmps62
  go_wp2
  go_ret
  exact ⟨rfl, rfl⟩
 ·have HE := Hid.mk (at0_ge (l := m) (i := k) (by omega))
  clear hcell hao hn
  go_enter Try.func62, Try.ntmps62
  go_wp2
  go_ret
  exact ⟨by rw [HE.out]; rfl, rfl⟩

theorem at_int (m : List Int) (v : Value) (k : Int) (w : World) (h0 : 0 ≤ k) (hk : k ≤ 9223372036854775807) (hr : RowR w v m) :
  Calls Try.prog 62 #[v, .int .i64 k] w fun e w' => e = .returned (.int .i64 (at0 m k.toNat)) ∧ w' = w := by
 obtain ⟨n, rfl⟩ := Int.eq_ofNat_of_zero_le h0
 exact at_any m v n w (by omega) hr

theorem RowR.slice {w : World} {v : Value} {m : List Int} (h : RowR w v m) : ∃ ao cap, v = .slice ao m.length cap ∧ m.length ≤ cap ∧ cap ≤ 9223372036854775807 := by
 have := Row.slice h
 rwa [List.length_reverse] at this

/-- Of two lists of digits that agree from k + 1 on the one that is less at k is less; whatever their lengths. -/
theorem val_lt_top {B : Int} (hB : 0 < B) {l m : List Int} (hl : Dig B l) (hm : Dig B m) {k : Nat} (heq : ∀ i, k < i → at0 l i = at0 m i) (hlt : at0 l k < at0 m k) : val B l < val B m := by
 have hpad : ∀ (x : List Int) (n : Nat), val B (x ++ List.replicate n 0) = val B x := fun x n => by rw [val_append, val_replicate]; simp
 have hat : ∀ (x : List Int) (n i : Nat), at0 (x ++ List.replicate n 0) i = at0 x i := by
  intro x n i
  rcases Nat.lt_or_ge i x.length with h | h
  ·rw [at0_append_lt h]
  ·rw [at0_append_ge h, at0_replicate, at0_ge h]
 have hdig : ∀ (x : List Int) (n : Nat), Dig B x → Dig B (x ++ List.replicate n 0) := fun x n hx i => by rw [hat]; exact hx i
 rw [← hpad l (m.length + k + 1), ← hpad m (l.length + k + 1)]
 refine val_lt_of_top hB (hdig l _ hl) (hdig m _ hm) (by simp; omega) (k := k) (by simp; omega) (fun i hi => by rw [hat, hat]; exact heq i hi) (by rw [hat, hat]; exact hlt)
theorem val_eq_of {B : Int} {l m : List Int} (h : ∀ i, at0 l i = at0 m i) : val B l = val B m := by
 have hpad : ∀ (x : List Int) (n : Nat), val B (x ++ List.replicate n 0) = val B x := fun x n => by rw [val_append, val_replicate]; simp
 have hat : ∀ (x : List Int) (n i : Nat), at0 (x ++ List.replicate n 0) i = at0 x i := by
  intro x n i
  rcases Nat.lt_or_ge i x.length with h | h
  ·rw [at0_append_lt h]
  ·rw [at0_append_ge h, at0_replicate, at0_ge h]
 rw [← hpad l m.length, ← hpad m l.length]
 rw [ext_at0 (l := l ++ List.replicate m.length 0) (m := m ++ List.replicate l.length 0) (by simp; omega) (fun i _ => by rw [hat, hat]; exact h i)]

set_option maxHeartbeats 1600000 in
theorem order_any (x y : Int) (u v : Value) (w : World) (hx : Rb w u x) (hy : Rb w v y) :
  Calls Try.prog 64 #[u, v] w (RetV w (.int .i64 (cmp3 x y))) := by
 obtain ⟨l, hu, cl, rfl⟩ := hx
 obtain ⟨m, hv, cm, rfl⟩ := hy
 obtain ⟨ao, cap, hu1, hu2, hu3⟩ := hu.slice
 obtain ⟨ao', cap', hv1, hv2, hv3⟩ := hv.slice
 subst hu1
 subst hv1
 have CL := Hid.mk cl
 have CM := Hid.mk cm
 clear cl cm
 have key : ∀ N : Nat, l.length ≤ N → m.length ≤ N → N ≤ 9223372036854775807 → ∀ i, N ≤ i → at0 l i = at0 m i := fun N h1 h2 _ i hi => by rw [at0_ge (by omega), at0_ge (by omega)]
 by_cases hlen : l.length < m.length
 all_goals
  go_enter Try.func64, Try.ntmps64
  go_wp2_with fail
  go_loop [6, 7, 8] (fun i _ _ => ∃ k : Nat, k ≤ 9223372036854775807 ∧ i = .int .i64 ((k : Int) - 1) ∧ Hid (∀ j, k ≤ j → at0 l j = at0 m j)) (fun i _ _ => (intOf i + 1).toNat)
  case atStart => first | exact ⟨m.length, by omega, rfl, key m.length (by omega) (by omega) (by omega)⟩ | exact ⟨l.length, by omega, rfl, key l.length (by omega) (by omega) (by omega)⟩
  case round =>
   obtain ⟨k, hk, rfl, hz⟩ := hrel
   clear key
   by_cases h0 : 0 < k
   ·rcases Int.lt_trichotomy (at0 l (k - 1)) (at0 m (k - 1)) with hc | hc | hc
    ·have HR := Hid.mk (cmp3_lt (val_lt_top (B := 10000) (by decide) CL.out.1 CM.out.1 (k := k - 1) (fun j hj => hz.out j (by omega)) hc))
     go_wp2_with fail
     refine (at_int l _ _ _ (by omega) (by omega) hu).mono ?_
     rintro e w1 ⟨rfl, rfl⟩
     rw [show ((k : Int) - 1).toNat = k - 1 by omega]
     go_wp2_with fail
     refine (at_int m _ _ _ (by omega) (by omega) hv).mono ?_
     rintro e w1 ⟨rfl, rfl⟩
     rw [show ((k : Int) - 1).toNat = k - 1 by omega]
     go_wp2_with fail
     go_ret
     exact ⟨by rw [HR.out]; rfl, Below.refl _ _⟩
    ·have HC := Hid.mk hc
     have n1 : ¬ at0 l (k - 1) < at0 m (k - 1) := by omega
     have n2 : ¬ at0 m (k - 1) < at0 l (k - 1) := by omega
     clear hc
     go_wp2_with fail
     refine (at_int l _ _ _ (by omega) (by omega) hu).mono ?_
     rintro e w1 ⟨rfl, rfl⟩
     rw [show ((k : Int) - 1).toNat = k - 1 by omega]
     go_wp2_with fail
     refine (at_int m _ _ _ (by omega) (by omega) hv).mono ?_
     rintro e w1 ⟨rfl, rfl⟩
     rw [show ((k : Int) - 1).toNat = k - 1 by omega]
     go_wp2_with fail
     go_round
     case rel => exact ⟨k - 1, by omega, by go_num, fun j hj => by
      rcases Nat.lt_or_ge j k with h | h
      ·rw [show j = k - 1 by omega]; exact HC.out
      ·exact hz.out j h⟩
     case measure => simp [intOf]; omega
    ·have HR := Hid.mk (cmp3_gt (val_lt_top (B := 10000) (by decide) CM.out.1 CL.out.1 (k := k - 1) (fun j hj => (hz.out j (by omega)).symm) hc))
     have n1 : ¬ at0 l (k - 1) < at0 m (k - 1) := by omega
     go_wp2_with fail
     refine (at_int l _ _ _ (by omega) (by omega) hu).mono ?_
     rintro e w1 ⟨rfl, rfl⟩
     rw [show ((k : Int) - 1).toNat = k - 1 by omega]
     go_wp2_with fail
     refine (at_int m _ _ _ (by omega) (by omega) hv).mono ?_
     rintro e w1 ⟨rfl, rfl⟩
     rw [show ((k : Int) - 1).toNat = k - 1 by omega]
     go_wp2_with fail
     go_ret
     exact ⟨by rw [HR.out]; rfl, Below.refl _ _⟩
   ·have HE := Hid.mk (val_eq_of (B := 10000) (l := l) (m := m) (fun i => hz.out i (by omega)))
    go_wp2_with fail
    go_ret
    exact ⟨by rw [cmp3_eq HE.out]; rfl, Below.refl _ _⟩

end Go.Proofs.Ytjahbjjekednfaa

namespace Go.Proofs.Ytjahbjjekednfaa
open Go.RowKit

/-- v is the reference's whole number z. -/
def IN (w : World) (v : Value) (z : Int) : Prop := ∃ ao n c, v = .agg #[.bool (decide (z < 0)), .slice ao n c] ∧ Rb w (.slice ao n c) (z.natAbs : Int)
def RetI (w : World) (z : Int) (e : Ending) (w' : World) : Prop := ∃ v, e = .returned v ∧ IN w' v z ∧ Kp w w'

def signed (neg : Bool) (x : Int) : Int := if neg then -x else x
theorem signed_neg {neg : Bool} {x : Int} (h : 0 ≤ x) : decide (signed neg x < 0) = (neg && decide (0 < x)) := by
 cases neg
 ·simp [signed]; omega
 ·simp [signed]
theorem signed_abs {neg : Bool} {x : Int} (h : 0 ≤ x) : ((signed neg x).natAbs : Int) = x := by
 cases neg
 ·simp [signed]; omega
 ·simp [signed]; omega

theorem Rb.soft {w W : World} {v : Value} {x : Int} (hs : Sf 3 w W) (h : Rb w v x) : Rb W v x := by
 obtain ⟨m, h1, h2⟩ := h
 exact ⟨m, Row.soft hs h1, h2⟩
theorem Rb.nn {w : World} {v : Value} {x : Int} (h : Rb w v x) : 0 ≤ x := by
 obtain ⟨m, _, h2, h3⟩ := h
 rw [← h3]
 exact h2.1.val_nonneg (by decide)
theorem Rb.zero_len {w : World} {ao : Option Addr} {n c : Nat} {x : Int} (h : Rb w (.slice ao n c) x) : (n = 0 ↔ x = 0) ∧ n ≤ 9223372036854775807 := by
 obtain ⟨m, h1, h2, h3⟩ := h
 obtain ⟨ao', cap, h4, h5, h6⟩ := h1.slice
 simp only [Value.slice.injEq] at h4
 rw [h4.2.1]
 exact ⟨by rw [h2.zero_iff (by decide), h3], by omega⟩
theorem IN.soft {w W : World} {v : Value} {z : Int} (hs : Sf 3 w W) (h : IN w v z) : IN W v z := by
 obtain ⟨ao, n, c, h1, h2⟩ := h
 exact ⟨ao, n, c, h1, h2.soft hs⟩
theorem retI_end {w w1 W : World} {neg b : Bool} {X : Int} {ao : Option Addr} {n c : Nat} (hX : Rb w1 (.slice ao n c) X) (hb : b = (neg && decide (0 < (n : Int)))) (hs : Sf 3 w1 W) (hk : Kp w W) :
  RetI w (signed neg X) (.returned (.agg #[.bool b, .slice ao n c])) W := by
 have h0 := hX.nn
 have h1 := hX.zero_len.1
 have h2 : decide (0 < X) = decide (0 < (n : Int)) := by rw [decide_eq_decide]; omega
 exact ⟨_, rfl, ⟨ao, n, c, by rw [signed_neg h0, h2, hb], by rw [signed_abs h0]; exact hX.soft hs⟩, hk⟩

/-- Behind 'x.D = append(x.D, d)'. -/
theorem push_end {wA wr w1 : World} {ao2 : Option Addr} {l2 c2 gg cap' : Nat} {b : Bool} {D D' : List Int} {d : Int} {o : Obj} (hkq : Kp wA wr)
  (hown : wr.ownsRow (wA.heap.size + 1) 3 1 (.slice ao2 l2 c2) l2 (vals D))
  (hgrow : ((wr.alloc o).drew).grownBy w1 (Value.slice ao2 l2 c2).ownBlock) (hB1 : Blk w1 wA.heap.size #[.bool b, .slice ao2 l2 c2] 46)
  (hown1 : w1.ownsRow (wA.heap.size + 1) 3 1 (.slice (some ⟨gg, 0, none⟩) (l2 + 1) cap') (l2 + 1) (vals D ++ vals [d])) (hD : D' = D ++ [d]) :
  Blk (w1.setCell ⟨wA.heap.size, 1, none⟩ (.slice (some ⟨gg, 0, none⟩) (l2 + 1) cap')) wA.heap.size #[.bool b, .slice (some ⟨gg, 0, none⟩) (l2 + 1) cap'] 46 ∧
  (w1.setCell ⟨wA.heap.size, 1, none⟩ (.slice (some ⟨gg, 0, none⟩) (l2 + 1) cap')).ownsRow (wA.heap.size + 1) 3 1 (.slice (some ⟨gg, 0, none⟩) (l2 + 1) cap') (l2 + 1) (vals D') ∧
  Kp wA (w1.setCell ⟨wA.heap.size, 1, none⟩ (.slice (some ⟨gg, 0, none⟩) (l2 + 1) cap')) := by
 refine ⟨hB1.set, ?_, ?_⟩
 ·rw [hD, vals_append]
  exact ownsRow_setCell_below hown1 (by simp) _
 ·have hk1 : Kp wA w1 := (Kp.drew' (hkq.alloc' o)).grown' hgrow (fun k hk => by have := (hown.lt k hk).1; omega)
  exact hk1.setCell (Nat.le_refl _) _

set_option maxHeartbeats 3200000 in
set_option maxRecDepth 100000 in
theorem made_any (neg : Bool) (low : List Int) (u : Value) (w : World) (hu : Row w 3 u low) (hmid : Mid low) (hv : 0 ≤ val 10000 low) (hl : low.length ≤ 1000000000) :
  Calls Try.prog 63 #[.bool neg, u] w (RetI w (signed neg (val 10000 low))) := by
 obtain ⟨ao, cap, p, off, rfl, hcap, hmax, hn, hao, hcell⟩ := hu
 clear hn
 obtain ⟨i0, hi, hz0, hz1, hz2⟩ := info_parts Try.infoInt
 have HV := Hid.mk hv
 have HM := Hid.mk hmid
 clear hv hmid
 go_enter Try.func63, Try.ntmps63
 go_wp2_with fail
 go_loopw [5, 6, 7, 8] (fun o s k _ wr => ∃ j : Nat, j ≤ low.length + 4 ∧ k = .int .i64 j ∧ o = .int .i64 (madO low j) ∧ wr.ownsRow (w.heap.size + 1) 3 1 s j (vals (madC low j)) ∧ Kp (w.alloc (.cells #[.bool false, .slice none 0 0] 46)) wr)
  (fun o _ k _ _ => (low.length - (intOf k).toNat) * 9223372036854775808 + (intOf o).toNat)
 case atStart => exact ⟨0, by omega, rfl, rfl, World.ownsRow_nil _ _ _ _, Below.refl _ _⟩
 case round =>
  obtain ⟨j, hj, rfl, rfl, hown, hkr⟩ := hrel
  have hob := madO_bd HM.out j
  have hob' := madO_bd HM.out (j + 1)
  have hlb := HM.out j
  have HS := Hid.mk (madC_succ low j)
  have HO := Hid.mk (madO_succ low j)
  by_cases h1 : j < low.length
  ·have ha := (hao (by omega)).1
   subst ha
   have hc : wr.cell? ⟨p, off + j, none⟩ = some (.int .i64 (at0 low j)) := cell_later ((kp_alloc w _).trans' hkr) (hcell j h1)
   clear hcell hao
   by_cases hneg : madO low j + at0 low j < 0
   ·obtain ⟨t1, t2, t3, t4, t5, t6⟩ := tdiv_neg_case hneg
    by_cases hr : (madO low j + at0 low j).tmod 10000 < 0
    ·obtain ⟨e1, e2⟩ := t1 hr
     have E1 := Hid.mk e1
     have E2 := Hid.mk e2
     clear e1 e2 t1 t2
     go_wp2_with (at_builtin; (refine wpList_append_one wr rfl _ _ 44 rfl (w.alloc (.cells #[.bool false, .slice none 0 0] 46)) 3 i0 (.int .i64 0) 8 Try.underlying44 hi hz0 hz1 hz2 rfl _ j (madC low j) ((madO low j + at0 low j).tmod 10000 + 10000) rfl (by rw [World.size_alloc]; exact hown) hkr rfl (by unfold maxLen; omega) (by omega) ?_))
     intro v' w1 hown' hk'
     clear hown hkr hc
     go_wp2_with fail
     go_roundw
     case rel => exact ⟨j + 1, by omega, by go_num, by rw [HO.out, ← E2.out], by rw [HS.out, ← E1.out]; exact hown', hk'⟩
     case measure => simp [intOf]; omega
    ·obtain ⟨e1, e2⟩ := t2 hr
     have E1 := Hid.mk e1
     have E2 := Hid.mk e2
     clear e1 e2 t1 t2
     go_wp2_with (at_builtin; (refine wpList_append_one wr rfl _ _ 44 rfl (w.alloc (.cells #[.bool false, .slice none 0 0] 46)) 3 i0 (.int .i64 0) 8 Try.underlying44 hi hz0 hz1 hz2 rfl _ j (madC low j) ((madO low j + at0 low j).tmod 10000) rfl (by rw [World.size_alloc]; exact hown) hkr rfl (by unfold maxLen; omega) (by omega) ?_))
     intro v' w1 hown' hk'
     clear hown hkr hc
     go_wp2_with fail
     go_roundw
     case rel => exact ⟨j + 1, by omega, by go_num, by rw [HO.out, ← E2.out], by rw [HS.out, ← E1.out]; exact hown', hk'⟩
     case measure => simp [intOf]; omega
   ·have hnn : 0 ≤ madO low j + at0 low j := by omega
    go_wp2_with (at_builtin; (refine wpList_append_one wr rfl _ _ 44 rfl (w.alloc (.cells #[.bool false, .slice none 0 0] 46)) 3 i0 (.int .i64 0) 8 Try.underlying44 hi hz0 hz1 hz2 rfl _ j (madC low j) ((madO low j + at0 low j) % 10000) rfl (by rw [World.size_alloc]; exact hown) hkr rfl (by unfold maxLen; omega) (by omega) ?_))
    intro v' w1 hown' hk'
    clear hown hkr hc
    go_wp2_with fail
    go_roundw
    case rel => exact ⟨j + 1, by omega, by go_num, by rw [HO.out], by rw [HS.out]; exact hown', hk'⟩
    case measure => simp [intOf]; omega
  ·have HB := Hid.mk (at0_ge (l := low) (i := j) (by omega))
   have hnn := madO_nn HV.out (k := j) (by omega)
   by_cases hz : madO low j = 0
   ·have HZ := Hid.mk (mad_done (low := low) (k := j) (by omega) hz)
    have hzb : (madO low j != 0) = false := by simp [hz]
    have hrow := Row.of_owns hown
    have hcl := madC_length low j
    have HCD := Hid.mk (madC_dig low j)
    have HK0 := Hid.mk ((kp_alloc w (.cells #[.bool false, .slice none 0 0] 46)).trans' hkr)
    have BR : Blk wr w.heap.size #[.bool false, .slice none 0 0] 46 := (Blk.new w _ _).keep hkr
    have lR := BR.lt
    generalize hcg : madC low j = c at *
    clear hcg hcell hao hown HS HO hz hkr hob hob' hlb HB hnn
    obtain ⟨n, hsig⟩ := sig_exists c
    obtain ⟨aoc, capc, pc, offc, hvc, hcapc, hmaxc, hnc, haoc, hcellc⟩ := hrow
    rw [hcl] at hvc hcapc haoc hcellc
    subst hvc
    have hnj : n ≤ j := by have := hsig.1; omega
    have HSIG := Hid.mk hsig
    clear hsig hnc
    generalize wr = wA at *
    go_wp2_with fail
    go_loopw [10] (fun k wq => ∃ (t l2 c2 : Nat) (ao2 : Option Addr), t ≤ j ∧ k = .int .i64 ((t : Int) - 1) ∧ l2 + t ≤ j ∧ Hid (l2 = n - t) ∧ Blk wq wA.heap.size #[.bool false, .slice ao2 l2 c2] 46 ∧ wq.ownsRow (wA.heap.size + 1) 3 1 (.slice ao2 l2 c2) l2 (vals (tops c n t)) ∧ Kp wA wq)
     (fun k _ => (intOf k + 1).toNat)
    case atStart => exact ⟨j, 0, 0, none, by omega, by go_num, by omega, by unfold Hid; omega, Blk.new _ _ _, by rw [tops_end c n j hnj]; exact World.ownsRow_nil _ _ _ _, kp_alloc _ _⟩
    case round =>
     obtain ⟨t, l2, c2, ao2, ht, rfl, hlt, hl2, hB, hown, hkq⟩ := hrel
     obtain ⟨hBc, hBf, hBl⟩ := hB.all
     by_cases h0 : 0 < t
     ·have hac := (haoc (by omega)).1
      have hec := (haoc (by omega)).2
      subst hac
      have hpc : pc < wA.heap.size := elemOf_lt hec
      have hcc : wr.cell? ⟨pc, offc + (t - 1), none⟩ = some (.int .i64 (at0 c (t - 1))) := cell_later hkq (hcellc (t - 1) (by omega))
      have hob : (Value.slice ao2 l2 c2).ownBlock ≠ some pc := fun h => by have := (hown.lt pc h).1; omega
      have hob2 : (Value.slice ao2 l2 c2).ownBlock ≠ some wA.heap.size := fun h => by have := (hown.lt _ h).1; omega
      have ht0 : (0 : Int) ≤ (t : Int) - 1 := by omega
      have ht1 : (t : Int) - 1 < (j : Int) := by omega
      have hbs : wA.heap.size + 1 ≤ wr.heap.size := by omega
      clear hcellc haoc
      by_cases htn : t ≤ n
      ·have HT := Hid.mk (tops_step c n (t - 1) (by omega) HSIG.out.1)
       rw [show t - 1 + 1 = t by omega] at HT
       by_cases hd : at0 c (t - 1) = 0
       ·have hdb : (at0 c (t - 1) != 0) = false := by simp [hd]
        have hl2p : 0 < l2 := by
         have := hl2.out
         rcases Nat.lt_or_ge t n with h | h
         ·omega
         ·have e : t = n := by omega
          exact absurd (e ▸ hd) (HSIG.out.2.2 (by omega))
        clear hd
        go_wp2_with fail
        go_region_law
         ((refine step_append_lies _ (by rfl) _ _ _ (by rfl) (wA.heap.size + 1) 3 i0 _ 1 8 Try.underlying44 hi hz0 hz1 hz2 rfl (by omega) (.slice ao2 l2 c2) l2 (vals (tops c n t)) (by rfl) ((hown.alloc _).drew) ⟨wr.heap.size, 0, none⟩ 1 1 (vals [at0 c (t - 1)]) (by rfl) (by rfl) (World.news_of_block (cs := #[.int .i64 (at0 c (t - 1))]) (t := 3) (fr := (0, 0)) (heap_alloc_new wr _)) (vals_oneCell _) (by omega) (by unfold maxLen; omega) (by omega) (by simp; omega) (wr.heap.size + 1) (by simp) ?_; intro gg cap' w1 hown1 hgrow hat hlt1; have hB1 := Blk.grown hgrow (Ne.symm hob2) ((hB.alloc _).drew); have hB1c := hB1.cell; have hB1f := hB1.frozen; have hB1l := hB1.lt; have hcc1 := (hgrow.cell_far ⟨pc, offc + (t - 1), none⟩ (by simp; omega) (Ne.symm hob)).trans (cell_later (Kp.drew' (kp_alloc wr _)) hcc)))
        all_goals go_wp2_with fail
        all_goals
         go_roundw
         case rel => exact ⟨t - 1, l2 + 1, cap', some ⟨gg, 0, none⟩, by omega, by go_num, by omega, by have := hl2.out; unfold Hid; omega, push_end hkq hown hgrow hB1 hown1 HT⟩
         case measure => simp [intOf]; omega
       ·have hdb : (at0 c (t - 1) != 0) = true := by simp [hd]
        clear hd
        go_wp2_with fail
        go_region_law
         ((refine step_append_lies _ (by rfl) _ _ _ (by rfl) (wA.heap.size + 1) 3 i0 _ 1 8 Try.underlying44 hi hz0 hz1 hz2 rfl (by omega) (.slice ao2 l2 c2) l2 (vals (tops c n t)) (by rfl) ((hown.alloc _).drew) ⟨wr.heap.size, 0, none⟩ 1 1 (vals [at0 c (t - 1)]) (by rfl) (by rfl) (World.news_of_block (cs := #[.int .i64 (at0 c (t - 1))]) (t := 3) (fr := (0, 0)) (heap_alloc_new wr _)) (vals_oneCell _) (by omega) (by unfold maxLen; omega) (by omega) (by simp; omega) (wr.heap.size + 1) (by simp) ?_; intro gg cap' w1 hown1 hgrow hat hlt1; have hB1 := Blk.grown hgrow (Ne.symm hob2) ((hB.alloc _).drew); have hB1c := hB1.cell; have hB1f := hB1.frozen; have hB1l := hB1.lt; have hcc1 := (hgrow.cell_far ⟨pc, offc + (t - 1), none⟩ (by simp; omega) (Ne.symm hob)).trans (cell_later (Kp.drew' (kp_alloc wr _)) hcc)))
        all_goals go_wp2_with fail
        all_goals
         go_roundw
         case rel => exact ⟨t - 1, l2 + 1, cap', some ⟨gg, 0, none⟩, by omega, by go_num, by omega, by have := hl2.out; unfold Hid; omega, push_end hkq hown hgrow hB1 hown1 HT⟩
         case measure => simp [intOf]; omega
      ·have hd : at0 c (t - 1) = 0 := HSIG.out.2.1 _ (by omega)
       have hdb : (at0 c (t - 1) != 0) = false := by simp [hd]
       have hl0 : l2 = 0 := by have := hl2.out; omega
       subst hl0
       have HT1 := Hid.mk (tops_end c n t (by omega))
       have HT2 := Hid.mk (tops_end c n (t - 1) (by omega))
       clear hd
       go_wp2_with fail
       go_roundw
       case rel => exact ⟨t - 1, 0, c2, ao2, by omega, by go_num, by omega, by unfold Hid; omega, hB, by rw [HT2.out, ← HT1.out]; exact hown, hkq⟩
       case measure => simp [intOf]; omega
     ·have ht0 : t = 0 := by omega
      subst ht0
      have hkq' := HK0.out.trans' hkq
      have BR' := BR.keep hkq
      have cR := BR'.cell
      have fR := BR'.frozen
      have hne : w.heap.size < wA.heap.size := lR
      have hcan := HSIG.out.canon (B := 10000) (by decide) HCD.out
      have hrow := Row.of_owns hown
      rw [tops_all] at hrow
      have hX : Rb wr (.slice ao2 l2 c2) (val 10000 low) := ⟨_, hrow, hcan.1, by rw [hcan.2.1, HZ.out]⟩
      have eR := BR'.elem
      have eB := hB.elem
      clear hown hcan hrow hcellc haoc hB BR' BR hl2
      cases neg
      ·go_wp2_with fail
       refine bodyPost_ret (v := .agg #[.bool false, .slice ao2 l2 c2]) (by simp [results, Try.results63, go_sem, cR]) rfl ?_
       refine retI_end hX ?_ (Sf.set (t := 46) (Sf.set (t := 46) (Sf.set (Sf.refl _ _) eB (by decide)) ?_ (by decide)) ?_ (by decide)) ?_
       ·simp
       ·simp only [elemOf_setCell]; exact eR
       ·simp only [elemOf_setCell]; exact eR
       ·refine Below.setCell (Below.setCell (Below.setCell hkq' ?_ _) (Nat.le_refl _) _) (Nat.le_refl _) _
        show w.heap.size ≤ wA.heap.size
        omega
      ·go_wp2_with fail
       refine bodyPost_ret (v := .agg #[.bool (decide (0 < (l2 : Int))), .slice ao2 l2 c2]) (by simp [results, Try.results63, go_sem, cR]) rfl ?_
       refine retI_end hX ?_ (Sf.set (t := 46) (Sf.set (t := 46) (Sf.set (Sf.refl _ _) eB (by decide)) ?_ (by decide)) ?_ (by decide)) ?_
       ·simp
       ·simp only [elemOf_setCell]; exact eR
       ·simp only [elemOf_setCell]; exact eR
       ·refine Below.setCell (Below.setCell (Below.setCell hkq' ?_ _) (Nat.le_refl _) _) (Nat.le_refl _) _
        show w.heap.size ≤ wA.heap.size
        omega
   ·have hj4 : j < low.length + 4 := by
     rcases Nat.lt_or_ge j (low.length + 4) with h | h
     ·exact h
     ·exact absurd (madO_end HV.out HM.out h) hz
    have hzb : (madO low j != 0) = true := by simp [hz]
    have hpos : 0 < madO low j := by omega
    clear hz hcell hao
    go_wp2_with (at_builtin; (refine wpList_append_one wr rfl _ _ 44 rfl (w.alloc (.cells #[.bool false, .slice none 0 0] 46)) 3 i0 (.int .i64 0) 8 Try.underlying44 hi hz0 hz1 hz2 rfl _ j (madC low j) (madO low j % 10000) rfl (by rw [World.size_alloc]; exact hown) hkr rfl (by unfold maxLen; omega) (by omega) ?_))
    intro v' w1 hown' hk'
    clear hown hkr
    go_wp2_with fail
    go_roundw
    case rel => exact ⟨j + 1, by omega, by go_num, by rw [HO.out, HB.out, Int.add_zero], by rw [HS.out, HB.out, Int.add_zero]; exact hown', hk'⟩
    case measure => simp [intOf]; omega

end Go.Proofs.Ytjahbjjekednfaa
