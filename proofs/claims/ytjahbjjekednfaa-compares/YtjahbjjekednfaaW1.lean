import Derived.Test.YtjahbjjekednfaaChecked
import Derived.Test.YtjahbjjekednfaaBase
import Derived.Test.YtjahbjjekednfaaMath
namespace Go.Proofs.Ytjahbjjekednfaa
open Go.RowKit

theorem Try.infoI64 : (Try.prog.info? 2).map (fun i => (i.zero, i.size, i.bytes)) = some (some (.int .i64 0), 1, 8) := by kernel_rfl

set_option maxHeartbeats 400000 in
theorem significant_any (l : List Int) (v : Value) (w : World) (hr : Row w 2 v l) :
  Calls Try.prog 83 #[v] w fun e w' => ∃ n : Nat, e = .returned (.int .i64 n) ∧ w' = w ∧ IsSig l n := by
 obtain ⟨ao, cap, b, off, rfl, hcap, hmax, hn, hao, hcell⟩ := hr
 clear hn
 go_enter Try.func83, Try.ntmps83
 go_wp2
 go_loop [3] (fun n => ∃ k : Nat, k ≤ l.length ∧ n = .int .i64 k ∧ Hid (∀ i, k ≤ i → at0 l i = 0)) (fun n => (intOf n).toNat)
 case atStart => exact ⟨l.length, Nat.le_refl _, rfl, fun i h1 => at0_ge h1⟩
 case round =>
  obtain ⟨k, hk, rfl, hz⟩ := hrel
  by_cases h0 : 0 < k
  ·have ha := (hao (by omega)).1
   subst ha
   have hc := hcell (k - 1) (by omega)
   clear hcell hao
   by_cases hz0 : at0 l (k - 1) = 0
   ·have hb : (at0 l (k - 1) == 0) = true := by simp [hz0]
    have HZ : Hid (at0 l (k - 1) = 0) := hz0
    clear hz0
    go_wp2
    go_round
    case rel => exact ⟨k - 1, by omega, by go_num, fun i hi => by
     rcases Nat.lt_or_ge i k with h | h
     ·rw [show i = k - 1 by omega]; exact HZ
     ·exact hz i h⟩
    case measure => simp [intOf]; omega
   ·have hb : (at0 l (k - 1) == 0) = false := by simp [hz0]
    have HZ : Hid (at0 l (k - 1) ≠ 0) := hz0
    clear hz0
    go_wp2
    go_ret
    exact ⟨k, rfl, rfl, hk, hz, fun _ => HZ⟩
  ·go_wp2
   go_ret
   exact ⟨k, rfl, rfl, hk, hz, fun h => absurd h h0⟩

set_option maxHeartbeats 400000 in
theorem limbAt_any (l : List Int) (v : Value) (i : Nat) (w : World) (hi : i ≤ 9223372036854775807) (hr : Row w 2 v l) :
  Calls Try.prog 107 #[v, .int .i64 i] w fun e w' => e = .returned (.int .i64 (at0 l i)) ∧ w' = w := by
 obtain ⟨ao, cap, b, off, rfl, hcap, hmax, hn, hao, hcell⟩ := hr
 clear hn
 by_cases h : i < l.length
 ·have ha := (hao (by omega)).1
  subst ha
  have hc := hcell i h
  clear hcell hao
  go_enter Try.func107, Try.ntmps107
  go_wp2
  go_ret
  exact ⟨rfl, rfl⟩
 ·have HE := at0_ge (l := l) (i := i) (by omega)
  clear hcell hao
  go_enter Try.func107, Try.ntmps107
  go_wp2
  go_ret
  exact ⟨by simp [HE], rfl⟩

set_option maxHeartbeats 400000 in
theorem copyLimbs_any (x : Int) (v : Value) (w : World) (hx : Rp 2 1000000000 w v x) (fx : Fit x) :
  Calls Try.prog 51 #[v] w (RetRp 2 1000000000 w x) := by
 obtain ⟨l, hr, cl, rfl, hl⟩ := hx.len (by decide) fx
 have CL := Hid.mk cl
 clear cl hx fx
 obtain ⟨i0, hi, hz0, hz1, hz2⟩ := info_parts Try.infoI64
 go_enter Try.func51, Try.ntmps51
 go_wp2_with (at_builtin; go_must (refine wpList_append_row _ rfl _ _ 37 rfl w.heap.size 2 i0 (.int .i64 0) 8 Try.underlying37 hi hz0 hz1 hz2 rfl _ 0 [] l _ rfl ?c1 rfl ?c2 ?c3 ?c4 ?c5 ?_))
 case c1 => exact World.ownsRow_made w #[] 0 (Nat.le_refl _) (by decide) rfl
 case c2 => exact hr.keep (kp_alloc w _)
 case c3 => unfold maxLen; omega
 case c4 => omega
 case c5 => simp
 intro v' w1 hown hg
 go_wp2
 go_ret
 exact ⟨v', rfl, ⟨_, Row.of_owns hown, CL.out, rfl⟩, (kp_alloc w _).grown' hg (fun k hk => by simp [Value.ownBlock] at hk; omega), fresh_of hown⟩

/-- -1, 0 or 1: less, the same, greater. -/
def cmp3 (x y : Int) : Int := if x < y then -1 else if y < x then 1 else 0
theorem cmp3_lt {x y : Int} (h : x < y) : cmp3 x y = -1 := by simp [cmp3, h]
theorem cmp3_gt {x y : Int} (h : y < x) : cmp3 x y = 1 := by simp [cmp3, h]; omega
theorem cmp3_eq {x y : Int} (h : x = y) : cmp3 x y = 0 := by simp [cmp3, h]

set_option maxHeartbeats 800000 in
theorem compareLimbs_any (x y : Int) (u v : Value) (w : World) (hx : Rp 2 1000000000 w u x) (hy : Rp 2 1000000000 w v y) :
  Calls Try.prog 81 #[u, v] w (RetV w (.int .i64 (cmp3 x y))) := by
 obtain ⟨l, hu, cl, rfl⟩ := hx
 obtain ⟨m, hv, cm, rfl⟩ := hy
 obtain ⟨ao, cap, b, off, rfl, hcap, hmax, hn, hao, hcell⟩ := hu
 obtain ⟨ao', cap', b', off', rfl, hcap', hmax', hn', hao', hcell'⟩ := hv
 clear hn hn'
 have CL : Hid (Canon 1000000000 l) := cl
 have CM : Hid (Canon 1000000000 m) := cm
 clear cl cm
 rcases Nat.lt_trichotomy l.length m.length with h | h | h
 ·have HR := cmp3_lt (CL.lt_of_len (by decide) CM h)
  have HR' := Hid.mk HR
  clear HR hao hao' hcell hcell'
  go_enter Try.func81, Try.ntmps81
  go_wp2
  go_ret
  exact ⟨by rw [HR'.out]; rfl, Below.refl _ _⟩
 ·have hle : (l.length : Int) = m.length := by omega
  have HL : Hid (l.length = m.length) := h
  have h1 : ¬ (l.length < m.length) := by omega
  have h2 : ¬ (m.length < l.length) := by omega
  clear h hle
  go_enter Try.func81, Try.ntmps81
  go_wp2
  go_loopw [5] (fun i wr => ∃ k : Nat, k ≤ l.length ∧ i = .int .i64 ((k : Int) - 1) ∧ Hid (∀ j, k ≤ j → at0 l j = at0 m j) ∧ Kp w wr) (fun i _ => (intOf i + 1).toNat)
  case atStart => exact ⟨l.length, Nat.le_refl _, rfl, fun j hj => by rw [at0_ge hj, at0_ge (by have := HL.out; omega)], Below.refl _ _⟩
  case round =>
   obtain ⟨k, hk, rfl, hz, hbw⟩ := hrel
   have hkm : k ≤ m.length := by have := HL.out; omega
   by_cases h0 : 0 < k
   ·have ha := (hao (by omega)).1
    have ha' := (hao' (by omega)).1
    subst ha
    subst ha'
    have hc : wr.cell? ⟨b, off + (k - 1), none⟩ = some (.int .i64 (at0 l (k - 1))) := cell_later hbw (hcell (k - 1) (by omega))
    have hc' : wr.cell? ⟨b', off' + (k - 1), none⟩ = some (.int .i64 (at0 m (k - 1))) := cell_later hbw (hcell' (k - 1) (by omega))
    clear hcell hao hcell' hao'
    rcases Int.lt_trichotomy (at0 l (k - 1)) (at0 m (k - 1)) with hx | hx | hx
    ·have HR := Hid.mk (cmp3_lt (val_lt_of_top (by decide) CL.out.1 CM.out.1 HL.out (k := k - 1) (by omega) (fun j hj => hz.out j (by omega)) hx))
     go_wp2
     go_region
     all_goals (try go_wp2)
     all_goals go_ret
     all_goals exact ⟨by rw [HR.out]; rfl, hbw.drew⟩
    ·have hx1 : ¬ at0 l (k - 1) < at0 m (k - 1) := by omega
     have hx2 : ¬ at0 m (k - 1) < at0 l (k - 1) := by omega
     have HX := Hid.mk hx
     clear hx
     go_wp2
     go_region
     go_wp2
     go_region
     go_wp2
     go_roundw
     case rel => exact ⟨k - 1, by omega, by go_num, fun j hj => by
      rcases Nat.lt_or_ge j k with h | h
      ·rw [show j = k - 1 by omega]; exact HX.out
      ·exact hz.out j h, hbw.drew.drew⟩
     case measure => simp [intOf]; omega
    ·have HR := Hid.mk (cmp3_gt (val_lt_of_top (by decide) CM.out.1 CL.out.1 HL.out.symm (k := k - 1) (by omega) (fun j hj => (hz.out j (by omega)).symm) hx))
     have hx1 : ¬ at0 l (k - 1) < at0 m (k - 1) := by omega
     go_wp2
     go_region
     go_wp2
     go_region
     all_goals (try go_wp2)
     all_goals go_ret
     all_goals exact ⟨by rw [HR.out]; rfl, hbw.drew.drew⟩
   ·have HE : Hid (l = m) := ext_at0 HL.out (fun i _ => hz.out i (by omega))
    go_wp2
    go_ret
    exact ⟨by rw [cmp3_eq (by rw [HE.out])]; rfl, hbw⟩
 ·have HR := cmp3_gt (CM.lt_of_len (by decide) CL h)
  have HR' := Hid.mk HR
  clear HR hao hao' hcell hcell'
  go_enter Try.func81, Try.ntmps81
  go_wp2
  go_ret
  exact ⟨by rw [HR'.out]; rfl, Below.refl _ _⟩

end Go.Proofs.Ytjahbjjekednfaa

namespace Go.Proofs.Ytjahbjjekednfaa
open Go.RowKit

theorem addC_bound {a b : List Int} (ha : Dig 1000000000 a) (hb : Dig 1000000000 b) (k : Nat) : 0 ≤ addC 1000000000 a b k ∧ addC 1000000000 a b k ≤ 1 := addC_le (by decide) ha hb k

set_option maxHeartbeats 1600000 in
theorem addLimbs_any (x y : Int) (u v : Value) (w : World) (hx : Rp 2 1000000000 w u x) (hy : Rp 2 1000000000 w v y) (fx : Fit x) (fy : Fit y) :
  Calls Try.prog 80 #[u, v] w (RetRp 2 1000000000 w (x + y)) := by
 obtain ⟨a, hu, ca, rfl, la⟩ := hx.len (by decide) fx
 obtain ⟨b, hv, cb, rfl, lb⟩ := hy.len (by decide) fy
 clear hx hy fx fy
 obtain ⟨ao, cap, p, off, rfl, hcap, hmax, hn, hao, hcell⟩ := hu
 obtain ⟨ao', cap', p', off', rfl, hcap', hmax', hn', hao', hcell'⟩ := hv
 clear hn hn'
 have CA := Hid.mk ca
 have CB := Hid.mk cb
 clear ca cb
 obtain ⟨i0, hi, hz0, hz1, hz2⟩ := info_parts Try.infoI64
 go_enter Try.func80, Try.ntmps80
 go_wp2
 go_loopw [5, 6, 7] (fun s c i wr => ∃ k : Nat, k ≤ a.length + b.length + 1 ∧ i = .int .i64 k ∧ c = .int .i64 (addC 1000000000 a b k) ∧ wr.ownsRow w.heap.size 2 1 s k (vals (addS 1000000000 a b k)) ∧ Kp w wr ∧
   Hid (k = 0 ∨ k - 1 < a.length ∨ k - 1 < b.length ∨ 0 < addC 1000000000 a b (k - 1)))
  (fun _ _ i _ => a.length + b.length + 2 - (intOf i).toNat)
 case atStart => exact ⟨0, by omega, rfl, rfl, World.ownsRow_made w #[] 0 (Nat.le_refl _) (by decide) rfl, kp_alloc w _, Or.inl rfl⟩
 case round =>
  obtain ⟨k, hk, rfl, rfl, hown, hbw, hprev⟩ := hrel
  have hcb := addC_bound CA.out.1 CB.out.1 k
  have hda := CA.out.1 k
  have hdb := CB.out.1 k
  have HS := Hid.mk (addS_succ 1000000000 a b k)
  have HC := Hid.mk (addC_succ 1000000000 a b k)
  have hk1 : 1 ≤ k → k - 1 ≥ a.length → k - 1 ≥ b.length → addC 1000000000 a b k = 0 := fun h1 h2 h3 => by
   have := addC_end (B := 1000000000) (by decide) CA.out.1 CB.out.1 h2 h3
   rwa [show k - 1 + 1 = k by omega] at this
  have HK1 := Hid.mk hk1
  clear hk1
  by_cases h1 : k < a.length
  ·have ha := (hao (by omega)).1
   subst ha
   have hc : wr.cell? ⟨p, off + k, none⟩ = some (.int .i64 (at0 a k)) := cell_later hbw (hcell k h1)
   by_cases h2 : k < b.length
   ·have ha' := (hao' (by omega)).1
    subst ha'
    have hc' : wr.cell? ⟨p', off' + k, none⟩ = some (.int .i64 (at0 b k)) := cell_later hbw (hcell' k h2)
    clear hcell hao hcell' hao'
    go_wp2_with (at_builtin; (refine wpList_append_one wr rfl _ _ 37 rfl w 2 i0 (.int .i64 0) 8 Try.underlying37 hi hz0 hz1 hz2 rfl _ k _ ((addC 1000000000 a b k + at0 a k + at0 b k) % 1000000000) rfl (by exact hown) hbw rfl (by unfold maxLen; omega) (by omega) ?_))
    intro v' w1 hown' hbw'
    clear hown hbw
    go_wp2
    go_roundw
    case rel => exact ⟨k + 1, by omega, by go_num, by rw [HC.out], by rw [HS.out]; exact hown', hbw', Or.inr (Or.inl h1)⟩
    case measure => simp [intOf]; omega
   ·have HB := Hid.mk (at0_ge (l := b) (i := k) (by omega))
    clear hcell hao hcell' hao'
    go_wp2_with (at_builtin; (refine wpList_append_one wr rfl _ _ 37 rfl w 2 i0 (.int .i64 0) 8 Try.underlying37 hi hz0 hz1 hz2 rfl _ k _ ((addC 1000000000 a b k + at0 a k) % 1000000000) rfl (by exact hown) hbw rfl (by unfold maxLen; omega) (by omega) ?_))
    intro v' w1 hown' hbw'
    clear hown hbw
    go_wp2
    go_roundw
    case rel => exact ⟨k + 1, by omega, by go_num, by rw [HC.out, HB.out, Int.add_zero], by rw [HS.out, HB.out, Int.add_zero]; exact hown', hbw', Or.inr (Or.inl h1)⟩
    case measure => simp [intOf]; omega
  ·have HA := Hid.mk (at0_ge (l := a) (i := k) (by omega))
   by_cases h2 : k < b.length
   ·have ha' := (hao' (by omega)).1
    subst ha'
    have hc' : wr.cell? ⟨p', off' + k, none⟩ = some (.int .i64 (at0 b k)) := cell_later hbw (hcell' k h2)
    clear hcell hao hcell' hao'
    go_wp2_with (at_builtin; (refine wpList_append_one wr rfl _ _ 37 rfl w 2 i0 (.int .i64 0) 8 Try.underlying37 hi hz0 hz1 hz2 rfl _ k _ ((addC 1000000000 a b k + at0 b k) % 1000000000) rfl (by exact hown) hbw rfl (by unfold maxLen; omega) (by omega) ?_))
    intro v' w1 hown' hbw'
    clear hown hbw
    go_wp2
    go_roundw
    case rel => exact ⟨k + 1, by omega, by go_num, by rw [HC.out, HA.out, Int.add_zero], by rw [HS.out, HA.out, Int.add_zero]; exact hown', hbw', Or.inr (Or.inr (Or.inl h2))⟩
    case measure => simp [intOf]; omega
   ·have HB := Hid.mk (at0_ge (l := b) (i := k) (by omega))
    clear hcell hao hcell' hao'
    by_cases h3 : 0 < addC 1000000000 a b k
    ·have hkb : k ≤ a.length + b.length := by
      rcases Nat.lt_or_ge (a.length + b.length) k with hh | hh
      ·have := HK1.out (by omega) (by omega) (by omega); omega
      ·exact hh
     go_wp2_with (at_builtin; (refine wpList_append_one wr rfl _ _ 37 rfl w 2 i0 (.int .i64 0) 8 Try.underlying37 hi hz0 hz1 hz2 rfl _ k _ ((addC 1000000000 a b k) % 1000000000) rfl (by exact hown) hbw rfl (by unfold maxLen; omega) (by omega) ?_))
     intro v' w1 hown' hbw'
     clear hown hbw
     go_wp2
     go_roundw
     case rel => exact ⟨k + 1, by omega, by go_num, by rw [HC.out, HA.out, HB.out, Int.add_zero, Int.add_zero], by rw [HS.out, HA.out, HB.out, Int.add_zero, Int.add_zero]; exact hown', hbw', Or.inr (Or.inr (Or.inr h3))⟩
     case measure => simp [intOf]; omega
    ·have HZ : Hid (addC 1000000000 a b k = 0) := by have := hcb.1; exact Int.le_antisymm (by omega) this
     have HD := Hid.mk (add_done (B := 1000000000) (by decide) CA.out CB.out (k := k) (by omega) (by omega) HZ.out hprev.out)
     go_wp2
     go_ret
     exact ⟨_, rfl, ⟨_, Row.of_owns hown, HD.out⟩, hbw, fresh_of hown⟩

end Go.Proofs.Ytjahbjjekednfaa

namespace Go.Proofs.Ytjahbjjekednfaa
open Go.RowKit

theorem subtract_end {w w1 : World} {u : Value} {l : List Int} {n : Nat} {x : Int} {ao : Option Addr} {len cap : Nat} (hu : u = .slice ao len cap) (hr : Row w1 2 u l) (hd : Dig 1000000000 l) (hv : val 1000000000 l = x)
  (hs : IsSig l n) (hk : Kp w w1) (hf : Fresh w.heap.size u) : RetRp 2 1000000000 w x (.returned (.slice ao n cap)) w1 := by
 subst hu
 have h := hs.canon (B := 1000000000) (by decide) hd
 exact ⟨_, rfl, ⟨_, hr.take hs.1, h.1, by rw [h.2.1, hv]⟩, hk, hf.cut⟩

set_option maxHeartbeats 1600000 in
theorem subtractLimbs_any (x y : Int) (u v : Value) (w : World) (hx : Rp 2 1000000000 w u x) (hy : Rp 2 1000000000 w v y) (fx : Fit x) (hyx : y ≤ x) :
  Calls Try.prog 82 #[u, v] w (RetRp 2 1000000000 w (x - y)) := by
 obtain ⟨a, hu, ca, rfl, la⟩ := hx.len (by decide) fx
 obtain ⟨b, hv, cb, rfl⟩ := hy
 have HD := Hid.mk (sub_done (B := 1000000000) (by decide) ca cb hyx)
 have DA := Hid.mk ca.1
 have DB := Hid.mk cb.1
 clear hx fx hyx ca cb
 obtain ⟨ao, cap, p, off, rfl, hcap, hmax, hn, hao, hcell⟩ := hu
 obtain ⟨ao', cap', p', off', rfl, hcap', hmax', hn', hao', hcell'⟩ := hv
 clear hn hn'
 obtain ⟨i0, hi, hz0, hz1, hz2⟩ := info_parts Try.infoI64
 go_enter Try.func82, Try.ntmps82
 go_wp2_with (at_make; refine wpList_make_row _ rfl _ _ 37 rfl w 2 i0 8 Try.underlying37 hi hz0 hz1 hz2 _ _ _ _ a.length rfl rfl rfl rfl (by omega) (by unfold maxLen; omega) (Below.refl _ _) ?_)
 intro w1 hown1 hk1
 go_wp2
 go_loopw [6, 7] (fun c i wr => ∃ k : Nat, k ≤ a.length ∧ i = .int .i64 k ∧ c = .int .i64 (subB a b k) ∧ wr.ownsRow w.heap.size 2 1 (.slice (some ⟨w.heap.size, 0, none⟩) a.length a.length) a.length (vals (subS 1000000000 a b k)) ∧ Kp w wr)
  (fun _ i _ => a.length - (intOf i).toNat)
 case atStart => exact ⟨0, by omega, rfl, rfl, hown1, hk1⟩
 case round =>
  obtain ⟨k, hk, rfl, rfl, hown, hbw⟩ := hrel
  clear hown1 hk1
  have hcb := subB_le a b k
  have hda := DA.out k
  have hdb := DB.out k
  by_cases h1 : k < a.length
  ·have ha := (hao (by omega)).1
   subst ha
   have hc : wr.cell? ⟨p, off + k, none⟩ = some (.int .i64 (at0 a k)) := cell_later hbw (hcell k h1)
   have hfz : wr.frozen? ⟨w.heap.size, k, none⟩ = false := hown.frozenAt k
   have hco := owns_cell hown h1
   have hst := fun y => owns_store hown hbw k y
   have HST := Hid.mk hst
   clear hst hown
   by_cases h2 : k < b.length
   ·have ha' := (hao' (by omega)).1
    subst ha'
    have hc' : wr.cell? ⟨p', off' + k, none⟩ = some (.int .i64 (at0 b k)) := cell_later hbw (hcell' k h2)
    clear hcell hao hcell' hao'
    by_cases h3 : at0 a k - subB a b k - at0 b k < 0
    ·go_wp2
     go_roundw
     case rel => exact ⟨k + 1, by omega, by go_num, by simp [subB, h3], by have := (HST.out (at0 a k - subB a b k - at0 b k + 1000000000)).1; simpa [subS, subD, h3] using this, (HST.out _).2⟩
     case measure => simp [intOf]; omega
    ·go_wp2
     go_roundw
     case rel => exact ⟨k + 1, by omega, by go_num, by simp [subB, h3], by have := (HST.out (at0 a k - subB a b k - at0 b k)).1; simpa [subS, subD, h3] using this, (HST.out _).2⟩
     case measure => simp [intOf]; omega
   ·have HB := Hid.mk (at0_ge (l := b) (i := k) (by omega))
    clear hcell hao hcell' hao'
    by_cases h3 : at0 a k - subB a b k < 0
    ·go_wp2
     go_roundw
     case rel => exact ⟨k + 1, by omega, by go_num, by simp [subB, HB.out, h3], by have := (HST.out (at0 a k - subB a b k + 1000000000)).1; simpa [subS, subD, HB.out, h3] using this, (HST.out _).2⟩
     case measure => simp [intOf]; omega
    ·go_wp2
     go_roundw
     case rel => exact ⟨k + 1, by omega, by go_num, by simp [subB, HB.out, h3], by have := (HST.out (at0 a k - subB a b k)).1; simpa [subS, subD, HB.out, h3] using this, (HST.out _).2⟩
     case measure => simp [intOf]; omega
  ·have hke : k = a.length := by omega
   subst hke
   have hr := Row.of_owns hown
   go_wp2_with (go_at_call 83; refine (significant_any _ _ _ (by exact hr)).mono ?_; rintro e w2 ⟨n, rfl, rfl, hsig⟩; have hn1 := hsig.1; rw [subS_length] at hn1)
   go_ret
   exact subtract_end rfl hr HD.out.1 HD.out.2 hsig hbw (fresh_of hown)

end Go.Proofs.Ytjahbjjekednfaa

namespace Go.Proofs.Ytjahbjjekednfaa
open Go.RowKit

set_option maxHeartbeats 1600000 in
theorem multiplyLimbs_row (a b : List Int) (u v : Value) (w : World) (hu : Row w 2 u a) (hv : Row w 2 v b) (da : Dig 1000000000 a) (db : Dig 1000000000 b) (la : a.length ≤ 400000000) (lb : b.length ≤ 400000000) :
  Calls Try.prog 53 #[u, v] w (RetRp 2 1000000000 w (val 1000000000 a * val 1000000000 b)) := by
 have DA := Hid.mk da
 have DB := Hid.mk db
 clear da db
 obtain ⟨ao, cap, p, off, rfl, hcap, hmax, hn, hao, hcell⟩ := hu
 obtain ⟨ao', cap', p', off', rfl, hcap', hmax', hn', hao', hcell'⟩ := hv
 clear hn hn'
 obtain ⟨i0, hi, hz0, hz1, hz2⟩ := info_parts Try.infoI64
 go_enter Try.func53, Try.ntmps53
 go_wp2_with (at_make; refine wpList_make_row _ rfl _ _ 37 rfl w 2 i0 8 Try.underlying37 hi hz0 hz1 hz2 _ _ _ _ (a.length + b.length) rfl rfl (by omega) (by omega) (by omega) (by unfold maxLen; omega) (Below.refl _ _) ?_)
 intro w1 hown1 hk1
 go_wp2
 go_loopw [6] (fun i wr => ∃ k : Nat, k ≤ a.length ∧ i = .int .i64 k ∧ wr.ownsRow w.heap.size 2 1 (.slice (some ⟨w.heap.size, 0, none⟩) (a.length + b.length) (a.length + b.length)) (a.length + b.length) (vals (mulTo 1000000000 a b k)) ∧ Kp w wr)
  (fun i _ => a.length - (intOf i).toNat)
 case atStart => exact ⟨0, by omega, rfl, hown1, hk1⟩
 case round =>
  obtain ⟨k, hk, rfl, hown, hbw⟩ := hrel
  clear hown1 hk1
  by_cases h1 : k < a.length
  ·have ha := (hao (by omega)).1
   subst ha
   have hda := DA.out k
   have DT := Hid.mk (mulTo_ok (B := 1000000000) (by decide) DA.out DB.out k)
   go_wp2
   go_loopw [7, 8] (fun c j wq => ∃ i : Nat, i ≤ b.length ∧ j = .int .i64 i ∧ c = .int .i64 (mulC 1000000000 a b (mulTo 1000000000 a b k) k i) ∧ wq.ownsRow w.heap.size 2 1 (.slice (some ⟨w.heap.size, 0, none⟩) (a.length + b.length) (a.length + b.length)) (a.length + b.length) (vals (mulS 1000000000 a b (mulTo 1000000000 a b k) k i)) ∧ Kp w wq)
    (fun _ j _ => b.length - (intOf j).toNat)
   case atStart => exact ⟨0, by omega, rfl, rfl, hown, hbw⟩
   case round =>
    obtain ⟨j, hj, rfl, rfl, hownq, hbq⟩ := hrel
    clear hown hbw
    have hin := mulIn_ok (B := 1000000000) (by decide) DA.out DB.out DT.out k j
    have hcc := hin.2
    have hss := hin.1 (k + j)
    clear hin
    by_cases h2 : j < b.length
    ·have ha' := (hao' (by omega)).1
     subst ha'
     have hdb := DB.out j
     have hm := dig_mul hda hdb
     have hm1 := hm.1
     have hm2 : at0 a k * at0 b j ≤ 999999998000000001 := hm.2
     clear hm
     have hc : wr.cell? ⟨p, off + k, none⟩ = some (.int .i64 (at0 a k)) := cell_later hbq (hcell k h1)
     have hc' : wr.cell? ⟨p', off' + j, none⟩ = some (.int .i64 (at0 b j)) := cell_later hbq (hcell' j h2)
     have hco := owns_cell hownq (i := k + j) (by omega)
     have hfz : wr.frozen? ⟨w.heap.size, k + j, none⟩ = false := hownq.frozenAt (k + j)
     have HST := Hid.mk (fun y => owns_store hownq.drew hbq.drew (k + j) y)
     have HS := Hid.mk (mulS_succ 1000000000 a b (mulTo 1000000000 a b k) k j)
     have HC := Hid.mk (mulC_succ 1000000000 a b (mulTo 1000000000 a b k) k j)
     clear hcell hao hcell' hao' hownq
     go_wp2
     go_region
     go_wp2
     go_roundw
     case rel => exact ⟨j + 1, by omega, by go_num, by rw [HC.out], by rw [HS.out]; exact (HST.out _).1, (HST.out _).2⟩
     case measure => simp [intOf]; omega
    ·have hje : j = b.length := by omega
     subst hje
     have hco := owns_cell hownq (i := k + b.length) (by omega)
     have hfz : wr.frozen? ⟨w.heap.size, k + b.length, none⟩ = false := hownq.frozenAt (k + b.length)
     have HST := Hid.mk (fun y => owns_store hownq hbq (k + b.length) y)
     have HS := Hid.mk (mulTo_succ 1000000000 a b k)
     clear hcell hao hcell' hao' hownq
     go_wp2
     go_roundw
     case rel => exact ⟨k + 1, by omega, by go_num, by rw [HS.out]; exact (HST.out _).1, (HST.out _).2⟩
     case measure => simp [intOf]; omega
  ·have hke : k = a.length := by omega
   subst hke
   have hr := Row.of_owns hown
   go_wp2_with (go_at_call 83; refine (significant_any _ _ _ (by exact hr)).mono ?_; rintro e w2 ⟨n, rfl, rfl, hsig⟩; have hn1 := hsig.1; rw [mulTo_length] at hn1)
   go_ret
   exact subtract_end rfl hr (mulTo_ok (by decide) DA.out DB.out _) (mul_done _ _ _) hsig hbw (fresh_of hown)

end Go.Proofs.Ytjahbjjekednfaa

namespace Go.Proofs.Ytjahbjjekednfaa
open Go.RowKit

theorem multiplyLimbs_any (x y : Int) (u v : Value) (w : World) (hx : Rp 2 1000000000 w u x) (hy : Rp 2 1000000000 w v y) (fx : Fit x) (fy : Fit y) :
  Calls Try.prog 53 #[u, v] w (RetRp 2 1000000000 w (x * y)) := by
 obtain ⟨a, hu, ca, rfl, la⟩ := hx.len (by decide) fx
 obtain ⟨b, hv, cb, rfl, lb⟩ := hy.len (by decide) fy
 exact multiplyLimbs_row a b u v w hu hv ca.1 cb.1 la lb

theorem limbAt_int (l : List Int) (v : Value) (i : Int) (w : World) (h0 : 0 ≤ i) (hi : i ≤ 9223372036854775807) (hr : Row w 2 v l) :
  Calls Try.prog 107 #[v, .int .i64 i] w fun e w' => e = .returned (.int .i64 (at0 l i.toNat)) ∧ w' = w := by
 obtain ⟨n, rfl⟩ := Int.eq_ofNat_of_zero_le h0
 exact limbAt_any l v n w (by omega) hr

set_option maxHeartbeats 1600000 in
theorem putBelow_any (x d : Int) (u : Value) (w : World) (hx : Rp 2 1000000000 w u x) (fx : Fit x) (hd : 0 ≤ d ∧ d < 1000000000) :
  Calls Try.prog 97 #[u, .int .i64 d] w (RetRp 2 1000000000 w (d + 1000000000 * x)) := by
 obtain ⟨a, hu, ca, rfl, la⟩ := hx.len (by decide) fx
 have DA := Hid.mk ca.1
 clear hx fx ca
 obtain ⟨i0, hi, hz0, hz1, hz2⟩ := info_parts Try.infoI64
 go_enter Try.func97, Try.ntmps97
 go_wp2_with (at_builtin; refine wpList_append_row _ rfl _ _ 37 rfl w.heap.size 2 i0 (.int .i64 0) 8 Try.underlying37 hi hz0 hz1 hz2 rfl _ 1 [d] a _ rfl ?c1 rfl ?c2 ?c3 ?c4 ?c5 ?_)
 case c1 => exact World.ownsRow_lit w #[.int .i64 d] 1 (Nat.le_refl _) (by decide) rfl
 case c2 => exact hu.keep (kp_alloc w _)
 case c3 => unfold maxLen; omega
 case c4 => omega
 case c5 => simp
 intro v' w1 hown hg
 have hk : Kp w w1 := (kp_alloc w _).grown' hg (fun k hk => by simp [Value.ownBlock] at hk; omega)
 have hr := Row.of_owns hown
 obtain ⟨ao, cap, hv', hc1, hc2⟩ := hr.slice
 have hfr := fresh_of hown
 clear hown hg
 subst hv'
 have hl1 : ([d] ++ a).length = a.length + 1 := by simp
 go_wp2_with (go_at_call 83; refine (significant_any _ _ _ (by exact hr)).mono ?_; rintro e w2 ⟨n, rfl, rfl, hsig⟩; have hn1 := hsig.1)
 go_ret
 exact subtract_end rfl hr (Dig.mk hd DA.out) rfl hsig hk hfr

set_option maxHeartbeats 1600000 in
theorem estimate_any (R D : List Int) (u v : Value) (w : World) (hu : Row w 2 u R) (hv : Row w 2 v D) (dR : Dig 1000000000 R) (cD : Canon 1000000000 D) (hl : 0 < D.length) :
  Calls Try.prog 98 #[u, v] w (RetV w (.int .i64 (estQ R D))) := by
 have h1 := dR D.length
 have h2 := dR (D.length - 1)
 have h3 := cD.1 (D.length - 1)
 have h4 : 1 ≤ at0 D (D.length - 1) := by
  have := cD.2 hl
  omega
 have hq : 0 ≤ (at0 R D.length * 1000000000 + at0 R (D.length - 1)) / at0 D (D.length - 1) ∧ (at0 R D.length * 1000000000 + at0 R (D.length - 1)) / at0 D (D.length - 1) ≤ 1000000000000000000 :=
  ⟨Int.ediv_nonneg (by omega) (by omega), Int.le_trans (Int.ediv_le_self _ (by omega)) (by omega)⟩
 clear dR cD
 obtain ⟨ao', cap', p', off', rfl, hcap', hmax', hn', hao', hcell'⟩ := hv
 have ha' := (hao' hl).1
 subst ha'
 have hc := hcell' (D.length - 1) (by omega)
 clear hn' hao' hcell'
 go_enter Try.func98, Try.ntmps98
 go_wp2_with (go_at_call 107; refine (limbAt_int R _ _ _ (by omega) (by omega) (by exact hu)).mono ?_; rintro e w2 ⟨rfl, rfl⟩)
 ·go_ret
  exact ⟨by rw [estQ, if_pos (by assumption)]; rfl, Below.refl _ _⟩
 ·have hlt : (at0 R D.length * 1000000000 + at0 R (D.length - 1)) / at0 D (D.length - 1) < 1000000000 := by assumption
  go_ret
  exact ⟨by rw [estQ, if_neg (by omega)]; rfl, Below.refl _ _⟩

end Go.Proofs.Ytjahbjjekednfaa
