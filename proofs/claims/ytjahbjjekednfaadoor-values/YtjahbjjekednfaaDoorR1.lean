import Derived.Test.YtjahbjjekednfaaDoorSoft
namespace Go.Proofs.YtjahbjjekednfaaDoor
open Go.RowKit

theorem Tryd.infoInt : (Tryd.prog.info? 3).map (fun i => (i.zero, i.size, i.bytes)) = some (some (.int .i64 0), 1, 8) := by kernel_rfl

theorem at0_reverse {m : List Int} {i : Nat} (h : i < m.length) : at0 m.reverse i = at0 m (m.length - 1 - i) := by
  rw [at0_eq (by simpa using h), at0_eq (by omega)]
  simp

/-- v reads as the digits m (the least first in m, the highest first in memory). -/
def RowR (w : World) (v : Value) (m : List Int) : Prop := Row w 3 v m.reverse
/-- v reads as the number x, from 0 on, to the base of 10000, the highest digit first. -/
def Rb (w : World) (v : Value) (x : Int) : Prop := ∃ m, RowR w v m ∧ Canon 10000 m ∧ val 10000 m = x

set_option maxHeartbeats 400000 in
theorem at_any (m : List Int) (v : Value) (k : Nat) (w : World) (hk : k ≤ 9223372036854775807) (hr : RowR w v m) :
    Calls Tryd.prog 124 #[v, .int .i64 k] w fun e w' => e = .returned (.int .i64 (at0 m k)) ∧ w' = w := by
  obtain ⟨ao, cap, b, off, rfl, hcap, hmax, hn, hao, hcell⟩ := hr
  rw [List.length_reverse] at hcap hao hcell
  rw [List.length_reverse]
  by_cases h : k < m.length
  · have ha := (hao (by omega)).1
    subst ha
    have hc := hcell (m.length - 1 - k) (by omega)
    rw [at0_reverse (by omega), show m.length - 1 - (m.length - 1 - k) = k by omega] at hc
    clear hcell hao hn
    go_enter Tryd.func124, Tryd.ntmps124
    go_wp2
    go_ret
    exact ⟨rfl, rfl⟩
  · have HE := Hid.mk (at0_ge (l := m) (i := k) (by omega))
    clear hcell hao hn
    go_enter Tryd.func124, Tryd.ntmps124
    go_wp2
    go_ret
    exact ⟨by rw [HE.out]; rfl, rfl⟩

theorem at_int (m : List Int) (v : Value) (k : Int) (w : World) (h0 : 0 ≤ k) (hk : k ≤ 9223372036854775807) (hr : RowR w v m) :
    Calls Tryd.prog 124 #[v, .int .i64 k] w fun e w' => e = .returned (.int .i64 (at0 m k.toNat)) ∧ w' = w := by
  obtain ⟨n, rfl⟩ := Int.eq_ofNat_of_zero_le h0
  exact at_any m v n w (by omega) hr

theorem RowR.slice {w : World} {v : Value} {m : List Int} (h : RowR w v m) : ∃ ao cap, v = .slice ao m.length cap ∧ m.length ≤ cap ∧ cap ≤ 9223372036854775807 := by
  have := Row.slice h
  rwa [List.length_reverse] at this

/-- Of two lists of digits that agree from k + 1 on the one that is less at k is less; whatever their lengths. -/
theorem val_lt_top {B : Int} (hB : 0 < B) {l m : List Int} (hl : Dig B l) (hm : Dig B m) {k : Nat} (heq : ∀ i, k < i → at0 l i = at0 m i) (hlt : at0 l k < at0 m k) : val B l < val B m := by
  have hpad : ∀ (x : List Int) (n : Nat), val B (x ++ List.replicate n 0) = val B x := fun x n => by rw [val_append, val_replicate]; simp
  have hat : ∀ (x : List Int) (n i : Nat), at0 (x ++ List.replicate n 0) i = at0 x i := by
    intro x n i
    rcases Nat.lt_or_ge i x.length with h | h
    · rw [at0_append_lt h]
    · rw [at0_append_ge h, at0_replicate, at0_ge h]
  have hdig : ∀ (x : List Int) (n : Nat), Dig B x → Dig B (x ++ List.replicate n 0) := fun x n hx i => by rw [hat]; exact hx i
  rw [← hpad l (m.length + k + 1), ← hpad m (l.length + k + 1)]
  refine val_lt_of_top hB (hdig l _ hl) (hdig m _ hm) (by simp; omega) (k := k) (by simp; omega) (fun i hi => by rw [hat, hat]; exact heq i hi) (by rw [hat, hat]; exact hlt)
theorem val_eq_of {B : Int} {l m : List Int} (h : ∀ i, at0 l i = at0 m i) : val B l = val B m := by
  have hpad : ∀ (x : List Int) (n : Nat), val B (x ++ List.replicate n 0) = val B x := fun x n => by rw [val_append, val_replicate]; simp
  have hat : ∀ (x : List Int) (n i : Nat), at0 (x ++ List.replicate n 0) i = at0 x i := by
    intro x n i
    rcases Nat.lt_or_ge i x.length with h | h
    · rw [at0_append_lt h]
    · rw [at0_append_ge h, at0_replicate, at0_ge h]
  rw [← hpad l m.length, ← hpad m l.length]
  rw [ext_at0 (l := l ++ List.replicate m.length 0) (m := m ++ List.replicate l.length 0) (by simp; omega) (fun i _ => by rw [hat, hat]; exact h i)]

set_option maxHeartbeats 1600000 in
theorem order_any (x y : Int) (u v : Value) (w : World) (hx : Rb w u x) (hy : Rb w v y) :
    Calls Tryd.prog 123 #[u, v] w (RetV w (.int .i64 (cmp3 x y))) := by
  obtain ⟨l, hu, cl, rfl⟩ := hx
  obtain ⟨m, hv, cm, rfl⟩ := hy
  obtain ⟨ao, cap, hu1, hu2, hu3⟩ := hu.slice
  obtain ⟨ao', cap', hv1, hv2, hv3⟩ := hv.slice
  subst hu1
  subst hv1
  have CL := Hid.mk cl
  have CM := Hid.mk cm
  clear cl cm
  have key : ∀ N : Nat, l.length ≤ N → m.length ≤ N → N ≤ 9223372036854775807 → ∀ i, N ≤ i → at0 l i = at0 m i := fun N h1 h2 _ i hi => by rw [at0_ge (by omega), at0_ge (by omega)]
  by_cases hlen : l.length < m.length
  all_goals
    go_enter Tryd.func123, Tryd.ntmps123
    go_wp2_with fail
    go_loop [6, 7, 8] (fun i _ _ => ∃ k : Nat, k ≤ 9223372036854775807 ∧ i = .int .i64 ((k : Int) - 1) ∧ Hid (∀ j, k ≤ j → at0 l j = at0 m j)) (fun i _ _ => (intOf i + 1).toNat)
    case atStart => first | exact ⟨m.length, by omega, rfl, key m.length (by omega) (by omega) (by omega)⟩ | exact ⟨l.length, by omega, rfl, key l.length (by omega) (by omega) (by omega)⟩
    case round =>
      obtain ⟨k, hk, rfl, hz⟩ := hrel
      clear key
      by_cases h0 : 0 < k
      · rcases Int.lt_trichotomy (at0 l (k - 1)) (at0 m (k - 1)) with hc | hc | hc
        · have HR := Hid.mk (cmp3_lt (val_lt_top (B := 10000) (by decide) CL.out.1 CM.out.1 (k := k - 1) (fun j hj => hz.out j (by omega)) hc))
          go_wp2_with fail
          refine (at_int l _ _ _ (by omega) (by omega) hu).mono ?_
          rintro e w1 ⟨rfl, rfl⟩
          rw [show ((k : Int) - 1).toNat = k - 1 by omega]
          go_wp2_with fail
          refine (at_int m _ _ _ (by omega) (by omega) hv).mono ?_
          rintro e w1 ⟨rfl, rfl⟩
          rw [show ((k : Int) - 1).toNat = k - 1 by omega]
          go_wp2_with fail
          go_ret
          exact ⟨by rw [HR.out]; rfl, Below.refl _ _⟩
        · have HC := Hid.mk hc
          have n1 : ¬ at0 l (k - 1) < at0 m (k - 1) := by omega
          have n2 : ¬ at0 m (k - 1) < at0 l (k - 1) := by omega
          clear hc
          go_wp2_with fail
          refine (at_int l _ _ _ (by omega) (by omega) hu).mono ?_
          rintro e w1 ⟨rfl, rfl⟩
          rw [show ((k : Int) - 1).toNat = k - 1 by omega]
          go_wp2_with fail
          refine (at_int m _ _ _ (by omega) (by omega) hv).mono ?_
          rintro e w1 ⟨rfl, rfl⟩
          rw [show ((k : Int) - 1).toNat = k - 1 by omega]
          go_wp2_with fail
          go_round
          case rel => exact ⟨k - 1, by omega, by go_num, fun j hj => by
            rcases Nat.lt_or_ge j k with h | h
            · rw [show j = k - 1 by omega]; exact HC.out
            · exact hz.out j h⟩
          case measure => simp [intOf]; omega
        · have HR := Hid.mk (cmp3_gt (val_lt_top (B := 10000) (by decide) CM.out.1 CL.out.1 (k := k - 1) (fun j hj => (hz.out j (by omega)).symm) hc))
          have n1 : ¬ at0 l (k - 1) < at0 m (k - 1) := by omega
          go_wp2_with fail
          refine (at_int l _ _ _ (by omega) (by omega) hu).mono ?_
          rintro e w1 ⟨rfl, rfl⟩
          rw [show ((k : Int) - 1).toNat = k - 1 by omega]
          go_wp2_with fail
          refine (at_int m _ _ _ (by omega) (by omega) hv).mono ?_
          rintro e w1 ⟨rfl, rfl⟩
          rw [show ((k : Int) - 1).toNat = k - 1 by omega]
          go_wp2_with fail
          go_ret
          exact ⟨by rw [HR.out]; rfl, Below.refl _ _⟩
      · have HE := Hid.mk (val_eq_of (B := 10000) (l := l) (m := m) (fun i => hz.out i (by omega)))
        go_wp2_with fail
        go_ret
        exact ⟨by rw [cmp3_eq HE.out]; rfl, Below.refl _ _⟩

end Go.Proofs.YtjahbjjekednfaaDoor
