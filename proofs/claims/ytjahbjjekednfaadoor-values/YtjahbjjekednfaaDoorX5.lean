import Derived.Test.YtjahbjjekednfaaDoorX4
namespace Go.Proofs.YtjahbjjekednfaaDoor
open Go.RowKit

/-- The square root of n, in its form. -/
def qsqrt (n : Nat) : Qn :=
  if n = 0 then ⟨0, 0, 1, 1⟩
  else if n / (sqf n 1000 * sqf n 1000) = 1 then ⟨sqf n 1000, 0, 1, 1⟩
  else ⟨0, sqf n 1000, 1, (n / (sqf n 1000 * sqf n 1000) : Nat)⟩

theorem qsqrt_of {n o s : Nat} (h : IsRoot n o s) (hn : n < 1000000) : qsqrt n = if s = 1 then ⟨o, 0, 1, 1⟩ else ⟨0, o, 1, s⟩ := by
  have h0 : 0 < n := by
    have := Nat.mul_pos (Nat.mul_pos h.op h.op) h.sp
    have := h.eq
    omega
  obtain ⟨e1, e2⟩ := h.unique (sqf_root h0 hn)
  unfold qsqrt
  rw [if_neg (by omega), ← e2, ← e1]

theorem root_step {n o s i : Nat} (he : o * o * s = n) (hd : s % (i * i) = 0) : (o * i) * (o * i) * (s / (i * i)) = n := by
  obtain ⟨t, ht⟩ := Nat.dvd_of_mod_eq_zero hd
  rcases Nat.eq_zero_or_pos (i * i) with h | h
  · have hi : i = 0 := by
      rcases Nat.eq_zero_or_pos i with e | e
      · exact e
      · have := Nat.mul_pos e e; omega
    subst hi
    rw [ht] at he
    simp at he
    rw [← he]; simp
  · rw [ht, Nat.mul_div_cancel_left _ h]
    rw [ht] at he
    rw [← he]
    grind

theorem le_of_sq {o n : Nat} (h : o * o ≤ n) (hn : n < 1000000) : o < 1000 := by
  rcases Nat.lt_or_ge o 1000 with h1 | h1
  · exact h1
  · have := Nat.mul_le_mul h1 h1
    omega

theorem ret_x {w w1 W : World} {a : Qn} {v : Value} (h : XN w1 v a) (hs : Sf 2 w1 W) (hk : Kp w W) : RetX w a (.returned v) W := ⟨v, rfl, h.soft hs, hk⟩

def RI (n o s i : Nat) : Prop := 0 < o ∧ 0 < s ∧ o * o * s = n ∧ ∀ k, 2 ≤ k → k < i → ¬ (k * k ∣ s)

theorem RI.done {n o s i : Nat} (h : RI n o s i) (hi : ¬ i ≤ s / i) (hip : 0 < i) : IsRoot n o s := by
  refine ⟨h.1, h.2.1, h.2.2.1, ?_⟩
  intro k hk hd
  refine h.2.2.2 k hk ?_ hd
  have h1 := Nat.le_of_dvd h.2.1 hd
  rcases Nat.lt_or_ge k i with h2 | h2
  · exact h2
  · exfalso
    apply hi
    rw [Nat.le_div_iff_mul_le hip]
    have := Nat.mul_le_mul h2 h2
    omega
theorem RI.down {n o s i : Nat} (h : RI n o s i) (hi : 0 < i) (hd : s % (i * i) = 0) : RI n (o * i) (s / (i * i)) i := by
  have hii : 0 < i * i := Nat.mul_pos hi hi
  have hdv := Nat.dvd_of_mod_eq_zero hd
  refine ⟨Nat.mul_pos h.1 hi, Nat.div_pos (Nat.le_of_dvd h.2.1 hdv) hii, root_step h.2.2.1 hd, ?_⟩
  intro k hk hki hkd
  exact h.2.2.2 k hk hki (Nat.dvd_trans hkd (Nat.div_dvd_of_dvd hdv))
theorem RI.next {n o s i : Nat} (h : RI n o s i) (hd : ¬ s % (i * i) = 0) : RI n o s (i + 1) := by
  refine ⟨h.1, h.2.1, h.2.2.1, ?_⟩
  intro k hk hki hkd
  rcases Nat.lt_or_ge k i with h1 | h1
  · exact h.2.2.2 k hk h1 hkd
  · have : k = i := by omega
    subst this
    exact hd (Nat.mod_eq_zero_of_dvd hkd)
theorem RI.bd {n o s i : Nat} (h : RI n o s i) (hn : n < 1000000) : 1 ≤ o ∧ o < 1000 ∧ 1 ≤ s ∧ s < 1000000 := by
  obtain ⟨h1, h2, h3, _⟩ := h
  have h4 : o * o ≤ n := by rw [← h3]; exact Nat.le_mul_of_pos_right _ h2
  have h5 : s ≤ n := by rw [← h3]; exact Nat.le_mul_of_pos_left _ (Nat.mul_pos h1 h1)
  exact ⟨h1, le_of_sq h4 hn, h2, by omega⟩

set_option maxHeartbeats 3200000 in
theorem root_zero (w : World) : Calls Tryd.prog 131 #[.int .i64 0] w (RetX w (qsqrt 0)) := by
  go_enter Tryd.func131, Tryd.ntmps131
  go_wp2_with fail
  have kp0 : Kp w _ := (Kp.alloc' (Below.refl w.heap.size w) (.cells #[.bool false, .slice none 0 0, .bool false, .slice none 0 0, .bool false, .slice none 0 0, .int .i64 0] 58))
  have sf0 : Sf 2 w _ := (Sf.alloc (Sf.refl 2 w) (.cells #[.bool false, .slice none 0 0, .bool false, .slice none 0 0, .bool false, .slice none 0 0, .int .i64 0] 58))
  refine (xfromInt_any 0 _ (by decide) (by decide)).mono ?_
  rintro e w1 ⟨v1, rfl, hv1, hk1⟩
  obtain ⟨b1, ao1, n1, c1, b2, ao2, n2, c2, b3, ao3, n3, c3, rfl, g1, g2, g3⟩ := id hv1
  clear g1 g2 g3
  have kq0 := kp0.trans' hk1
  have sq0 := sf0.trans (Sf.keep hk1)
  have B1res : Blk w1 (w.heap.size) #[.bool false, .slice none 0 0, .bool false, .slice none 0 0, .bool false, .slice none 0 0, .int .i64 0] 58 := Blk.keep hk1 (Blk.at (Blk.new _ _ _) (by simp))
  have B1resc := B1res.cell
  have B1resf := B1res.frozen
  have B1resl := B1res.lt
  have ge1res : w.heap.size ≤ w.heap.size := by (first | omega | (have := kp0.size; simp only [World.size_alloc, size_setCell', size_drew'] at this; omega))
  go_wp2_with fail
  refine bodyPost_ret (v := .agg #[.bool b1, .slice ao1 n1 c1, .bool b2, .slice ao2 n2 c2, .bool b3, .slice ao3 n3 c3, .int .i64 1]) (by simp [results, Tryd.results131, go_sem, B1resc]) rfl ?_
  have kpE : Kp w _ := (Below.setCell (Below.setCell (Below.setCell (Below.setCell (Below.setCell (Below.setCell (Below.setCell kq0 (p := ⟨w.heap.size, 0, none⟩) (by have := ge1res; omega) (.bool b1)) (p := ⟨w.heap.size, 1, none⟩) (by have := ge1res; omega) (.slice ao1 n1 c1)) (p := ⟨w.heap.size, 2, none⟩) (by have := ge1res; omega) (.bool b2)) (p := ⟨w.heap.size, 3, none⟩) (by have := ge1res; omega) (.slice ao2 n2 c2)) (p := ⟨w.heap.size, 4, none⟩) (by have := ge1res; omega) (.bool b3)) (p := ⟨w.heap.size, 5, none⟩) (by have := ge1res; omega) (.slice ao3 n3 c3)) (p := ⟨w.heap.size, 6, none⟩) (by have := ge1res; omega) (.int .i64 1))
  have sfE : Sf 2 w1 _ := (Sf.set (t := 58) (c := w.heap.size) (o := 6) (y := .int .i64 1) (Sf.set (t := 58) (c := w.heap.size) (o := 5) (y := .slice ao3 n3 c3) (Sf.set (t := 58) (c := w.heap.size) (o := 4) (y := .bool b3) (Sf.set (t := 58) (c := w.heap.size) (o := 3) (y := .slice ao2 n2 c2) (Sf.set (t := 58) (c := w.heap.size) (o := 2) (y := .bool b2) (Sf.set (t := 58) (c := w.heap.size) (o := 1) (y := .slice ao1 n1 c1) (Sf.set (t := 58) (c := w.heap.size) (o := 0) (y := .bool b1) (Sf.refl 2 w1) (by first | (simp only [elemOf_setCell]; exact B1res.elem) | exact B1res.elem) (by decide)) (by first | (simp only [elemOf_setCell]; exact B1res.elem) | exact B1res.elem) (by decide)) (by first | (simp only [elemOf_setCell]; exact B1res.elem) | exact B1res.elem) (by decide)) (by first | (simp only [elemOf_setCell]; exact B1res.elem) | exact B1res.elem) (by decide)) (by first | (simp only [elemOf_setCell]; exact B1res.elem) | exact B1res.elem) (by decide)) (by first | (simp only [elemOf_setCell]; exact B1res.elem) | exact B1res.elem) (by decide)) (by first | (simp only [elemOf_setCell]; exact B1res.elem) | exact B1res.elem) (by decide))
  exact ret_x hv1 sfE kpE

set_option maxHeartbeats 3200000 in
theorem root_pos (n : Nat) (w : World) (h0 : 0 < n) (hn : n < 1000000) : Calls Tryd.prog 131 #[.int .i64 (n : Int)] w (RetX w (qsqrt n)) := by
  have hne : (n = 0) = False := by simp; omega
  go_enter Tryd.func131, Tryd.ntmps131
  go_wp2_with fail
  go_loop [3, 4, 5] (fun x y z => ∃ o s i : Nat, x = .int .i64 (o : Int) ∧ y = .int .i64 (s : Int) ∧ z = .int .i64 (i : Int) ∧ Hid (RI n o s i) ∧ 2 ≤ i ∧ i ≤ 1001) (fun _ _ z => 2000 - (intOf z).toNat)
  case atStart => exact ⟨1, n, 2, rfl, rfl, rfl, ⟨by decide, h0, by simp, fun k h1 h2 => by omega⟩, by omega, by omega⟩
  case round =>
    obtain ⟨o, s, i, rfl, rfl, rfl, hri, hi2, hi3⟩ := hrel
    have hbd := hri.out.bd hn
    have hqb : 0 ≤ (s : Int) / (i : Int) ∧ (s : Int) / (i : Int) ≤ 1000000 := by
      have h1 := Nat.div_le_self s i
      have h2 : s / i ≤ 1000000 := by omega
      rw [← Int.natCast_ediv]
      exact ⟨Int.natCast_nonneg _, Int.ofNat_le.2 h2⟩
    by_cases hc : i ≤ s / i
    · have hc' : (i : Int) ≤ (s : Int) / (i : Int) := by have : ((s / i : Nat) : Int) = (s : Int) / (i : Int) := Int.natCast_ediv _ _; omega
      have hisq : i * i ≤ s := by rw [Nat.le_div_iff_mul_le (by omega)] at hc; exact hc
      have hi4 : i < 1000 := le_of_sq hisq (by omega)
      have HC := Hid.mk hc
      clear hc hisq
      go_wp2_with fail
      go_loop [3, 4] (fun x y => ∃ o s : Nat, x = .int .i64 (o : Int) ∧ y = .int .i64 (s : Int) ∧ Hid (RI n o s i)) (fun _ y => (intOf y).toNat)
      case atStart => exact ⟨o, s, rfl, rfl, hri⟩
      case round =>
        obtain ⟨o, s, rfl, rfl, hri⟩ := hrel
        clear hbd
        have hbd := hri.out.bd hn
        have hii : 4 ≤ i * i ∧ i * i ≤ 1000000 := ⟨Nat.mul_le_mul hi2 hi2, by have := Nat.mul_le_mul (show i ≤ 1000 by omega) (show i ≤ 1000 by omega); omega⟩
        have hii' : (4 : Int) ≤ (i : Int) * (i : Int) ∧ (i : Int) * (i : Int) ≤ 1000000 := by rw [← Int.natCast_mul]; omega
        by_cases hd : s % (i * i) = 0
        · have hd' : ((s : Int) % ((i : Int) * (i : Int)) == 0) = true := by
            rw [← Int.natCast_mul, ← Int.natCast_emod, hd]; rfl
          have hri' := hri.out.down (by omega) hd
          have hbd' := hri'.bd hn
          have hoi : (o : Int) * (i : Int) ≤ 1000 ∧ 0 ≤ (o : Int) * (i : Int) := by rw [← Int.natCast_mul]; omega
          have hqb2 : 0 ≤ (s : Int) / ((i : Int) * (i : Int)) ∧ (s : Int) / ((i : Int) * (i : Int)) ≤ 1000000 := by
            have h1 := Nat.div_le_self s (i * i)
            have h2 : s / (i * i) ≤ 1000000 := by omega
            rw [← Int.natCast_mul, ← Int.natCast_ediv]
            exact ⟨Int.natCast_nonneg _, Int.ofNat_le.2 h2⟩
          have HRI := Hid.mk hri'
          have HM : Hid (s / (i * i) < s) := Nat.div_lt_self (by omega) (by omega)
          have HE1 : Hid ((s : Int) / ((i : Int) * (i : Int)) = ((s / (i * i) : Nat) : Int)) := by unfold Hid; rw [← Int.natCast_mul, ← Int.natCast_ediv]
          have HE2 : Hid ((o : Int) * (i : Int) = ((o * i : Nat) : Int)) := by unfold Hid; rw [Int.natCast_mul]
          clear hri' hbd' hii hd hri
          go_wp2_with fail
          go_round
          case rel => exact ⟨o * i, s / (i * i), by rw [HE2.out], by rw [HE1.out], HRI⟩
          case measure => simp only [intOf]; rw [HE1.out]; have := HM.out; omega
        · have hd' : ((s : Int) % ((i : Int) * (i : Int)) == 0) = false := beq_eq_false_iff_ne.2 (fun h => hd (by exact_mod_cast h))
          have HRI := Hid.mk (hri.out.next hd)
          clear hii hd hri
          go_wp2_with fail
          go_round
          case rel => exact ⟨o, s, i + 1, rfl, rfl, by go_num, HRI, by omega, by omega⟩
          case measure => simp [intOf]; omega
    · have hc' : ¬ (i : Int) ≤ (s : Int) / (i : Int) := by have : ((s / i : Nat) : Int) = (s : Int) / (i : Int) := Int.natCast_ediv _ _; omega
      have HR := hri.out.done hc (by omega)
      have HQ' := qsqrt_of HR hn
      clear hc HR
      by_cases hs : s = 1
      · have hsb : ((s : Int) == 1) = true := by simp [hs]
        rw [if_pos hs] at HQ'
        have HQ := Hid.mk HQ'
        clear HQ' hs
        go_wp2_with fail
        have kp0 : Kp w _ := (Kp.alloc' (Below.refl w.heap.size w) (.cells #[.bool false, .slice none 0 0, .bool false, .slice none 0 0, .bool false, .slice none 0 0, .int .i64 0] 58))
        have sf0 : Sf 2 w _ := (Sf.alloc (Sf.refl 2 w) (.cells #[.bool false, .slice none 0 0, .bool false, .slice none 0 0, .bool false, .slice none 0 0, .int .i64 0] 58))
        refine (xfromInt_any (o : Int) _ (by omega) (by omega)).mono ?_
        rintro e w1 ⟨v1, rfl, hv1, hk1⟩
        obtain ⟨b1, ao1, n1, c1, b2, ao2, n2, c2, b3, ao3, n3, c3, rfl, g1, g2, g3⟩ := id hv1
        clear g1 g2 g3
        have kq0 := kp0.trans' hk1
        have sq0 := sf0.trans (Sf.keep hk1)
        have B1res : Blk w1 (w.heap.size) #[.bool false, .slice none 0 0, .bool false, .slice none 0 0, .bool false, .slice none 0 0, .int .i64 0] 58 := Blk.keep hk1 (Blk.at (Blk.new _ _ _) (by simp))
        have B1resc := B1res.cell
        have B1resf := B1res.frozen
        have B1resl := B1res.lt
        have ge1res : w.heap.size ≤ w.heap.size := by (first | omega | (have := kp0.size; simp only [World.size_alloc, size_setCell', size_drew'] at this; omega))
        go_wp2_with fail
        refine bodyPost_ret (v := .agg #[.bool b1, .slice ao1 n1 c1, .bool b2, .slice ao2 n2 c2, .bool b3, .slice ao3 n3 c3, .int .i64 1]) (by simp [results, Tryd.results131, go_sem, B1resc]) rfl ?_
        have kpE : Kp w _ := (Below.setCell (Below.setCell (Below.setCell (Below.setCell (Below.setCell (Below.setCell (Below.setCell kq0 (p := ⟨w.heap.size, 0, none⟩) (by have := ge1res; omega) (.bool b1)) (p := ⟨w.heap.size, 1, none⟩) (by have := ge1res; omega) (.slice ao1 n1 c1)) (p := ⟨w.heap.size, 2, none⟩) (by have := ge1res; omega) (.bool b2)) (p := ⟨w.heap.size, 3, none⟩) (by have := ge1res; omega) (.slice ao2 n2 c2)) (p := ⟨w.heap.size, 4, none⟩) (by have := ge1res; omega) (.bool b3)) (p := ⟨w.heap.size, 5, none⟩) (by have := ge1res; omega) (.slice ao3 n3 c3)) (p := ⟨w.heap.size, 6, none⟩) (by have := ge1res; omega) (.int .i64 1))
        have sfE : Sf 2 w1 _ := (Sf.set (t := 58) (c := w.heap.size) (o := 6) (y := .int .i64 1) (Sf.set (t := 58) (c := w.heap.size) (o := 5) (y := .slice ao3 n3 c3) (Sf.set (t := 58) (c := w.heap.size) (o := 4) (y := .bool b3) (Sf.set (t := 58) (c := w.heap.size) (o := 3) (y := .slice ao2 n2 c2) (Sf.set (t := 58) (c := w.heap.size) (o := 2) (y := .bool b2) (Sf.set (t := 58) (c := w.heap.size) (o := 1) (y := .slice ao1 n1 c1) (Sf.set (t := 58) (c := w.heap.size) (o := 0) (y := .bool b1) (Sf.refl 2 w1) (by first | (simp only [elemOf_setCell]; exact B1res.elem) | exact B1res.elem) (by decide)) (by first | (simp only [elemOf_setCell]; exact B1res.elem) | exact B1res.elem) (by decide)) (by first | (simp only [elemOf_setCell]; exact B1res.elem) | exact B1res.elem) (by decide)) (by first | (simp only [elemOf_setCell]; exact B1res.elem) | exact B1res.elem) (by decide)) (by first | (simp only [elemOf_setCell]; exact B1res.elem) | exact B1res.elem) (by decide)) (by first | (simp only [elemOf_setCell]; exact B1res.elem) | exact B1res.elem) (by decide)) (by first | (simp only [elemOf_setCell]; exact B1res.elem) | exact B1res.elem) (by decide))
        rw [HQ.out]
        exact ret_x hv1 sfE kpE
      · have hsb : ((s : Int) == 1) = false := by simp; omega
        rw [if_neg hs] at HQ'
        have HQ := Hid.mk HQ'
        clear HQ' hs
        go_wp2_with fail
        have kp0 : Kp w _ := (Kp.alloc' (Below.refl w.heap.size w) (.cells #[.bool false, .slice none 0 0, .bool false, .slice none 0 0, .bool false, .slice none 0 0, .int .i64 0] 58))
        have sf0 : Sf 2 w _ := (Sf.alloc (Sf.refl 2 w) (.cells #[.bool false, .slice none 0 0, .bool false, .slice none 0 0, .bool false, .slice none 0 0, .int .i64 0] 58))
        refine (fromInt_any (o : Int) _ (by omega) (by omega)).mono ?_
        rintro e w1 ⟨v1, rfl, hv1, hk1⟩
        obtain ⟨b1, ao1, n1, c1, rfl⟩ := hv1.shape'
        have kq0 := kp0.trans' hk1
        have sq0 := sf0.trans (Sf.keep hk1)
        have B1res : Blk w1 (w.heap.size) #[.bool false, .slice none 0 0, .bool false, .slice none 0 0, .bool false, .slice none 0 0, .int .i64 0] 58 := Blk.keep hk1 (Blk.at (Blk.new _ _ _) (by simp))
        have B1resc := B1res.cell
        have B1resf := B1res.frozen
        have B1resl := B1res.lt
        have ge1res : w.heap.size ≤ w.heap.size := by (first | omega | (have := kp0.size; simp only [World.size_alloc, size_setCell', size_drew'] at this; omega))
        go_wp2_with fail
        have kp1 : Kp w _ := (Kp.alloc' kq0 (.cells #[.bool b1, .slice ao1 n1 c1] 56))
        have sf1 : Sf 2 w1 _ := (Sf.alloc (Sf.refl 2 w1) (.cells #[.bool b1, .slice ao1 n1 c1] 56))
        refine (fromInt_any 1 _ (by decide) (by decide)).mono ?_
        rintro e w2 ⟨v2, rfl, hv2, hk2⟩
        obtain ⟨b2, ao2, n2, c2, rfl⟩ := hv2.shape'
        have kq1 := kp1.trans' hk2
        have sq1 := sf1.trans (Sf.keep hk2)
        have B2res : Blk w2 (w.heap.size) #[.bool false, .slice none 0 0, .bool false, .slice none 0 0, .bool false, .slice none 0 0, .int .i64 0] 58 := Blk.keep hk2 (Blk.alloc B1res _)
        have B2q : Blk w2 (w1.heap.size) #[.bool b1, .slice ao1 n1 c1] 56 := Blk.keep hk2 (Blk.at (Blk.new _ _ _) (by simp))
        have B2resc := B2res.cell
        have B2resf := B2res.frozen
        have B2resl := B2res.lt
        have ge2res : w.heap.size ≤ w.heap.size := by (first | omega | (have := kp1.size; simp only [World.size_alloc, size_setCell', size_drew'] at this; omega))
        have B2qc := B2q.cell
        have B2qf := B2q.frozen
        have B2ql := B2q.lt
        have ge2q : w.heap.size ≤ w1.heap.size := by (first | omega | (have := kp1.size; simp only [World.size_alloc, size_setCell', size_drew'] at this; omega))
        replace hv1 := hv1.soft sq1
        clear B1res B1resc B1resf
        go_wp2_with fail
        refine bodyPost_ret (v := .agg #[.bool false, .slice none 0 0, .bool b1, .slice ao1 n1 c1, .bool b2, .slice ao2 n2 c2, .int .i64 (s : Int)]) (by simp [results, Tryd.results131, go_sem, B2resc, B2resl]) rfl ?_
        have kpE : Kp w _ := (Kp.alloc' (Below.setCell (Below.setCell (Below.setCell (Below.setCell (Below.setCell (Below.setCell (Below.setCell kq1 (p := ⟨w.heap.size, 0, none⟩) (by have := ge2res; omega) (.bool false)) (p := ⟨w.heap.size, 1, none⟩) (by have := ge2res; omega) (.slice none 0 0)) (p := ⟨w.heap.size, 2, none⟩) (by have := ge2res; omega) (.bool b1)) (p := ⟨w.heap.size, 3, none⟩) (by have := ge2res; omega) (.slice ao1 n1 c1)) (p := ⟨w.heap.size, 4, none⟩) (by have := ge2res; omega) (.bool b2)) (p := ⟨w.heap.size, 5, none⟩) (by have := ge2res; omega) (.slice ao2 n2 c2)) (p := ⟨w.heap.size, 6, none⟩) (by have := ge2res; omega) (.int .i64 (s : Int))) (.cells #[.bool b2, .slice ao2 n2 c2] 56))
        have sfE : Sf 2 w2 _ := (Sf.alloc (Sf.set (t := 58) (c := w.heap.size) (o := 6) (y := .int .i64 (s : Int)) (Sf.set (t := 58) (c := w.heap.size) (o := 5) (y := .slice ao2 n2 c2) (Sf.set (t := 58) (c := w.heap.size) (o := 4) (y := .bool b2) (Sf.set (t := 58) (c := w.heap.size) (o := 3) (y := .slice ao1 n1 c1) (Sf.set (t := 58) (c := w.heap.size) (o := 2) (y := .bool b1) (Sf.set (t := 58) (c := w.heap.size) (o := 1) (y := .slice none 0 0) (Sf.set (t := 58) (c := w.heap.size) (o := 0) (y := .bool false) (Sf.refl 2 w2) (by first | (simp only [elemOf_setCell]; exact B2res.elem) | exact B2res.elem) (by decide)) (by first | (simp only [elemOf_setCell]; exact B2res.elem) | exact B2res.elem) (by decide)) (by first | (simp only [elemOf_setCell]; exact B2res.elem) | exact B2res.elem) (by decide)) (by first | (simp only [elemOf_setCell]; exact B2res.elem) | exact B2res.elem) (by decide)) (by first | (simp only [elemOf_setCell]; exact B2res.elem) | exact B2res.elem) (by decide)) (by first | (simp only [elemOf_setCell]; exact B2res.elem) | exact B2res.elem) (by decide)) (by first | (simp only [elemOf_setCell]; exact B2res.elem) | exact B2res.elem) (by decide)) (.cells #[.bool b2, .slice ao2 n2 c2] 56))
        rw [HQ.out]
        exact ret_x (XN.mk3 (a := ⟨0, o, 1, s⟩) (wn_zero _) hv1 hv2 rfl) sfE kpE

theorem root_any (n : Nat) (w : World) (hn : n < 1000000) : Calls Tryd.prog 131 #[.int .i64 (n : Int)] w (RetX w (qsqrt n)) := by
  rcases Nat.eq_zero_or_pos n with h | h
  · subst h
    exact root_zero w
  · exact root_pos n w h hn

end Go.Proofs.YtjahbjjekednfaaDoor
