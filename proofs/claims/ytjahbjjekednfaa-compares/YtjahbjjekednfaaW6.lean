import Derived.Test.YtjahbjjekednfaaW1
namespace Go.Proofs.Ytjahbjjekednfaa
open Go.RowKit

/-- Two numbers. -/
def RetRp2 (E : TypeId) (B : Int) (w : World) (x y : Int) (e : Ending) (w' : World) : Prop := ∃ u v, e = .returned (.tuple #[u, v]) ∧ Rp E B w' u x ∧ Rp E B w' v y ∧ Kp w w'

theorem row_lit1 (w : World) (E : TypeId) (d : Int) : Row (w.alloc (.cells #[.int .i64 d] E)) E (.slice (some ⟨w.heap.size, 0, none⟩) 1 1) [d] :=
 Row.of_owns (base := w.heap.size) (n := 1) (World.ownsRow_lit w #[.int .i64 d] 1 (Nat.le_refl _) (by decide) rfl)
theorem rp_nil (w : World) (E : TypeId) : Rp E 1000000000 (w.alloc (.cells #[] E)) (.slice (some ⟨w.heap.size, 0, none⟩) 0 0) 0 :=
 ⟨[], Row.of_owns (base := w.heap.size) (n := 0) (World.ownsRow_made w #[] 0 (Nat.le_refl _) (by decide) rfl), Canon.nil (by decide), rfl⟩
theorem val_one (B d : Int) : val B [d] = d := by simp [val]

theorem scale_bd {b : List Int} (cb : Canon 1000000000 b) (hl : 0 < b.length) : 1 ≤ 1000000000 / (at0 b (b.length - 1) + 1) ∧ 1000000000 / (at0 b (b.length - 1) + 1) < 1000000000 := by
 have h1 := cb.1 (b.length - 1)
 have h2 := cb.2 hl
 constructor
 ·rw [Int.le_ediv_iff_mul_le (by omega)]; omega
 ·apply Int.ediv_lt_of_lt_mul (by omega); omega

set_option maxHeartbeats 1600000 in
theorem divideLimbs_zero (x : Int) (u v : Value) (w : World) (hx : Rp 2 1000000000 w u x) (hy : Rp 2 1000000000 w v 0) (fx : Fit x) :
  Calls Try.prog 90 #[u, v] w (RetRp2 2 1000000000 w 0 x) := by
 obtain ⟨b, hv, cb, hb⟩ := hy
 have hb0 := (cb.zero_iff (by decide)).2 hb
 have : b = [] := List.eq_nil_of_length_eq_zero hb0
 subst this
 obtain ⟨ao, cap, rfl, hc1, hc2⟩ := hv.slice
 clear hv cb hb hb0 hc1
 go_enter Try.func90, Try.ntmps90
 go_wp2_with (go_at_call 51; refine (copyLimbs_any x _ _ (by exact hx) fx).mono ?_; rintro e w1 ⟨v1, rfl, hv1, hk1, hfv1⟩)
 go_ret2
 exact ⟨_, _, rfl, rp_nil _ _, hv1.keep (kp_alloc _ _), hk1.alloc' _⟩

set_option maxHeartbeats 3000000 in
set_option maxRecDepth 100000 in
theorem divideLimbs_pos (x y : Int) (m : Nat) (u v : Value) (w : World) (hx : Rp 2 1000000000 w u x) (hy : Rp 2 1000000000 w v y) (hm : m ≤ 300000000) (fx : Ft m x) (fy : Ft m y) (hy0 : y ≠ 0) :
  Calls Try.prog 90 #[u, v] w (RetRp2 2 1000000000 w (x / y) (x % y)) := by
 obtain ⟨a, hu, ca, hxa, la⟩ := hx.len (by decide) (fx.fit (by omega))
 obtain ⟨b, hv, cb, hyb, lb⟩ := hy.len (by decide) (fy.fit (by omega))
 have hl : 0 < b.length := by
  rcases Nat.eq_zero_or_pos b.length with h | h
  ·exact absurd (hyb ▸ (cb.zero_iff (by decide)).1 h) hy0
  ·exact h
 have hs := scale_bd cb hl
 have htop := cb.1 (b.length - 1)
 obtain ⟨ao', cap', p', off', rfl, hcap', hmax', hn', hao', hcell'⟩ := id hv
 have ha' := (hao' hl).1
 subst ha'
 have hc := hcell' (b.length - 1) (by omega)
 clear hn' hao' hcell'
 have Hxa := Hid.mk hxa
 have Hyb := Hid.mk hyb
 have CA := Hid.mk ca
 have CB := Hid.mk cb
 have Hy0 := Hid.mk hy0
 clear hxa hyb ca cb hy0
 obtain ⟨i0, hi, hz0, hz1, hz2⟩ := info_parts Try.infoI64
 go_enter Try.func90, Try.ntmps90
 go_wp2_with fail
 generalize 1000000000 / (at0 b (b.length - 1) + 1) = s at *
 have ds : Dig 1000000000 [s] := Dig.mk ⟨by omega, hs.2⟩ (Dig.nil (by decide))
 refine (multiplyLimbs_row a [s] _ _ _ (hu.keep (kp_alloc w _)) (row_lit1 w _ s) CA.out.1 ds la (by simp)).mono ?_
 rintro e w1 ⟨v1, rfl, hv1, hk1, hfv1⟩
 have hk1' := (kp_alloc w _).trans' hk1
 go_wp2_with fail
 refine (multiplyLimbs_row b [s] _ _ _ (hv.keep hk1') ((row_lit1 w _ s).keep hk1) CB.out.1 ds lb (by simp)).mono ?_
 rintro e w2 ⟨v2, rfl, hv2, hk2, hfv2⟩
 rw [val_one] at hv1 hv2
 have hk2' := hk1'.trans' hk2
 have hv1 := hv1.keep hk2
 have HXV := Hid.mk (rfl : val 1000000000 a * s = val 1000000000 a * s)
 have fX : Ft (m + 9) (val 1000000000 a * s) := by rw [Hxa.out]; exact fx.mul (by unfold Ft; omega)
 have fY : Ft (m + 9) (val 1000000000 b * s) := by rw [Hyb.out]; exact fy.mul (by unfold Ft; omega)
 obtain ⟨X, hX, cX, hXv, lX⟩ := hv1.len (by decide) (fX.fit (by omega))
 obtain ⟨D, hD, cD, hDv, lD⟩ := hv2.len (by decide) (fY.fit (by omega))
 have hYp : 0 < val 1000000000 D := by
  rw [hDv]
  have h0 := CB.out.pos (by decide) hl
  exact Int.mul_pos h0 (by omega)
 have hDl : 0 < D.length := by
  rcases Nat.eq_zero_or_pos D.length with h | h
  ·have := (cD.zero_iff (by decide)).1 h; omega
  ·exact h
 rw [← hXv] at fX
 rw [← hDv] at fY
 have CX := Hid.mk cX
 have CD := Hid.mk cD
 have HXv := Hid.mk hXv
 have HDv := Hid.mk hDv
 have hKuv := hk2'
 have hu2 := hx.keep hk2'
 have hvv2 := hy.keep hk2'
 clear hXv hDv cX cD hv1 hv2 hk1 hk2 hk1' hk2' ds hc hv hu HXV hx hy hcap' hmax' htop
 obtain ⟨aoX, capX, pX, offX, hvX, hcX, hmX, hnX, haoX, hcellX⟩ := id hX
 obtain ⟨aoD, capD, hvD, hcD, hmD⟩ := hD.slice
 subst hvX
 subst hvD
 have hQx : val 1000000000 X / val 1000000000 D = x / y := by rw [HXv.out, HDv.out, Hxa.out, Hyb.out]; exact scale_div (by omega)
 have HQx := Hid.mk hQx
 clear hQx
 by_cases hst : X.length + 1 < D.length
 ·have hlt := CX.out.lt_of_len (by decide) CD.out (by omega)
  have hX0 := CX.out.1.val_nonneg (B := 1000000000) (by decide)
  have HQ0 : Hid (x / y = 0) := by
   rw [← HQx.out]; exact Int.ediv_eq_zero_of_lt hX0 hlt
  clear hlt hX0
  go_wp2_with (at_make; refine wpList_make_row _ rfl _ _ 37 rfl w2 2 i0 8 Try.underlying37 hi hz0 hz1 hz2 _ _ _ _ 0 rfl rfl (by omega) (by omega) (by omega) (by unfold maxLen; omega) (Below.refl _ _) ?_)
  intro w3 hown3 hk3
  go_wp2_with fail
  refine (copyLimbs_any (val 1000000000 X) _ _ ⟨X, hX.keep hk3, CX.out, rfl⟩ (fX.fit (by omega))).mono ?_
  rintro e w4 ⟨v4, rfl, hv4, hk4, hfv4⟩
  have hown4 := owns_keep hk4 hown3
  have hk4' := hk3.trans' hk4
  clear hown3 hv4 hX hD
  go_wp2_with fail
  go_loop [13] (fun i => i = .int .i64 (-1)) (fun _ => 0)
  case atStart => rfl
  case round =>
   subst hrel
   go_wp2_with (go_at_call 83; refine (significant_any _ _ _ (by exact Row.of_owns hown4)).mono ?_; rintro e w5 ⟨k, rfl, rfl, hsig⟩; have hn1 := hsig.1; have hn0 : k = 0 := by simpa using hn1)
   have hk5 := hKuv.trans' hk4'
   refine (multiplyLimbs_any 0 y _ _ _ ⟨[], (Row.of_owns hown4 : Row _ _ _ []), Canon.nil (by decide), rfl⟩ (hvv2.keep hk4') ((Ft.zero m).fit (by omega)) (fy.fit (by omega))).mono ?_
   rintro e w6 ⟨v6, rfl, hv6, hk6, hfv6⟩
   go_wp2_with fail
   have hx0 : 0 ≤ x := by rw [← Hxa.out]; exact CA.out.1.val_nonneg (by decide)
   refine (subtractLimbs_any x (0 * y) _ _ _ (hu2.keep (hk4'.trans' hk6)) hv6 (fx.fit (by omega)) (by omega)).mono ?_
   rintro e w7 ⟨v7, rfl, hv7, hk7, hfv7⟩
   go_wp2_with fail
   go_ret2
   have hxm : x - 0 * y = x % y := by
    have := Int.mul_ediv_add_emod x y
    rw [HQ0.out] at this
    omega
   exact ⟨_, _, rfl, by rw [HQ0.out]; exact ⟨[], (Row.of_owns (owns_keep (hk6.trans' hk7) hown4) : Row _ _ _ []), Canon.nil (by decide), rfl⟩, by rw [← hxm]; exact hv7, (hk5.trans' hk6).trans' hk7⟩
 ·obtain ⟨n, hn1, hn2, hnX1, hnX2⟩ : ∃ n : Nat, (n : Int) ≤ (X.length : Int) - D.length + 1 ∧ (X.length : Int) - D.length + 1 ≤ n ∧ n ≤ X.length ∧ X.length + 1 ≤ n + D.length := ⟨X.length + 1 - D.length, by omega, by omega, by omega, by omega⟩
  go_wp2_with (at_make; refine wpList_make_row _ rfl _ _ 37 rfl w2 2 i0 8 Try.underlying37 hi hz0 hz1 hz2 _ _ _ _ n rfl rfl (by omega) (by omega) (by omega) (by unfold maxLen; omega) (Below.refl _ _) ?_)
  intro w3 hown3 hk3
  rw [show ((X.length : Int) - D.length + 1) = (n : Int) from by omega]
  have hRow := (hX.keep hk3).drop hnX1
  have HT := Hid.mk (top_small CX.out.1 CD.out hDl hnX2)
  have HN := Hid.mk ((CX.out.1.drop n).val_nonneg (B := 1000000000) (by decide))
  have fT : Fit (val 1000000000 (X.drop n)) := (fY.le (by have := HT.out; have := HN.out; omega)).fit (by omega)
  by_cases hcn : n = capX
  all_goals
   first | (subst hcn; rw [if_pos rfl] at hRow) | (have hcn' : ¬ capX = n := (fun h => hcn h.symm); rw [if_neg hcn'] at hRow)
   go_wp2_with fail
   refine (copyLimbs_any (val 1000000000 (X.drop n)) _ _ ⟨_, (by first | exact hRow | (rw [show X.length - n = 0 by omega] at hRow; simpa using hRow)), CX.out.drop n, rfl⟩ fT).mono ?_
   rintro e w4 ⟨v4, rfl, hv4, hk4, hfv4⟩
   have hown4 := owns_keep hk4 hown3
   have hk4' := hk3.trans' hk4
   clear hown3 hRow fT
   try generalize Option.map (fun (x : Addr) => x.add n) aoX = ao53
   go_wp2_with fail
   go_loopw [12, 13] (fun r i wr => ∃ j : Nat, j ≤ n ∧ i = .int .i64 ((n : Int) - 1 - j) ∧ Rp 2 1000000000 wr r (val 1000000000 (X.drop (n - j)) % val 1000000000 D) ∧ wr.ownsRow w2.heap.size 2 1 (.slice (some ⟨w2.heap.size, 0, none⟩) n n) n (vals (quoRow (val 1000000000 D) X n j)) ∧ Kp w2 wr)
    (fun _ i _ => (intOf i + 1).toNat)
   case atStart => exact ⟨0, by omega, by go_num, by rw [Nat.sub_zero, Int.emod_eq_of_lt HN.out HT.out]; exact hv4, hown4, hk4'⟩
   case round =>
    obtain ⟨j, hj, rfl, hr, hown, hkr⟩ := hrel
    clear hown4 hk4' hv4 hk3 hk4
    have hY0 := Int.emod_nonneg (val 1000000000 (X.drop (n - j))) (b := val 1000000000 D) (by omega)
    have hY1 := Int.emod_lt_of_pos (val 1000000000 (X.drop (n - j))) hYp
    by_cases h1 : j < n
    ·have haX := (haoX (by omega)).1
     subst haX
     have hcx : wr.cell? ⟨pX, offX + (n - 1 - j), none⟩ = some (.int .i64 (at0 X (n - 1 - j))) := cell_later hkr (hcellX _ (by omega))
     have hdx := CX.out.1 (n - 1 - j)
     have HRS := Hid.mk ((div_step (B := 1000000000) (R := val 1000000000 (X.drop (n - 1 - j + 1))) (d := at0 X (n - 1 - j)) hYp).2)
     have HVS := Hid.mk (val_drop_succ 1000000000 X (n - 1 - j))
     have fR := fY.le (x := val 1000000000 (X.drop (n - j)) % val 1000000000 D) (by omega)
     clear hcellX haoX
     generalize hR : val 1000000000 (X.drop (n - j)) % val 1000000000 D = R at *
     have HR := Hid.mk hR
     clear hR
     go_wp2_with fail
     refine (putBelow_any R (at0 X (n - 1 - j)) _ _ hr (fR.fit (by omega)) hdx).mono ?_
     rintro e w5 ⟨v5, rfl, hv5, hk5, hfv5⟩
     go_wp2_with fail
     have hk5' := hkr.trans' hk5
     have hgr : w2.heap.size < wr.heap.size := (hown.lt _ rfl).2
     have hf5 : Fresh (w2.heap.size + 1) v5 := hfv5.mono hgr
     have hown5 := owns_keep hk5 hown
     have hR1 : at0 X (n - 1 - j) + 1000000000 * R < val 1000000000 D * 1000000000 := by omega
     have hR0 : 0 ≤ at0 X (n - 1 - j) + 1000000000 * R := by omega
     have fR1 : Ft (m + 9 + 10) (at0 X (n - 1 - j) + 1000000000 * R) := (fY.mul (n := 10) (y := 1000000000) (by unfold Ft; decide)).le (by omega)
     generalize hRR : at0 X (n - 1 - j) + 1000000000 * R = RR at *
     have HRR := Hid.mk hRR
     clear hRR hown hk5 hr hcx
     obtain ⟨Rl, hRl, cRl, hRlv, _⟩ := hv5.len (by decide) (fR1.fit (by omega))
     have hest := est_ok cRl.1 CD.out hDl (by rw [hRlv]; exact hR1)
     rw [hRlv] at hest
     refine (estimate_any Rl D _ _ _ hRl (hD.keep hk5') cRl.1 CD.out hDl).mono ?_
     rintro e w6 ⟨rfl, hk6⟩
     generalize estQ Rl D = q at *
     clear hRl cRl hRlv
     have hk6' := hk5'.trans' hk6
     have hown6 := owns_keep hk6 hown5
     have hv6 := hv5.keep hk6
     have hg6 : w2.heap.size < w6.heap.size := by have := hfv5; have := hk6.size; have := hk5'.size; have := (hown6.lt _ rfl).2; omega
     clear hk5' hk6 hown5 hv5
     go_wp2_with fail
     refine (multiplyLimbs_row D [q] _ _ _ (hD.keep (hk6'.alloc' _)) (row_lit1 w6 _ q) CD.out.1 (Dig.mk ⟨hest.1, hest.2.1⟩ (Dig.nil (by decide))) lD (by simp)).mono ?_
     rintro e w7 ⟨v7, rfl, hv7, hk7, hfv7⟩
     rw [val_one] at hv7
     have hk67 := (kp_alloc w6 _).trans' hk7
     have hk7' := hk6'.trans' hk67
     have hown7 := owns_keep hk67 hown6
     have hv67 := hv6.keep hk67
     have hg7 : w2.heap.size < w7.heap.size := (hown7.lt _ rfl).2
     clear hk6' hown6 hv6 hk7 hk67
     go_wp2_with fail
     go_loopw [14, 15] (fun dg pt wq => ∃ q : Int, 0 ≤ q ∧ q < 1000000000 ∧ RR / val 1000000000 D ≤ q ∧ dg = .int .i64 q ∧ Rp 2 1000000000 wq pt (val 1000000000 D * q) ∧ Kp w7 wq ∧ Fresh (w2.heap.size + 1) pt) (fun dg _ _ => (intOf dg).toNat)
     case atStart => exact ⟨q, hest.1, hest.2.1, hest.2.2, rfl, hv7, Below.refl _ _, hfv7.mono (by simp; omega)⟩
     case round =>
      obtain ⟨q, hq0, hq1, hq2, rfl, hpt, hkq, hfp⟩ := hrel
      have fPt : Fit (val 1000000000 D * q) := (fY.mul (n := 9) (y := q) (by unfold Ft; omega)).fit (by omega)
      have hDq : 0 ≤ val 1000000000 D * q := Int.mul_nonneg (by omega) hq0
      clear hest hv7
      by_cases hgt : RR < val 1000000000 D * q
      ·have hq3 : RR / val 1000000000 D ≤ q - 1 := quot_down hYp (by rw [Int.mul_comm]; exact hgt)
       have hRRn : 0 ≤ RR / val 1000000000 D := Int.ediv_nonneg hR0 (by omega)
       have hqm : val 1000000000 D * q - val 1000000000 D = val 1000000000 D * (q - 1) := by rw [Int.mul_sub, Int.mul_one]
       have hDle : 0 ≤ val 1000000000 D * (q - 1) := Int.mul_nonneg (by omega) (by omega)
       have Hqm := Hid.mk hqm
       have HDle := Hid.mk hDle
       clear hqm hDle
       go_wp2_with fail
       refine (compareLimbs_any (val 1000000000 D * q) RR _ _ _ hpt (hv67.keep hkq)).mono ?_
       rintro e w8 ⟨rfl, hk8⟩
       rw [cmp3_gt hgt]
       go_wp2_with fail
       refine (subtractLimbs_any (val 1000000000 D * q) (val 1000000000 D) _ _ _ (hpt.keep hk8) ⟨D, hD.keep ((hk7'.trans' hkq).trans' hk8), CD.out, rfl⟩ fPt (by have := Hqm.out; have := HDle.out; omega)).mono ?_
       rintro e w9 ⟨v9, rfl, hv9, hk9, hfv9⟩
       rw [Hqm.out] at hv9
       go_wp2_with fail
       go_roundw
       case rel => exact ⟨q - 1, by omega, by omega, hq3, rfl, hv9, (hkq.trans' hk8).trans' hk9, hfv9.mono (by have := hkq.size; have := hk8.size; omega)⟩
       case measure => simp [intOf]; omega
      ·have hqe : q = RR / val 1000000000 D := quot_of_le hYp hq2 (by rw [Int.mul_comm]; omega)
       have Hqe := Hid.mk hqe
       have HRm : Hid (RR - val 1000000000 D * q = RR % val 1000000000 D) := by
        unfold Hid
        rw [hqe, Int.mul_comm]; exact rest_eq
       have Hle : Hid (val 1000000000 D * q ≤ RR) := by unfold Hid; omega
       clear hqe hq2
       go_wp2_with fail
       refine (compareLimbs_any (val 1000000000 D * q) RR _ _ _ hpt (hv67.keep hkq)).mono ?_
       rintro e w8 ⟨rfl, hk8⟩
       have hcm : cmp3 (val 1000000000 D * q) RR ≤ 0 := by unfold cmp3; split <;> (try split) <;> omega
       generalize cmp3 (val 1000000000 D * q) RR = cm at *
       have hk8' := hkq.trans' hk8
       have hown8 := owns_keep hk8' hown7
       have hfz : w8.frozen? ⟨w2.heap.size, n - 1 - j, none⟩ = false := hown8.frozenAt (n - 1 - j)
       have hco := owns_cell hown8 (i := n - 1 - j) (by omega)
       have HST := Hid.mk (fun y => owns_store hown8 (hk7'.trans' hk8') (n - 1 - j) y)
       have HP8 := Hid.mk (And.intro (hpt.keep hk8) (hv67.keep hk8'))
       have HFR := Hid.mk (And.intro hfp hf5)
       have HQQ := Hid.mk (And.intro HRS (And.intro HVS (And.intro HRR (And.intro HR (And.intro Hqe (And.intro HRm (And.intro Hle fR1)))))))
       clear hown7 hown8 hpt hkq hk8 hv67 hgt hDq hR1 hR0 hY0 hY1 hfp hf5 hk8' hk7' fPt fR fR1 hfv5 hfv7 HRS HVS HRR HR Hqe HRm Hle
       go_wp2_with fail
       obtain ⟨HRS, HVS, HRR, HR, Hqe, HRm, Hle, fR1⟩ := HQQ.out
       refine (subtractLimbs_any RR (val 1000000000 D * q) _ _ _ (HP8.out.2.set HFR.out.2) (HP8.out.1.set HFR.out.1) (fR1.fit (by omega)) Hle.out).mono ?_
       rintro e w9 ⟨v9, rfl, hv9, hk9, hfv9⟩
       rw [HRm.out] at hv9
       have hown9 := owns_keep hk9 (HST.out q).1
       have hk9' := (HST.out q).2.trans' hk9
       have HF : Hid (RR % val 1000000000 D = val 1000000000 (List.drop (n - (j + 1)) X) % val 1000000000 D) := by
        unfold Hid
        rw [show n - (j + 1) = n - 1 - j by omega, HVS.out, ← HRR.out, ← HR.out, show n - j = n - 1 - j + 1 by omega]
        exact HRS.out.symm
       have HG : Hid ((quoRow (val 1000000000 D) X n j).set (n - 1 - j) q = quoRow (val 1000000000 D) X n (j + 1)) := by
        unfold Hid
        rw [quoRow_succ, HR.out, HRR.out, Hqe.out]
       clear HST HP8
       go_wp2_with fail
       have HREL : Hid (∃ j' : Nat, j' ≤ n ∧ Value.int .i64 ((n : Int) - 1 - j - 1) = .int .i64 ((n : Int) - 1 - j') ∧ Rp 2 1000000000 w9 v9 (val 1000000000 (X.drop (n - j')) % val 1000000000 D) ∧ w9.ownsRow w2.heap.size 2 1 (.slice (some ⟨w2.heap.size, 0, none⟩) n n) n (vals (quoRow (val 1000000000 D) X n j')) ∧ Kp w2 w9) :=
        ⟨j + 1, by omega, by go_num, by rw [← HF.out]; exact hv9, by rw [← HG.out]; exact hown9, hk9'⟩
       go_roundw
       case rel => first | exact HREL.out | ((repeat apply Exists.intro); exact ⟨HREL.out, rfl⟩)
       case measure => simp [intOf]; omega
    ·have hjn : j = n := by omega
     subst hjn
     have HV := Hid.mk (quoRow_done (X := X) hYp j (Int.ediv_eq_zero_of_lt HN.out HT.out))
     have HDg := Hid.mk (quoRow_dig (X := X) hYp CX.out.1 j j)
     have hrow := Row.of_owns hown
     have hx0 : 0 ≤ x := by rw [← Hxa.out]; exact CA.out.1.val_nonneg (by decide)
     have hy0' : 0 ≤ y := by rw [← Hyb.out]; exact CB.out.1.val_nonneg (by decide)
     have hxq : 0 ≤ x / y := Int.ediv_nonneg hx0 hy0'
     have hle1 : x / y ≤ x := Int.ediv_le_self _ hx0
     have hle2 : x / y * y ≤ x := Int.ediv_mul_le _ Hy0.out
     have Hle1 := Hid.mk hle1
     have Hle2 := Hid.mk hle2
     clear hle1 hle2 hY0 hY1 hcellX haoX hx0 hy0'
     go_wp2_with (go_at_call 83; refine (significant_any _ _ _ (by exact hrow)).mono ?_; rintro e w5 ⟨k, rfl, rfl, hsig⟩; have hn1 := hsig.1; rw [quoRow_length] at hn1)
     have hcan := hsig.canon (B := 1000000000) (by decide) HDg.out
     have hq : Rp 2 1000000000 w5 (.slice (some ⟨w2.heap.size, 0, none⟩) k j) (x / y) := ⟨_, hrow.take hsig.1, hcan.1, by rw [hcan.2.1, HV.out, HQx.out]⟩
     refine (multiplyLimbs_any (x / y) y _ _ _ hq (hvv2.keep hkr) ((fx.le (by have := Hle1.out; omega)).fit (by omega)) (fy.fit (by omega))).mono ?_
     rintro e w6 ⟨v6, rfl, hv6, hk6, hfv6⟩
     go_wp2_with fail
     refine (subtractLimbs_any x (x / y * y) _ _ _ (hu2.keep (hkr.trans' hk6)) hv6 (fx.fit (by omega)) Hle2.out).mono ?_
     rintro e w7 ⟨v7, rfl, hv7, hk7, hfv7⟩
     rw [rest_eq] at hv7
     go_wp2_with fail
     go_ret2
     exact ⟨_, _, rfl, hq.keep (hk6.trans' hk7), hv7, ((hKuv.trans' hkr).trans' hk6).trans' hk7⟩

theorem divideLimbs_any (x y : Int) (m : Nat) (u v : Value) (w : World) (hx : Rp 2 1000000000 w u x) (hy : Rp 2 1000000000 w v y) (hm : m ≤ 300000000) (fx : Ft m x) (fy : Ft m y) :
  Calls Try.prog 90 #[u, v] w (RetRp2 2 1000000000 w (x / y) (x % y)) := by
 by_cases h : y = 0
 ·subst h
  rw [Int.ediv_zero, Int.emod_zero]
  exact divideLimbs_zero x u v w hx hy (fx.fit (by omega))
 ·exact divideLimbs_pos x y m u v w hx hy hm fx fy h

end Go.Proofs.Ytjahbjjekednfaa
