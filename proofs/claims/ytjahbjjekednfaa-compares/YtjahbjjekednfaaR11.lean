import Derived.Test.YtjahbjjekednfaaR10
import Derived.Test.YtjahbjjekednfaaR9
namespace Go.Proofs.Ytjahbjjekednfaa
open Go.RowKit

theorem qcom_g (p q r : Int) : (Int.gcd (Int.gcd r p) q : Int) = (Int.gcd (Int.gcd p q) r : Int) := by
 unfold Int.gcd
 rw [Int.natAbs_natCast, Int.natAbs_natCast, Nat.gcd_assoc, Nat.gcd_comm]
theorem qreduce_neg {p q r : Int} (d : Int) (h : r < 0) : qreduce p q r d = ⟨-(p.tdiv (Int.gcd (Int.gcd p q) r : Int)), -(q.tdiv (Int.gcd (Int.gcd p q) r : Int)), (r.natAbs : Int).tdiv (Int.gcd (Int.gcd p q) r : Int), if q = 0 then 1 else d⟩ := by
 have hz : q.tdiv (qcom p q r) = 0 ↔ q = 0 := by
  have hb := (qreduce_back p q r d).2.1
  have hg := qcom_ne p q r (by omega)
  constructor
  ·intro h1
   have h2 : (qreduce p q r d).q = 0 := h1
   rw [hb, h2, Int.mul_zero]
  ·intro h1; rw [h1]; exact Int.zero_tdiv _
 have hc : qcom p q r = -(Int.gcd (Int.gcd p q) r : Int) := by unfold qcom; rw [if_pos h, qcom_g]
 have hr : (r.natAbs : Int) = -r := by omega
 unfold qreduce
 rw [show (if q.tdiv (qcom p q r) = 0 then (1 : Int) else d) = if q = 0 then 1 else d by by_cases h1 : q = 0 <;> simp [hz, h1]]
 rw [hc, Int.tdiv_neg, Int.tdiv_neg, Int.tdiv_neg, hr, Int.neg_tdiv]
theorem qreduce_nn {p q r : Int} (d : Int) (h : 0 < r) : qreduce p q r d = ⟨p.tdiv (Int.gcd (Int.gcd p q) r : Int), q.tdiv (Int.gcd (Int.gcd p q) r : Int), (r.natAbs : Int).tdiv (Int.gcd (Int.gcd p q) r : Int), if q = 0 then 1 else d⟩ := by
 have hz : q.tdiv (qcom p q r) = 0 ↔ q = 0 := by
  have hb := (qreduce_back p q r d).2.1
  have hg := qcom_ne p q r (by omega)
  constructor
  ·intro h1
   have h2 : (qreduce p q r d).q = 0 := h1
   rw [hb, h2, Int.mul_zero]
  ·intro h1; rw [h1]; exact Int.zero_tdiv _
 have hc : qcom p q r = (Int.gcd (Int.gcd p q) r : Int) := by unfold qcom; rw [if_neg (by omega), qcom_g]
 have hr : (r.natAbs : Int) = r := by omega
 unfold qreduce
 rw [show (if q.tdiv (qcom p q r) = 0 then (1 : Int) else d) = if q = 0 then 1 else d by by_cases h1 : q = 0 <;> simp [hz, h1]]
 rw [hc, hr]

set_option maxHeartbeats 6400000 in
set_option maxRecDepth 100000 in
theorem formed_any (p q r d : Int) (m : Nat) (u v t : Value) (w : World) (hp : IN w u p) (hq : IN w v q) (hr : IN w t r) (r0 : r ≠ 0) (hm : m ≤ 100000000) (fp : Ft m p) (fq : Ft m q) (fr : Ft m r) :
  Calls Try.prog 60 #[u, v, t, .int .i64 d] w (RetNN w (qreduce p q r d)) := by
 obtain ⟨b1, ao1, n1, c1, rfl⟩ := hp.shape'
 obtain ⟨b2, ao2, n2, c2, rfl⟩ := hq.shape'
 obtain ⟨b3, ao3, n3, c3, rfl⟩ := hr.shape'
 have HNEG := Hid.mk hr.neg
 have hql := hq.len
 have hkb : Kp w ((((w.alloc (.cells #[.bool b1, .slice ao1 n1 c1] 46)).alloc (.cells #[.bool b2, .slice ao2 n2 c2] 46)).alloc (.cells #[.bool b3, .slice ao3 n3 c3] 46)).alloc (.cells #[.bool false, .slice none 0 0, .bool false, .slice none 0 0, .bool false, .slice none 0 0, .int .i64 0] 48)) := (Kp.alloc' (Kp.alloc' (Kp.alloc' (Kp.alloc' (Below.refl w.heap.size w) (.cells #[.bool b1, .slice ao1 n1 c1] 46)) (.cells #[.bool b2, .slice ao2 n2 c2] 46)) (.cells #[.bool b3, .slice ao3 n3 c3] 46)) (.cells #[.bool false, .slice none 0 0, .bool false, .slice none 0 0, .bool false, .slice none 0 0, .int .i64 0] 48))
 have BP : Blk ((((w.alloc (.cells #[.bool b1, .slice ao1 n1 c1] 46)).alloc (.cells #[.bool b2, .slice ao2 n2 c2] 46)).alloc (.cells #[.bool b3, .slice ao3 n3 c3] 46)).alloc (.cells #[.bool false, .slice none 0 0, .bool false, .slice none 0 0, .bool false, .slice none 0 0, .int .i64 0] 48)) (w.heap.size) #[.bool b1, .slice ao1 n1 c1] 46 := (Blk.alloc (Blk.alloc (Blk.alloc (Blk.new w _ _) (.cells #[.bool b2, .slice ao2 n2 c2] 46)) (.cells #[.bool b3, .slice ao3 n3 c3] 46)) (.cells #[.bool false, .slice none 0 0, .bool false, .slice none 0 0, .bool false, .slice none 0 0, .int .i64 0] 48))
 have BQ : Blk ((((w.alloc (.cells #[.bool b1, .slice ao1 n1 c1] 46)).alloc (.cells #[.bool b2, .slice ao2 n2 c2] 46)).alloc (.cells #[.bool b3, .slice ao3 n3 c3] 46)).alloc (.cells #[.bool false, .slice none 0 0, .bool false, .slice none 0 0, .bool false, .slice none 0 0, .int .i64 0] 48)) (w.heap.size + 1) #[.bool b2, .slice ao2 n2 c2] 46 := (Blk.alloc (Blk.alloc (Blk.at (Blk.new (w.alloc (.cells #[.bool b1, .slice ao1 n1 c1] 46)) _ _) (by simp)) (.cells #[.bool b3, .slice ao3 n3 c3] 46)) (.cells #[.bool false, .slice none 0 0, .bool false, .slice none 0 0, .bool false, .slice none 0 0, .int .i64 0] 48))
 have BR : Blk ((((w.alloc (.cells #[.bool b1, .slice ao1 n1 c1] 46)).alloc (.cells #[.bool b2, .slice ao2 n2 c2] 46)).alloc (.cells #[.bool b3, .slice ao3 n3 c3] 46)).alloc (.cells #[.bool false, .slice none 0 0, .bool false, .slice none 0 0, .bool false, .slice none 0 0, .int .i64 0] 48)) (w.heap.size + 1 + 1) #[.bool b3, .slice ao3 n3 c3] 46 := (Blk.alloc (Blk.at (Blk.new ((w.alloc (.cells #[.bool b1, .slice ao1 n1 c1] 46)).alloc (.cells #[.bool b2, .slice ao2 n2 c2] 46)) _ _) (by simp)) (.cells #[.bool false, .slice none 0 0, .bool false, .slice none 0 0, .bool false, .slice none 0 0, .int .i64 0] 48))
 have BE : Blk ((((w.alloc (.cells #[.bool b1, .slice ao1 n1 c1] 46)).alloc (.cells #[.bool b2, .slice ao2 n2 c2] 46)).alloc (.cells #[.bool b3, .slice ao3 n3 c3] 46)).alloc (.cells #[.bool false, .slice none 0 0, .bool false, .slice none 0 0, .bool false, .slice none 0 0, .int .i64 0] 48)) (w.heap.size + 1 + 1 + 1) #[.bool false, .slice none 0 0, .bool false, .slice none 0 0, .bool false, .slice none 0 0, .int .i64 0] 48 := (Blk.at (Blk.new (((w.alloc (.cells #[.bool b1, .slice ao1 n1 c1] 46)).alloc (.cells #[.bool b2, .slice ao2 n2 c2] 46)).alloc (.cells #[.bool b3, .slice ao3 n3 c3] 46)) _ _) (by simp))
 
 replace hp := hp.keep hkb
 replace hq := hq.keep hkb
 replace hr := hr.keep hkb
 have l1 := BP.lt
 have l2 := BQ.lt
 have l3 := BR.lt
 have l4 := BE.lt
 have g0 : 0 < (Int.gcd (Int.gcd p q) r : Int) := by
  have : Int.gcd (Int.gcd p q) r ≠ 0 := fun h => r0 (Int.gcd_eq_zero_iff.mp h).2
  omega
 have fg : Ft m (Int.gcd (Int.gcd p q) r : Int) := (fp.gcd fq).gcd fr
 have hQN := Hid.mk (fun h => qreduce_neg (p := p) (q := q) (r := r) d h)
 have hQP := Hid.mk (fun h => qreduce_nn (p := p) (q := q) (r := r) d h)
 go_enter Try.func60, Try.ntmps60
 go_wp2_with fail
 generalize ((((w.alloc (.cells #[.bool b1, .slice ao1 n1 c1] 46)).alloc (.cells #[.bool b2, .slice ao2 n2 c2] 46)).alloc (.cells #[.bool b3, .slice ao3 n3 c3] 46)).alloc (.cells #[.bool false, .slice none 0 0, .bool false, .slice none 0 0, .bool false, .slice none 0 0, .int .i64 0] 48)) = wb at *
 go_cut [9] from 11 to 15 (fun p' wx => ∃ (bg : Nat) (bb : Bool) (aa : Option Addr) (nn cc : Nat), p' = .pointer (some ⟨bg, 0, none⟩) ∧ Blk wx bg #[.bool bb, .slice aa nn cc] 46 ∧ IN wx (.agg #[.bool bb, .slice aa nn cc]) (Int.gcd (Int.gcd p q) r : Int) ∧ Kp wb wx ∧ wb.heap.size ≤ bg)
 case first =>
  clear hQN hQP HNEG hql
  refine wp_region_l (S := fun w' => Kp wb w') (by kernel_rfl) (Kp.drew' (Below.refl _ _)) (fun hS0 => ?_)
  generalize wb.drew = wd at *
  refine wpAnyL_tk (i := 0) (k := 2) (v := .agg #[.bool b1, .slice ao1 n1 c1]) rfl ?_ hS0 ?_
  ·intro w' hw'; have hc := ((BP).keep hw').cell; go_simp
  simp only [sq]
  refine wpAnyL_tk (i := 1) (k := 2) (v := .agg #[.bool b2, .slice ao2 n2 c2]) rfl ?_ hS0 ?_
  ·intro w' hw'; have hc := ((BQ).keep hw').cell; go_simp
  simp only [sq]
  refine wpAnyL_tk (i := 3) (k := 4) (v := .agg #[.bool b3, .slice ao3 n3 c3]) rfl ?_ hS0 ?_
  ·intro w' hw'; have hc := ((BR).keep hw').cell; go_simp
  simp only [sq]
  refine wpAnyL_ready (rs := [2, 5]) (by kernel_rfl) (by simp) ?_
  refine AllReadyL.cons rfl (fun K hK => ?_) ?_
  ·go_simp
   refine (rgcd_any _ p q m _ _ _ (Nat.le_refl _) (hp.keep hS0) (hq.keep hS0) hm fp fq).mono ?_
   rintro e w102 ⟨v102, rfl, hv102, hk102⟩
   obtain ⟨b102, ao102, n102, c102, rfl⟩ := hv102.shape'
   go_wp2_with fail
   refine hK.out _ _ (hS0.trans' hk102) (fun hS1 => ?_)
   clear hK K
   refine wpAnyL_ready (rs := [4, 5]) (by kernel_rfl) (by simp) ?_
   refine AllReadyL.cons rfl (fun K hK => ?_) ?_
   ·go_simp
    refine (rgcd_any _ (Int.gcd p q : Int) r m _ _ _ (Nat.le_refl _) hv102 (hr.keep hS1) hm (fp.gcd fq) fr).mono ?_
    rintro e w104 ⟨v104, rfl, hv104, hk104⟩
    obtain ⟨b104, ao104, n104, c104, rfl⟩ := hv104.shape'
    go_wp2_with fail
    refine hK.out _ _ (hS1.trans' hk104) (fun hS2 => ?_)
    clear hK K
    refine wpAnyL_on (i := 5) rfl (fun K hK => ?_)
    go_simp
    refine hK.out _ _ (Kp.alloc' hS2 (.cells #[.bool false, .slice none 0 0] 46)) (fun hS3 => ?_)
    clear hK K
    have NB5 := Blk.new w104 #[.bool false, .slice none 0 0] 46
    have ge5 : wb.heap.size ≤ w104.heap.size := hS2.size
    replace hv104 := hv104.keep (kp_alloc w104 (.cells #[.bool false, .slice none 0 0] 46))
    try simp only [sq]
    generalize hA5 : w104.heap.size = A5 at *
    generalize w104.alloc (.cells #[.bool false, .slice none 0 0] 46) = wn5 at *
    have st_c := NB5.cell
    have st_f := NB5.frozen
    have st_l := NB5.lt
    refine wpAnyL_last (i := 6) rfl (by kernel_rfl) (by kernel_rfl) (by kernel_rfl) (fun K hK => ?_)
    go_simp
    refine hK.out _ _ ?_
    clear hK K
    go_wp2_with fail
    go_meet
    case rel => exact ⟨A5, _, _, _, _, rfl, (bl2 (.bool b104) (.slice ao104 n104 c104) NB5), hv104.soft (sf2 (.bool b104) (.slice ao104 n104 c104) NB5 (by decide)), (kp2 (A := A5) (.bool b104) (.slice ao104 n104 c104) hS3 ge5), ge5⟩
   refine AllReadyL.cons rfl (fun K hK => ?_) ?_
   ·go_simp
    refine hK.out _ _ (Kp.alloc' hS1 (.cells #[.bool false, .slice none 0 0] 46)) (fun hS2 => ?_)
    clear hK K
    have NB5 := Blk.new w102 #[.bool false, .slice none 0 0] 46
    have ge5 : wb.heap.size ≤ w102.heap.size := hS1.size
    replace hv102 := hv102.keep (kp_alloc w102 (.cells #[.bool false, .slice none 0 0] 46))
    try simp only [sq]
    generalize hA5 : w102.heap.size = A5 at *
    generalize w102.alloc (.cells #[.bool false, .slice none 0 0] 46) = wn5 at *
    refine wpAnyL_on (i := 4) rfl (fun K hK => ?_)
    go_simp
    refine (rgcd_any _ (Int.gcd p q : Int) r m _ _ _ (Nat.le_refl _) hv102 (hr.keep hS2) hm (fp.gcd fq) fr).mono ?_
    rintro e w104 ⟨v104, rfl, hv104, hk104⟩
    obtain ⟨b104, ao104, n104, c104, rfl⟩ := hv104.shape'
    replace NB5 := NB5.keep hk104
    go_wp2_with fail
    refine hK.out _ _ (hS2.trans' hk104) (fun hS3 => ?_)
    clear hK K
    have st_c := NB5.cell
    have st_f := NB5.frozen
    have st_l := NB5.lt
    refine wpAnyL_last (i := 6) rfl (by kernel_rfl) (by kernel_rfl) (by kernel_rfl) (fun K hK => ?_)
    go_simp
    refine hK.out _ _ ?_
    clear hK K
    go_wp2_with fail
    go_meet
    case rel => exact ⟨A5, _, _, _, _, rfl, (bl2 (.bool b104) (.slice ao104 n104 c104) NB5), hv104.soft (sf2 (.bool b104) (.slice ao104 n104 c104) NB5 (by decide)), (kp2 (A := A5) (.bool b104) (.slice ao104 n104 c104) hS3 ge5), ge5⟩
   exact AllReadyL.nil
  refine AllReadyL.cons rfl (fun K hK => ?_) ?_
  ·go_simp
   refine hK.out _ _ (Kp.alloc' hS0 (.cells #[.bool false, .slice none 0 0] 46)) (fun hS1 => ?_)
   clear hK K
   have NB5 := Blk.new wd #[.bool false, .slice none 0 0] 46
   have ge5 : wb.heap.size ≤ wd.heap.size := hS0.size
   try simp only [sq]
   generalize hA5 : wd.heap.size = A5 at *
   generalize wd.alloc (.cells #[.bool false, .slice none 0 0] 46) = wn5 at *
   refine wpAnyL_on (i := 2) rfl (fun K hK => ?_)
   go_simp
   refine (rgcd_any _ p q m _ _ _ (Nat.le_refl _) (hp.keep hS1) (hq.keep hS1) hm fp fq).mono ?_
   rintro e w102 ⟨v102, rfl, hv102, hk102⟩
   obtain ⟨b102, ao102, n102, c102, rfl⟩ := hv102.shape'
   replace NB5 := NB5.keep hk102
   go_wp2_with fail
   refine hK.out _ _ (hS1.trans' hk102) (fun hS2 => ?_)
   clear hK K
   refine wpAnyL_on (i := 4) rfl (fun K hK => ?_)
   go_simp
   refine (rgcd_any _ (Int.gcd p q : Int) r m _ _ _ (Nat.le_refl _) hv102 (hr.keep hS2) hm (fp.gcd fq) fr).mono ?_
   rintro e w104 ⟨v104, rfl, hv104, hk104⟩
   obtain ⟨b104, ao104, n104, c104, rfl⟩ := hv104.shape'
   replace NB5 := NB5.keep hk104
   go_wp2_with fail
   refine hK.out _ _ (hS2.trans' hk104) (fun hS3 => ?_)
   clear hK K
   have st_c := NB5.cell
   have st_f := NB5.frozen
   have st_l := NB5.lt
   refine wpAnyL_last (i := 6) rfl (by kernel_rfl) (by kernel_rfl) (by kernel_rfl) (fun K hK => ?_)
   go_simp
   refine hK.out _ _ ?_
   clear hK K
   go_wp2_with fail
   go_meet
   case rel => exact ⟨A5, _, _, _, _, rfl, (bl2 (.bool b104) (.slice ao104 n104 c104) NB5), hv104.soft (sf2 (.bool b104) (.slice ao104 n104 c104) NB5 (by decide)), (kp2 (A := A5) (.bool b104) (.slice ao104 n104 c104) hS3 ge5), ge5⟩
  exact AllReadyL.nil
 case rest =>
  obtain ⟨bg, b9, ao9, n9, c9, rfl, BG, hg, hkc, hge⟩ := hcut
  generalize (Int.gcd (Int.gcd p q) r : Int) = g at *
  replace hp := hp.keep hkc
  replace hq := hq.keep hkc
  replace hr := hr.keep hkc
  replace BP := BP.keep hkc
  replace BQ := BQ.keep hkc
  replace BR := BR.keep hkc
  replace BE := BE.keep hkc
  replace hkb := hkb.trans' hkc
  have hszq := hkc.size
  clear hkc
  generalize wc = wq at *
  go_wp2_with fail
  go_cut [10] from 16 to 27 (fun p' wx => ∃ (bn : Nat) (b11 : Bool) (ao11 : Option Addr) (n11 c11 : Nat) (b12 : Bool) (ao12 : Option Addr) (n12 c12 : Nat) (b13 : Bool) (ao13 : Option Addr) (n13 c13 : Nat), p' = .pointer (some ⟨bn, 0, none⟩) ∧ Blk wx bn #[.bool b11, .slice ao11 n11 c11, .bool b12, .slice ao12 n12 c12, .bool b13, .slice ao13 n13 c13, .int .i64 d] 48 ∧ IN wx (.agg #[.bool b11, .slice ao11 n11 c11]) (p.tdiv g) ∧ IN wx (.agg #[.bool b12, .slice ao12 n12 c12]) (q.tdiv g) ∧ IN wx (.agg #[.bool b13, .slice ao13 n13 c13]) ((r.natAbs : Int).tdiv g) ∧ Kp wq wx ∧ wq.heap.size ≤ bn)
  case first =>
   clear hQN hQP HNEG hql
   refine wp_region_l (S := fun w' => Kp wq w') (by kernel_rfl) (Kp.drew' (Below.refl _ _)) (fun hS0 => ?_)
   generalize wq.drew = wd at *
   refine wpAnyL_tk (i := 0) (k := 2) (v := .agg #[.bool b1, .slice ao1 n1 c1]) rfl ?_ hS0 ?_
   ·intro w' hw'; have hc := ((BP).keep hw').cell; go_simp
   simp only [sq]
   refine wpAnyL_tk (i := 1) (k := 2) (v := .agg #[.bool b9, .slice ao9 n9 c9]) rfl ?_ hS0 ?_
   ·intro w' hw'; have hc := ((BG).keep hw').cell; go_simp
   simp only [sq]
   refine wpAnyL_tk (i := 3) (k := 5) (v := .agg #[.bool b2, .slice ao2 n2 c2]) rfl ?_ hS0 ?_
   ·intro w' hw'; have hc := ((BQ).keep hw').cell; go_simp
   simp only [sq]
   refine wpAnyL_tk (i := 4) (k := 5) (v := .agg #[.bool b9, .slice ao9 n9 c9]) rfl ?_ hS0 ?_
   ·intro w' hw'; have hc := ((BG).keep hw').cell; go_simp
   simp only [sq]
   refine wpAnyL_tk (i := 6) (k := 7) (v := .agg #[.bool b3, .slice ao3 n3 c3]) rfl ?_ hS0 ?_
   ·intro w' hw'; have hc := ((BR).keep hw').cell; go_simp
   simp only [sq]
   refine wpAnyL_tk (i := 8) (k := 9) (v := .agg #[.bool b9, .slice ao9 n9 c9]) rfl ?_ hS0 ?_
   ·intro w' hw'; have hc := ((BG).keep hw').cell; go_simp
   simp only [sq]
   refine wpAnyL_tk (i := 10) (k := 11) (v := .int .i64 d) rfl ?_ hS0 ?_
   ·intro w' hw'; go_simp
   simp only [sq]
   refine wpAnyL_ready (rs := [2, 12]) (by kernel_rfl) (by simp) ?_
   refine AllReadyL.cons rfl (fun K hK => ?_) ?_
   ·go_simp
    refine (rexact_any p g m _ _ _ (hp.keep hS0) (hg.keep hS0) g0 hm fp fg).mono ?_
    rintro e w102 ⟨v102, rfl, hv102, hk102⟩
    obtain ⟨b102, ao102, n102, c102, rfl⟩ := hv102.shape'
    go_wp2_with fail
    refine hK.out _ _ (hS0.trans' hk102) (fun hS1 => ?_)
    clear hK K
    refine wpAnyL_ready (rs := [5, 12]) (by kernel_rfl) (by simp) ?_
    refine AllReadyL.cons rfl (fun K hK => ?_) ?_
    ·go_simp
     refine (rexact_any q g m _ _ _ (hq.keep hS1) (hg.keep hS1) g0 hm fq fg).mono ?_
     rintro e w105 ⟨v105, rfl, hv105, hk105⟩
     obtain ⟨b105, ao105, n105, c105, rfl⟩ := hv105.shape'
     replace hv102 := hv102.keep hk105
     go_wp2_with fail
     refine hK.out _ _ (hS1.trans' hk105) (fun hS2 => ?_)
     clear hK K
     refine wpAnyL_ready (rs := [7, 12]) (by kernel_rfl) (by simp) ?_
     refine AllReadyL.cons rfl (fun K hK => ?_) ?_
     ·go_simp
      refine (size_any r _ _ (hr.keep hS2)).mono ?_
      rintro e w107 ⟨v107, rfl, hv107, hk107⟩
      obtain ⟨b107, ao107, n107, c107, rfl⟩ := hv107.shape'
      replace hv102 := hv102.keep hk107
      replace hv105 := hv105.keep hk107
      go_wp2_with fail
      refine hK.out _ _ (hS2.trans' hk107) (fun hS3 => ?_)
      clear hK K
      refine wpAnyL_ready (rs := [9, 12]) (by kernel_rfl) (by simp) ?_
      refine AllReadyL.cons rfl (fun K hK => ?_) ?_
      ·go_simp
       refine (rexact_any (r.natAbs : Int) g m _ _ _ hv107 (hg.keep hS3) g0 hm fr.abs fg).mono ?_
       rintro e w109 ⟨v109, rfl, hv109, hk109⟩
       obtain ⟨b109, ao109, n109, c109, rfl⟩ := hv109.shape'
       replace hv102 := hv102.keep hk109
       replace hv105 := hv105.keep hk109
       go_wp2_with fail
       refine hK.out _ _ (hS3.trans' hk109) (fun hS4 => ?_)
       clear hK K
       refine wpAnyL_tk (i := 11) (k := 13) (v := .agg #[.bool b102, .slice ao102 n102 c102, .bool b105, .slice ao105 n105 c105, .bool b109, .slice ao109 n109 c109, .int .i64 d]) rfl ?_ hS4 ?_
       ·intro w' hw'; go_simp
       simp only [sq]
       refine wpAnyL_on (i := 12) rfl (fun K hK => ?_)
       go_simp
       refine hK.out _ _ (Kp.alloc' hS4 (.cells #[.bool false, .slice none 0 0, .bool false, .slice none 0 0, .bool false, .slice none 0 0, .int .i64 0] 48)) (fun hS5 => ?_)
       clear hK K
       have NB12 := Blk.new w109 #[.bool false, .slice none 0 0, .bool false, .slice none 0 0, .bool false, .slice none 0 0, .int .i64 0] 48
       have ge12 : wq.heap.size ≤ w109.heap.size := hS4.size
       replace hv102 := hv102.keep (kp_alloc w109 (.cells #[.bool false, .slice none 0 0, .bool false, .slice none 0 0, .bool false, .slice none 0 0, .int .i64 0] 48))
       replace hv105 := hv105.keep (kp_alloc w109 (.cells #[.bool false, .slice none 0 0, .bool false, .slice none 0 0, .bool false, .slice none 0 0, .int .i64 0] 48))
       replace hv109 := hv109.keep (kp_alloc w109 (.cells #[.bool false, .slice none 0 0, .bool false, .slice none 0 0, .bool false, .slice none 0 0, .int .i64 0] 48))
       try simp only [sq]
       generalize hA12 : w109.heap.size = A12 at *
       generalize w109.alloc (.cells #[.bool false, .slice none 0 0, .bool false, .slice none 0 0, .bool false, .slice none 0 0, .int .i64 0] 48) = wn12 at *
       have st_c := NB12.cell
       have st_f := NB12.frozen
       have st_l := NB12.lt
       refine wpAnyL_last (i := 13) rfl (by kernel_rfl) (by kernel_rfl) (by kernel_rfl) (fun K hK => ?_)
       go_simp
       refine hK.out _ _ ?_
       clear hK K
       go_wp2_with fail
       go_meet
       case rel => exact ⟨A12, _, _, _, _, _, _, _, _, _, _, _, _, rfl, (bl7 (.bool b102) (.slice ao102 n102 c102) (.bool b105) (.slice ao105 n105 c105) (.bool b109) (.slice ao109 n109 c109) (.int .i64 d) NB12), hv102.soft (sf7 (.bool b102) (.slice ao102 n102 c102) (.bool b105) (.slice ao105 n105 c105) (.bool b109) (.slice ao109 n109 c109) (.int .i64 d) NB12 (by decide)), hv105.soft (sf7 (.bool b102) (.slice ao102 n102 c102) (.bool b105) (.slice ao105 n105 c105) (.bool b109) (.slice ao109 n109 c109) (.int .i64 d) NB12 (by decide)), hv109.soft (sf7 (.bool b102) (.slice ao102 n102 c102) (.bool b105) (.slice ao105 n105 c105) (.bool b109) (.slice ao109 n109 c109) (.int .i64 d) NB12 (by decide)), (kp7 (A := A12) (.bool b102) (.slice ao102 n102 c102) (.bool b105) (.slice ao105 n105 c105) (.bool b109) (.slice ao109 n109 c109) (.int .i64 d) hS5 ge12), ge12⟩
      refine AllReadyL.cons rfl (fun K hK => ?_) ?_
      ·go_simp
       refine hK.out _ _ (Kp.alloc' hS3 (.cells #[.bool false, .slice none 0 0, .bool false, .slice none 0 0, .bool false, .slice none 0 0, .int .i64 0] 48)) (fun hS4 => ?_)
       clear hK K
       have NB12 := Blk.new w107 #[.bool false, .slice none 0 0, .bool false, .slice none 0 0, .bool false, .slice none 0 0, .int .i64 0] 48
       have ge12 : wq.heap.size ≤ w107.heap.size := hS3.size
       replace hv102 := hv102.keep (kp_alloc w107 (.cells #[.bool false, .slice none 0 0, .bool false, .slice none 0 0, .bool false, .slice none 0 0, .int .i64 0] 48))
       replace hv105 := hv105.keep (kp_alloc w107 (.cells #[.bool false, .slice none 0 0, .bool false, .slice none 0 0, .bool false, .slice none 0 0, .int .i64 0] 48))
       replace hv107 := hv107.keep (kp_alloc w107 (.cells #[.bool false, .slice none 0 0, .bool false, .slice none 0 0, .bool false, .slice none 0 0, .int .i64 0] 48))
       try simp only [sq]
       generalize hA12 : w107.heap.size = A12 at *
       generalize w107.alloc (.cells #[.bool false, .slice none 0 0, .bool false, .slice none 0 0, .bool false, .slice none 0 0, .int .i64 0] 48) = wn12 at *
       refine wpAnyL_on (i := 9) rfl (fun K hK => ?_)
       go_simp
       refine (rexact_any (r.natAbs : Int) g m _ _ _ hv107 (hg.keep hS4) g0 hm fr.abs fg).mono ?_
       rintro e w109 ⟨v109, rfl, hv109, hk109⟩
       obtain ⟨b109, ao109, n109, c109, rfl⟩ := hv109.shape'
       replace hv102 := hv102.keep hk109
       replace hv105 := hv105.keep hk109
       replace NB12 := NB12.keep hk109
       go_wp2_with fail
       refine hK.out _ _ (hS4.trans' hk109) (fun hS5 => ?_)
       clear hK K
       refine wpAnyL_tk (i := 11) (k := 13) (v := .agg #[.bool b102, .slice ao102 n102 c102, .bool b105, .slice ao105 n105 c105, .bool b109, .slice ao109 n109 c109, .int .i64 d]) rfl ?_ hS5 ?_
       ·intro w' hw'; go_simp
       simp only [sq]
       have st_c := NB12.cell
       have st_f := NB12.frozen
       have st_l := NB12.lt
       refine wpAnyL_last (i := 13) rfl (by kernel_rfl) (by kernel_rfl) (by kernel_rfl) (fun K hK => ?_)
       go_simp
       refine hK.out _ _ ?_
       clear hK K
       go_wp2_with fail
       go_meet
       case rel => exact ⟨A12, _, _, _, _, _, _, _, _, _, _, _, _, rfl, (bl7 (.bool b102) (.slice ao102 n102 c102) (.bool b105) (.slice ao105 n105 c105) (.bool b109) (.slice ao109 n109 c109) (.int .i64 d) NB12), hv102.soft (sf7 (.bool b102) (.slice ao102 n102 c102) (.bool b105) (.slice ao105 n105 c105) (.bool b109) (.slice ao109 n109 c109) (.int .i64 d) NB12 (by decide)), hv105.soft (sf7 (.bool b102) (.slice ao102 n102 c102) (.bool b105) (.slice ao105 n105 c105) (.bool b109) (.slice ao109 n109 c109) (.int .i64 d) NB12 (by decide)), hv109.soft (sf7 (.bool b102) (.slice ao102 n102 c102) (.bool b105) (.slice ao105 n105 c105) (.bool b109) (.slice ao109 n109 c109) (.int .i64 d) NB12 (by decide)), (kp7 (A := A12) (.bool b102) (.slice ao102 n102 c102) (.bool b105) (.slice ao105 n105 c105) (.bool b109) (.slice ao109 n109 c109) (.int .i64 d) hS5 ge12), ge12⟩
      exact AllReadyL.nil
     refine AllReadyL.cons rfl (fun K hK => ?_) ?_
     ·go_simp
      refine hK.out _ _ (Kp.alloc' hS2 (.cells #[.bool false, .slice none 0 0, .bool false, .slice none 0 0, .bool false, .slice none 0 0, .int .i64 0] 48)) (fun hS3 => ?_)
      clear hK K
      have NB12 := Blk.new w105 #[.bool false, .slice none 0 0, .bool false, .slice none 0 0, .bool false, .slice none 0 0, .int .i64 0] 48
      have ge12 : wq.heap.size ≤ w105.heap.size := hS2.size
      replace hv102 := hv102.keep (kp_alloc w105 (.cells #[.bool false, .slice none 0 0, .bool false, .slice none 0 0, .bool false, .slice none 0 0, .int .i64 0] 48))
      replace hv105 := hv105.keep (kp_alloc w105 (.cells #[.bool false, .slice none 0 0, .bool false, .slice none 0 0, .bool false, .slice none 0 0, .int .i64 0] 48))
      try simp only [sq]
      generalize hA12 : w105.heap.size = A12 at *
      generalize w105.alloc (.cells #[.bool false, .slice none 0 0, .bool false, .slice none 0 0, .bool false, .slice none 0 0, .int .i64 0] 48) = wn12 at *
      refine wpAnyL_on (i := 7) rfl (fun K hK => ?_)
      go_simp
      refine (size_any r _ _ (hr.keep hS3)).mono ?_
      rintro e w107 ⟨v107, rfl, hv107, hk107⟩
      obtain ⟨b107, ao107, n107, c107, rfl⟩ := hv107.shape'
      replace hv102 := hv102.keep hk107
      replace hv105 := hv105.keep hk107
      replace NB12 := NB12.keep hk107
      go_wp2_with fail
      refine hK.out _ _ (hS3.trans' hk107) (fun hS4 => ?_)
      clear hK K
      refine wpAnyL_on (i := 9) rfl (fun K hK => ?_)
      go_simp
      refine (rexact_any (r.natAbs : Int) g m _ _ _ hv107 (hg.keep hS4) g0 hm fr.abs fg).mono ?_
      rintro e w109 ⟨v109, rfl, hv109, hk109⟩
      obtain ⟨b109, ao109, n109, c109, rfl⟩ := hv109.shape'
      replace hv102 := hv102.keep hk109
      replace hv105 := hv105.keep hk109
      replace NB12 := NB12.keep hk109
      go_wp2_with fail
      refine hK.out _ _ (hS4.trans' hk109) (fun hS5 => ?_)
      clear hK K
      refine wpAnyL_tk (i := 11) (k := 13) (v := .agg #[.bool b102, .slice ao102 n102 c102, .bool b105, .slice ao105 n105 c105, .bool b109, .slice ao109 n109 c109, .int .i64 d]) rfl ?_ hS5 ?_
      ·intro w' hw'; go_simp
      simp only [sq]
      have st_c := NB12.cell
      have st_f := NB12.frozen
      have st_l := NB12.lt
      refine wpAnyL_last (i := 13) rfl (by kernel_rfl) (by kernel_rfl) (by kernel_rfl) (fun K hK => ?_)
      go_simp
      refine hK.out _ _ ?_
      clear hK K
      go_wp2_with fail
      go_meet
      case rel => exact ⟨A12, _, _, _, _, _, _, _, _, _, _, _, _, rfl, (bl7 (.bool b102) (.slice ao102 n102 c102) (.bool b105) (.slice ao105 n105 c105) (.bool b109) (.slice ao109 n109 c109) (.int .i64 d) NB12), hv102.soft (sf7 (.bool b102) (.slice ao102 n102 c102) (.bool b105) (.slice ao105 n105 c105) (.bool b109) (.slice ao109 n109 c109) (.int .i64 d) NB12 (by decide)), hv105.soft (sf7 (.bool b102) (.slice ao102 n102 c102) (.bool b105) (.slice ao105 n105 c105) (.bool b109) (.slice ao109 n109 c109) (.int .i64 d) NB12 (by decide)), hv109.soft (sf7 (.bool b102) (.slice ao102 n102 c102) (.bool b105) (.slice ao105 n105 c105) (.bool b109) (.slice ao109 n109 c109) (.int .i64 d) NB12 (by decide)), (kp7 (A := A12) (.bool b102) (.slice ao102 n102 c102) (.bool b105) (.slice ao105 n105 c105) (.bool b109) (.slice ao109 n109 c109) (.int .i64 d) hS5 ge12), ge12⟩
     exact AllReadyL.nil
    refine AllReadyL.cons rfl (fun K hK => ?_) ?_
    ·go_simp
     refine hK.out _ _ (Kp.alloc' hS1 (.cells #[.bool false, .slice none 0 0, .bool false, .slice none 0 0, .bool false, .slice none 0 0, .int .i64 0] 48)) (fun hS2 => ?_)
     clear hK K
     have NB12 := Blk.new w102 #[.bool false, .slice none 0 0, .bool false, .slice none 0 0, .bool false, .slice none 0 0, .int .i64 0] 48
     have ge12 : wq.heap.size ≤ w102.heap.size := hS1.size
     replace hv102 := hv102.keep (kp_alloc w102 (.cells #[.bool false, .slice none 0 0, .bool false, .slice none 0 0, .bool false, .slice none 0 0, .int .i64 0] 48))
     try simp only [sq]
     generalize hA12 : w102.heap.size = A12 at *
     generalize w102.alloc (.cells #[.bool false, .slice none 0 0, .bool false, .slice none 0 0, .bool false, .slice none 0 0, .int .i64 0] 48) = wn12 at *
     refine wpAnyL_on (i := 5) rfl (fun K hK => ?_)
     go_simp
     refine (rexact_any q g m _ _ _ (hq.keep hS2) (hg.keep hS2) g0 hm fq fg).mono ?_
     rintro e w105 ⟨v105, rfl, hv105, hk105⟩
     obtain ⟨b105, ao105, n105, c105, rfl⟩ := hv105.shape'
     replace hv102 := hv102.keep hk105
     replace NB12 := NB12.keep hk105
     go_wp2_with fail
     refine hK.out _ _ (hS2.trans' hk105) (fun hS3 => ?_)
     clear hK K
     refine wpAnyL_on (i := 7) rfl (fun K hK => ?_)
     go_simp
     refine (size_any r _ _ (hr.keep hS3)).mono ?_
     rintro e w107 ⟨v107, rfl, hv107, hk107⟩
     obtain ⟨b107, ao107, n107, c107, rfl⟩ := hv107.shape'
     replace hv102 := hv102.keep hk107
     replace NB12 := NB12.keep hk107
     replace hv105 := hv105.keep hk107
     go_wp2_with fail
     refine hK.out _ _ (hS3.trans' hk107) (fun hS4 => ?_)
     clear hK K
     refine wpAnyL_on (i := 9) rfl (fun K hK => ?_)
     go_simp
     refine (rexact_any (r.natAbs : Int) g m _ _ _ hv107 (hg.keep hS4) g0 hm fr.abs fg).mono ?_
     rintro e w109 ⟨v109, rfl, hv109, hk109⟩
     obtain ⟨b109, ao109, n109, c109, rfl⟩ := hv109.shape'
     replace hv102 := hv102.keep hk109
     replace NB12 := NB12.keep hk109
     replace hv105 := hv105.keep hk109
     go_wp2_with fail
     refine hK.out _ _ (hS4.trans' hk109) (fun hS5 => ?_)
     clear hK K
     refine wpAnyL_tk (i := 11) (k := 13) (v := .agg #[.bool b102, .slice ao102 n102 c102, .bool b105, .slice ao105 n105 c105, .bool b109, .slice ao109 n109 c109, .int .i64 d]) rfl ?_ hS5 ?_
     ·intro w' hw'; go_simp
     simp only [sq]
     have st_c := NB12.cell
     have st_f := NB12.frozen
     have st_l := NB12.lt
     refine wpAnyL_last (i := 13) rfl (by kernel_rfl) (by kernel_rfl) (by kernel_rfl) (fun K hK => ?_)
     go_simp
     refine hK.out _ _ ?_
     clear hK K
     go_wp2_with fail
     go_meet
     case rel => exact ⟨A12, _, _, _, _, _, _, _, _, _, _, _, _, rfl, (bl7 (.bool b102) (.slice ao102 n102 c102) (.bool b105) (.slice ao105 n105 c105) (.bool b109) (.slice ao109 n109 c109) (.int .i64 d) NB12), hv102.soft (sf7 (.bool b102) (.slice ao102 n102 c102) (.bool b105) (.slice ao105 n105 c105) (.bool b109) (.slice ao109 n109 c109) (.int .i64 d) NB12 (by decide)), hv105.soft (sf7 (.bool b102) (.slice ao102 n102 c102) (.bool b105) (.slice ao105 n105 c105) (.bool b109) (.slice ao109 n109 c109) (.int .i64 d) NB12 (by decide)), hv109.soft (sf7 (.bool b102) (.slice ao102 n102 c102) (.bool b105) (.slice ao105 n105 c105) (.bool b109) (.slice ao109 n109 c109) (.int .i64 d) NB12 (by decide)), (kp7 (A := A12) (.bool b102) (.slice ao102 n102 c102) (.bool b105) (.slice ao105 n105 c105) (.bool b109) (.slice ao109 n109 c109) (.int .i64 d) hS5 ge12), ge12⟩
    exact AllReadyL.nil
   refine AllReadyL.cons rfl (fun K hK => ?_) ?_
   ·go_simp
    refine hK.out _ _ (Kp.alloc' hS0 (.cells #[.bool false, .slice none 0 0, .bool false, .slice none 0 0, .bool false, .slice none 0 0, .int .i64 0] 48)) (fun hS1 => ?_)
    clear hK K
    have NB12 := Blk.new wd #[.bool false, .slice none 0 0, .bool false, .slice none 0 0, .bool false, .slice none 0 0, .int .i64 0] 48
    have ge12 : wq.heap.size ≤ wd.heap.size := hS0.size
    try simp only [sq]
    generalize hA12 : wd.heap.size = A12 at *
    generalize wd.alloc (.cells #[.bool false, .slice none 0 0, .bool false, .slice none 0 0, .bool false, .slice none 0 0, .int .i64 0] 48) = wn12 at *
    refine wpAnyL_on (i := 2) rfl (fun K hK => ?_)
    go_simp
    refine (rexact_any p g m _ _ _ (hp.keep hS1) (hg.keep hS1) g0 hm fp fg).mono ?_
    rintro e w102 ⟨v102, rfl, hv102, hk102⟩
    obtain ⟨b102, ao102, n102, c102, rfl⟩ := hv102.shape'
    replace NB12 := NB12.keep hk102
    go_wp2_with fail
    refine hK.out _ _ (hS1.trans' hk102) (fun hS2 => ?_)
    clear hK K
    refine wpAnyL_on (i := 5) rfl (fun K hK => ?_)
    go_simp
    refine (rexact_any q g m _ _ _ (hq.keep hS2) (hg.keep hS2) g0 hm fq fg).mono ?_
    rintro e w105 ⟨v105, rfl, hv105, hk105⟩
    obtain ⟨b105, ao105, n105, c105, rfl⟩ := hv105.shape'
    replace NB12 := NB12.keep hk105
    replace hv102 := hv102.keep hk105
    go_wp2_with fail
    refine hK.out _ _ (hS2.trans' hk105) (fun hS3 => ?_)
    clear hK K
    refine wpAnyL_on (i := 7) rfl (fun K hK => ?_)
    go_simp
    refine (size_any r _ _ (hr.keep hS3)).mono ?_
    rintro e w107 ⟨v107, rfl, hv107, hk107⟩
    obtain ⟨b107, ao107, n107, c107, rfl⟩ := hv107.shape'
    replace NB12 := NB12.keep hk107
    replace hv102 := hv102.keep hk107
    replace hv105 := hv105.keep hk107
    go_wp2_with fail
    refine hK.out _ _ (hS3.trans' hk107) (fun hS4 => ?_)
    clear hK K
    refine wpAnyL_on (i := 9) rfl (fun K hK => ?_)
    go_simp
    refine (rexact_any (r.natAbs : Int) g m _ _ _ hv107 (hg.keep hS4) g0 hm fr.abs fg).mono ?_
    rintro e w109 ⟨v109, rfl, hv109, hk109⟩
    obtain ⟨b109, ao109, n109, c109, rfl⟩ := hv109.shape'
    replace NB12 := NB12.keep hk109
    replace hv102 := hv102.keep hk109
    replace hv105 := hv105.keep hk109
    go_wp2_with fail
    refine hK.out _ _ (hS4.trans' hk109) (fun hS5 => ?_)
    clear hK K
    refine wpAnyL_tk (i := 11) (k := 13) (v := .agg #[.bool b102, .slice ao102 n102 c102, .bool b105, .slice ao105 n105 c105, .bool b109, .slice ao109 n109 c109, .int .i64 d]) rfl ?_ hS5 ?_
    ·intro w' hw'; go_simp
    simp only [sq]
    have st_c := NB12.cell
    have st_f := NB12.frozen
    have st_l := NB12.lt
    refine wpAnyL_last (i := 13) rfl (by kernel_rfl) (by kernel_rfl) (by kernel_rfl) (fun K hK => ?_)
    go_simp
    refine hK.out _ _ ?_
    clear hK K
    go_wp2_with fail
    go_meet
    case rel => exact ⟨A12, _, _, _, _, _, _, _, _, _, _, _, _, rfl, (bl7 (.bool b102) (.slice ao102 n102 c102) (.bool b105) (.slice ao105 n105 c105) (.bool b109) (.slice ao109 n109 c109) (.int .i64 d) NB12), hv102.soft (sf7 (.bool b102) (.slice ao102 n102 c102) (.bool b105) (.slice ao105 n105 c105) (.bool b109) (.slice ao109 n109 c109) (.int .i64 d) NB12 (by decide)), hv105.soft (sf7 (.bool b102) (.slice ao102 n102 c102) (.bool b105) (.slice ao105 n105 c105) (.bool b109) (.slice ao109 n109 c109) (.int .i64 d) NB12 (by decide)), hv109.soft (sf7 (.bool b102) (.slice ao102 n102 c102) (.bool b105) (.slice ao105 n105 c105) (.bool b109) (.slice ao109 n109 c109) (.int .i64 d) NB12 (by decide)), (kp7 (A := A12) (.bool b102) (.slice ao102 n102 c102) (.bool b105) (.slice ao105 n105 c105) (.bool b109) (.slice ao109 n109 c109) (.int .i64 d) hS5 ge12), ge12⟩
   exact AllReadyL.nil
  case rest =>
   obtain ⟨bn, b11, ao11, n11, c11, b12, ao12, n12, c12, b13, ao13, n13, c13, rfl, BN, hP, hQ, hR, hkc, hgn⟩ := hcut
   replace BQ := BQ.keep hkc
   replace BR := BR.keep hkc
   replace BE := BE.keep hkc
   replace hkb := hkb.trans' hkc
   clear hp hq hr BP BG hg hkc
   have bqc := BQ.cell
   have brc := BR.cell
   have bql := BQ.lt
   have brl := BR.lt
   have bnc := BN.cell
   have bnf := BN.frozen
   have bnl := BN.lt
   have hn2 := hql.2
   have hneg := HNEG.out
   by_cases hr0 : r < 0
   ·have hQR := Hid.mk (hQN.out hr0)
    rw [decide_eq_true hr0] at hneg
    subst hneg
    clear hQN hQP HNEG
    go_wp2_with fail
    refine (less_any _ _ _ hP).mono ?_
    rintro e w6 ⟨v6, rfl, hv6, hk6⟩
    obtain ⟨b21, ao21, n21, c21, rfl⟩ := hv6.shape'
    have BN6 := BN.keep hk6
    have BQ6 := BQ.keep hk6
    have BE6 := BE.keep hk6
    clear bqc brc bql brl bnc bnf bnl BR
    have bnc := BN6.cell
    have bnf := BN6.frozen
    have bnl := BN6.lt
    go_wp2_with fail
    have sf6 := (sf2 (E := 3) (.bool b21) (.slice ao21 n21 c21) BN6 (by decide))
    refine (less_any _ _ _ ((hQ.keep hk6).soft sf6)).mono ?_
    rintro e w7 ⟨v7, rfl, hv7, hk7⟩
    obtain ⟨b22, ao22, n22, c22, rfl⟩ := hv7.shape'
    have BN7 : Blk w7 bn #[.bool b21, .slice ao21 n21 c21, .bool b12, .slice ao12 n12 c12, .bool b13, .slice ao13 n13 c13, .int .i64 d] 48 := Blk.keep hk7 (Blk.set (o := 1) (y := .slice ao21 n21 c21) (Blk.set (o := 0) (y := .bool b21) BN6))
    have BQ7 := Blk.keep hk7 (ot2 (A := bn) (.bool b21) (.slice ao21 n21 c21) BQ6 (by omega))
    have BE7 := Blk.keep hk7 (ot2 (A := bn) (.bool b21) (.slice ao21 n21 c21) BE6 (by omega))
    have hP7 := (hv6.soft sf6).keep hk7
    have hR7 := ((hR.keep hk6).soft sf6).keep hk7
    have hkb7 : Kp w w7 := Kp.trans' (kp2 (A := bn) (.bool b21) (.slice ao21 n21 c21) (hkb.trans' hk6) (by show w.heap.size ≤ bn; omega)) hk7
    clear bnc bnf bnl BN6 BQ6 BE6 BN BQ BE hkb sf6 hP hQ hR hv6
    have bnc := BN7.cell
    have bnf := BN7.frozen
    have bnl := BN7.lt
    have bqc := BQ7.cell
    have bql := BQ7.lt
    have bec := BE7.cell
    have bef := BE7.frozen
    have bel := BE7.lt
    by_cases hqz : q = 0
    ·have e2 : n2 = 0 := hql.1.mpr hqz
     subst e2
     have e4 : Hid (qreduce p q r d = ⟨-(p.tdiv g), -(q.tdiv g), (r.natAbs : Int).tdiv g, 1⟩) := by
      unfold Hid
      rw [hQR.out]
      rw [if_pos hqz]
     clear hqz hql
     go_wp2_with fail
     refine bodyPost_ret (v := .agg #[.bool b21, .slice ao21 n21 c21, .bool b22, .slice ao22 n22 c22, .bool b13, .slice ao13 n13 c13, .int .i64 1]) (by simp [results, Try.results60, go_sem, bec]) rfl ?_
     rw [e4.out]
     have sfE : Sf 3 w7 _ := (Sf.set (t := 48) (c := w.heap.size + 1 + 1 + 1) (o := 6) (y := .int .i64 1) (Sf.set (t := 48) (c := w.heap.size + 1 + 1 + 1) (o := 5) (y := .slice ao13 n13 c13) (Sf.set (t := 48) (c := w.heap.size + 1 + 1 + 1) (o := 4) (y := .bool b13) (Sf.set (t := 48) (c := w.heap.size + 1 + 1 + 1) (o := 3) (y := .slice ao22 n22 c22) (Sf.set (t := 48) (c := w.heap.size + 1 + 1 + 1) (o := 2) (y := .bool b22) (Sf.set (t := 48) (c := w.heap.size + 1 + 1 + 1) (o := 1) (y := .slice ao21 n21 c21) (Sf.set (t := 48) (c := w.heap.size + 1 + 1 + 1) (o := 0) (y := .bool b21) (Sf.set (t := 48) (c := bn) (o := 6) (y := .int .i64 1) (Sf.set (t := 48) (c := bn) (o := 3) (y := .slice ao22 n22 c22) (Sf.set (t := 48) (c := bn) (o := 2) (y := .bool b22) (Sf.refl 3 w7) (by first | (simp only [elemOf_setCell]; exact BN7.elem) | exact BN7.elem) (by decide)) (by first | (simp only [elemOf_setCell]; exact BN7.elem) | exact BN7.elem) (by decide)) (by first | (simp only [elemOf_setCell]; exact BN7.elem) | exact BN7.elem) (by decide)) (by first | (simp only [elemOf_setCell]; exact BE7.elem) | exact BE7.elem) (by decide)) (by first | (simp only [elemOf_setCell]; exact BE7.elem) | exact BE7.elem) (by decide)) (by first | (simp only [elemOf_setCell]; exact BE7.elem) | exact BE7.elem) (by decide)) (by first | (simp only [elemOf_setCell]; exact BE7.elem) | exact BE7.elem) (by decide)) (by first | (simp only [elemOf_setCell]; exact BE7.elem) | exact BE7.elem) (by decide)) (by first | (simp only [elemOf_setCell]; exact BE7.elem) | exact BE7.elem) (by decide)) (by first | (simp only [elemOf_setCell]; exact BE7.elem) | exact BE7.elem) (by decide))
     exact ⟨_, rfl, ⟨_, _, _, _, _, _, _, _, _, _, _, _, rfl, hP7.soft sfE, hv7.soft sfE, hR7.soft sfE⟩, (stK7 (A := w.heap.size + 1 + 1 + 1) (.bool b21) (.slice ao21 n21 c21) (.bool b22) (.slice ao22 n22 c22) (.bool b13) (.slice ao13 n13 c13) (.int .i64 1) (Below.setCell (Below.setCell (Below.setCell hkb7 (p := ⟨bn, 2, none⟩) (by show w.heap.size ≤ bn; omega) (.bool b22)) (p := ⟨bn, 3, none⟩) (by show w.heap.size ≤ bn; omega) (.slice ao22 n22 c22)) (p := ⟨bn, 6, none⟩) (by show w.heap.size ≤ bn; omega) (.int .i64 1)) (by show w.heap.size ≤ w.heap.size + 1 + 1 + 1; omega))⟩
    ·have e2 : ¬ n2 = 0 := fun h => hqz (hql.1.mp h)
     have e3 : ((n2 : Int) == 0) = false := by simp; omega
     have e4 : Hid (qreduce p q r d = ⟨-(p.tdiv g), -(q.tdiv g), (r.natAbs : Int).tdiv g, d⟩) := by
      unfold Hid
      rw [hQR.out]
      rw [if_neg hqz]
     clear hqz hql
     go_wp2_with fail
     refine bodyPost_ret (v := .agg #[.bool b21, .slice ao21 n21 c21, .bool b22, .slice ao22 n22 c22, .bool b13, .slice ao13 n13 c13, .int .i64 d]) (by simp [results, Try.results60, go_sem, bec]) rfl ?_
     rw [e4.out]
     have sfE : Sf 3 w7 _ := (Sf.set (t := 48) (c := w.heap.size + 1 + 1 + 1) (o := 6) (y := .int .i64 d) (Sf.set (t := 48) (c := w.heap.size + 1 + 1 + 1) (o := 5) (y := .slice ao13 n13 c13) (Sf.set (t := 48) (c := w.heap.size + 1 + 1 + 1) (o := 4) (y := .bool b13) (Sf.set (t := 48) (c := w.heap.size + 1 + 1 + 1) (o := 3) (y := .slice ao22 n22 c22) (Sf.set (t := 48) (c := w.heap.size + 1 + 1 + 1) (o := 2) (y := .bool b22) (Sf.set (t := 48) (c := w.heap.size + 1 + 1 + 1) (o := 1) (y := .slice ao21 n21 c21) (Sf.set (t := 48) (c := w.heap.size + 1 + 1 + 1) (o := 0) (y := .bool b21) (Sf.set (t := 48) (c := bn) (o := 3) (y := .slice ao22 n22 c22) (Sf.set (t := 48) (c := bn) (o := 2) (y := .bool b22) (Sf.refl 3 w7) (by first | (simp only [elemOf_setCell]; exact BN7.elem) | exact BN7.elem) (by decide)) (by first | (simp only [elemOf_setCell]; exact BN7.elem) | exact BN7.elem) (by decide)) (by first | (simp only [elemOf_setCell]; exact BE7.elem) | exact BE7.elem) (by decide)) (by first | (simp only [elemOf_setCell]; exact BE7.elem) | exact BE7.elem) (by decide)) (by first | (simp only [elemOf_setCell]; exact BE7.elem) | exact BE7.elem) (by decide)) (by first | (simp only [elemOf_setCell]; exact BE7.elem) | exact BE7.elem) (by decide)) (by first | (simp only [elemOf_setCell]; exact BE7.elem) | exact BE7.elem) (by decide)) (by first | (simp only [elemOf_setCell]; exact BE7.elem) | exact BE7.elem) (by decide)) (by first | (simp only [elemOf_setCell]; exact BE7.elem) | exact BE7.elem) (by decide))
     exact ⟨_, rfl, ⟨_, _, _, _, _, _, _, _, _, _, _, _, rfl, hP7.soft sfE, hv7.soft sfE, hR7.soft sfE⟩, (stK7 (A := w.heap.size + 1 + 1 + 1) (.bool b21) (.slice ao21 n21 c21) (.bool b22) (.slice ao22 n22 c22) (.bool b13) (.slice ao13 n13 c13) (.int .i64 d) (Below.setCell (Below.setCell hkb7 (p := ⟨bn, 2, none⟩) (by show w.heap.size ≤ bn; omega) (.bool b22)) (p := ⟨bn, 3, none⟩) (by show w.heap.size ≤ bn; omega) (.slice ao22 n22 c22)) (by show w.heap.size ≤ w.heap.size + 1 + 1 + 1; omega))⟩
   ·have hQR := Hid.mk (hQP.out (by omega))
    rw [decide_eq_false hr0] at hneg
    subst hneg
    clear hQN hQP HNEG
    have bec := BE.cell
    have bef := BE.frozen
    have bel := BE.lt
    by_cases hqz : q = 0
    ·have e2 : n2 = 0 := hql.1.mpr hqz
     subst e2
     have e4 : Hid (qreduce p q r d = ⟨p.tdiv g, q.tdiv g, (r.natAbs : Int).tdiv g, 1⟩) := by
      unfold Hid
      rw [hQR.out]
      rw [if_pos hqz]
     clear hqz hql
     go_wp2_with fail
     refine bodyPost_ret (v := .agg #[.bool b11, .slice ao11 n11 c11, .bool b12, .slice ao12 n12 c12, .bool b13, .slice ao13 n13 c13, .int .i64 1]) (by simp [results, Try.results60, go_sem, bec]) rfl ?_
     rw [e4.out]
     have sfE : Sf 3 wc _ := (Sf.set (t := 48) (c := w.heap.size + 1 + 1 + 1) (o := 6) (y := .int .i64 1) (Sf.set (t := 48) (c := w.heap.size + 1 + 1 + 1) (o := 5) (y := .slice ao13 n13 c13) (Sf.set (t := 48) (c := w.heap.size + 1 + 1 + 1) (o := 4) (y := .bool b13) (Sf.set (t := 48) (c := w.heap.size + 1 + 1 + 1) (o := 3) (y := .slice ao12 n12 c12) (Sf.set (t := 48) (c := w.heap.size + 1 + 1 + 1) (o := 2) (y := .bool b12) (Sf.set (t := 48) (c := w.heap.size + 1 + 1 + 1) (o := 1) (y := .slice ao11 n11 c11) (Sf.set (t := 48) (c := w.heap.size + 1 + 1 + 1) (o := 0) (y := .bool b11) (Sf.set (t := 48) (c := bn) (o := 6) (y := .int .i64 1) (Sf.refl 3 wc) (by first | (simp only [elemOf_setCell]; exact BN.elem) | exact BN.elem) (by decide)) (by first | (simp only [elemOf_setCell]; exact BE.elem) | exact BE.elem) (by decide)) (by first | (simp only [elemOf_setCell]; exact BE.elem) | exact BE.elem) (by decide)) (by first | (simp only [elemOf_setCell]; exact BE.elem) | exact BE.elem) (by decide)) (by first | (simp only [elemOf_setCell]; exact BE.elem) | exact BE.elem) (by decide)) (by first | (simp only [elemOf_setCell]; exact BE.elem) | exact BE.elem) (by decide)) (by first | (simp only [elemOf_setCell]; exact BE.elem) | exact BE.elem) (by decide)) (by first | (simp only [elemOf_setCell]; exact BE.elem) | exact BE.elem) (by decide))
     exact ⟨_, rfl, ⟨_, _, _, _, _, _, _, _, _, _, _, _, rfl, hP.soft sfE, hQ.soft sfE, hR.soft sfE⟩, (stK7 (A := w.heap.size + 1 + 1 + 1) (.bool b11) (.slice ao11 n11 c11) (.bool b12) (.slice ao12 n12 c12) (.bool b13) (.slice ao13 n13 c13) (.int .i64 1) (Below.setCell hkb (p := ⟨bn, 6, none⟩) (by show w.heap.size ≤ bn; omega) (.int .i64 1)) (by show w.heap.size ≤ w.heap.size + 1 + 1 + 1; omega))⟩
    ·have e2 : ¬ n2 = 0 := fun h => hqz (hql.1.mp h)
     have e3 : ((n2 : Int) == 0) = false := by simp; omega
     have e4 : Hid (qreduce p q r d = ⟨p.tdiv g, q.tdiv g, (r.natAbs : Int).tdiv g, d⟩) := by
      unfold Hid
      rw [hQR.out]
      rw [if_neg hqz]
     clear hqz hql
     go_wp2_with fail
     refine bodyPost_ret (v := .agg #[.bool b11, .slice ao11 n11 c11, .bool b12, .slice ao12 n12 c12, .bool b13, .slice ao13 n13 c13, .int .i64 d]) (by simp [results, Try.results60, go_sem, bec]) rfl ?_
     rw [e4.out]
     have sfE : Sf 3 wc _ := (stS7 (E := 3) (.bool b11) (.slice ao11 n11 c11) (.bool b12) (.slice ao12 n12 c12) (.bool b13) (.slice ao13 n13 c13) (.int .i64 d) BE (by decide))
     exact ⟨_, rfl, ⟨_, _, _, _, _, _, _, _, _, _, _, _, rfl, hP.soft sfE, hQ.soft sfE, hR.soft sfE⟩, (stK7 (A := w.heap.size + 1 + 1 + 1) (.bool b11) (.slice ao11 n11 c11) (.bool b12) (.slice ao12 n12 c12) (.bool b13) (.slice ao13 n13 c13) (.int .i64 d) hkb (by show w.heap.size ≤ w.heap.size + 1 + 1 + 1; omega))⟩

end Go.Proofs.Ytjahbjjekednfaa
