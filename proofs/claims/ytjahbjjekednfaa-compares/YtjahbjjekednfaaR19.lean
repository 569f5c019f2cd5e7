import Derived.Test.YtjahbjjekednfaaR18
import Derived.Test.YtjahbjjekednfaaQ2
import Derived.Test.YtjahbjjekednfaaP5
namespace Go.Proofs.Ytjahbjjekednfaa
open Go.RowKit

set_option maxHeartbeats 6400000 in
set_option maxRecDepth 100000 in
theorem value_m (s : ByteArray) (p i : Nat) (c : Int) (r1 rt : Rs) (w : World) (hs1 : 1 ≤ s.size) (hs : s.size ≤ 100) (hp : p ≤ 1000) (hi : i < s.size) (hl0 : lst (bl s) 43 45 (s.size - 1) 0 = -1) (hl : lst (bl s) 42 47 (s.size - 1) 0 = (i : Int)) (hc4 : c = 43 ∨ c = 45 ∨ c = 42 ∨ c = 47) (hci : byteAt s i = c)
  (H1 : ∀ w, Calls Try.prog 24 #[.string (s.extract 0 i), .int .i64 p] w (RetV3 w r1)) (H2 : ∀ w, Calls Try.prog 24 #[.string (s.extract (i + 1) s.size), .int .i64 ((p : Int) + i + 1)] w (RetV3 w rt))
  (q1 : RsOk 9000000 r1) (q2 : RsOk 9000000 rt) :
  Calls Try.prog 24 #[.string s, .int .i64 p] w (RetV3 w (opR c (p + i) r1 rt)) := by
 have hb := byteAt_eq s i hi
 rw [hci] at hb
 have hi2 : (i : Int) < (s.size : Int) := by omega
 have hi0 : (0 : Int) ≤ (i : Int) := by omega
 have hi3 : (i : Int) + 1 ≤ (s.size : Int) := by omega
 go_enter Try.func24, Try.ntmps24
 go_wp2_with fail
 refine (last_any s 43 45 _ hs1 (by omega)).mono ?_
 rintro e w0 ⟨rfl, hk0⟩
 rw [hl0]
 go_wp2_with fail
 refine (last_any s 42 47 _ hs1 (by omega)).mono ?_
 rintro e w1 ⟨rfl, hk1⟩
 rw [hl]
 have hkb := ((kp_alloc w (.cells #[.bool false, .slice none 0 0, .bool false, .slice none 0 0, .bool false, .slice none 0 0, .int .i64 0] 48)).trans' hk0).trans' hk1
 have BE := Blk.keep hk1 (Blk.keep hk0 (Blk.new w _ _))
 clear hk1 hk0
 have bel := BE.lt
 have bec := BE.cell
 have bef := BE.frozen
 go_wp2_with fail
 refine (H1 _).mono ?_
 rintro e w2 ⟨v1, a1, rfl, hv1, ha1, hk2⟩
 obtain ⟨b1, ao1, n1, c1, b2, ao2, n2, c2, b3, ao3, n3, c3, rfl, x1, x2, x3⟩ := id hv1
 clear x1 x2 x3
 replace BE := BE.keep hk2
 replace hkb := hkb.trans' hk2
 have hsz2 := hk2.size
 clear hk2 bel bec bef
 have bel := BE.lt
 have bec := BE.cell
 have bef := BE.frozen
 have HA1 := Hid.mk ha1
 clear ha1
 by_cases he1 : r1.e = 0
 ·have x1 : (r1.e != 0) = false := by simp [he1]
  go_wp2_with fail
  have kpx := kp_alloc w2 (.cells #[.bool b1, .slice ao1 n1 c1, .bool b2, .slice ao2 n2 c2, .bool b3, .slice ao3 n3 c3, .int .i64 a1.d] 48)
  refine (H2 _).mono ?_
  rintro e w3 ⟨v2, a2, rfl, hv2, ha2, hk3⟩
  obtain ⟨b4, ao4, n4, c4, b5, ao5, n5, c5, b6, ao6, n6, c6, rfl, x4, x5, x6⟩ := id hv2
  clear x4 x5 x6
  have BX : Blk w3 w2.heap.size #[.bool b1, .slice ao1 n1 c1, .bool b2, .slice ao2 n2 c2, .bool b3, .slice ao3 n3 c3, .int .i64 a1.d] 48 := Blk.keep hk3 (Blk.new w2 _ _)
  have nex := BE.lt
  replace BE := (BE.keep kpx).keep hk3
  replace hkb := (hkb.trans' kpx).trans' hk3
  replace hv1 := (hv1.keep kpx).keep hk3
  have hsz3 := hk3.size
  have hszx := kpx.size
  clear kpx hk3 bel bec bef
  generalize hbx : w2.heap.size = bx at *
  have bel := BE.lt
  have bec := BE.cell
  have bef := BE.frozen
  have bxl := BX.lt
  have bxc := BX.cell
  have HA2 := Hid.mk ha2
  clear ha2
  by_cases he2 : rt.e = 0
  ·have x2 : (rt.e != 0) = false := by simp [he2]
   go_wp2_with fail
   have kpy := kp_alloc w3 (.cells #[.bool b4, .slice ao4 n4 c4, .bool b5, .slice ao5 n5 c5, .bool b6, .slice ao6 n6 c6, .int .i64 a2.d] 48)
   refine (zero_ref a2 _ _ (hv2.keep kpy)).mono ?_
   rintro e w4 ⟨rfl, hk4⟩
   have BY : Blk w4 w3.heap.size #[.bool b4, .slice ao4 n4 c4, .bool b5, .slice ao5 n5 c5, .bool b6, .slice ao6 n6 c6, .int .i64 a2.d] 48 := Blk.keep hk4 (Blk.new w3 _ _)
   replace BX := (BX.keep kpy).keep hk4
   have ney := BE.lt
   replace BE := (BE.keep kpy).keep hk4
   replace hkb := (hkb.trans' kpy).trans' hk4
   replace hv1 := (hv1.keep kpy).keep hk4
   replace hv2 := (hv2.keep kpy).keep hk4
   have hsz4 := hk4.size
   clear kpy hk4 bel bec bef bxl bxc
   generalize hby : w3.heap.size = by' at *
   have bel := BE.lt
   have bec := BE.cell
   have bef := BE.frozen
   have bxl := BX.lt
   have bxc := BX.cell
   have byl := BY.lt
   have byc := BY.cell
   have ea1 := HA1.out he1
   have ea2 := HA2.out he2
   subst ea1
   subst ea2
   have oa := q1.q he1
   have ob := q2.q he2
   have hRo : opR c (p + i) r1 rt = ⟨(comb c r1.v rt.v).1, (comb c r1.v rt.v).2, if (comb c r1.v rt.v).2 = 0 then 0 else ((p + i : Nat) : Int)⟩ := by
    unfold opR; rw [if_neg (by omega), if_neg (by omega)]
   have fa := q1.f
   have fb := q2.f
   have HQ := Hid.mk (And.intro oa ob)
   have hqz := qroot_zero oa ob
   have hzz : decide (rt.v.p = 0 ∧ rt.v.q = 0) = decide (rt.v.p = 0 ∧ rt.v.q = 0) := rfl
   have a0 := oa.d0
   have b0 := ob.d0
   by_cases hA : c = 47 ∧ (rt.v.p = 0 ∧ rt.v.q = 0)
   ·have hcb : comb c r1.v rt.v = (qzero, 3) := by
     unfold comb qdiv
     rw [if_neg (by omega), if_neg (by omega), if_neg (by omega), if_pos hA.2]
    have HR : Hid (opR c (p + i) r1 rt = ⟨qzero, 3, (p : Int) + i⟩) := by
     unfold Hid; rw [hRo, hcb]; simp
    rw [decide_eq_true hA.2]
    have y1 : (c == 47) = true := by simp [hA.1]
    clear hRo hcb hA hqz hzz
    go_wp2_with fail
    refine bodyPost_ret (v := .tuple #[.agg #[.bool b1, .slice ao1 n1 c1, .bool b2, .slice ao2 n2 c2, .bool b3, .slice ao3 n3 c3, .int .i64 r1.v.d], .int .i64 3, .int .i64 ((p : Int) + i)]) (by simp [results, Try.results24, go_sem, bec]) rfl ?_
    rw [HR.out]
    exact ⟨_, _, rfl, hv1.soft (sf7 (.bool b1) (.slice ao1 n1 c1) (.bool b2) (.slice ao2 n2 c2) (.bool b3) (.slice ao3 n3 c3) (.int .i64 r1.v.d) BE (by decide)), fun h => by simp at h, (kp7 (A := w.heap.size) (.bool b1) (.slice ao1 n1 c1) (.bool b2) (.slice ao2 n2 c2) (.bool b3) (.slice ao3 n3 c3) (.int .i64 r1.v.d) hkb (Nat.le_refl _))⟩
   ·by_cases hB : qroot r1.v.d rt.v.d = 0
    ·have hcb : (comb c r1.v rt.v).2 = 4 := by
      by_cases hz : (comb c r1.v rt.v).2 = 0
      ·exact absurd hB (comb_root oa ob hz)
      ·exact comb_four hc4 hz hA
     have HR : Hid ((opR c (p + i) r1 rt).e = 4 ∧ (opR c (p + i) r1 rt).k = (p : Int) + i) := by
      unfold Hid; rw [hRo]; exact ⟨hcb, by simp only; rw [if_neg (by omega)]; push_cast; rfl⟩
     obtain ⟨g1, g2, g3⟩ := hqz.mp hB
     have y3 : (r1.v.d != rt.v.d) = true := by simp [g3]
     clear hRo hcb hqz hzz hB g3
     by_cases h47 : c = 47
     ·have y1 : (c == 47) = true := by simp [h47]
      have y2 : decide (rt.v.p = 0 ∧ rt.v.q = 0) = false := decide_eq_false (fun h => hA ⟨h47, h⟩)
      rw [y2]
      clear hA h47 y2
      go_wp2_with fail
      refine bodyPost_ret (v := .tuple #[.agg #[.bool b1, .slice ao1 n1 c1, .bool b2, .slice ao2 n2 c2, .bool b3, .slice ao3 n3 c3, .int .i64 r1.v.d], .int .i64 4, .int .i64 ((p : Int) + i)]) (by simp [results, Try.results24, go_sem, bec]) rfl ?_
      unfold RetV3
      rw [HR.out.1, HR.out.2]
      exact ⟨_, _, rfl, hv1.soft (sf7 (.bool b1) (.slice ao1 n1 c1) (.bool b2) (.slice ao2 n2 c2) (.bool b3) (.slice ao3 n3 c3) (.int .i64 r1.v.d) BE (by decide)), fun h => absurd h (by decide), (kp7 (A := w.heap.size) (.bool b1) (.slice ao1 n1 c1) (.bool b2) (.slice ao2 n2 c2) (.bool b3) (.slice ao3 n3 c3) (.int .i64 r1.v.d) hkb (Nat.le_refl _))⟩
     ·have y1 : (c == 47) = false := by simp [h47]
      clear hA h47
      go_wp2_with fail
      refine bodyPost_ret (v := .tuple #[.agg #[.bool b1, .slice ao1 n1 c1, .bool b2, .slice ao2 n2 c2, .bool b3, .slice ao3 n3 c3, .int .i64 r1.v.d], .int .i64 4, .int .i64 ((p : Int) + i)]) (by simp [results, Try.results24, go_sem, bec]) rfl ?_
      unfold RetV3
      rw [HR.out.1, HR.out.2]
      exact ⟨_, _, rfl, hv1.soft (sf7 (.bool b1) (.slice ao1 n1 c1) (.bool b2) (.slice ao2 n2 c2) (.bool b3) (.slice ao3 n3 c3) (.int .i64 r1.v.d) BE (by decide)), fun h => absurd h (by decide), (kp7 (A := w.heap.size) (.bool b1) (.slice ao1 n1 c1) (.bool b2) (.slice ao2 n2 c2) (.bool b3) (.slice ao3 n3 c3) (.int .i64 r1.v.d) hkb (Nat.le_refl _))⟩
    ·have hcb : (comb c r1.v rt.v).2 = 0 := by
      by_cases hz : (comb c r1.v rt.v).2 = 0
      ·exact hz
      ·exact absurd (comb_root4 oa ob hc4 hz hA) hB
     have HR : Hid (opR c (p + i) r1 rt = ⟨(comb c r1.v rt.v).1, 0, 0⟩) := by
      unfold Hid; rw [hRo, hcb, if_pos rfl]
     have hnot : ¬ (1 < r1.v.d ∧ 1 < rt.v.d ∧ r1.v.d ≠ rt.v.d) := fun h => hB (hqz.mpr h)
     clear hRo hqz hzz hB
     have hW := Hid.mk (fun w' hk => worked_any c r1.v rt.v 9000000 _ _ w' (hv1.keep hk) (hv2.keep hk) oa ob (by decide) fa fb hc4 hcb)
     clear oa ob fa fb hcb
     by_cases h47 : c = 47
     ·have y1 : (c == 47) = true := by simp [h47]
      have y2 : decide (rt.v.p = 0 ∧ rt.v.q = 0) = false := decide_eq_false (fun h => hA ⟨h47, h⟩)
      rw [y2]
      clear hA h47 y2
      by_cases g1 : 1 < r1.v.d
      ·by_cases g2 : 1 < rt.v.d
       ·have y3 : (r1.v.d != rt.v.d) = false := by
         have : r1.v.d = rt.v.d := by
          by_cases h : r1.v.d = rt.v.d
          ·exact h
          ·exact absurd ⟨g1, g2, h⟩ hnot
         simp [this]
        clear hnot
        go_wp2_with fail
        go_region_held3 (fun w' => w'.cell? ⟨bx, 0, none⟩ = some (.bool b1) ∧ w'.cell? ⟨bx, 1, none⟩ = some (.slice ao1 n1 c1) ∧ w'.cell? ⟨bx, 2, none⟩ = some (.bool b2) ∧ w'.cell? ⟨bx, 3, none⟩ = some (.slice ao2 n2 c2) ∧ w'.cell? ⟨bx, 4, none⟩ = some (.bool b3) ∧ w'.cell? ⟨bx, 5, none⟩ = some (.slice ao3 n3 c3) ∧ w'.cell? ⟨bx, 6, none⟩ = some (.int .i64 r1.v.d) ∧ w'.cell? ⟨by', 0, none⟩ = some (.bool b4) ∧ w'.cell? ⟨by', 1, none⟩ = some (.slice ao4 n4 c4) ∧ w'.cell? ⟨by', 2, none⟩ = some (.bool b5) ∧ w'.cell? ⟨by', 3, none⟩ = some (.slice ao5 n5 c5) ∧ w'.cell? ⟨by', 4, none⟩ = some (.bool b6) ∧ w'.cell? ⟨by', 5, none⟩ = some (.slice ao6 n6 c6) ∧ w'.cell? ⟨by', 6, none⟩ = some (.int .i64 rt.v.d))
         (first | (go_keep; done) | (simp [bxc, byc]; done) | (simp [bxc5, byc5]; done) | (have BXf := (ot7 (A := w.heap.size) (.bool b11) (.slice ao11 n11 c11) (.bool b12) (.slice ao12 n12 c12) (.bool b13) (.slice ao13 n13 c13) (.int .i64 (comb c r1.v rt.v).1.d) BX5 (by omega)); have BYf := (ot7 (A := w.heap.size) (.bool b11) (.slice ao11 n11 c11) (.bool b12) (.slice ao12 n12 c12) (.bool b13) (.slice ao13 n13 c13) (.int .i64 (comb c r1.v rt.v).1.d) BY5 (by omega)); exact ⟨BXf.cell 0, BXf.cell 1, BXf.cell 2, BXf.cell 3, BXf.cell 4, BXf.cell 5, BXf.cell 6, BYf.cell 0, BYf.cell 1, BYf.cell 2, BYf.cell 3, BYf.cell 4, BYf.cell 5, BYf.cell 6⟩))
         ((first
          | (go_at_call 30; refine (hW.out _ (Kp.drew' (Below.refl _ _))).mono ?_; rintro e w5 ⟨v5, rfl, hv5, hk5⟩; obtain ⟨b11, ao11, n11, c11, b12, ao12, n12, c12, b13, ao13, n13, c13, rfl, _, _, _⟩ := id hv5; have BX5 := BX.keep (Kp.trans' (Kp.drew' (Below.refl _ _)) hk5); have BY5 := BY.keep (Kp.trans' (Kp.drew' (Below.refl _ _)) hk5); have BE5 := BE.keep (Kp.trans' (Kp.drew' (Below.refl _ _)) hk5); have bxc5 := BX5.cell; have byc5 := BY5.cell; have bec5 := BE5.cell; have bef5 := BE5.frozen; have bel5 := BE5.lt)))
        all_goals go_wp2_with fail
        refine bodyPost_ret (v := .tuple #[.agg #[.bool b11, .slice ao11 n11 c11, .bool b12, .slice ao12 n12 c12, .bool b13, .slice ao13 n13 c13, .int .i64 (comb c r1.v rt.v).1.d], .int .i64 0, .int .i64 0]) (by simp [results, Try.results24, go_sem, bec5]) rfl ?_
        rw [HR.out]
        exact ⟨_, _, rfl, hv5.soft (sf7 (.bool b11) (.slice ao11 n11 c11) (.bool b12) (.slice ao12 n12 c12) (.bool b13) (.slice ao13 n13 c13) (.int .i64 (comb c r1.v rt.v).1.d) BE5 (by decide)), fun _ => rfl, (kp7 (A := w.heap.size) (.bool b11) (.slice ao11 n11 c11) (.bool b12) (.slice ao12 n12 c12) (.bool b13) (.slice ao13 n13 c13) (.int .i64 (comb c r1.v rt.v).1.d) (hkb.trans' (Kp.trans' (Kp.drew' (Below.refl _ _)) hk5)) (Nat.le_refl _))⟩
       ·clear hnot
        go_wp2_with fail
        go_region_held3 (fun w' => w'.cell? ⟨bx, 0, none⟩ = some (.bool b1) ∧ w'.cell? ⟨bx, 1, none⟩ = some (.slice ao1 n1 c1) ∧ w'.cell? ⟨bx, 2, none⟩ = some (.bool b2) ∧ w'.cell? ⟨bx, 3, none⟩ = some (.slice ao2 n2 c2) ∧ w'.cell? ⟨bx, 4, none⟩ = some (.bool b3) ∧ w'.cell? ⟨bx, 5, none⟩ = some (.slice ao3 n3 c3) ∧ w'.cell? ⟨bx, 6, none⟩ = some (.int .i64 r1.v.d) ∧ w'.cell? ⟨by', 0, none⟩ = some (.bool b4) ∧ w'.cell? ⟨by', 1, none⟩ = some (.slice ao4 n4 c4) ∧ w'.cell? ⟨by', 2, none⟩ = some (.bool b5) ∧ w'.cell? ⟨by', 3, none⟩ = some (.slice ao5 n5 c5) ∧ w'.cell? ⟨by', 4, none⟩ = some (.bool b6) ∧ w'.cell? ⟨by', 5, none⟩ = some (.slice ao6 n6 c6) ∧ w'.cell? ⟨by', 6, none⟩ = some (.int .i64 rt.v.d))
         (first | (go_keep; done) | (simp [bxc, byc]; done) | (simp [bxc5, byc5]; done) | (have BXf := (ot7 (A := w.heap.size) (.bool b11) (.slice ao11 n11 c11) (.bool b12) (.slice ao12 n12 c12) (.bool b13) (.slice ao13 n13 c13) (.int .i64 (comb c r1.v rt.v).1.d) BX5 (by omega)); have BYf := (ot7 (A := w.heap.size) (.bool b11) (.slice ao11 n11 c11) (.bool b12) (.slice ao12 n12 c12) (.bool b13) (.slice ao13 n13 c13) (.int .i64 (comb c r1.v rt.v).1.d) BY5 (by omega)); exact ⟨BXf.cell 0, BXf.cell 1, BXf.cell 2, BXf.cell 3, BXf.cell 4, BXf.cell 5, BXf.cell 6, BYf.cell 0, BYf.cell 1, BYf.cell 2, BYf.cell 3, BYf.cell 4, BYf.cell 5, BYf.cell 6⟩))
         ((first
          | (go_at_call 30; refine (hW.out _ (Kp.drew' (Below.refl _ _))).mono ?_; rintro e w5 ⟨v5, rfl, hv5, hk5⟩; obtain ⟨b11, ao11, n11, c11, b12, ao12, n12, c12, b13, ao13, n13, c13, rfl, _, _, _⟩ := id hv5; have BX5 := BX.keep (Kp.trans' (Kp.drew' (Below.refl _ _)) hk5); have BY5 := BY.keep (Kp.trans' (Kp.drew' (Below.refl _ _)) hk5); have BE5 := BE.keep (Kp.trans' (Kp.drew' (Below.refl _ _)) hk5); have bxc5 := BX5.cell; have byc5 := BY5.cell; have bec5 := BE5.cell; have bef5 := BE5.frozen; have bel5 := BE5.lt)))
        all_goals go_wp2_with fail
        refine bodyPost_ret (v := .tuple #[.agg #[.bool b11, .slice ao11 n11 c11, .bool b12, .slice ao12 n12 c12, .bool b13, .slice ao13 n13 c13, .int .i64 (comb c r1.v rt.v).1.d], .int .i64 0, .int .i64 0]) (by simp [results, Try.results24, go_sem, bec5]) rfl ?_
        rw [HR.out]
        exact ⟨_, _, rfl, hv5.soft (sf7 (.bool b11) (.slice ao11 n11 c11) (.bool b12) (.slice ao12 n12 c12) (.bool b13) (.slice ao13 n13 c13) (.int .i64 (comb c r1.v rt.v).1.d) BE5 (by decide)), fun _ => rfl, (kp7 (A := w.heap.size) (.bool b11) (.slice ao11 n11 c11) (.bool b12) (.slice ao12 n12 c12) (.bool b13) (.slice ao13 n13 c13) (.int .i64 (comb c r1.v rt.v).1.d) (hkb.trans' (Kp.trans' (Kp.drew' (Below.refl _ _)) hk5)) (Nat.le_refl _))⟩
      ·clear hnot
       go_wp2_with fail
       go_region_held3 (fun w' => w'.cell? ⟨bx, 0, none⟩ = some (.bool b1) ∧ w'.cell? ⟨bx, 1, none⟩ = some (.slice ao1 n1 c1) ∧ w'.cell? ⟨bx, 2, none⟩ = some (.bool b2) ∧ w'.cell? ⟨bx, 3, none⟩ = some (.slice ao2 n2 c2) ∧ w'.cell? ⟨bx, 4, none⟩ = some (.bool b3) ∧ w'.cell? ⟨bx, 5, none⟩ = some (.slice ao3 n3 c3) ∧ w'.cell? ⟨bx, 6, none⟩ = some (.int .i64 r1.v.d) ∧ w'.cell? ⟨by', 0, none⟩ = some (.bool b4) ∧ w'.cell? ⟨by', 1, none⟩ = some (.slice ao4 n4 c4) ∧ w'.cell? ⟨by', 2, none⟩ = some (.bool b5) ∧ w'.cell? ⟨by', 3, none⟩ = some (.slice ao5 n5 c5) ∧ w'.cell? ⟨by', 4, none⟩ = some (.bool b6) ∧ w'.cell? ⟨by', 5, none⟩ = some (.slice ao6 n6 c6) ∧ w'.cell? ⟨by', 6, none⟩ = some (.int .i64 rt.v.d))
        (first | (go_keep; done) | (simp [bxc, byc]; done) | (simp [bxc5, byc5]; done) | (have BXf := (ot7 (A := w.heap.size) (.bool b11) (.slice ao11 n11 c11) (.bool b12) (.slice ao12 n12 c12) (.bool b13) (.slice ao13 n13 c13) (.int .i64 (comb c r1.v rt.v).1.d) BX5 (by omega)); have BYf := (ot7 (A := w.heap.size) (.bool b11) (.slice ao11 n11 c11) (.bool b12) (.slice ao12 n12 c12) (.bool b13) (.slice ao13 n13 c13) (.int .i64 (comb c r1.v rt.v).1.d) BY5 (by omega)); exact ⟨BXf.cell 0, BXf.cell 1, BXf.cell 2, BXf.cell 3, BXf.cell 4, BXf.cell 5, BXf.cell 6, BYf.cell 0, BYf.cell 1, BYf.cell 2, BYf.cell 3, BYf.cell 4, BYf.cell 5, BYf.cell 6⟩))
        ((first
         | (go_at_call 30; refine (hW.out _ (Kp.drew' (Below.refl _ _))).mono ?_; rintro e w5 ⟨v5, rfl, hv5, hk5⟩; obtain ⟨b11, ao11, n11, c11, b12, ao12, n12, c12, b13, ao13, n13, c13, rfl, _, _, _⟩ := id hv5; have BX5 := BX.keep (Kp.trans' (Kp.drew' (Below.refl _ _)) hk5); have BY5 := BY.keep (Kp.trans' (Kp.drew' (Below.refl _ _)) hk5); have BE5 := BE.keep (Kp.trans' (Kp.drew' (Below.refl _ _)) hk5); have bxc5 := BX5.cell; have byc5 := BY5.cell; have bec5 := BE5.cell; have bef5 := BE5.frozen; have bel5 := BE5.lt)))
       all_goals go_wp2_with fail
       refine bodyPost_ret (v := .tuple #[.agg #[.bool b11, .slice ao11 n11 c11, .bool b12, .slice ao12 n12 c12, .bool b13, .slice ao13 n13 c13, .int .i64 (comb c r1.v rt.v).1.d], .int .i64 0, .int .i64 0]) (by simp [results, Try.results24, go_sem, bec5]) rfl ?_
       rw [HR.out]
       exact ⟨_, _, rfl, hv5.soft (sf7 (.bool b11) (.slice ao11 n11 c11) (.bool b12) (.slice ao12 n12 c12) (.bool b13) (.slice ao13 n13 c13) (.int .i64 (comb c r1.v rt.v).1.d) BE5 (by decide)), fun _ => rfl, (kp7 (A := w.heap.size) (.bool b11) (.slice ao11 n11 c11) (.bool b12) (.slice ao12 n12 c12) (.bool b13) (.slice ao13 n13 c13) (.int .i64 (comb c r1.v rt.v).1.d) (hkb.trans' (Kp.trans' (Kp.drew' (Below.refl _ _)) hk5)) (Nat.le_refl _))⟩
     ·have y1 : (c == 47) = false := by simp [h47]
      generalize decide (rt.v.p = 0 ∧ rt.v.q = 0) = zz at *
      clear hA h47
      by_cases g1 : 1 < r1.v.d
      ·by_cases g2 : 1 < rt.v.d
       ·have y3 : (r1.v.d != rt.v.d) = false := by
         have : r1.v.d = rt.v.d := by
          by_cases h : r1.v.d = rt.v.d
          ·exact h
          ·exact absurd ⟨g1, g2, h⟩ hnot
         simp [this]
        clear hnot
        go_wp2_with fail
        go_region_held3 (fun w' => w'.cell? ⟨bx, 0, none⟩ = some (.bool b1) ∧ w'.cell? ⟨bx, 1, none⟩ = some (.slice ao1 n1 c1) ∧ w'.cell? ⟨bx, 2, none⟩ = some (.bool b2) ∧ w'.cell? ⟨bx, 3, none⟩ = some (.slice ao2 n2 c2) ∧ w'.cell? ⟨bx, 4, none⟩ = some (.bool b3) ∧ w'.cell? ⟨bx, 5, none⟩ = some (.slice ao3 n3 c3) ∧ w'.cell? ⟨bx, 6, none⟩ = some (.int .i64 r1.v.d) ∧ w'.cell? ⟨by', 0, none⟩ = some (.bool b4) ∧ w'.cell? ⟨by', 1, none⟩ = some (.slice ao4 n4 c4) ∧ w'.cell? ⟨by', 2, none⟩ = some (.bool b5) ∧ w'.cell? ⟨by', 3, none⟩ = some (.slice ao5 n5 c5) ∧ w'.cell? ⟨by', 4, none⟩ = some (.bool b6) ∧ w'.cell? ⟨by', 5, none⟩ = some (.slice ao6 n6 c6) ∧ w'.cell? ⟨by', 6, none⟩ = some (.int .i64 rt.v.d))
         (first | (go_keep; done) | (simp [bxc, byc]; done) | (simp [bxc5, byc5]; done) | (have BXf := (ot7 (A := w.heap.size) (.bool b11) (.slice ao11 n11 c11) (.bool b12) (.slice ao12 n12 c12) (.bool b13) (.slice ao13 n13 c13) (.int .i64 (comb c r1.v rt.v).1.d) BX5 (by omega)); have BYf := (ot7 (A := w.heap.size) (.bool b11) (.slice ao11 n11 c11) (.bool b12) (.slice ao12 n12 c12) (.bool b13) (.slice ao13 n13 c13) (.int .i64 (comb c r1.v rt.v).1.d) BY5 (by omega)); exact ⟨BXf.cell 0, BXf.cell 1, BXf.cell 2, BXf.cell 3, BXf.cell 4, BXf.cell 5, BXf.cell 6, BYf.cell 0, BYf.cell 1, BYf.cell 2, BYf.cell 3, BYf.cell 4, BYf.cell 5, BYf.cell 6⟩))
         ((first
          | (go_at_call 30; refine (hW.out _ (Kp.drew' (Below.refl _ _))).mono ?_; rintro e w5 ⟨v5, rfl, hv5, hk5⟩; obtain ⟨b11, ao11, n11, c11, b12, ao12, n12, c12, b13, ao13, n13, c13, rfl, _, _, _⟩ := id hv5; have BX5 := BX.keep (Kp.trans' (Kp.drew' (Below.refl _ _)) hk5); have BY5 := BY.keep (Kp.trans' (Kp.drew' (Below.refl _ _)) hk5); have BE5 := BE.keep (Kp.trans' (Kp.drew' (Below.refl _ _)) hk5); have bxc5 := BX5.cell; have byc5 := BY5.cell; have bec5 := BE5.cell; have bef5 := BE5.frozen; have bel5 := BE5.lt)))
        all_goals go_wp2_with fail
        refine bodyPost_ret (v := .tuple #[.agg #[.bool b11, .slice ao11 n11 c11, .bool b12, .slice ao12 n12 c12, .bool b13, .slice ao13 n13 c13, .int .i64 (comb c r1.v rt.v).1.d], .int .i64 0, .int .i64 0]) (by simp [results, Try.results24, go_sem, bec5]) rfl ?_
        rw [HR.out]
        exact ⟨_, _, rfl, hv5.soft (sf7 (.bool b11) (.slice ao11 n11 c11) (.bool b12) (.slice ao12 n12 c12) (.bool b13) (.slice ao13 n13 c13) (.int .i64 (comb c r1.v rt.v).1.d) BE5 (by decide)), fun _ => rfl, (kp7 (A := w.heap.size) (.bool b11) (.slice ao11 n11 c11) (.bool b12) (.slice ao12 n12 c12) (.bool b13) (.slice ao13 n13 c13) (.int .i64 (comb c r1.v rt.v).1.d) (hkb.trans' (Kp.trans' (Kp.drew' (Below.refl _ _)) hk5)) (Nat.le_refl _))⟩
       ·clear hnot
        go_wp2_with fail
        go_region_held3 (fun w' => w'.cell? ⟨bx, 0, none⟩ = some (.bool b1) ∧ w'.cell? ⟨bx, 1, none⟩ = some (.slice ao1 n1 c1) ∧ w'.cell? ⟨bx, 2, none⟩ = some (.bool b2) ∧ w'.cell? ⟨bx, 3, none⟩ = some (.slice ao2 n2 c2) ∧ w'.cell? ⟨bx, 4, none⟩ = some (.bool b3) ∧ w'.cell? ⟨bx, 5, none⟩ = some (.slice ao3 n3 c3) ∧ w'.cell? ⟨bx, 6, none⟩ = some (.int .i64 r1.v.d) ∧ w'.cell? ⟨by', 0, none⟩ = some (.bool b4) ∧ w'.cell? ⟨by', 1, none⟩ = some (.slice ao4 n4 c4) ∧ w'.cell? ⟨by', 2, none⟩ = some (.bool b5) ∧ w'.cell? ⟨by', 3, none⟩ = some (.slice ao5 n5 c5) ∧ w'.cell? ⟨by', 4, none⟩ = some (.bool b6) ∧ w'.cell? ⟨by', 5, none⟩ = some (.slice ao6 n6 c6) ∧ w'.cell? ⟨by', 6, none⟩ = some (.int .i64 rt.v.d))
         (first | (go_keep; done) | (simp [bxc, byc]; done) | (simp [bxc5, byc5]; done) | (have BXf := (ot7 (A := w.heap.size) (.bool b11) (.slice ao11 n11 c11) (.bool b12) (.slice ao12 n12 c12) (.bool b13) (.slice ao13 n13 c13) (.int .i64 (comb c r1.v rt.v).1.d) BX5 (by omega)); have BYf := (ot7 (A := w.heap.size) (.bool b11) (.slice ao11 n11 c11) (.bool b12) (.slice ao12 n12 c12) (.bool b13) (.slice ao13 n13 c13) (.int .i64 (comb c r1.v rt.v).1.d) BY5 (by omega)); exact ⟨BXf.cell 0, BXf.cell 1, BXf.cell 2, BXf.cell 3, BXf.cell 4, BXf.cell 5, BXf.cell 6, BYf.cell 0, BYf.cell 1, BYf.cell 2, BYf.cell 3, BYf.cell 4, BYf.cell 5, BYf.cell 6⟩))
         ((first
          | (go_at_call 30; refine (hW.out _ (Kp.drew' (Below.refl _ _))).mono ?_; rintro e w5 ⟨v5, rfl, hv5, hk5⟩; obtain ⟨b11, ao11, n11, c11, b12, ao12, n12, c12, b13, ao13, n13, c13, rfl, _, _, _⟩ := id hv5; have BX5 := BX.keep (Kp.trans' (Kp.drew' (Below.refl _ _)) hk5); have BY5 := BY.keep (Kp.trans' (Kp.drew' (Below.refl _ _)) hk5); have BE5 := BE.keep (Kp.trans' (Kp.drew' (Below.refl _ _)) hk5); have bxc5 := BX5.cell; have byc5 := BY5.cell; have bec5 := BE5.cell; have bef5 := BE5.frozen; have bel5 := BE5.lt)))
        all_goals go_wp2_with fail
        refine bodyPost_ret (v := .tuple #[.agg #[.bool b11, .slice ao11 n11 c11, .bool b12, .slice ao12 n12 c12, .bool b13, .slice ao13 n13 c13, .int .i64 (comb c r1.v rt.v).1.d], .int .i64 0, .int .i64 0]) (by simp [results, Try.results24, go_sem, bec5]) rfl ?_
        rw [HR.out]
        exact ⟨_, _, rfl, hv5.soft (sf7 (.bool b11) (.slice ao11 n11 c11) (.bool b12) (.slice ao12 n12 c12) (.bool b13) (.slice ao13 n13 c13) (.int .i64 (comb c r1.v rt.v).1.d) BE5 (by decide)), fun _ => rfl, (kp7 (A := w.heap.size) (.bool b11) (.slice ao11 n11 c11) (.bool b12) (.slice ao12 n12 c12) (.bool b13) (.slice ao13 n13 c13) (.int .i64 (comb c r1.v rt.v).1.d) (hkb.trans' (Kp.trans' (Kp.drew' (Below.refl _ _)) hk5)) (Nat.le_refl _))⟩
      ·clear hnot
       go_wp2_with fail
       go_region_held3 (fun w' => w'.cell? ⟨bx, 0, none⟩ = some (.bool b1) ∧ w'.cell? ⟨bx, 1, none⟩ = some (.slice ao1 n1 c1) ∧ w'.cell? ⟨bx, 2, none⟩ = some (.bool b2) ∧ w'.cell? ⟨bx, 3, none⟩ = some (.slice ao2 n2 c2) ∧ w'.cell? ⟨bx, 4, none⟩ = some (.bool b3) ∧ w'.cell? ⟨bx, 5, none⟩ = some (.slice ao3 n3 c3) ∧ w'.cell? ⟨bx, 6, none⟩ = some (.int .i64 r1.v.d) ∧ w'.cell? ⟨by', 0, none⟩ = some (.bool b4) ∧ w'.cell? ⟨by', 1, none⟩ = some (.slice ao4 n4 c4) ∧ w'.cell? ⟨by', 2, none⟩ = some (.bool b5) ∧ w'.cell? ⟨by', 3, none⟩ = some (.slice ao5 n5 c5) ∧ w'.cell? ⟨by', 4, none⟩ = some (.bool b6) ∧ w'.cell? ⟨by', 5, none⟩ = some (.slice ao6 n6 c6) ∧ w'.cell? ⟨by', 6, none⟩ = some (.int .i64 rt.v.d))
        (first | (go_keep; done) | (simp [bxc, byc]; done) | (simp [bxc5, byc5]; done) | (have BXf := (ot7 (A := w.heap.size) (.bool b11) (.slice ao11 n11 c11) (.bool b12) (.slice ao12 n12 c12) (.bool b13) (.slice ao13 n13 c13) (.int .i64 (comb c r1.v rt.v).1.d) BX5 (by omega)); have BYf := (ot7 (A := w.heap.size) (.bool b11) (.slice ao11 n11 c11) (.bool b12) (.slice ao12 n12 c12) (.bool b13) (.slice ao13 n13 c13) (.int .i64 (comb c r1.v rt.v).1.d) BY5 (by omega)); exact ⟨BXf.cell 0, BXf.cell 1, BXf.cell 2, BXf.cell 3, BXf.cell 4, BXf.cell 5, BXf.cell 6, BYf.cell 0, BYf.cell 1, BYf.cell 2, BYf.cell 3, BYf.cell 4, BYf.cell 5, BYf.cell 6⟩))
        ((first
         | (go_at_call 30; refine (hW.out _ (Kp.drew' (Below.refl _ _))).mono ?_; rintro e w5 ⟨v5, rfl, hv5, hk5⟩; obtain ⟨b11, ao11, n11, c11, b12, ao12, n12, c12, b13, ao13, n13, c13, rfl, _, _, _⟩ := id hv5; have BX5 := BX.keep (Kp.trans' (Kp.drew' (Below.refl _ _)) hk5); have BY5 := BY.keep (Kp.trans' (Kp.drew' (Below.refl _ _)) hk5); have BE5 := BE.keep (Kp.trans' (Kp.drew' (Below.refl _ _)) hk5); have bxc5 := BX5.cell; have byc5 := BY5.cell; have bec5 := BE5.cell; have bef5 := BE5.frozen; have bel5 := BE5.lt)))
       all_goals go_wp2_with fail
       refine bodyPost_ret (v := .tuple #[.agg #[.bool b11, .slice ao11 n11 c11, .bool b12, .slice ao12 n12 c12, .bool b13, .slice ao13 n13 c13, .int .i64 (comb c r1.v rt.v).1.d], .int .i64 0, .int .i64 0]) (by simp [results, Try.results24, go_sem, bec5]) rfl ?_
       rw [HR.out]
       exact ⟨_, _, rfl, hv5.soft (sf7 (.bool b11) (.slice ao11 n11 c11) (.bool b12) (.slice ao12 n12 c12) (.bool b13) (.slice ao13 n13 c13) (.int .i64 (comb c r1.v rt.v).1.d) BE5 (by decide)), fun _ => rfl, (kp7 (A := w.heap.size) (.bool b11) (.slice ao11 n11 c11) (.bool b12) (.slice ao12 n12 c12) (.bool b13) (.slice ao13 n13 c13) (.int .i64 (comb c r1.v rt.v).1.d) (hkb.trans' (Kp.trans' (Kp.drew' (Below.refl _ _)) hk5)) (Nat.le_refl _))⟩
  ·have x2 : (rt.e != 0) = true := by simp [he2]
   have HR : Hid (opR c (p + i) r1 rt = ⟨r1.v, rt.e, rt.k⟩) := by
    unfold Hid opR; rw [if_neg (by omega), if_pos he2]
   go_wp2_with fail
   refine bodyPost_ret (v := .tuple #[.agg #[.bool b4, .slice ao4 n4 c4, .bool b5, .slice ao5 n5 c5, .bool b6, .slice ao6 n6 c6, .int .i64 a2.d], .int .i64 rt.e, .int .i64 rt.k]) (by simp [results, Try.results24, go_sem, bec, bel]) rfl ?_
   rw [HR.out]
   exact ⟨_, _, rfl, hv2.soft (Sf.alloc (sf7 (.bool b4) (.slice ao4 n4 c4) (.bool b5) (.slice ao5 n5 c5) (.bool b6) (.slice ao6 n6 c6) (.int .i64 a2.d) BE (by decide)) (.cells #[.bool b4, .slice ao4 n4 c4, .bool b5, .slice ao5 n5 c5, .bool b6, .slice ao6 n6 c6, .int .i64 a2.d] 48)), fun h => absurd h he2, (Kp.alloc' (kp7 (A := w.heap.size) (.bool b4) (.slice ao4 n4 c4) (.bool b5) (.slice ao5 n5 c5) (.bool b6) (.slice ao6 n6 c6) (.int .i64 a2.d) hkb (Nat.le_refl _)) (.cells #[.bool b4, .slice ao4 n4 c4, .bool b5, .slice ao5 n5 c5, .bool b6, .slice ao6 n6 c6, .int .i64 a2.d] 48))⟩
 ·have x1 : (r1.e != 0) = true := by simp [he1]
  have HR : Hid (opR c (p + i) r1 rt = r1) := by
   unfold Hid opR; rw [if_pos he1]
  go_wp2_with fail
  refine bodyPost_ret (v := .tuple #[.agg #[.bool b1, .slice ao1 n1 c1, .bool b2, .slice ao2 n2 c2, .bool b3, .slice ao3 n3 c3, .int .i64 a1.d], .int .i64 r1.e, .int .i64 r1.k]) (by simp [results, Try.results24, go_sem, bec, bel]) rfl ?_
  rw [HR.out]
  exact ⟨_, _, rfl, hv1.soft (Sf.alloc (sf7 (.bool b1) (.slice ao1 n1 c1) (.bool b2) (.slice ao2 n2 c2) (.bool b3) (.slice ao3 n3 c3) (.int .i64 a1.d) BE (by decide)) (.cells #[.bool b1, .slice ao1 n1 c1, .bool b2, .slice ao2 n2 c2, .bool b3, .slice ao3 n3 c3, .int .i64 a1.d] 48)), fun h => absurd h he1, (Kp.alloc' (kp7 (A := w.heap.size) (.bool b1) (.slice ao1 n1 c1) (.bool b2) (.slice ao2 n2 c2) (.bool b3) (.slice ao3 n3 c3) (.int .i64 a1.d) hkb (Nat.le_refl _)) (.cells #[.bool b1, .slice ao1 n1 c1, .bool b2, .slice ao2 n2 c2, .bool b3, .slice ao3 n3 c3, .int .i64 a1.d] 48))⟩
 

end Go.Proofs.Ytjahbjjekednfaa

namespace Go.Proofs.Ytjahbjjekednfaa
open Go.RowKit

theorem qcom_one (p q : Int) : qcom p q 1 = 1 := by
 unfold qcom
 rw [if_neg (by decide)]
 simp
theorem qreduce_one (p q d : Int) : qreduce p q 1 d = ⟨p, q, 1, if q = 0 then 1 else d⟩ := by
 unfold qreduce
 rw [qcom_one]
 simp

set_option maxHeartbeats 3200000 in
theorem factor_minus (s : ByteArray) (p : Nat) (r : Rs) (w : World) (hs1 : 1 ≤ s.size) (hs : s.size ≤ 100) (hp : p ≤ 1000) (hc : byteAt s 0 = 45)
  (H : ∀ w, Calls Try.prog 50 #[.string (s.extract 1 s.size), .int .i64 ((p : Int) + 1)] w (RetV3 w r)) :
  Calls Try.prog 50 #[.string s, .int .i64 p] w (RetV3 w ⟨qneg r.v, r.e, r.k⟩) := by
 have hb := byteAt_eq s 0 (by omega)
 rw [hc] at hb
 have h0 : (0 : Int) < (s.size : Int) := by omega
 have h1 : (1 : Int) ≤ (s.size : Int) := by omega
 have BE0 := Blk.new w #[.bool false, .slice none 0 0, .bool false, .slice none 0 0, .bool false, .slice none 0 0, .int .i64 0] 48
 have kp0 := kp_alloc w (.cells #[.bool false, .slice none 0 0, .bool false, .slice none 0 0, .bool false, .slice none 0 0, .int .i64 0] 48)
 go_enter Try.func50, Try.ntmps50
 go_wp2_with fail
 refine (H _).mono ?_
 rintro e w2 ⟨v1, a1, rfl, hv1, ha1, hk2⟩
 obtain ⟨b1, ao1, n1, c1, b2, ao2, n2, c2, b3, ao3, n3, c3, rfl, x1, x2, x3⟩ := id hv1
 have hkb := kp0.trans' hk2
 have BE := BE0.keep hk2
 have nex := BE.lt
 have kpx := kp_alloc w2 (.cells #[.bool b1, .slice ao1 n1 c1, .bool b2, .slice ao2 n2 c2, .bool b3, .slice ao3 n3 c3, .int .i64 a1.d] 48)
 have BX := Blk.new w2 #[.bool b1, .slice ao1 n1 c1, .bool b2, .slice ao2 n2 c2, .bool b3, .slice ao3 n3 c3, .int .i64 a1.d] 48
 have BEx := BE.keep kpx
 have bxc := BX.cell
 have hkd : Kp (w2.alloc (.cells #[.bool b1, .slice ao1 n1 c1, .bool b2, .slice ao2 n2 c2, .bool b3, .slice ao3 n3 c3, .int .i64 a1.d] 48)) (w2.alloc (.cells #[.bool b1, .slice ao1 n1 c1, .bool b2, .slice ao2 n2 c2, .bool b3, .slice ao3 n3 c3, .int .i64 a1.d] 48)).drew := Kp.drew' (Below.refl _ _)
 have y1 := (x1.keep kpx).keep hkd
 have y2 := (x2.keep kpx).keep hkd
 have y3 := (x3.keep kpx).keep hkd
 have HA := Hid.mk ha1
 clear ha1 x1 x2 x3 hv1 BE0 kp0 hk2
 go_wp2_with fail
 go_region_held3 (fun w' => w'.cell? ⟨w2.heap.size, 0, none⟩ = some (.bool b1) ∧ w'.cell? ⟨w2.heap.size, 1, none⟩ = some (.slice ao1 n1 c1) ∧ w'.cell? ⟨w2.heap.size, 2, none⟩ = some (.bool b2) ∧ w'.cell? ⟨w2.heap.size, 3, none⟩ = some (.slice ao2 n2 c2) ∧ w'.cell? ⟨w2.heap.size, 4, none⟩ = some (.bool b3) ∧ w'.cell? ⟨w2.heap.size, 5, none⟩ = some (.slice ao3 n3 c3) ∧ w'.cell? ⟨w2.heap.size, 6, none⟩ = some (.int .i64 a1.d))
  (first | (go_keep; done) | (simp [bxc]; done) | (simp [bxc5]; done) | (simp [bxc6]; done) | (have BXf := (ot7 (A := w.heap.size) (.bool b11) (.slice ao11 n11 c11) (.bool b12) (.slice ao12 n12 c12) (.bool b3) (.slice ao3 n3 c3) (.int .i64 a1.d) BX6 (by omega)); exact ⟨BXf.cell 0, BXf.cell 1, BXf.cell 2, BXf.cell 3, BXf.cell 4, BXf.cell 5, BXf.cell 6⟩))
  ((first
   | (go_at_call_of 59 (Value.agg #[.bool b1, .slice ao1 n1 c1]); refine (less_any _ _ _ y1).mono ?_; rintro e w5 ⟨v5, rfl, hv5, hk5⟩; obtain ⟨b11, ao11, n11, c11, rfl⟩ := hv5.shape'; have BX5 := BX.keep (hkd.trans' hk5); have bxc5 := BX5.cell)
   | (go_at_call_of 59 (Value.agg #[.bool b2, .slice ao2 n2 c2]); refine (less_any _ _ _ (y2.keep hk5)).mono ?_; rintro e w6 ⟨v6, rfl, hv6, hk6⟩; obtain ⟨b12, ao12, n12, c12, rfl⟩ := hv6.shape'; have BX6 := BX5.keep hk6; have bxc6 := BX6.cell; have BE6 := BEx.keep (hkd.trans' (hk5.trans' hk6)); have bec6 := BE6.cell; have bef6 := BE6.frozen; have bel6 := BE6.lt)))
 all_goals go_wp2_with fail
 refine bodyPost_ret (v := .tuple #[.agg #[.bool b11, .slice ao11 n11 c11, .bool b12, .slice ao12 n12 c12, .bool b3, .slice ao3 n3 c3, .int .i64 a1.d], .int .i64 r.e, .int .i64 r.k]) (by simp [results, Try.results50, go_sem, bec6]) rfl ?_
 have hkq := (kpx.trans' (hkd.trans' (hk5.trans' hk6)))
 have sfE : Sf 3 w6 _ := (sf7 (.bool b11) (.slice ao11 n11 c11) (.bool b12) (.slice ao12 n12 c12) (.bool b3) (.slice ao3 n3 c3) (.int .i64 a1.d) BE6 (by decide))
 exact ⟨_, ⟨-a1.p, -a1.q, a1.r, a1.d⟩, rfl, ⟨_, _, _, _, _, _, _, _, _, _, _, _, rfl, (hv5.keep hk6).soft sfE, hv6.soft sfE, (y3.keep (hk5.trans' hk6)).soft sfE⟩, fun h => by rw [HA.out h]; rfl, (kp7 (A := w.heap.size) (.bool b11) (.slice ao11 n11 c11) (.bool b12) (.slice ao12 n12 c12) (.bool b3) (.slice ao3 n3 c3) (.int .i64 a1.d) (hkb.trans' hkq) (Nat.le_refl _))⟩

set_option maxHeartbeats 1600000 in
theorem factor_paren (s : ByteArray) (p : Nat) (r : Rs) (w : World) (hs1 : 2 ≤ s.size) (hs : s.size ≤ 100) (hp : p ≤ 1000) (hc : byteAt s 0 = 40)
  (H : ∀ w, Calls Try.prog 24 #[.string (s.extract 1 (s.size - 1)), .int .i64 ((p : Int) + 1)] w (RetV3 w r)) :
  Calls Try.prog 50 #[.string s, .int .i64 p] w (RetV3 w r) := by
 have hb := byteAt_eq s 0 (by omega)
 rw [hc] at hb
 have h0 : (0 : Int) < (s.size : Int) := by omega
 have h1 : (1 : Int) ≤ (s.size : Int) - 1 := by omega
 have h2 : ((s.size : Int) - 1).toNat = s.size - 1 := by omega
 have BE0 := Blk.new w #[.bool false, .slice none 0 0, .bool false, .slice none 0 0, .bool false, .slice none 0 0, .int .i64 0] 48
 have kp0 := kp_alloc w (.cells #[.bool false, .slice none 0 0, .bool false, .slice none 0 0, .bool false, .slice none 0 0, .int .i64 0] 48)
 go_enter Try.func50, Try.ntmps50
 go_wp2_with fail
 refine (H _).mono ?_
 rintro e w2 ⟨v1, a1, rfl, hv1, ha1, hk2⟩
 obtain ⟨b1, ao1, n1, c1, b2, ao2, n2, c2, b3, ao3, n3, c3, rfl, x1, x2, x3⟩ := id hv1
 have hkb := kp0.trans' hk2
 have BE := BE0.keep hk2
 have bec := BE.cell
 have bef := BE.frozen
 have bel := BE.lt
 have HA := Hid.mk ha1
 clear ha1 x1 x2 x3 BE0 kp0 hk2
 go_wp2_with fail
 refine bodyPost_ret (v := .tuple #[.agg #[.bool b1, .slice ao1 n1 c1, .bool b2, .slice ao2 n2 c2, .bool b3, .slice ao3 n3 c3, .int .i64 a1.d], .int .i64 r.e, .int .i64 r.k]) (by simp [results, Try.results50, go_sem, bec]) rfl ?_
 exact ⟨_, a1, rfl, hv1.soft (sf7 (.bool b1) (.slice ao1 n1 c1) (.bool b2) (.slice ao2 n2 c2) (.bool b3) (.slice ao3 n3 c3) (.int .i64 a1.d) BE (by decide)), HA.out, (kp7 (A := w.heap.size) (.bool b1) (.slice ao1 n1 c1) (.bool b2) (.slice ao2 n2 c2) (.bool b3) (.slice ao3 n3 c3) (.int .i64 a1.d) hkb (Nat.le_refl _))⟩

set_option maxHeartbeats 1600000 in
theorem factor_num (s : ByteArray) (p : Nat) (w : World) (hs1 : 1 ≤ s.size) (hl : s.size ≤ 18) (hd : Digs (bl s)) :
  Calls Try.prog 50 #[.string s, .int .i64 p] w (RetV3 w ⟨⟨decN (bl s), 0, 1, 1⟩, 0, 0⟩) := by
 have hb := byteAt_eq s 0 (by omega)
 have hlen := bl_len s
 have hdig : isDig (byteAt s 0) = true := by rw [byteAt_bl]; exact digs_at hd (by omega)
 have hbd := isDig_bd hdig
 have z1 : (byteAt s 0 == 45) = false := by simp; omega
 have z2 : (byteAt s 0 == 40) = false := by simp; omega
 have z3 : (byteAt s 0 == 114) = false := by simp; omega
 have h0 : (0 : Int) < (s.size : Int) := by omega
 have hn := decN_bd hd
 have fn : Ft 20 (decN (bl s)) := by
  have h2 : (10 : Int) ^ (bl s).length ≤ 10 ^ 18 := by exact_mod_cast Nat.pow_le_pow_right (show 0 < 10 by decide) (show (bl s).length ≤ 18 by omega)
  unfold Ft
  omega
 have f1 : Ft 20 1 := by unfold Ft; decide
 have HQR : Hid (qreduce (decN (bl s)) 0 1 1 = ⟨decN (bl s), 0, 1, 1⟩) := by unfold Hid; rw [qreduce_one]; simp
 have HRD := Hid.mk (fun w' => read_ref s w' hd hl)
 have BE0 := Blk.new w #[.bool false, .slice none 0 0, .bool false, .slice none 0 0, .bool false, .slice none 0 0, .int .i64 0] 48
 have kp0 := kp_alloc w (.cells #[.bool false, .slice none 0 0, .bool false, .slice none 0 0, .bool false, .slice none 0 0, .int .i64 0] 48)
 clear hn hd hdig hbd
 generalize decN (bl s) = N at *
 generalize byteAt s 0 = c0 at *
 go_enter Try.func50, Try.ntmps50
 go_wp2_with fail
 refine (HRD.out _).mono ?_
 rintro e w2 ⟨v2, rfl, hv2, hk2⟩
 obtain ⟨b7, ao7, n7, c7, rfl⟩ := hv2.shape'
 have BE := BE0.keep hk2
 have hkb := kp0.trans' hk2
 clear BE0 kp0
 go_wp2_with fail
 refine (of_any 1 _ (by decide) (by decide)).mono ?_
 rintro e w8 ⟨v8, rfl, hv8, hk8⟩
 obtain ⟨b8, ao8, n8, c8, rfl⟩ := hv8.shape'
 go_wp2_with fail
 refine (formed_any N 0 1 1 20 _ _ _ _ (hv2.keep hk8) (in_zero _) hv8 (by decide) (by decide) fn (Ft.zero _) f1).mono ?_
 rintro e w9 ⟨v9, rfl, hv9, hk9⟩
 rw [HQR.out] at hv9
 obtain ⟨b31, ao31, n31, c31, b32, ao32, n32, c32, b33, ao33, n33, c33, rfl, _, _, _⟩ := id hv9
 have BE9 := BE.keep (hk8.trans' hk9)
 have bec9 := BE9.cell
 have bef9 := BE9.frozen
 have bel9 := BE9.lt
 go_wp2_with fail
 refine bodyPost_ret (v := .tuple #[.agg #[.bool b31, .slice ao31 n31 c31, .bool b32, .slice ao32 n32 c32, .bool b33, .slice ao33 n33 c33, .int .i64 (⟨N, 0, 1, 1⟩ : Qn).d], .int .i64 0, .int .i64 0]) (by simp [results, Try.results50, go_sem, bec9]) rfl ?_
 exact ⟨_, _, rfl, hv9.soft (sf7 (.bool b31) (.slice ao31 n31 c31) (.bool b32) (.slice ao32 n32 c32) (.bool b33) (.slice ao33 n33 c33) (.int .i64 (⟨N, 0, 1, 1⟩ : Qn).d) BE9 (by decide)), fun _ => rfl, (kp7 (A := w.heap.size) (.bool b31) (.slice ao31 n31 c31) (.bool b32) (.slice ao32 n32 c32) (.bool b33) (.slice ao33 n33 c33) (.int .i64 (⟨N, 0, 1, 1⟩ : Qn).d) (hkb.trans' (hk8.trans' hk9)) (Nat.le_refl _))⟩

set_option maxHeartbeats 3200000 in
set_option maxRecDepth 100000 in
theorem factor_root (s : ByteArray) (p : Nat) (t : List Int) (w : World) (hb0 : bl s = 114 :: t) (_ : t ≠ []) (hl : t.length ≤ 6) (hd : Digs t) :
  Calls Try.prog 50 #[.string s, .int .i64 p] w (RetV3 w ⟨qsqrt (decN t).toNat, 0, 0⟩) := by
 have hlen := bl_len s
 rw [hb0, List.length_cons] at hlen
 have hb := byteAt_eq s 0 (by omega)
 have hc : byteAt s 0 = 114 := by rw [byteAt_bl, hb0, at0_cons_zero]
 rw [hc] at hb
 have h0 : (0 : Int) < (s.size : Int) := by omega
 have hn := decN_bd hd
 have f1 : Ft 20 1 := by unfold Ft; decide
 have hn2 : decN t < 1000000 := by
  have : (10 : Int) ^ t.length ≤ 10 ^ 6 := by exact_mod_cast Nat.pow_le_pow_right (show 0 < 10 by decide) hl
  omega
 have BE0 := Blk.new w #[.bool false, .slice none 0 0, .bool false, .slice none 0 0, .bool false, .slice none 0 0, .int .i64 0] 48
 have kp0 := kp_alloc w (.cells #[.bool false, .slice none 0 0, .bool false, .slice none 0 0, .bool false, .slice none 0 0, .int .i64 0] 48)
 have HBL := Hid.mk hb0
 clear hb0
 go_enter Try.func50, Try.ntmps50
 go_wp2_with fail
 go_loopw [10, 11] (fun n i wr => ∃ j k : Nat, Hid (k = j + 1) ∧ j ≤ t.length ∧ n = .int .i64 (decN (t.take j)) ∧ i = .int .i64 k ∧ Blk wr w.heap.size #[.bool false, .slice none 0 0, .bool false, .slice none 0 0, .bool false, .slice none 0 0, .int .i64 0] 48 ∧ Kp w wr)
  (fun _ i _ => s.size - (intOf i).toNat)
 case atStart => exact ⟨0, 1, rfl, by omega, rfl, rfl, BE0, kp0⟩
 case round =>
  clear BE0 kp0
  obtain ⟨j, k, HK, hj, rfl, rfl, BE, hkb⟩ := hrel
  have hkj := HK.out
  by_cases h1 : j < t.length
  ·have hks : k < s.size := by omega
   have hbk := byteAt_eq s k hks
   have hbt : byteAt s k = at0 t j := by rw [byteAt_bl, HBL.out, hkj, at0_cons_succ]
   have hdg := isDig_bd (digs_at hd h1)
   rw [← hbt] at hdg
   have hnn := decN_bd (digs_take hd j)
   have hlt : (t.take j).length = j := by rw [List.length_take]; omega
   rw [hlt] at hnn
   have hn0 := hnn.1
   have hn1 : decN (t.take j) < 1000000 := Int.lt_of_lt_of_le hnn.2 (show (10 : Int) ^ j ≤ 10 ^ 6 by exact_mod_cast Nat.pow_le_pow_right (show 0 < 10 by decide) (show j ≤ 6 by omega))
   have HN : Hid (decN (t.take (j + 1)) = 10 * decN (t.take j) + byteAt s k - 48) := by
    unfold Hid
    rw [take_snoc h1, decN_snoc, hbt]
    omega
   have hki : (k : Int) < (s.size : Int) := by omega
   clear hnn hbt hkj hn hn2
   generalize decN (t.take j) = N at *
   generalize byteAt s k = C at *
   have hw0 : IntKind.i64.wrap C = C := IntWalk.i64_in _ (by omega)
   go_wp2_with fail
   go_roundw
   case rel => exact ⟨j + 1, k + 1, by have := HK.out; unfold Hid; omega, by omega, by rw [HN.out], by go_num, BE, hkb⟩
   case measure => simp [intOf]; omega
  ·have hje : j = t.length := by omega
   subst hje
   have hks : ¬ (k : Int) < (s.size : Int) := by omega
   rw [List.take_length]
   clear hkj HK HBL
   obtain ⟨N, hN⟩ := Int.eq_ofNat_of_zero_le hn.1
   have HNT : Hid ((decN t).toNat = N) := by unfold Hid; omega
   rw [hN, Int.toNat_natCast]
   rw [hN] at hn2
   clear hn hN
   have hNl : N < 1000000 := by omega
   have HSQ := Hid.mk (fun w' => square_ref N w' hNl)
   by_cases hz : N = 0
   ·subst hz
    have hS : sqf 0 1000 = 1000 := by unfold sqf; rw [if_pos (by decide)]
    rw [hS] at HSQ
    have HQR : Hid (qreduce 0 0 1 1 = (⟨0, 0, 1, 1⟩ : Qn)) := by unfold Hid; rw [qreduce_one]; simp
    have HQS : Hid (qsqrt 0 = ⟨0, 0, 1, 1⟩) := by unfold Hid qsqrt; rw [if_pos rfl]
    rw [HQS.out]
    go_wp2_with fail
    refine (HSQ.out _).mono ?_
    rintro e w5 ⟨rfl, hk5⟩
    replace BE := BE.keep hk5
    replace hkb := hkb.trans' hk5
    have fF : Ft 20 0 := Ft.zero _
    go_wp2_with fail
    refine (of_any 0 _ (by decide) (by decide)).mono ?_
    rintro e w6 ⟨v6, rfl, hv6, hk6⟩
    obtain ⟨b7, ao7, n7, c7, rfl⟩ := hv6.shape'
    replace BE := BE.keep hk6
    replace hkb := hkb.trans' hk6
    go_wp2_with fail
    refine (of_any 1 _ (by decide) (by decide)).mono ?_
    rintro e w8 ⟨v8, rfl, hv8, hk8⟩
    obtain ⟨b8, ao8, n8, c8, rfl⟩ := hv8.shape'
    go_wp2_with fail
    refine (formed_any 0 0 1 1 20 _ _ _ _ (hv6.keep hk8) (in_zero _) hv8 (by decide) (by decide) fF (Ft.zero _) f1).mono ?_
    rintro e w9 ⟨v9, rfl, hv9, hk9⟩
    rw [HQR.out] at hv9
    obtain ⟨b31, ao31, n31, c31, b32, ao32, n32, c32, b33, ao33, n33, c33, rfl, _, _, _⟩ := id hv9
    have BE9 := BE.keep (hk8.trans' hk9)
    have bec9 := BE9.cell
    have bef9 := BE9.frozen
    have bel9 := BE9.lt
    go_wp2_with fail
    refine bodyPost_ret (v := .tuple #[.agg #[.bool b31, .slice ao31 n31 c31, .bool b32, .slice ao32 n32 c32, .bool b33, .slice ao33 n33 c33, .int .i64 (⟨0, 0, 1, 1⟩ : Qn).d], .int .i64 0, .int .i64 0]) (by simp [results, Try.results50, go_sem, bec9]) rfl ?_
    exact ⟨_, _, rfl, hv9.soft (sf7 (.bool b31) (.slice ao31 n31 c31) (.bool b32) (.slice ao32 n32 c32) (.bool b33) (.slice ao33 n33 c33) (.int .i64 (⟨0, 0, 1, 1⟩ : Qn).d) BE9 (by decide)), fun _ => by show _ = qsqrt (decN t).toNat; rw [HNT.out, HQS.out], (kp7 (A := w.heap.size) (.bool b31) (.slice ao31 n31 c31) (.bool b32) (.slice ao32 n32 c32) (.bool b33) (.slice ao33 n33 c33) (.int .i64 (⟨0, 0, 1, 1⟩ : Qn).d) (hkb.trans' (hk8.trans' hk9)) (Nat.le_refl _))⟩
   ·have hr := sqf_root (show 0 < N by omega) hNl
    have hF0 := hr.op
    have hle : sqf N 1000 * sqf N 1000 ≤ N := Nat.le_of_dvd (by omega) (sqf_dvd N 1000)
    have hF1 : sqf N 1000 ≤ sqf N 1000 * sqf N 1000 := Nat.le_mul_of_pos_left _ hF0
    have hD0 := hr.sp
    have hD1 : N / (sqf N 1000 * sqf N 1000) ≤ N := Nat.div_le_self _ _
    have hqs : qsqrt N = if N / (sqf N 1000 * sqf N 1000) = 1 then ⟨sqf N 1000, 0, 1, 1⟩ else ⟨0, sqf N 1000, 1, (N / (sqf N 1000 * sqf N 1000) : Nat)⟩ := by
     unfold qsqrt; rw [if_neg hz]
    have hmi : ((sqf N 1000 : Nat) : Int) * ((sqf N 1000 : Nat) : Int) = ((sqf N 1000 * sqf N 1000 : Nat) : Int) := by push_cast; rfl
    have hdv : (N : Int) / (((sqf N 1000 : Nat) : Int) * ((sqf N 1000 : Nat) : Int)) = ((N / (sqf N 1000 * sqf N 1000) : Nat) : Int) := by rw [hmi]; rfl
    generalize hQ : sqf N 1000 * sqf N 1000 = Q at *
    generalize hDD : N / Q = DN at *
    generalize sqf N 1000 = FN at *
    have hzb : ((N : Int) == 0) = false := by simp; omega
    have hq1 : (0 : Int) < (FN : Int) * (FN : Int) := by rw [hmi]; omega
    have hq2 : (FN : Int) * (FN : Int) ≤ 1000000 := by rw [hmi]; omega
    have hq3 : (FN : Int) * (FN : Int) ≠ 0 := by omega
    have hFp : (0 : Int) < (FN : Int) := by omega
    have fF : Ft 20 (FN : Int) := by unfold Ft; simp only [Int.natAbs_natCast]; omega
    have hf9 : (FN : Int) ≤ 1000000 := by omega
    by_cases hd1 : DN = 1
    ·have HQR : Hid (qreduce (FN : Int) 0 1 1 = (⟨FN, 0, 1, 1⟩ : Qn)) := by unfold Hid; rw [qreduce_one]; simp
     have HQS := Hid.mk hqs
     rw [if_pos hd1] at HQS
     rw [HQS.out]
     have hdd : ((DN : Int) == 1) = true := by simp [hd1]
     rw [hd1] at hdv
     clear hmi hqs hr hle hF1 hQ hDD hd1
     go_wp2_with fail
     refine (HSQ.out _).mono ?_
     rintro e w5 ⟨rfl, hk5⟩
     replace BE := BE.keep hk5
     replace hkb := hkb.trans' hk5
     go_wp2_with fail
     refine (of_any (FN : Int) _ (by omega) (by omega)).mono ?_
     rintro e w6 ⟨v6, rfl, hv6, hk6⟩
     obtain ⟨b7, ao7, n7, c7, rfl⟩ := hv6.shape'
     replace BE := BE.keep hk6
     replace hkb := hkb.trans' hk6
     go_wp2_with fail
     refine (of_any 1 _ (by decide) (by decide)).mono ?_
     rintro e w8 ⟨v8, rfl, hv8, hk8⟩
     obtain ⟨b8, ao8, n8, c8, rfl⟩ := hv8.shape'
     go_wp2_with fail
     refine (formed_any (FN : Int) 0 1 1 20 _ _ _ _ (hv6.keep hk8) (in_zero _) hv8 (by decide) (by decide) fF (Ft.zero _) f1).mono ?_
     rintro e w9 ⟨v9, rfl, hv9, hk9⟩
     rw [HQR.out] at hv9
     obtain ⟨b31, ao31, n31, c31, b32, ao32, n32, c32, b33, ao33, n33, c33, rfl, _, _, _⟩ := id hv9
     have BE9 := BE.keep (hk8.trans' hk9)
     have bec9 := BE9.cell
     have bef9 := BE9.frozen
     have bel9 := BE9.lt
     go_wp2_with fail
     refine bodyPost_ret (v := .tuple #[.agg #[.bool b31, .slice ao31 n31 c31, .bool b32, .slice ao32 n32 c32, .bool b33, .slice ao33 n33 c33, .int .i64 (⟨FN, 0, 1, 1⟩ : Qn).d], .int .i64 0, .int .i64 0]) (by simp [results, Try.results50, go_sem, bec9]) rfl ?_
     exact ⟨_, _, rfl, hv9.soft (sf7 (.bool b31) (.slice ao31 n31 c31) (.bool b32) (.slice ao32 n32 c32) (.bool b33) (.slice ao33 n33 c33) (.int .i64 (⟨FN, 0, 1, 1⟩ : Qn).d) BE9 (by decide)), fun _ => by show _ = qsqrt (decN t).toNat; rw [HNT.out, HQS.out], (kp7 (A := w.heap.size) (.bool b31) (.slice ao31 n31 c31) (.bool b32) (.slice ao32 n32 c32) (.bool b33) (.slice ao33 n33 c33) (.int .i64 (⟨FN, 0, 1, 1⟩ : Qn).d) (hkb.trans' (hk8.trans' hk9)) (Nat.le_refl _))⟩
    ·have HQR : Hid (qreduce 0 (FN : Int) 1 (DN : Int) = (⟨0, FN, 1, DN⟩ : Qn)) := by
      unfold Hid; rw [qreduce_one, if_neg (by omega)]
     have HQS := Hid.mk hqs
     rw [if_neg hd1] at HQS
     rw [HQS.out]
     have hdd : ((DN : Int) == 1) = false := by simp; omega
     clear hmi hqs hr hle hF1 hQ hDD hd1
     go_wp2_with fail
     refine (HSQ.out _).mono ?_
     rintro e w5 ⟨rfl, hk5⟩
     replace BE := BE.keep hk5
     replace hkb := hkb.trans' hk5
     go_wp2_with fail
     refine (of_any (FN : Int) _ (by omega) (by omega)).mono ?_
     rintro e w6 ⟨v6, rfl, hv6, hk6⟩
     obtain ⟨b7, ao7, n7, c7, rfl⟩ := hv6.shape'
     replace BE := BE.keep hk6
     replace hkb := hkb.trans' hk6
     go_wp2_with fail
     refine (of_any 1 _ (by decide) (by decide)).mono ?_
     rintro e w8 ⟨v8, rfl, hv8, hk8⟩
     obtain ⟨b8, ao8, n8, c8, rfl⟩ := hv8.shape'
     go_wp2_with fail
     refine (formed_any 0 (FN : Int) 1 (DN : Int) 20 _ _ _ _ (in_zero _) (hv6.keep hk8) hv8 (by decide) (by decide) (Ft.zero _) fF f1).mono ?_
     rintro e w9 ⟨v9, rfl, hv9, hk9⟩
     rw [HQR.out] at hv9
     obtain ⟨b31, ao31, n31, c31, b32, ao32, n32, c32, b33, ao33, n33, c33, rfl, _, _, _⟩ := id hv9
     have BE9 := BE.keep (hk8.trans' hk9)
     have bec9 := BE9.cell
     have bef9 := BE9.frozen
     have bel9 := BE9.lt
     go_wp2_with fail
     refine bodyPost_ret (v := .tuple #[.agg #[.bool b31, .slice ao31 n31 c31, .bool b32, .slice ao32 n32 c32, .bool b33, .slice ao33 n33 c33, .int .i64 (⟨0, FN, 1, DN⟩ : Qn).d], .int .i64 0, .int .i64 0]) (by simp [results, Try.results50, go_sem, bec9]) rfl ?_
     exact ⟨_, _, rfl, hv9.soft (sf7 (.bool b31) (.slice ao31 n31 c31) (.bool b32) (.slice ao32 n32 c32) (.bool b33) (.slice ao33 n33 c33) (.int .i64 (⟨0, FN, 1, DN⟩ : Qn).d) BE9 (by decide)), fun _ => by show _ = qsqrt (decN t).toNat; rw [HNT.out, HQS.out], (kp7 (A := w.heap.size) (.bool b31) (.slice ao31 n31 c31) (.bool b32) (.slice ao32 n32 c32) (.bool b33) (.slice ao33 n33 c33) (.int .i64 (⟨0, FN, 1, DN⟩ : Qn).d) (hkb.trans' (hk8.trans' hk9)) (Nat.le_refl _))⟩

end Go.Proofs.Ytjahbjjekednfaa

namespace Go.Proofs.Ytjahbjjekednfaa
open Go.RowKit

theorem sm_of_pd {n : Nat} {t : List Int} {p : Nat} {r : Rs} (h : Pd n t p r) : Sm n t p r := ⟨0, t, [], r, by simp, h, rfl, rfl⟩
theorem pd_of_fc {n : Nat} {t : List Int} {p : Nat} {r : Rs} (h : Fc n t p r) : Pd n t p r := ⟨0, t, [], r, by simp, h, rfl, rfl⟩
theorem sm_ok (n : Nat) (t : List Int) (p : Nat) (r : Rs) (h : Sm n t p r) (hn : n ≤ 8) (hl : t.length ≤ 100) : RsOk 9000000 r := by
 have h1 : 0 < 2 ^ n := Nat.pow_pos (by decide)
 have h2 : 2 ^ n ≤ 2 ^ 8 := Nat.pow_le_pow_right (by decide) hn
 refine (ch_ok (k := 1) (C := 2 * (20 * 2 ^ n)) (by decide) (by omega) (pd_ok n) add_cost h).mono ?_
 have h3 := Nat.mul_le_mul (show 1 * (2 * (20 * 2 ^ n)) ≤ 10240 by omega) hl
 omega
theorem sm_ne {n : Nat} {t : List Int} {p : Nat} {r : Rs} (h : Sm n t p r) : t ≠ [] := by
 intro e
 have h1 := (sm_pass n t p r h).2 43
 rw [e] at h1
 exact not_closed (Or.inl rfl) h1

/-- The reference reads as the relation tells. -/
def VOk (N : Nat) : Prop := ∀ (n : Nat) (s : ByteArray) (p : Nat) (r : Rs) (w : World), n ≤ 8 → s.size ≤ N → s.size ≤ 100 → p + s.size ≤ 1000 → Sm n (bl s) p r → Calls Try.prog 24 #[.string s, .int .i64 p] w (RetV3 w r)
def FOk (N : Nat) : Prop := ∀ (n : Nat) (s : ByteArray) (p : Nat) (r : Rs) (w : World), n ≤ 8 → s.size ≤ N → s.size ≤ 100 → p + s.size ≤ 1000 → Fc n (bl s) p r → Calls Try.prog 50 #[.string s, .int .i64 p] w (RetV3 w r)

theorem ext_mid (s : ByteArray) {l1 l2 : List Int} {c : Int} (h : bl s = l1 ++ c :: l2) : bl (s.extract 0 l1.length) = l1 ∧ bl (s.extract (l1.length + 1) s.size) = l2 ∧ byteAt s l1.length = c ∧ s.size = l1.length + l2.length + 1 := by
 have hl := bl_len s
 rw [h, List.length_append, List.length_cons] at hl
 refine ⟨?_, ?_, ?_, by omega⟩
 ·rw [bl_extract, h]; simp
 ·rw [bl_extract, h, List.take_of_length_le (by rw [List.length_append, List.length_cons]; omega)]
  rw [List.drop_append]
  simp
 ·rw [byteAt_bl, h, at0_append_ge (Nat.le_refl _), Nat.sub_self, at0_cons_zero]
theorem bl_size (s : ByteArray) (l : List Int) (h : bl s = l) : s.size = l.length := by rw [← h, bl_len]

theorem value_split {N : Nat} (hV : VOk N) (s : ByteArray) (p n : Nat) (c : Int) (s1 t : List Int) (r1 rt : Rs) (w : World) (hn : n ≤ 8) (hsN : s.size ≤ N + 1) (hs : s.size ≤ 100) (hp : p + s.size ≤ 1000) (hb : bl s = s1 ++ c :: t)
  (h1 : Sm n s1 p r1) (h2 : Sm n t (p + s1.length + 1) rt) (hc4 : c = 43 ∨ c = 45 ∨ c = 42 ∨ c = 47)
  (hl : (lst (bl s) 43 45 (s.size - 1) 0 = (s1.length : Int)) ∨ (lst (bl s) 43 45 (s.size - 1) 0 = -1 ∧ lst (bl s) 42 47 (s.size - 1) 0 = (s1.length : Int))) :
  Calls Try.prog 24 #[.string s, .int .i64 p] w (RetV3 w (opR c (p + s1.length) r1 rt)) := by
 obtain ⟨e1, e2, e3, e4⟩ := ext_mid s hb
 have z1 := bl_size _ _ e1
 have z2 := bl_size _ _ e2
 have H1 : ∀ w, Calls Try.prog 24 #[.string (s.extract 0 s1.length), .int .i64 p] w (RetV3 w r1) := fun w => hV n _ p r1 w hn (by omega) (by omega) (by omega) (by rw [e1]; exact h1)
 have H2 : ∀ w, Calls Try.prog 24 #[.string (s.extract (s1.length + 1) s.size), .int .i64 ((p : Int) + s1.length + 1)] w (RetV3 w rt) := by
  intro w
  have := hV n (s.extract (s1.length + 1) s.size) (p + s1.length + 1) rt w hn (by omega) (by omega) (by omega) (by rw [e2]; exact h2)
  rwa [show ((p + s1.length + 1 : Nat) : Int) = (p : Int) + s1.length + 1 by omega] at this
 have q1 := sm_ok n s1 p r1 h1 hn (by omega)
 have q2 := sm_ok n t _ rt h2 hn (by omega)
 rcases hl with hl | ⟨hl0, hl⟩
 ·exact value_a s p s1.length c r1 rt w (by omega) hs (by omega) (by omega) hl hc4 e3 H1 H2 q1 q2
 ·exact value_m s p s1.length c r1 rt w (by omega) hs (by omega) (by omega) hl0 hl hc4 e3 H1 H2 q1 q2

-- GENERATED by genr21.py from here on
set_option maxHeartbeats 1600000 in
theorem value_f (s : ByteArray) (p : Nat) (r : Rs) (w : World) (hs1 : 1 ≤ s.size) (hs : s.size ≤ 100) (hl0 : lst (bl s) 43 45 (s.size - 1) 0 = -1) (hl : lst (bl s) 42 47 (s.size - 1) 0 = -1)
  (H : ∀ w, Calls Try.prog 50 #[.string s, .int .i64 p] w (RetV3 w r)) :
  Calls Try.prog 24 #[.string s, .int .i64 p] w (RetV3 w r) := by
 go_enter Try.func24, Try.ntmps24
 go_wp2_with fail
 refine (last_any s 43 45 _ hs1 (by omega)).mono ?_
 rintro e w0 ⟨rfl, hk0⟩
 rw [hl0]
 go_wp2_with fail
 refine (last_any s 42 47 _ hs1 (by omega)).mono ?_
 rintro e w1 ⟨rfl, hk1⟩
 rw [hl]
 have hkb := ((kp_alloc w (.cells #[.bool false, .slice none 0 0, .bool false, .slice none 0 0, .bool false, .slice none 0 0, .int .i64 0] 48)).trans' hk0).trans' hk1
 have BE := Blk.keep hk1 (Blk.keep hk0 (Blk.new w _ _))
 clear hk1 hk0
 go_wp2_with fail
 refine (H _).mono ?_
 rintro e w2 ⟨v1, a1, rfl, hv1, ha1, hk2⟩
 obtain ⟨b1, ao1, n1, c1, b2, ao2, n2, c2, b3, ao3, n3, c3, rfl, x1, x2, x3⟩ := id hv1
 replace hkb := hkb.trans' hk2
 replace BE := BE.keep hk2
 have bec := BE.cell
 have bef := BE.frozen
 have bel := BE.lt
 have HA := Hid.mk ha1
 clear ha1 x1 x2 x3 hk2
 go_wp2_with fail
 refine bodyPost_ret (v := .tuple #[.agg #[.bool b1, .slice ao1 n1 c1, .bool b2, .slice ao2 n2 c2, .bool b3, .slice ao3 n3 c3, .int .i64 a1.d], .int .i64 r.e, .int .i64 r.k]) (by simp [results, Try.results24, go_sem, bec]) rfl ?_
 exact ⟨_, a1, rfl, hv1.soft (stS7 (E := 3) (.bool b1) (.slice ao1 n1 c1) (.bool b2) (.slice ao2 n2 c2) (.bool b3) (.slice ao3 n3 c3) (.int .i64 a1.d) BE (by decide)), HA.out, (stK7 (A := w.heap.size) (.bool b1) (.slice ao1 n1 c1) (.bool b2) (.slice ao2 n2 c2) (.bool b3) (.slice ao3 n3 c3) (.int .i64 a1.d) hkb (Nat.le_refl _))⟩

theorem bare_fc {n m : Nat} {core : List Int} {p : Nat} {r : Rs} (h : Bare n core (p + m) r) : Fc n (List.replicate m 45 ++ core) p (negs m r) := by
 cases n with
 | zero =>
  rcases h with h | ⟨n', t, h1, _⟩
  ·exact ⟨m, core, r, rfl, h, rfl⟩
  ·omega
 | succ n =>
  refine ⟨m, core, r, rfl, ?_, rfl⟩
  rcases h with h | ⟨n', t, h1, h2, h3⟩
  ·exact Or.inl h
  ·have : n = n' := by omega
   subst this
   exact Or.inr ⟨t, h2, h3⟩
theorem negs_ek (m : Nat) (r : Rs) : (negs m r).e = r.e ∧ (negs m r).k = r.k := by
 unfold negs
 split <;> exact ⟨rfl, rfl⟩

theorem factor_all {N : Nat} (hV : VOk N) (hF : FOk N) : FOk (N + 1) := by
 intro n s p r w hn hsN hs hp h
 obtain ⟨m, core, r0, hb, h2, rfl⟩ := fc_bare h
 have hz := bl_size s _ hb
 cases m with
 | zero =>
  rw [List.replicate_zero, List.nil_append] at hb hz
  rw [Nat.add_zero] at h2
  have e0 : negs 0 r0 = r0 := rfl
  rw [e0]
  rcases h2 with (⟨h1, h2, h3, rfl⟩ | ⟨t, rfl, h1, h2, h3, rfl⟩) | ⟨n', t, h1, rfl, h2⟩
  ·rw [← hb] at h3 ⊢
   have : 0 < core.length := List.length_pos_iff.mpr h1
   exact factor_num s p w (by omega) (by omega) h3
  ·exact factor_root s p t w hb h1 h2 h3
  ·simp only [List.length_cons, List.length_append, List.length_nil] at hz
   have e1 : bl (s.extract 1 (s.size - 1)) = t := by
    rw [bl_extract, hb, hz]
    simp
   have z1 := bl_size _ _ e1
   refine factor_paren s p r0 w (by omega) hs (by omega) (by rw [byteAt_bl, hb, at0_cons_zero]) (fun w' => ?_)
   have := hV n' (s.extract 1 (s.size - 1)) (p + 1) r0 w' (by omega) (by omega) (by omega) (by omega) (by rw [e1]; exact h2)
   rwa [show ((p + 1 : Nat) : Int) = (p : Int) + 1 by omega] at this
 | succ m =>
  rw [List.replicate_succ, List.cons_append] at hb
  simp only [List.length_append, List.length_replicate] at hz
  have e1 : bl (s.extract 1 s.size) = List.replicate m 45 ++ core := by
   rw [bl_extract, hb, List.take_of_length_le (by rw [← hb, bl_len]; omega)]
   rfl
  have z1 := bl_size _ _ e1
  simp only [List.length_append, List.length_replicate] at z1
  have hfc : Fc n (List.replicate m 45 ++ core) (p + 1) (negs m r0) := bare_fc (by rw [show p + 1 + m = p + (m + 1) by omega]; exact h2)
  have h9 := factor_minus s p (negs m r0) w (by omega) hs (by omega) (by rw [byteAt_bl, hb, at0_cons_zero]) (fun w' => by
   have := hF n (s.extract 1 s.size) (p + 1) (negs m r0) w' hn (by omega) (by omega) (by omega) (by rw [e1]; exact hfc)
   rwa [show ((p + 1 : Nat) : Int) = (p : Int) + 1 by omega] at this)
  have e9 : negs (m + 1) r0 = ⟨qneg (negs m r0).v, (negs m r0).e, (negs m r0).k⟩ := by
   rw [negs_succ, (negs_ek m r0).1, (negs_ek m r0).2]
  rw [e9]
  exact h9

theorem value_all {N : Nat} (hV : VOk N) (hF : FOk (N + 1)) : VOk (N + 1) := by
 intro n s p r w hn hsN hs hp h
 have hne := sm_ne h
 have hlen := bl_len s
 have hpos : 0 < (bl s).length := List.length_pos_iff.mpr hne
 rcases ch_leftF h with h1 | ⟨s1, c, t, r1, rt, hb, hc, h1, h2, rfl⟩
 ·have hl43 := lst_none (pd_at n _ p r h1) hne
  rw [hlen] at hl43
  rcases ch_leftF h1 with h3 | ⟨s1, c, t, r1, rt, hb, hc, g1, g2, rfl⟩
  ·have hl42 := lst_none ((fc_pass n _ p r h3).2.1 42 47 (Or.inr ⟨rfl, rfl⟩)) hne
   rw [hlen] at hl42
   exact value_f s p r w (by omega) hs hl43 hl42 (fun w' => hF n s p r w' hn hsN hs hp h3)
  ·have hc' : c = 42 ∨ c = 47 := hc
   have hpd : Pd n s1 p r1 := g1
   have hl := lst_some (a := 42) (b := 47) ((fc_pass n t _ rt g2).2.1 42 47 (Or.inr ⟨rfl, rfl⟩)) hc' (not_closed (by omega)) (by omega) (sm_ne (sm_of_pd hpd)) (pd_pass n s1 p r1 hpd).2
   rw [← hb, hlen] at hl
   exact value_split hV s p n c s1 t r1 rt w hn hsN hs hp hb (sm_of_pd hpd) (sm_of_pd (pd_of_fc g2)) (by omega) (Or.inr ⟨hl43, hl⟩)
 ·have hc' : c = 43 ∨ c = 45 := hc
  have hsm : Sm n s1 p r1 := h1
  have hl := lst_some (a := 43) (b := 45) (pd_at n t _ rt h2) hc' (not_closed (by omega)) (by omega) (sm_ne hsm) (sm_pass n s1 p r1 hsm).2
  rw [← hb, hlen] at hl
  exact value_split hV s p n c s1 t r1 rt w hn hsN hs hp hb hsm (sm_of_pd h2) (by omega) (Or.inl hl)

theorem ref_all : ∀ N, VOk N ∧ FOk N
 | 0 => by
  constructor
  ·intro n s p r w hn hsN hs hp h
   have := sm_ne h
   have hlen := bl_len s
   exact absurd (List.eq_nil_of_length_eq_zero (by omega)) this
  ·intro n s p r w hn hsN hs hp h
   have := sm_ne (sm_of_pd (pd_of_fc h))
   have hlen := bl_len s
   exact absurd (List.eq_nil_of_length_eq_zero (by omega)) this
 | N + 1 => by
  obtain ⟨hV, hF⟩ := ref_all N
  have hF' := factor_all hV hF
  exact ⟨value_all hV hF', hF'⟩

set_option maxHeartbeats 1600000 in
theorem rread_long (s : ByteArray) (w : World) (h : 100 < s.size) : Calls Try.prog 14 #[.string s] w (RetV3 w ⟨qzero, 1, 0⟩) := by
 have h1 : (100 : Int) < (s.size : Int) := by omega
 go_enter Try.func14, Try.ntmps14
 go_wp2_with fail
 refine bodyPost_ret (v := .tuple #[.agg #[.bool false, .slice none 0 0, .bool false, .slice none 0 0, .bool false, .slice none 0 0, .int .i64 0], .int .i64 1, .int .i64 0]) (by simp [results, Try.results14, go_sem]) rfl ?_
 exact ⟨_, _, rfl, nn_zero _, fun h => by simp at h, kp_alloc _ _⟩

set_option maxHeartbeats 1600000 in
theorem rread_fault (s : ByteArray) (w : World) (h : s.size ≤ 100) (hf : 0 ≤ plFault s 0 s.size) : Calls Try.prog 14 #[.string s] w (RetV3 w ⟨qzero, 2, plFault s 0 s.size⟩) := by
 have h1 : ¬ (100 : Int) < (s.size : Int) := by omega
 have hR1 := Blk.new w #[.bool false, .slice none 0 0, .bool false, .slice none 0 0, .bool false, .slice none 0 0, .int .i64 0] 48
 go_enter Try.func14, Try.ntmps14
 go_wp2_with fail
 refine (form_any s _ (by omega)).mono ?_
 rintro e w1 ⟨rfl, hk1⟩
 have BE := hR1.keep hk1
 have rc := BE.cell
 have rf' := BE.frozen
 have rl := BE.lt
 have hkw : Kp w w1 := (kp_alloc w (.cells #[.bool false, .slice none 0 0, .bool false, .slice none 0 0, .bool false, .slice none 0 0, .int .i64 0] 48)).trans' hk1
 generalize plFault s 0 s.size = fl at *
 go_wp2_with fail
 refine bodyPost_ret (v := .tuple #[.agg #[.bool false, .slice none 0 0, .bool false, .slice none 0 0, .bool false, .slice none 0 0, .int .i64 0], .int .i64 2, .int .i64 fl]) (by simp [results, Try.results14, go_sem, rc]) rfl ?_
 exact ⟨_, _, rfl, nn_zero _, fun h => by simp at h, (stK7 (A := w.heap.size) (.bool false) (.slice none 0 0) (.bool false) (.slice none 0 0) (.bool false) (.slice none 0 0) (.int .i64 0) hkw (Nat.le_refl _))⟩

set_option maxHeartbeats 1600000 in
theorem rread_ok (s : ByteArray) (r : Rs) (w : World) (h : s.size ≤ 100) (hf : plFault s 0 s.size = -1) (hr : Sm 8 (bl s) 0 r) : Calls Try.prog 14 #[.string s] w (RetV3 w r) := by
 have h1 : ¬ (100 : Int) < (s.size : Int) := by omega
 have hV := Hid.mk (fun w' => (ref_all s.size).1 8 s 0 r w' (Nat.le_refl _) (Nat.le_refl _) h (by omega) hr)
 have hR1 := Blk.new w #[.bool false, .slice none 0 0, .bool false, .slice none 0 0, .bool false, .slice none 0 0, .int .i64 0] 48
 clear hr
 go_enter Try.func14, Try.ntmps14
 go_wp2_with fail
 refine (form_any s _ (by omega)).mono ?_
 rintro e w1 ⟨rfl, hk1⟩
 have BE := hR1.keep hk1
 have hkb : Kp w w1 := (kp_alloc w (.cells #[.bool false, .slice none 0 0, .bool false, .slice none 0 0, .bool false, .slice none 0 0, .int .i64 0] 48)).trans' hk1
 clear hR1 hk1
 rw [hf]
 go_wp2_with fail
 refine (hV.out _).mono ?_
 rintro e w2 ⟨v1, a1, rfl, hv1, ha1, hk2⟩
 obtain ⟨b1, ao1, n1, c1, b2, ao2, n2, c2, b3, ao3, n3, c3, rfl, x1, x2, x3⟩ := id hv1
 replace hkb := hkb.trans' hk2
 replace BE := BE.keep hk2
 have bec := BE.cell
 have bef := BE.frozen
 have bel := BE.lt
 have HA := Hid.mk ha1
 clear ha1 x1 x2 x3 hk2
 go_wp2_with fail
 refine bodyPost_ret (v := .tuple #[.agg #[.bool b1, .slice ao1 n1 c1, .bool b2, .slice ao2 n2 c2, .bool b3, .slice ao3 n3 c3, .int .i64 a1.d], .int .i64 r.e, .int .i64 r.k]) (by simp [results, Try.results14, go_sem, bec]) rfl ?_
 exact ⟨_, a1, rfl, hv1.soft (stS7 (E := 3) (.bool b1) (.slice ao1 n1 c1) (.bool b2) (.slice ao2 n2 c2) (.bool b3) (.slice ao3 n3 c3) (.int .i64 a1.d) BE (by decide)), HA.out, (stK7 (A := w.heap.size) (.bool b1) (.slice ao1 n1 c1) (.bool b2) (.slice ao2 n2 c2) (.bool b3) (.slice ao3 n3 c3) (.int .i64 a1.d) hkb (Nat.le_refl _))⟩

theorem rread_any (s : ByteArray) (r : Rs) (w : World) (h : Rk s r) : Calls Try.prog 14 #[.string s] w (RetV3 w r) := by
 rcases h with ⟨h1, rfl⟩ | ⟨h1, h2, rfl⟩ | ⟨h1, h2, r0, h3, rfl⟩
 ·exact rread_long s w h1
 ·exact rread_fault s w h1 h2
 ·refine (rread_ok s r0 w h1 h2 h3).mono ?_
  rintro e w' ⟨v, a, e1, e2, e3, e4⟩
  have hk := (sm_ok 8 (bl s) 0 r0 h3 (Nat.le_refl _) (by rw [bl_len]; exact h1)).k
  by_cases he : r0.e = 0
  ·rw [if_pos he]
   exact ⟨v, a, by rw [e1, he, hk he], e2, fun _ => e3 he, e4⟩
  ·rw [if_neg he]
   exact ⟨v, a, e1, e2, fun h => absurd h he, e4⟩

end Go.Proofs.Ytjahbjjekednfaa
