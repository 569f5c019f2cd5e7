import Derived.Test.YtjahbjjekednfaaR17
import Derived.Test.YtjahbjjekednfaaR15
import Derived.Test.YtjahbjjekednfaaR16
namespace Go.Proofs.Ytjahbjjekednfaa
open Go.RowKit

theorem bl_extract (s : ByteArray) (i j : Nat) : bl (s.extract i j) = ((bl s).take j).drop i := by
 unfold bl
 rw [ByteArray.data_extract, Array.toList_extract, List.extract_eq_take_drop, List.map_take, List.map_drop]
 rw [List.drop_take]
theorem comb_four {c : Int} {a b : Qn} (hc : c = 43 ∨ c = 45 ∨ c = 42 ∨ c = 47) (h : (comb c a b).2 ≠ 0) (hA : ¬ (c = 47 ∧ (b.p = 0 ∧ b.q = 0))) : (comb c a b).2 = 4 := by
 have key : ∀ x y : Qn, (qadd x y).2 ≠ 0 → (qadd x y).2 = 4 := by intro x y h; unfold qadd at *; split <;> simp_all
 have key2 : ∀ x y : Qn, (qmul x y).2 ≠ 0 → (qmul x y).2 = 4 := by intro x y h; unfold qmul at *; split <;> simp_all
 rcases hc with rfl | rfl | rfl | rfl
 ·exact key a b h
 ·exact key a (qneg b) h
 ·exact key2 a b h
 ·have hz : ¬ (b.p = 0 ∧ b.q = 0) := fun h => hA ⟨rfl, h⟩
  have e : comb 47 a b = qmul a (qinv b) := by unfold comb qdiv; rw [if_neg (by decide), if_neg (by decide), if_neg (by decide), if_neg hz]
  rw [e] at h ⊢
  exact key2 a _ h
theorem comb_root4 {c : Int} {a b : Qn} (_ha : Qok a) (hb : Qok b) (hc : c = 43 ∨ c = 45 ∨ c = 42 ∨ c = 47) (h : (comb c a b).2 ≠ 0) (hA : ¬ (c = 47 ∧ (b.p = 0 ∧ b.q = 0))) : qroot a.d b.d = 0 := by
 have key : ∀ x y : Qn, (qadd x y).2 ≠ 0 → qroot x.d y.d = 0 := by intro x y h; unfold qadd at *; split at h <;> simp_all
 have key2 : ∀ x y : Qn, (qmul x y).2 ≠ 0 → qroot x.d y.d = 0 := by intro x y h; unfold qmul at *; split at h <;> simp_all
 rcases hc with rfl | rfl | rfl | rfl
 ·exact key a b h
 ·exact key a (qneg b) h
 ·exact key2 a b h
 ·have hz : ¬ (b.p = 0 ∧ b.q = 0) := fun h => hA ⟨rfl, h⟩
  have e : comb 47 a b = qmul a (qinv b) := by unfold comb qdiv; rw [if_neg (by decide), if_neg (by decide), if_neg (by decide), if_neg hz]
  rw [e] at h
  have := key2 a _ h
  rwa [qinv_d hb hz] at this

/-- What the reference makes of a text. -/
def RetV3 (w : World) (r : Rs) (e : Ending) (w' : World) : Prop := ∃ v a, e = .returned (.tuple #[v, .int .i64 r.e, .int .i64 r.k]) ∧ NN w' v a ∧ (r.e = 0 → a = r.v) ∧ Kp w w'

set_option maxHeartbeats 6400000 in
set_option maxRecDepth 100000 in
theorem value_a (s : ByteArray) (p i : Nat) (c : Int) (r1 rt : Rs) (w : World) (hs1 : 1 ≤ s.size) (hs : s.size ≤ 100) (hp : p ≤ 1000) (hi : i < s.size) (hl : lst (bl s) 43 45 (s.size - 1) 0 = (i : Int)) (hc4 : c = 43 ∨ c = 45 ∨ c = 42 ∨ c = 47) (hci : byteAt s i = c)
  (H1 : ∀ w, Calls Try.prog 24 #[.string (s.extract 0 i), .int .i64 p] w (RetV3 w r1)) (H2 : ∀ w, Calls Try.prog 24 #[.string (s.extract (i + 1) s.size), .int .i64 ((p : Int) + i + 1)] w (RetV3 w rt))
  (q1 : RsOk 9000000 r1) (q2 : RsOk 9000000 rt) :
  Calls Try.prog 24 #[.string s, .int .i64 p] w (RetV3 w (opR c (p + i) r1 rt)) := by
 have hb := byteAt_eq s i hi
 rw [hci] at hb
 have hi2 : (i : Int) < (s.size : Int) := by omega
 have hi0 : (0 : Int) ≤ (i : Int) := by omega
 have hi3 : (i : Int) + 1 ≤ (s.size : Int) := by omega
 go_enter Try.func24, Try.ntmps24
 go_wp2_with fail
 refine (last_any s 43 45 _ hs1 (by omega)).mono ?_
 rintro e w1 ⟨rfl, hk1⟩
 rw [hl]
 have hkb := (kp_alloc w (.cells #[.bool false, .slice none 0 0, .bool false, .slice none 0 0, .bool false, .slice none 0 0, .int .i64 0] 48)).trans' hk1
 have BE := Blk.keep hk1 (Blk.new w _ _)
 clear hk1
 have bel := BE.lt
 have bec := BE.cell
 have bef := BE.frozen
 go_wp2_with fail
 refine (H1 _).mono ?_
 rintro e w2 ⟨v1, a1, rfl, hv1, ha1, hk2⟩
 obtain ⟨b1, ao1, n1, c1, b2, ao2, n2, c2, b3, ao3, n3, c3, rfl, x1, x2, x3⟩ := id hv1
 clear x1 x2 x3
 replace BE := BE.keep hk2
 replace hkb := hkb.trans' hk2
 have hsz2 := hk2.size
 clear hk2 bel bec bef
 have bel := BE.lt
 have bec := BE.cell
 have bef := BE.frozen
 have HA1 := Hid.mk ha1
 clear ha1
 by_cases he1 : r1.e = 0
 ·have x1 : (r1.e != 0) = false := by simp [he1]
  go_wp2_with fail
  have kpx := kp_alloc w2 (.cells #[.bool b1, .slice ao1 n1 c1, .bool b2, .slice ao2 n2 c2, .bool b3, .slice ao3 n3 c3, .int .i64 a1.d] 48)
  refine (H2 _).mono ?_
  rintro e w3 ⟨v2, a2, rfl, hv2, ha2, hk3⟩
  obtain ⟨b4, ao4, n4, c4, b5, ao5, n5, c5, b6, ao6, n6, c6, rfl, x4, x5, x6⟩ := id hv2
  clear x4 x5 x6
  have BX : Blk w3 w2.heap.size #[.bool b1, .slice ao1 n1 c1, .bool b2, .slice ao2 n2 c2, .bool b3, .slice ao3 n3 c3, .int .i64 a1.d] 48 := Blk.keep hk3 (Blk.new w2 _ _)
  have nex := BE.lt
  replace BE := (BE.keep kpx).keep hk3
  replace hkb := (hkb.trans' kpx).trans' hk3
  replace hv1 := (hv1.keep kpx).keep hk3
  have hsz3 := hk3.size
  have hszx := kpx.size
  clear kpx hk3 bel bec bef
  generalize hbx : w2.heap.size = bx at *
  have bel := BE.lt
  have bec := BE.cell
  have bef := BE.frozen
  have bxl := BX.lt
  have bxc := BX.cell
  have HA2 := Hid.mk ha2
  clear ha2
  by_cases he2 : rt.e = 0
  ·have x2 : (rt.e != 0) = false := by simp [he2]
   go_wp2_with fail
   have kpy := kp_alloc w3 (.cells #[.bool b4, .slice ao4 n4 c4, .bool b5, .slice ao5 n5 c5, .bool b6, .slice ao6 n6 c6, .int .i64 a2.d] 48)
   refine (zero_ref a2 _ _ (hv2.keep kpy)).mono ?_
   rintro e w4 ⟨rfl, hk4⟩
   have BY : Blk w4 w3.heap.size #[.bool b4, .slice ao4 n4 c4, .bool b5, .slice ao5 n5 c5, .bool b6, .slice ao6 n6 c6, .int .i64 a2.d] 48 := Blk.keep hk4 (Blk.new w3 _ _)
   replace BX := (BX.keep kpy).keep hk4
   have ney := BE.lt
   replace BE := (BE.keep kpy).keep hk4
   replace hkb := (hkb.trans' kpy).trans' hk4
   replace hv1 := (hv1.keep kpy).keep hk4
   replace hv2 := (hv2.keep kpy).keep hk4
   have hsz4 := hk4.size
   clear kpy hk4 bel bec bef bxl bxc
   generalize hby : w3.heap.size = by' at *
   have bel := BE.lt
   have bec := BE.cell
   have bef := BE.frozen
   have bxl := BX.lt
   have bxc := BX.cell
   have byl := BY.lt
   have byc := BY.cell
   have ea1 := HA1.out he1
   have ea2 := HA2.out he2
   subst ea1
   subst ea2
   have oa := q1.q he1
   have ob := q2.q he2
   have hRo : opR c (p + i) r1 rt = ⟨(comb c r1.v rt.v).1, (comb c r1.v rt.v).2, if (comb c r1.v rt.v).2 = 0 then 0 else ((p + i : Nat) : Int)⟩ := by
    unfold opR; rw [if_neg (by omega), if_neg (by omega)]
   have fa := q1.f
   have fb := q2.f
   have HQ := Hid.mk (And.intro oa ob)
   have hqz := qroot_zero oa ob
   have hzz : decide (rt.v.p = 0 ∧ rt.v.q = 0) = decide (rt.v.p = 0 ∧ rt.v.q = 0) := rfl
   have a0 := oa.d0
   have b0 := ob.d0
   by_cases hA : c = 47 ∧ (rt.v.p = 0 ∧ rt.v.q = 0)
   ·have hcb : comb c r1.v rt.v = (qzero, 3) := by
     unfold comb qdiv
     rw [if_neg (by omega), if_neg (by omega), if_neg (by omega), if_pos hA.2]
    have HR : Hid (opR c (p + i) r1 rt = ⟨qzero, 3, (p : Int) + i⟩) := by
     unfold Hid; rw [hRo, hcb]; simp
    rw [decide_eq_true hA.2]
    have y1 : (c == 47) = true := by simp [hA.1]
    clear hRo hcb hA hqz hzz
    go_wp2_with fail
    refine bodyPost_ret (v := .tuple #[.agg #[.bool b1, .slice ao1 n1 c1, .bool b2, .slice ao2 n2 c2, .bool b3, .slice ao3 n3 c3, .int .i64 r1.v.d], .int .i64 3, .int .i64 ((p : Int) + i)]) (by simp [results, Try.results24, go_sem, bec]) rfl ?_
    rw [HR.out]
    exact ⟨_, _, rfl, hv1.soft (sf7 (.bool b1) (.slice ao1 n1 c1) (.bool b2) (.slice ao2 n2 c2) (.bool b3) (.slice ao3 n3 c3) (.int .i64 r1.v.d) BE (by decide)), fun h => by simp at h, (kp7 (A := w.heap.size) (.bool b1) (.slice ao1 n1 c1) (.bool b2) (.slice ao2 n2 c2) (.bool b3) (.slice ao3 n3 c3) (.int .i64 r1.v.d) hkb (Nat.le_refl _))⟩
   ·by_cases hB : qroot r1.v.d rt.v.d = 0
    ·have hcb : (comb c r1.v rt.v).2 = 4 := by
      by_cases hz : (comb c r1.v rt.v).2 = 0
      ·exact absurd hB (comb_root oa ob hz)
      ·exact comb_four hc4 hz hA
     have HR : Hid ((opR c (p + i) r1 rt).e = 4 ∧ (opR c (p + i) r1 rt).k = (p : Int) + i) := by
      unfold Hid; rw [hRo]; exact ⟨hcb, by simp only; rw [if_neg (by omega)]; push_cast; rfl⟩
     obtain ⟨g1, g2, g3⟩ := hqz.mp hB
     have y3 : (r1.v.d != rt.v.d) = true := by simp [g3]
     clear hRo hcb hqz hzz hB g3
     by_cases h47 : c = 47
     ·have y1 : (c == 47) = true := by simp [h47]
      have y2 : decide (rt.v.p = 0 ∧ rt.v.q = 0) = false := decide_eq_false (fun h => hA ⟨h47, h⟩)
      rw [y2]
      clear hA h47 y2
      go_wp2_with fail
      refine bodyPost_ret (v := .tuple #[.agg #[.bool b1, .slice ao1 n1 c1, .bool b2, .slice ao2 n2 c2, .bool b3, .slice ao3 n3 c3, .int .i64 r1.v.d], .int .i64 4, .int .i64 ((p : Int) + i)]) (by simp [results, Try.results24, go_sem, bec]) rfl ?_
      unfold RetV3
      rw [HR.out.1, HR.out.2]
      exact ⟨_, _, rfl, hv1.soft (sf7 (.bool b1) (.slice ao1 n1 c1) (.bool b2) (.slice ao2 n2 c2) (.bool b3) (.slice ao3 n3 c3) (.int .i64 r1.v.d) BE (by decide)), fun h => absurd h (by decide), (kp7 (A := w.heap.size) (.bool b1) (.slice ao1 n1 c1) (.bool b2) (.slice ao2 n2 c2) (.bool b3) (.slice ao3 n3 c3) (.int .i64 r1.v.d) hkb (Nat.le_refl _))⟩
     ·have y1 : (c == 47) = false := by simp [h47]
      clear hA h47
      go_wp2_with fail
      refine bodyPost_ret (v := .tuple #[.agg #[.bool b1, .slice ao1 n1 c1, .bool b2, .slice ao2 n2 c2, .bool b3, .slice ao3 n3 c3, .int .i64 r1.v.d], .int .i64 4, .int .i64 ((p : Int) + i)]) (by simp [results, Try.results24, go_sem, bec]) rfl ?_
      unfold RetV3
      rw [HR.out.1, HR.out.2]
      exact ⟨_, _, rfl, hv1.soft (sf7 (.bool b1) (.slice ao1 n1 c1) (.bool b2) (.slice ao2 n2 c2) (.bool b3) (.slice ao3 n3 c3) (.int .i64 r1.v.d) BE (by decide)), fun h => absurd h (by decide), (kp7 (A := w.heap.size) (.bool b1) (.slice ao1 n1 c1) (.bool b2) (.slice ao2 n2 c2) (.bool b3) (.slice ao3 n3 c3) (.int .i64 r1.v.d) hkb (Nat.le_refl _))⟩
    ·have hcb : (comb c r1.v rt.v).2 = 0 := by
      by_cases hz : (comb c r1.v rt.v).2 = 0
      ·exact hz
      ·exact absurd (comb_root4 oa ob hc4 hz hA) hB
     have HR : Hid (opR c (p + i) r1 rt = ⟨(comb c r1.v rt.v).1, 0, 0⟩) := by
      unfold Hid; rw [hRo, hcb, if_pos rfl]
     have hnot : ¬ (1 < r1.v.d ∧ 1 < rt.v.d ∧ r1.v.d ≠ rt.v.d) := fun h => hB (hqz.mpr h)
     clear hRo hqz hzz hB
     have hW := Hid.mk (fun w' hk => worked_any c r1.v rt.v 9000000 _ _ w' (hv1.keep hk) (hv2.keep hk) oa ob (by decide) fa fb hc4 hcb)
     clear oa ob fa fb hcb
     by_cases h47 : c = 47
     ·have y1 : (c == 47) = true := by simp [h47]
      have y2 : decide (rt.v.p = 0 ∧ rt.v.q = 0) = false := decide_eq_false (fun h => hA ⟨h47, h⟩)
      rw [y2]
      clear hA h47 y2
      by_cases g1 : 1 < r1.v.d
      ·by_cases g2 : 1 < rt.v.d
       ·have y3 : (r1.v.d != rt.v.d) = false := by
         have : r1.v.d = rt.v.d := by
          by_cases h : r1.v.d = rt.v.d
          ·exact h
          ·exact absurd ⟨g1, g2, h⟩ hnot
         simp [this]
        clear hnot
        go_wp2_with fail
        go_region_held3 (fun w' => w'.cell? ⟨bx, 0, none⟩ = some (.bool b1) ∧ w'.cell? ⟨bx, 1, none⟩ = some (.slice ao1 n1 c1) ∧ w'.cell? ⟨bx, 2, none⟩ = some (.bool b2) ∧ w'.cell? ⟨bx, 3, none⟩ = some (.slice ao2 n2 c2) ∧ w'.cell? ⟨bx, 4, none⟩ = some (.bool b3) ∧ w'.cell? ⟨bx, 5, none⟩ = some (.slice ao3 n3 c3) ∧ w'.cell? ⟨bx, 6, none⟩ = some (.int .i64 r1.v.d) ∧ w'.cell? ⟨by', 0, none⟩ = some (.bool b4) ∧ w'.cell? ⟨by', 1, none⟩ = some (.slice ao4 n4 c4) ∧ w'.cell? ⟨by', 2, none⟩ = some (.bool b5) ∧ w'.cell? ⟨by', 3, none⟩ = some (.slice ao5 n5 c5) ∧ w'.cell? ⟨by', 4, none⟩ = some (.bool b6) ∧ w'.cell? ⟨by', 5, none⟩ = some (.slice ao6 n6 c6) ∧ w'.cell? ⟨by', 6, none⟩ = some (.int .i64 rt.v.d))
         (first | (go_keep; done) | (simp [bxc, byc]; done) | (simp [bxc5, byc5]; done) | (have BXf := (ot7 (A := w.heap.size) (.bool b11) (.slice ao11 n11 c11) (.bool b12) (.slice ao12 n12 c12) (.bool b13) (.slice ao13 n13 c13) (.int .i64 (comb c r1.v rt.v).1.d) BX5 (by omega)); have BYf := (ot7 (A := w.heap.size) (.bool b11) (.slice ao11 n11 c11) (.bool b12) (.slice ao12 n12 c12) (.bool b13) (.slice ao13 n13 c13) (.int .i64 (comb c r1.v rt.v).1.d) BY5 (by omega)); exact ⟨BXf.cell 0, BXf.cell 1, BXf.cell 2, BXf.cell 3, BXf.cell 4, BXf.cell 5, BXf.cell 6, BYf.cell 0, BYf.cell 1, BYf.cell 2, BYf.cell 3, BYf.cell 4, BYf.cell 5, BYf.cell 6⟩))
         ((first
          | (go_at_call 30; refine (hW.out _ (Kp.drew' (Below.refl _ _))).mono ?_; rintro e w5 ⟨v5, rfl, hv5, hk5⟩; obtain ⟨b11, ao11, n11, c11, b12, ao12, n12, c12, b13, ao13, n13, c13, rfl, _, _, _⟩ := id hv5; have BX5 := BX.keep (Kp.trans' (Kp.drew' (Below.refl _ _)) hk5); have BY5 := BY.keep (Kp.trans' (Kp.drew' (Below.refl _ _)) hk5); have BE5 := BE.keep (Kp.trans' (Kp.drew' (Below.refl _ _)) hk5); have bxc5 := BX5.cell; have byc5 := BY5.cell; have bec5 := BE5.cell; have bef5 := BE5.frozen; have bel5 := BE5.lt)))
        all_goals go_wp2_with fail
        refine bodyPost_ret (v := .tuple #[.agg #[.bool b11, .slice ao11 n11 c11, .bool b12, .slice ao12 n12 c12, .bool b13, .slice ao13 n13 c13, .int .i64 (comb c r1.v rt.v).1.d], .int .i64 0, .int .i64 0]) (by simp [results, Try.results24, go_sem, bec5]) rfl ?_
        rw [HR.out]
        exact ⟨_, _, rfl, hv5.soft (sf7 (.bool b11) (.slice ao11 n11 c11) (.bool b12) (.slice ao12 n12 c12) (.bool b13) (.slice ao13 n13 c13) (.int .i64 (comb c r1.v rt.v).1.d) BE5 (by decide)), fun _ => rfl, (kp7 (A := w.heap.size) (.bool b11) (.slice ao11 n11 c11) (.bool b12) (.slice ao12 n12 c12) (.bool b13) (.slice ao13 n13 c13) (.int .i64 (comb c r1.v rt.v).1.d) (hkb.trans' (Kp.trans' (Kp.drew' (Below.refl _ _)) hk5)) (Nat.le_refl _))⟩
       ·clear hnot
        go_wp2_with fail
        go_region_held3 (fun w' => w'.cell? ⟨bx, 0, none⟩ = some (.bool b1) ∧ w'.cell? ⟨bx, 1, none⟩ = some (.slice ao1 n1 c1) ∧ w'.cell? ⟨bx, 2, none⟩ = some (.bool b2) ∧ w'.cell? ⟨bx, 3, none⟩ = some (.slice ao2 n2 c2) ∧ w'.cell? ⟨bx, 4, none⟩ = some (.bool b3) ∧ w'.cell? ⟨bx, 5, none⟩ = some (.slice ao3 n3 c3) ∧ w'.cell? ⟨bx, 6, none⟩ = some (.int .i64 r1.v.d) ∧ w'.cell? ⟨by', 0, none⟩ = some (.bool b4) ∧ w'.cell? ⟨by', 1, none⟩ = some (.slice ao4 n4 c4) ∧ w'.cell? ⟨by', 2, none⟩ = some (.bool b5) ∧ w'.cell? ⟨by', 3, none⟩ = some (.slice ao5 n5 c5) ∧ w'.cell? ⟨by', 4, none⟩ = some (.bool b6) ∧ w'.cell? ⟨by', 5, none⟩ = some (.slice ao6 n6 c6) ∧ w'.cell? ⟨by', 6, none⟩ = some (.int .i64 rt.v.d))
         (first | (go_keep; done) | (simp [bxc, byc]; done) | (simp [bxc5, byc5]; done) | (have BXf := (ot7 (A := w.heap.size) (.bool b11) (.slice ao11 n11 c11) (.bool b12) (.slice ao12 n12 c12) (.bool b13) (.slice ao13 n13 c13) (.int .i64 (comb c r1.v rt.v).1.d) BX5 (by omega)); have BYf := (ot7 (A := w.heap.size) (.bool b11) (.slice ao11 n11 c11) (.bool b12) (.slice ao12 n12 c12) (.bool b13) (.slice ao13 n13 c13) (.int .i64 (comb c r1.v rt.v).1.d) BY5 (by omega)); exact ⟨BXf.cell 0, BXf.cell 1, BXf.cell 2, BXf.cell 3, BXf.cell 4, BXf.cell 5, BXf.cell 6, BYf.cell 0, BYf.cell 1, BYf.cell 2, BYf.cell 3, BYf.cell 4, BYf.cell 5, BYf.cell 6⟩))
         ((first
          | (go_at_call 30; refine (hW.out _ (Kp.drew' (Below.refl _ _))).mono ?_; rintro e w5 ⟨v5, rfl, hv5, hk5⟩; obtain ⟨b11, ao11, n11, c11, b12, ao12, n12, c12, b13, ao13, n13, c13, rfl, _, _, _⟩ := id hv5; have BX5 := BX.keep (Kp.trans' (Kp.drew' (Below.refl _ _)) hk5); have BY5 := BY.keep (Kp.trans' (Kp.drew' (Below.refl _ _)) hk5); have BE5 := BE.keep (Kp.trans' (Kp.drew' (Below.refl _ _)) hk5); have bxc5 := BX5.cell; have byc5 := BY5.cell; have bec5 := BE5.cell; have bef5 := BE5.frozen; have bel5 := BE5.lt)))
        all_goals go_wp2_with fail
        refine bodyPost_ret (v := .tuple #[.agg #[.bool b11, .slice ao11 n11 c11, .bool b12, .slice ao12 n12 c12, .bool b13, .slice ao13 n13 c13, .int .i64 (comb c r1.v rt.v).1.d], .int .i64 0, .int .i64 0]) (by simp [results, Try.results24, go_sem, bec5]) rfl ?_
        rw [HR.out]
        exact ⟨_, _, rfl, hv5.soft (sf7 (.bool b11) (.slice ao11 n11 c11) (.bool b12) (.slice ao12 n12 c12) (.bool b13) (.slice ao13 n13 c13) (.int .i64 (comb c r1.v rt.v).1.d) BE5 (by decide)), fun _ => rfl, (kp7 (A := w.heap.size) (.bool b11) (.slice ao11 n11 c11) (.bool b12) (.slice ao12 n12 c12) (.bool b13) (.slice ao13 n13 c13) (.int .i64 (comb c r1.v rt.v).1.d) (hkb.trans' (Kp.trans' (Kp.drew' (Below.refl _ _)) hk5)) (Nat.le_refl _))⟩
      ·clear hnot
       go_wp2_with fail
       go_region_held3 (fun w' => w'.cell? ⟨bx, 0, none⟩ = some (.bool b1) ∧ w'.cell? ⟨bx, 1, none⟩ = some (.slice ao1 n1 c1) ∧ w'.cell? ⟨bx, 2, none⟩ = some (.bool b2) ∧ w'.cell? ⟨bx, 3, none⟩ = some (.slice ao2 n2 c2) ∧ w'.cell? ⟨bx, 4, none⟩ = some (.bool b3) ∧ w'.cell? ⟨bx, 5, none⟩ = some (.slice ao3 n3 c3) ∧ w'.cell? ⟨bx, 6, none⟩ = some (.int .i64 r1.v.d) ∧ w'.cell? ⟨by', 0, none⟩ = some (.bool b4) ∧ w'.cell? ⟨by', 1, none⟩ = some (.slice ao4 n4 c4) ∧ w'.cell? ⟨by', 2, none⟩ = some (.bool b5) ∧ w'.cell? ⟨by', 3, none⟩ = some (.slice ao5 n5 c5) ∧ w'.cell? ⟨by', 4, none⟩ = some (.bool b6) ∧ w'.cell? ⟨by', 5, none⟩ = some (.slice ao6 n6 c6) ∧ w'.cell? ⟨by', 6, none⟩ = some (.int .i64 rt.v.d))
        (first | (go_keep; done) | (simp [bxc, byc]; done) | (simp [bxc5, byc5]; done) | (have BXf := (ot7 (A := w.heap.size) (.bool b11) (.slice ao11 n11 c11) (.bool b12) (.slice ao12 n12 c12) (.bool b13) (.slice ao13 n13 c13) (.int .i64 (comb c r1.v rt.v).1.d) BX5 (by omega)); have BYf := (ot7 (A := w.heap.size) (.bool b11) (.slice ao11 n11 c11) (.bool b12) (.slice ao12 n12 c12) (.bool b13) (.slice ao13 n13 c13) (.int .i64 (comb c r1.v rt.v).1.d) BY5 (by omega)); exact ⟨BXf.cell 0, BXf.cell 1, BXf.cell 2, BXf.cell 3, BXf.cell 4, BXf.cell 5, BXf.cell 6, BYf.cell 0, BYf.cell 1, BYf.cell 2, BYf.cell 3, BYf.cell 4, BYf.cell 5, BYf.cell 6⟩))
        ((first
         | (go_at_call 30; refine (hW.out _ (Kp.drew' (Below.refl _ _))).mono ?_; rintro e w5 ⟨v5, rfl, hv5, hk5⟩; obtain ⟨b11, ao11, n11, c11, b12, ao12, n12, c12, b13, ao13, n13, c13, rfl, _, _, _⟩ := id hv5; have BX5 := BX.keep (Kp.trans' (Kp.drew' (Below.refl _ _)) hk5); have BY5 := BY.keep (Kp.trans' (Kp.drew' (Below.refl _ _)) hk5); have BE5 := BE.keep (Kp.trans' (Kp.drew' (Below.refl _ _)) hk5); have bxc5 := BX5.cell; have byc5 := BY5.cell; have bec5 := BE5.cell; have bef5 := BE5.frozen; have bel5 := BE5.lt)))
       all_goals go_wp2_with fail
       refine bodyPost_ret (v := .tuple #[.agg #[.bool b11, .slice ao11 n11 c11, .bool b12, .slice ao12 n12 c12, .bool b13, .slice ao13 n13 c13, .int .i64 (comb c r1.v rt.v).1.d], .int .i64 0, .int .i64 0]) (by simp [results, Try.results24, go_sem, bec5]) rfl ?_
       rw [HR.out]
       exact ⟨_, _, rfl, hv5.soft (sf7 (.bool b11) (.slice ao11 n11 c11) (.bool b12) (.slice ao12 n12 c12) (.bool b13) (.slice ao13 n13 c13) (.int .i64 (comb c r1.v rt.v).1.d) BE5 (by decide)), fun _ => rfl, (kp7 (A := w.heap.size) (.bool b11) (.slice ao11 n11 c11) (.bool b12) (.slice ao12 n12 c12) (.bool b13) (.slice ao13 n13 c13) (.int .i64 (comb c r1.v rt.v).1.d) (hkb.trans' (Kp.trans' (Kp.drew' (Below.refl _ _)) hk5)) (Nat.le_refl _))⟩
     ·have y1 : (c == 47) = false := by simp [h47]
      generalize decide (rt.v.p = 0 ∧ rt.v.q = 0) = zz at *
      clear hA h47
      by_cases g1 : 1 < r1.v.d
      ·by_cases g2 : 1 < rt.v.d
       ·have y3 : (r1.v.d != rt.v.d) = false := by
         have : r1.v.d = rt.v.d := by
          by_cases h : r1.v.d = rt.v.d
          ·exact h
          ·exact absurd ⟨g1, g2, h⟩ hnot
         simp [this]
        clear hnot
        go_wp2_with fail
        go_region_held3 (fun w' => w'.cell? ⟨bx, 0, none⟩ = some (.bool b1) ∧ w'.cell? ⟨bx, 1, none⟩ = some (.slice ao1 n1 c1) ∧ w'.cell? ⟨bx, 2, none⟩ = some (.bool b2) ∧ w'.cell? ⟨bx, 3, none⟩ = some (.slice ao2 n2 c2) ∧ w'.cell? ⟨bx, 4, none⟩ = some (.bool b3) ∧ w'.cell? ⟨bx, 5, none⟩ = some (.slice ao3 n3 c3) ∧ w'.cell? ⟨bx, 6, none⟩ = some (.int .i64 r1.v.d) ∧ w'.cell? ⟨by', 0, none⟩ = some (.bool b4) ∧ w'.cell? ⟨by', 1, none⟩ = some (.slice ao4 n4 c4) ∧ w'.cell? ⟨by', 2, none⟩ = some (.bool b5) ∧ w'.cell? ⟨by', 3, none⟩ = some (.slice ao5 n5 c5) ∧ w'.cell? ⟨by', 4, none⟩ = some (.bool b6) ∧ w'.cell? ⟨by', 5, none⟩ = some (.slice ao6 n6 c6) ∧ w'.cell? ⟨by', 6, none⟩ = some (.int .i64 rt.v.d))
         (first | (go_keep; done) | (simp [bxc, byc]; done) | (simp [bxc5, byc5]; done) | (have BXf := (ot7 (A := w.heap.size) (.bool b11) (.slice ao11 n11 c11) (.bool b12) (.slice ao12 n12 c12) (.bool b13) (.slice ao13 n13 c13) (.int .i64 (comb c r1.v rt.v).1.d) BX5 (by omega)); have BYf := (ot7 (A := w.heap.size) (.bool b11) (.slice ao11 n11 c11) (.bool b12) (.slice ao12 n12 c12) (.bool b13) (.slice ao13 n13 c13) (.int .i64 (comb c r1.v rt.v).1.d) BY5 (by omega)); exact ⟨BXf.cell 0, BXf.cell 1, BXf.cell 2, BXf.cell 3, BXf.cell 4, BXf.cell 5, BXf.cell 6, BYf.cell 0, BYf.cell 1, BYf.cell 2, BYf.cell 3, BYf.cell 4, BYf.cell 5, BYf.cell 6⟩))
         ((first
          | (go_at_call 30; refine (hW.out _ (Kp.drew' (Below.refl _ _))).mono ?_; rintro e w5 ⟨v5, rfl, hv5, hk5⟩; obtain ⟨b11, ao11, n11, c11, b12, ao12, n12, c12, b13, ao13, n13, c13, rfl, _, _, _⟩ := id hv5; have BX5 := BX.keep (Kp.trans' (Kp.drew' (Below.refl _ _)) hk5); have BY5 := BY.keep (Kp.trans' (Kp.drew' (Below.refl _ _)) hk5); have BE5 := BE.keep (Kp.trans' (Kp.drew' (Below.refl _ _)) hk5); have bxc5 := BX5.cell; have byc5 := BY5.cell; have bec5 := BE5.cell; have bef5 := BE5.frozen; have bel5 := BE5.lt)))
        all_goals go_wp2_with fail
        refine bodyPost_ret (v := .tuple #[.agg #[.bool b11, .slice ao11 n11 c11, .bool b12, .slice ao12 n12 c12, .bool b13, .slice ao13 n13 c13, .int .i64 (comb c r1.v rt.v).1.d], .int .i64 0, .int .i64 0]) (by simp [results, Try.results24, go_sem, bec5]) rfl ?_
        rw [HR.out]
        exact ⟨_, _, rfl, hv5.soft (sf7 (.bool b11) (.slice ao11 n11 c11) (.bool b12) (.slice ao12 n12 c12) (.bool b13) (.slice ao13 n13 c13) (.int .i64 (comb c r1.v rt.v).1.d) BE5 (by decide)), fun _ => rfl, (kp7 (A := w.heap.size) (.bool b11) (.slice ao11 n11 c11) (.bool b12) (.slice ao12 n12 c12) (.bool b13) (.slice ao13 n13 c13) (.int .i64 (comb c r1.v rt.v).1.d) (hkb.trans' (Kp.trans' (Kp.drew' (Below.refl _ _)) hk5)) (Nat.le_refl _))⟩
       ·clear hnot
        go_wp2_with fail
        go_region_held3 (fun w' => w'.cell? ⟨bx, 0, none⟩ = some (.bool b1) ∧ w'.cell? ⟨bx, 1, none⟩ = some (.slice ao1 n1 c1) ∧ w'.cell? ⟨bx, 2, none⟩ = some (.bool b2) ∧ w'.cell? ⟨bx, 3, none⟩ = some (.slice ao2 n2 c2) ∧ w'.cell? ⟨bx, 4, none⟩ = some (.bool b3) ∧ w'.cell? ⟨bx, 5, none⟩ = some (.slice ao3 n3 c3) ∧ w'.cell? ⟨bx, 6, none⟩ = some (.int .i64 r1.v.d) ∧ w'.cell? ⟨by', 0, none⟩ = some (.bool b4) ∧ w'.cell? ⟨by', 1, none⟩ = some (.slice ao4 n4 c4) ∧ w'.cell? ⟨by', 2, none⟩ = some (.bool b5) ∧ w'.cell? ⟨by', 3, none⟩ = some (.slice ao5 n5 c5) ∧ w'.cell? ⟨by', 4, none⟩ = some (.bool b6) ∧ w'.cell? ⟨by', 5, none⟩ = some (.slice ao6 n6 c6) ∧ w'.cell? ⟨by', 6, none⟩ = some (.int .i64 rt.v.d))
         (first | (go_keep; done) | (simp [bxc, byc]; done) | (simp [bxc5, byc5]; done) | (have BXf := (ot7 (A := w.heap.size) (.bool b11) (.slice ao11 n11 c11) (.bool b12) (.slice ao12 n12 c12) (.bool b13) (.slice ao13 n13 c13) (.int .i64 (comb c r1.v rt.v).1.d) BX5 (by omega)); have BYf := (ot7 (A := w.heap.size) (.bool b11) (.slice ao11 n11 c11) (.bool b12) (.slice ao12 n12 c12) (.bool b13) (.slice ao13 n13 c13) (.int .i64 (comb c r1.v rt.v).1.d) BY5 (by omega)); exact ⟨BXf.cell 0, BXf.cell 1, BXf.cell 2, BXf.cell 3, BXf.cell 4, BXf.cell 5, BXf.cell 6, BYf.cell 0, BYf.cell 1, BYf.cell 2, BYf.cell 3, BYf.cell 4, BYf.cell 5, BYf.cell 6⟩))
         ((first
          | (go_at_call 30; refine (hW.out _ (Kp.drew' (Below.refl _ _))).mono ?_; rintro e w5 ⟨v5, rfl, hv5, hk5⟩; obtain ⟨b11, ao11, n11, c11, b12, ao12, n12, c12, b13, ao13, n13, c13, rfl, _, _, _⟩ := id hv5; have BX5 := BX.keep (Kp.trans' (Kp.drew' (Below.refl _ _)) hk5); have BY5 := BY.keep (Kp.trans' (Kp.drew' (Below.refl _ _)) hk5); have BE5 := BE.keep (Kp.trans' (Kp.drew' (Below.refl _ _)) hk5); have bxc5 := BX5.cell; have byc5 := BY5.cell; have bec5 := BE5.cell; have bef5 := BE5.frozen; have bel5 := BE5.lt)))
        all_goals go_wp2_with fail
        refine bodyPost_ret (v := .tuple #[.agg #[.bool b11, .slice ao11 n11 c11, .bool b12, .slice ao12 n12 c12, .bool b13, .slice ao13 n13 c13, .int .i64 (comb c r1.v rt.v).1.d], .int .i64 0, .int .i64 0]) (by simp [results, Try.results24, go_sem, bec5]) rfl ?_
        rw [HR.out]
        exact ⟨_, _, rfl, hv5.soft (sf7 (.bool b11) (.slice ao11 n11 c11) (.bool b12) (.slice ao12 n12 c12) (.bool b13) (.slice ao13 n13 c13) (.int .i64 (comb c r1.v rt.v).1.d) BE5 (by decide)), fun _ => rfl, (kp7 (A := w.heap.size) (.bool b11) (.slice ao11 n11 c11) (.bool b12) (.slice ao12 n12 c12) (.bool b13) (.slice ao13 n13 c13) (.int .i64 (comb c r1.v rt.v).1.d) (hkb.trans' (Kp.trans' (Kp.drew' (Below.refl _ _)) hk5)) (Nat.le_refl _))⟩
      ·clear hnot
       go_wp2_with fail
       go_region_held3 (fun w' => w'.cell? ⟨bx, 0, none⟩ = some (.bool b1) ∧ w'.cell? ⟨bx, 1, none⟩ = some (.slice ao1 n1 c1) ∧ w'.cell? ⟨bx, 2, none⟩ = some (.bool b2) ∧ w'.cell? ⟨bx, 3, none⟩ = some (.slice ao2 n2 c2) ∧ w'.cell? ⟨bx, 4, none⟩ = some (.bool b3) ∧ w'.cell? ⟨bx, 5, none⟩ = some (.slice ao3 n3 c3) ∧ w'.cell? ⟨bx, 6, none⟩ = some (.int .i64 r1.v.d) ∧ w'.cell? ⟨by', 0, none⟩ = some (.bool b4) ∧ w'.cell? ⟨by', 1, none⟩ = some (.slice ao4 n4 c4) ∧ w'.cell? ⟨by', 2, none⟩ = some (.bool b5) ∧ w'.cell? ⟨by', 3, none⟩ = some (.slice ao5 n5 c5) ∧ w'.cell? ⟨by', 4, none⟩ = some (.bool b6) ∧ w'.cell? ⟨by', 5, none⟩ = some (.slice ao6 n6 c6) ∧ w'.cell? ⟨by', 6, none⟩ = some (.int .i64 rt.v.d))
        (first | (go_keep; done) | (simp [bxc, byc]; done) | (simp [bxc5, byc5]; done) | (have BXf := (ot7 (A := w.heap.size) (.bool b11) (.slice ao11 n11 c11) (.bool b12) (.slice ao12 n12 c12) (.bool b13) (.slice ao13 n13 c13) (.int .i64 (comb c r1.v rt.v).1.d) BX5 (by omega)); have BYf := (ot7 (A := w.heap.size) (.bool b11) (.slice ao11 n11 c11) (.bool b12) (.slice ao12 n12 c12) (.bool b13) (.slice ao13 n13 c13) (.int .i64 (comb c r1.v rt.v).1.d) BY5 (by omega)); exact ⟨BXf.cell 0, BXf.cell 1, BXf.cell 2, BXf.cell 3, BXf.cell 4, BXf.cell 5, BXf.cell 6, BYf.cell 0, BYf.cell 1, BYf.cell 2, BYf.cell 3, BYf.cell 4, BYf.cell 5, BYf.cell 6⟩))
        ((first
         | (go_at_call 30; refine (hW.out _ (Kp.drew' (Below.refl _ _))).mono ?_; rintro e w5 ⟨v5, rfl, hv5, hk5⟩; obtain ⟨b11, ao11, n11, c11, b12, ao12, n12, c12, b13, ao13, n13, c13, rfl, _, _, _⟩ := id hv5; have BX5 := BX.keep (Kp.trans' (Kp.drew' (Below.refl _ _)) hk5); have BY5 := BY.keep (Kp.trans' (Kp.drew' (Below.refl _ _)) hk5); have BE5 := BE.keep (Kp.trans' (Kp.drew' (Below.refl _ _)) hk5); have bxc5 := BX5.cell; have byc5 := BY5.cell; have bec5 := BE5.cell; have bef5 := BE5.frozen; have bel5 := BE5.lt)))
       all_goals go_wp2_with fail
       refine bodyPost_ret (v := .tuple #[.agg #[.bool b11, .slice ao11 n11 c11, .bool b12, .slice ao12 n12 c12, .bool b13, .slice ao13 n13 c13, .int .i64 (comb c r1.v rt.v).1.d], .int .i64 0, .int .i64 0]) (by simp [results, Try.results24, go_sem, bec5]) rfl ?_
       rw [HR.out]
       exact ⟨_, _, rfl, hv5.soft (sf7 (.bool b11) (.slice ao11 n11 c11) (.bool b12) (.slice ao12 n12 c12) (.bool b13) (.slice ao13 n13 c13) (.int .i64 (comb c r1.v rt.v).1.d) BE5 (by decide)), fun _ => rfl, (kp7 (A := w.heap.size) (.bool b11) (.slice ao11 n11 c11) (.bool b12) (.slice ao12 n12 c12) (.bool b13) (.slice ao13 n13 c13) (.int .i64 (comb c r1.v rt.v).1.d) (hkb.trans' (Kp.trans' (Kp.drew' (Below.refl _ _)) hk5)) (Nat.le_refl _))⟩
  ·have x2 : (rt.e != 0) = true := by simp [he2]
   have HR : Hid (opR c (p + i) r1 rt = ⟨r1.v, rt.e, rt.k⟩) := by
    unfold Hid opR; rw [if_neg (by omega), if_pos he2]
   go_wp2_with fail
   refine bodyPost_ret (v := .tuple #[.agg #[.bool b4, .slice ao4 n4 c4, .bool b5, .slice ao5 n5 c5, .bool b6, .slice ao6 n6 c6, .int .i64 a2.d], .int .i64 rt.e, .int .i64 rt.k]) (by simp [results, Try.results24, go_sem, bec, bel]) rfl ?_
   rw [HR.out]
   exact ⟨_, _, rfl, hv2.soft (Sf.alloc (sf7 (.bool b4) (.slice ao4 n4 c4) (.bool b5) (.slice ao5 n5 c5) (.bool b6) (.slice ao6 n6 c6) (.int .i64 a2.d) BE (by decide)) (.cells #[.bool b4, .slice ao4 n4 c4, .bool b5, .slice ao5 n5 c5, .bool b6, .slice ao6 n6 c6, .int .i64 a2.d] 48)), fun h => absurd h he2, (Kp.alloc' (kp7 (A := w.heap.size) (.bool b4) (.slice ao4 n4 c4) (.bool b5) (.slice ao5 n5 c5) (.bool b6) (.slice ao6 n6 c6) (.int .i64 a2.d) hkb (Nat.le_refl _)) (.cells #[.bool b4, .slice ao4 n4 c4, .bool b5, .slice ao5 n5 c5, .bool b6, .slice ao6 n6 c6, .int .i64 a2.d] 48))⟩
 ·have x1 : (r1.e != 0) = true := by simp [he1]
  have HR : Hid (opR c (p + i) r1 rt = r1) := by
   unfold Hid opR; rw [if_pos he1]
  go_wp2_with fail
  refine bodyPost_ret (v := .tuple #[.agg #[.bool b1, .slice ao1 n1 c1, .bool b2, .slice ao2 n2 c2, .bool b3, .slice ao3 n3 c3, .int .i64 a1.d], .int .i64 r1.e, .int .i64 r1.k]) (by simp [results, Try.results24, go_sem, bec, bel]) rfl ?_
  rw [HR.out]
  exact ⟨_, _, rfl, hv1.soft (Sf.alloc (sf7 (.bool b1) (.slice ao1 n1 c1) (.bool b2) (.slice ao2 n2 c2) (.bool b3) (.slice ao3 n3 c3) (.int .i64 a1.d) BE (by decide)) (.cells #[.bool b1, .slice ao1 n1 c1, .bool b2, .slice ao2 n2 c2, .bool b3, .slice ao3 n3 c3, .int .i64 a1.d] 48)), fun h => absurd h he1, (Kp.alloc' (kp7 (A := w.heap.size) (.bool b1) (.slice ao1 n1 c1) (.bool b2) (.slice ao2 n2 c2) (.bool b3) (.slice ao3 n3 c3) (.int .i64 a1.d) hkb (Nat.le_refl _)) (.cells #[.bool b1, .slice ao1 n1 c1, .bool b2, .slice ao2 n2 c2, .bool b3, .slice ao3 n3 c3, .int .i64 a1.d] 48))⟩
 

end Go.Proofs.Ytjahbjjekednfaa
