import Derived.Test.YtjahbjjekednfaaDoorK8
import Derived.Test.YtjahbjjekednfaaDoorBm
import Derived.Test.YtjahbjjekednfaaDoorC9
import Derived.Test.YtjahbjjekednfaaDoorS1
import Derived.Deep.LoopGhost
namespace Go.Proofs.YtjahbjjekednfaaDoor
open Go.RowKit

theorem div_ex (T : Int) {K : Int} (hK : 1 ≤ K) : ∃ u, comb 47 ⟨T, 0, 1, 1⟩ ⟨K, 0, 1, 1⟩ = (u, 0) ∧ (∀ D, InF D u) ∧ ∀ N, vl u N = (T : Rat) / (K : Rat) := by
 have hb : (K : Rat) ≠ 0 := cast_ne (by omega)
 have hz : ¬ ((⟨K, 0, 1, 1⟩ : Qn).p = 0 ∧ (⟨K, 0, 1, 1⟩ : Qn).q = 0) := fun k => by
  have : K = 0 := k.1
  omega
 obtain ⟨i1, x1, y1⟩ := f_inv (inf_int 1 K) hz
 obtain ⟨g, i2, x2, y2⟩ := f_mul (inf_int 1 T) i1
 rw [rx_int, ry_int] at x1 y1 x2 y2
 have r1 : ry (qinv ⟨K, 0, 1, 1⟩) = 0 := by grind
 have r2 : rx (qinv ⟨K, 0, 1, 1⟩) = (K : Rat)⁻¹ := by grind
 rw [r1, r2] at x2 y2
 have y3 : ry (qmulN ⟨T, 0, 1, 1⟩ (qinv ⟨K, 0, 1, 1⟩)) = 0 := by rw [y2]; grind
 refine ⟨_, by rw [qdiv_of hz, g], fun D => ⟨i2.cn, Or.inl ((ry_zero i2.cn.ok.r).1 y3)⟩, fun N => ?_⟩
 rw [vl_in i2, x2, y3]
 grind
/-- The text of a fraction. -/
def qt (T K : Int) : ByteArray := strOf (Go.Lib.itoa T) ++ ⟨#[47]⟩ ++ strOf (Go.Lib.itoa K)
/-- How it is read. -/
structure Qt (t : ByteArray) (T K : Int) (u : Qn) : Prop where
 inf : ∀ D, InF D u
 vl : ∀ N, vl u N = (T : Rat) / (K : Rat)
 gv : ∀ n, Gv (Pd n) (bl t) (u, 0)
 run : ∃ z, pRun ⟨0, 18, 0⟩ (bl t) = some z ∧ z.d = 0 ∧ z.k = 2
 rk : ∀ r, Rk t r → r.e = 0 ∧ r.v = u
theorem qt_ex (T : Int) {K : Int} (hK : 1 ≤ K) (h1 : (strOf (Go.Lib.itoa T)).size ≤ 18) (h2 : (strOf (Go.Lib.itoa K)).size ≤ 18) : ∃ u, Qt (qt T K) T K u := by
 obtain ⟨u, hc, hi, hv⟩ := div_ex T hK
 unfold qt
 have hA : NumT (strOf (Go.Lib.itoa T)) T := rfl
 have hB : NumT (strOf (Go.Lib.itoa K)) K := rfl
 generalize Go.Lib.itoa T = s at *
 generalize Go.Lib.itoa K = t at *
 have hb : bl (strOf s ++ ⟨#[47]⟩ ++ strOf t) = bi s ++ 47 :: bi t := by
  rw [bl_app, bl_app, bl_strOf, bl_strOf, List.append_assoc]
  rfl
 have hsz : (strOf s ++ ⟨#[47]⟩ ++ strOf t).size ≤ 37 := by
  rw [ByteArray.size_append, ByteArray.size_append]
  have : (⟨#[47]⟩ : ByteArray).size = 1 := rfl
  omega
 rw [strOf_size] at h1 h2
 have hrun : ∃ z, pRun ⟨0, 18, 0⟩ (bl (strOf s ++ ⟨#[47]⟩ ++ strOf t)) = some z ∧ z.d = 0 ∧ z.k = 2 := by
  obtain ⟨_, z1, u1, u2, u3⟩ := num_gv 8 hA h1
  obtain ⟨_, z2, v1, v2, v3⟩ := num_gv 8 hB h2
  rw [hb]
  refine ⟨z2, ?_, v2, v3⟩
  rw [pRun_app, u1]
  show pRun z1 (47 :: bi t) = some z2
  have e : plStep z1 47 = (⟨0, 18, 0⟩, true) := by
   obtain ⟨k, r, d⟩ := z1
   simp only at u2 u3
   subst u2 u3
   rfl
  unfold pRun
  rw [e]
  simpa using v1
 have hgv : ∀ n, Gv (Pd n) (bl (strOf s ++ ⟨#[47]⟩ ++ strOf t)) (u, 0) := fun n => by
  rw [hb]
  have := Gv.op (ops := mulOp) (c := 47) (Or.inr rfl) (f2p (num_gv n hA h1).1) (num_gv n hB h2).1
  rw [opX_zero, hc] at this
  exact this
 refine ⟨u, hi, hv, hgv, hrun, fun r h => ?_⟩
 have hE : Ends ⟨0, 18, 0⟩ (bl (strOf s ++ ⟨#[47]⟩ ++ strOf t)) := by
  obtain ⟨z, z1, z2, z3⟩ := hrun
  exact ⟨z, z1, z3, by omega⟩
 have hF := (fault_iff _).2 hE
 rcases rk_gv h (p2s (hgv 8)) with ⟨_, g1⟩ | ⟨_, _, g1⟩ | ⟨_, _, g1, g2⟩
 ·omega
 ·omega
 ·exact ⟨g1, g2 g1⟩
/-- An expression for how far a value is from a fraction. -/
def gp (s t : ByteArray) (c : Int) : ByteArray := if 0 ≤ c then ⟨#[40]⟩ ++ s ++ ⟨#[41, 45]⟩ ++ t else t ++ ⟨#[45, 40]⟩ ++ s ++ ⟨#[41]⟩
theorem sub_vl {D : Int} {a b : Qn} (ha : InF D a) (hb : InF D b) : ∃ v, comb 45 a b = (v, 0) ∧ Cn v ∧ ∀ N, vl v N = vl a N - vl b N := by
 obtain ⟨k3, x3, y3⟩ := f_neg hb
 obtain ⟨g, k4, x4, y4⟩ := f_add ha k3
 refine ⟨_, g, k4.cn, fun N => ?_⟩
 rw [vl_in k4, vl_in ha, vl_in hb, x4, y4, x3, y3]
 grind
theorem gp_rk {s t : ByteArray} {r : Rs} {T K c : Int} {u : Qn} (h : Rk s r) (he : r.e = 0) (hs : s.size ≤ 60) (hts : t.size ≤ 36) (q : Qt t T K u) {r3 : Rs} (h3 : Rk (gp s t c) r3) :
 (Fits (bl s) ∧ r3.e = 0 ∧ Cn r3.v ∧ ∀ N, vl r3.v N = if 0 ≤ c then vl r.v N - (T : Rat) / (K : Rat) else (T : Rat) / (K : Rat) - vl r.v N) ∨ (¬ Fits (bl s) ∧ r3.e = 2) := by
 have hcn := rk_cn h he
 obtain ⟨gs, _, _⟩ := rk_read h he
 have gb : Gv (Fc 9) (40 :: (bl s ++ [41])) (r.v, 0) := gs.paren
 have hE := ends_rk h he
 obtain ⟨z, z1, z2, z3⟩ := q.run
 by_cases hc : 0 ≤ c
 ·have hg : gp s t c = ⟨#[40]⟩ ++ s ++ ⟨#[41, 45]⟩ ++ t := if_pos hc
  rw [hg] at h3
  have hb : bl (⟨#[40]⟩ ++ s ++ ⟨#[41, 45]⟩ ++ t) = (40 :: (bl s ++ [41])) ++ 45 :: bl t := by
   rw [bl_app, bl_app, bl_app]
   simp [bl]
  have hsz : (⟨#[40]⟩ ++ s ++ ⟨#[41, 45]⟩ ++ t).size ≤ 100 := by
   rw [ByteArray.size_append, ByteArray.size_append, ByteArray.size_append]
   have h1 : (⟨#[40]⟩ : ByteArray).size = 1 := rfl
   have h2 : (⟨#[41, 45]⟩ : ByteArray).size = 2 := rfl
   omega
  obtain ⟨v, hv1, hv2, hv3⟩ := sub_vl (inf_own hcn) (q.inf r.v.d)
  have g : Gv (Sm 9) (bl (⟨#[40]⟩ ++ s ++ ⟨#[41, 45]⟩ ++ t)) (v, 0) := by
   rw [hb]
   have := Gv.op (ops := addOp) (c := 45) (Or.inr rfl) (p2s (f2p gb)) (q.gv 9)
   rw [opX_zero, hv1] at this
   exact this
  have hl : bl (⟨#[40]⟩ ++ s ++ ⟨#[41, 45]⟩ ++ t) = 40 :: (bl s ++ 41 :: (45 :: bl t)) := by rw [hb]; simp
  have e45 : pRun ⟨2, 0, 0⟩ (45 :: bl t) = pRun ⟨0, 18, 0⟩ (bl t) := by
   conv => lhs; unfold pRun
   rw [show plStep ⟨2, 0, 0⟩ 45 = (⟨0, 18, 0⟩, true) by rfl]
   rfl
  obtain ⟨r1, r2⟩ := run_paren (m := 45 :: bl t) hE
  by_cases hF : Fits (bl s)
  ·have hEn : Ends ⟨0, 18, 0⟩ (bl (⟨#[40]⟩ ++ s ++ ⟨#[41, 45]⟩ ++ t)) := by
    rw [hl]
    exact ⟨z, by rw [r1 hF, e45, z1], z3, by omega⟩
   have hfa := (fault_iff _).2 hEn
   rcases rk_gv h3 g with ⟨_, g1⟩ | ⟨_, _, g1⟩ | ⟨_, _, g1, g2⟩
   ·omega
   ·omega
   ·refine Or.inl ⟨hF, g1, by rw [g2 g1]; exact hv2, fun N => ?_⟩
    rw [g2 g1, if_pos hc]
    show vl v N = _
    rw [hv3, q.vl]
  ·have hnf : plFault (⟨#[40]⟩ ++ s ++ ⟨#[41, 45]⟩ ++ t) 0 (⟨#[40]⟩ ++ s ++ ⟨#[41, 45]⟩ ++ t).size ≠ -1 := fun k => by
    have := (fault_iff _).1 k
    rw [hl] at this
    obtain ⟨z', k1, _⟩ := this
    rw [r2 hF] at k1
    cases k1
   rcases rk_gv h3 g with ⟨_, g1⟩ | ⟨g0, _, _⟩ | ⟨_, g1, _, _⟩
   ·omega
   ·exact Or.inr ⟨hF, g0⟩
   ·exact absurd g1 hnf
 ·have hg : gp s t c = t ++ ⟨#[45, 40]⟩ ++ s ++ ⟨#[41]⟩ := if_neg hc
  rw [hg] at h3
  have hb : bl (t ++ ⟨#[45, 40]⟩ ++ s ++ ⟨#[41]⟩) = bl t ++ 45 :: (40 :: (bl s ++ [41])) := by
   rw [bl_app, bl_app, bl_app]
   simp [bl]
  have hsz : (t ++ ⟨#[45, 40]⟩ ++ s ++ ⟨#[41]⟩).size ≤ 100 := by
   rw [ByteArray.size_append, ByteArray.size_append, ByteArray.size_append]
   have h1 : (⟨#[41]⟩ : ByteArray).size = 1 := rfl
   have h2 : (⟨#[45, 40]⟩ : ByteArray).size = 2 := rfl
   omega
  obtain ⟨v, hv1, hv2, hv3⟩ := sub_vl (q.inf r.v.d) (inf_own hcn)
  have g : Gv (Sm 9) (bl (t ++ ⟨#[45, 40]⟩ ++ s ++ ⟨#[41]⟩)) (v, 0) := by
   rw [hb]
   have := Gv.op (ops := addOp) (c := 45) (Or.inr rfl) (p2s (q.gv 9)) (f2p gb)
   rw [opX_zero, hv1] at this
   exact this
  have e45 : pRun ⟨0, 18, 0⟩ (bl t ++ 45 :: (40 :: (bl s ++ [41]))) = pRun ⟨0, 18, 0⟩ (40 :: (bl s ++ 41 :: [])) := by
   rw [pRun_app, z1]
   show pRun z (45 :: (40 :: (bl s ++ [41]))) = _
   have e : plStep z 45 = (⟨0, 18, 0⟩, true) := by
    obtain ⟨k, r, d⟩ := z
    simp only at z2 z3
    subst z2 z3
    rfl
   conv => lhs; unfold pRun
   rw [e]
   rfl
  obtain ⟨r1, r2⟩ := run_paren (m := []) hE
  by_cases hF : Fits (bl s)
  ·have hEn : Ends ⟨0, 18, 0⟩ (bl (t ++ ⟨#[45, 40]⟩ ++ s ++ ⟨#[41]⟩)) := by
    rw [hb]
    exact ⟨⟨2, 0, 0⟩, by rw [e45, r1 hF]; rfl, rfl, Int.le_refl _⟩
   have hfa := (fault_iff _).2 hEn
   rcases rk_gv h3 g with ⟨_, g1⟩ | ⟨_, _, g1⟩ | ⟨_, _, g1, g2⟩
   ·omega
   ·omega
   ·refine Or.inl ⟨hF, g1, by rw [g2 g1]; exact hv2, fun N => ?_⟩
    rw [g2 g1, if_neg hc]
    show vl v N = _
    rw [hv3, q.vl]
  ·have hnf : plFault (t ++ ⟨#[45, 40]⟩ ++ s ++ ⟨#[41]⟩) 0 (t ++ ⟨#[45, 40]⟩ ++ s ++ ⟨#[41]⟩).size ≠ -1 := fun k => by
    have := (fault_iff _).1 k
    rw [hb] at this
    obtain ⟨z', k1, _⟩ := this
    rw [e45, r2 hF] at k1
    cases k1
   rcases rk_gv h3 g with ⟨_, g1⟩ | ⟨g0, _, _⟩ | ⟨_, g1, _, _⟩
   ·omega
   ·exact Or.inr ⟨hF, g0⟩
   ·exact absurd g1 hnf
/-- That expression tells how far. -/
theorem gp_ab {a u v : Qn} {t : ByteArray} {T K : Int} (h : Cn a) (q : Qt t T K u) (hv : ∀ N, vl v N = if 0 ≤ qcmp a u then vl a N - (T : Rat) / (K : Rat) else (T : Rat) / (K : Rat) - vl a N) : ∃ N0, ∀ N, N0 ≤ N → vl v N = ab (vl a N - (T : Rat) / (K : Rat)) := by
 have hq := q.vl
 rcases cmp_sem h (q.inf 1).cn with ⟨o, k⟩ | ⟨o, k⟩ | ⟨o, k⟩
 ·obtain ⟨N0, h0⟩ := ev_at k
  refine ⟨N0, fun N hN => ?_⟩
  have h1 := h0 N hN
  rw [hq] at h1
  rw [hv, if_pos (by omega), ab_p (by grind)]
 ·obtain ⟨N0, h0⟩ := ev_at k
  refine ⟨N0, fun N hN => ?_⟩
  have h1 := h0 N hN
  rw [hq] at h1
  rw [hv, if_neg (by omega), ab_n (by grind)]
  grind
 ·refine ⟨0, fun N _ => ?_⟩
  have h1 : vl a N = (T : Rat) / (K : Rat) := by rw [k, hq]
  rw [hv, if_pos (by omega), ab_p (by rw [h1]; grind)]
theorem near_fin {a v1 v2 : Qn} {P B T K : Int} (c1 : Cn v1) (c2 : Cn v2) (h : Nr a P B T K) (h1 : ∃ N0, ∀ N, N0 ≤ N → vl v1 N = ab (vl a N - (P : Rat) / (B : Rat))) (h2 : ∃ N0, ∀ N, N0 ≤ N → vl v2 N = ab (vl a N - (T : Rat) / (K : Rat))) :
 qcmp v1 v2 = -1 ∨ (qcmp v1 v2 = 0 ∧ (B < K ∨ (B = K ∧ P ≤ T))) := by
 obtain ⟨N1, h1⟩ := h1
 obtain ⟨N2, h2⟩ := h2
 rcases cmp_sem c1 c2 with ⟨o, k⟩ | ⟨o, k⟩ | ⟨o, k⟩
 ·exfalso
  rcases h with h | ⟨⟨N3, h⟩, _⟩
  ·refine EvP.not h (k.le ⟨max N1 N2, fun N hN => ?_⟩)
   rw [h1 N (by omega), h2 N (by omega)]
   grind
  ·obtain ⟨N4, h4⟩ := ev_at k
   have h5 := h4 (max (max N1 N2) (max N3 N4)) (by omega)
   rw [h1 _ (by omega), h2 _ (by omega), h _ (by omega)] at h5
   grind
 ·exact Or.inl o
 ·refine Or.inr ⟨o, ?_⟩
  rcases h with h | ⟨_, h⟩
  ·exfalso
   obtain ⟨N4, h4⟩ := ev_at h
   have h5 := h4 (max (max N1 N2) N4) (by omega)
   rw [← h1 _ (by omega), ← h2 _ (by omega), k] at h5
   grind
  ·exact h

end Go.Proofs.YtjahbjjekednfaaDoor

namespace Go.Proofs.YtjahbjjekednfaaDoor
open Go.RowKit

set_option maxHeartbeats 3200000 in
set_option maxRecDepth 100000 in
/-- surdkeep.gap. -/
theorem gap_any (s s1 : ByteArray) (K : Int) (r r2 : Rs) (w : World) (h : Rk s r) (he : r.e = 0) (h2 : Rk (s1 ++ ⟨#[47]⟩ ++ strOf (Go.Lib.itoa K)) r2) (he2 : r2.e = 0) (k0 : 1 ≤ K) (k1 : K ≤ 1000) (hs : s.size ≤ 60) (hs1 : s1.size ≤ 18) (hs2 : (strOf (Go.Lib.itoa K)).size ≤ 18) (ht : Tens w) :
 Calls Tryd.prog 26 #[.string s, .string s1, .int .i64 K] w (RetV w (.tuple #[.string (gp s (s1 ++ ⟨#[47]⟩ ++ strOf (Go.Lib.itoa K)) (qcmp r.v r2.v)), .bool true])) := by
 have HC := Hid.mk (fun W => scompare_any s _ r r2 W h h2)
 have e : cmpOut (qcmp r.v r2.v) r r2 = (qcmp r.v r2.v, 0) := by unfold cmpOut; rw [if_neg (by omega), if_neg (by omega)]
 rw [e] at HC
 have HI := itoa_at K (by omega) (by omega) w ht
 generalize qcmp r.v r2.v = c at *
 generalize strOf (Go.Lib.itoa K) = s2 at *
 clear e h h2 he he2
 by_cases hc : 0 ≤ c
 ·have HG : Hid (gp s (s1 ++ ⟨#[47]⟩ ++ s2) c = ⟨#[40]⟩ ++ s ++ ⟨#[41, 45]⟩ ++ (s1 ++ ⟨#[47]⟩ ++ s2)) := if_pos hc
  go_enter Tryd.func26, Tryd.ntmps26
  go_wp2_with fail
  refine HI.mono ?_
  rintro e w1 ⟨rfl, hk1⟩
  go_wp2_with fail
  refine (HC.out _).mono ?_
  rintro e w2 ⟨rfl, hk2⟩
  go_wp2_with fail
  refine bodyPost_ret (v := .tuple #[.string (⟨#[40]⟩ ++ s ++ ⟨#[41, 45]⟩ ++ (s1 ++ ⟨#[47]⟩ ++ s2)), .bool true]) (by simp [results, Tryd.results26, go_sem]) rfl ?_
  exact ⟨by rw [HG.out], hk1.trans' hk2⟩
 ·have HG : Hid (gp s (s1 ++ ⟨#[47]⟩ ++ s2) c = s1 ++ ⟨#[47]⟩ ++ s2 ++ ⟨#[45, 40]⟩ ++ s ++ ⟨#[41]⟩) := if_neg hc
  go_enter Tryd.func26, Tryd.ntmps26
  go_wp2_with fail
  refine HI.mono ?_
  rintro e w1 ⟨rfl, hk1⟩
  go_wp2_with fail
  refine (HC.out _).mono ?_
  rintro e w2 ⟨rfl, hk2⟩
  go_wp2_with fail
  refine bodyPost_ret (v := .tuple #[.string (s1 ++ ⟨#[47]⟩ ++ s2 ++ ⟨#[45, 40]⟩ ++ s ++ ⟨#[41]⟩), .bool true]) (by simp [results, Tryd.results26, go_sem]) rfl ?_
  exact ⟨by rw [HG.out], hk1.trans' hk2⟩

set_option maxHeartbeats 1600000 in
set_option maxRecDepth 100000 in
/-- surdkeep.common. -/
theorem common_any (p q : Int) (q0 : 1 ≤ q) (q1 : q ≤ 1000) : ∃ b : Bool, (Int.gcd p q = 1 → b = false) ∧ ∀ w, Calls Tryd.prog 25 #[.int .i64 p, .int .i64 q] w (RetV w (.bool b)) := by
 by_cases hc : ∃ j : Nat, 2 ≤ j ∧ (j : Int) ≤ q ∧ p.tmod j = 0 ∧ q.tmod j = 0
 ·refine ⟨true, fun hg => ?_, fun w => ?_⟩
  ·obtain ⟨j, j2, jq, jp, jr⟩ := hc
   have h1 : (j : Int) ∣ (Int.gcd p q : Int) := Int.dvd_coe_gcd (Int.dvd_of_tmod_eq_zero jp) (Int.dvd_of_tmod_eq_zero jr)
   rw [hg] at h1
   have := Int.le_of_dvd (by decide) h1
   omega
  ·have HC := Hid.mk hc
   clear hc
   go_enter Tryd.func25, Tryd.ntmps25
   go_wp2_with fail
   go_loopg [5] 1001 (fun g x wr => ∃ d : Nat, x = .int .i64 d ∧ 2 ≤ d ∧ d + g = 1003 ∧ Kp w wr ∧ Hid (∃ j : Nat, d ≤ j ∧ (j : Int) ≤ q ∧ p.tmod j = 0 ∧ q.tmod j = 0))
   case atStart => exact ⟨2, rfl, by omega, by omega, Below.refl _ _, HC.out⟩
   case round =>
    obtain ⟨d, rfl, hd2, hdg, hkr, HD⟩ := hrel
    have hdq : (d : Int) ≤ q := by
     obtain ⟨j, h1, h2, _⟩ := HD.out
     omega
    have hz : ((d : Int) == 0) = false := by simp; omega
    have hz' : (d : Int) ≠ 0 := by omega
    by_cases hp : p.tmod d = 0
    ·by_cases hq : q.tmod d = 0
     ·go_wp2_with fail
      go_ret
      exact ⟨rfl, hkr⟩
     ·have hqb : (q.tmod d == 0) = false := by simp [hq]
      have hqb2 : (q % (d : Int) == 0) = false := by rw [← Int.tmod_eq_emod_of_nonneg (by omega)]; exact hqb
      have HD' : Hid (∃ j : Nat, d + 1 ≤ j ∧ (j : Int) ≤ q ∧ p.tmod j = 0 ∧ q.tmod j = 0) := by
       obtain ⟨j, h1, h2, h3, h4⟩ := HD.out
       refine ⟨j, ?_, h2, h3, h4⟩
       rcases Nat.lt_or_ge d j with e | e
       ·exact e
       ·rw [show j = d by omega] at h4; exact absurd h4 hq
      clear hq
      go_wp2_with fail
      go_roundg (1002 - d)
      case rel => exact ⟨d + 1, by go_num, by omega, by omega, hkr, HD'⟩
      case measure => omega
    ·have hpb : (p.tmod d == 0) = false := by simp [hp]
     have HD' : Hid (∃ j : Nat, d + 1 ≤ j ∧ (j : Int) ≤ q ∧ p.tmod j = 0 ∧ q.tmod j = 0) := by
      obtain ⟨j, h1, h2, h3, h4⟩ := HD.out
      refine ⟨j, ?_, h2, h3, h4⟩
      rcases Nat.lt_or_ge d j with e | e
      ·exact e
      ·rw [show j = d by omega] at h3; exact absurd h3 hp
     clear hp
     go_wp2_with fail
     go_roundg (1002 - d)
     case rel => exact ⟨d + 1, by go_num, by omega, by omega, hkr, HD'⟩
     case measure => omega
 ·refine ⟨false, fun _ => rfl, fun w => ?_⟩
  have HC : Hid (∀ j : Nat, 2 ≤ j → (j : Int) ≤ q → ¬ (p.tmod j = 0 ∧ q.tmod j = 0)) := fun j h1 h2 h3 => hc ⟨j, h1, h2, h3.1, h3.2⟩
  clear hc
  go_enter Tryd.func25, Tryd.ntmps25
  go_wp2_with fail
  go_loopg [5] 1001 (fun g x wr => ∃ d : Nat, x = .int .i64 d ∧ 2 ≤ d ∧ d + g = 1003 ∧ Kp w wr)
  case atStart => exact ⟨2, rfl, by omega, by omega, Below.refl _ _⟩
  case round =>
   obtain ⟨d, rfl, hd2, hdg, hkr⟩ := hrel
   by_cases hdq : (d : Int) ≤ q
   ·have hz : ((d : Int) == 0) = false := by simp; omega
    have hz' : (d : Int) ≠ 0 := by omega
    by_cases hp : p.tmod d = 0
    ·have hqb : (q.tmod d == 0) = false := by
      have := HC.out d hd2 hdq
      simp only [beq_eq_false_iff_ne]
      exact fun k => this ⟨hp, k⟩
     have hqb2 : (q % (d : Int) == 0) = false := by rw [← Int.tmod_eq_emod_of_nonneg (by omega)]; exact hqb
     go_wp2_with fail
     go_roundg (1002 - d)
     case rel => exact ⟨d + 1, by go_num, by omega, by omega, hkr⟩
     case measure => omega
    ·have hpb : (p.tmod d == 0) = false := by simp [hp]
     clear hp
     go_wp2_with fail
     go_roundg (1002 - d)
     case rel => exact ⟨d + 1, by go_num, by omega, by omega, hkr⟩
     case measure => omega
   ·go_wp2_with fail
    go_ret
    exact ⟨rfl, hkr⟩

end Go.Proofs.YtjahbjjekednfaaDoor
