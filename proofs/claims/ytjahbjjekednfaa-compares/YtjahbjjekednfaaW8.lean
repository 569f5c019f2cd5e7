import Derived.Test.YtjahbjjekednfaaW7
namespace Go.Proofs.Ytjahbjjekednfaa
open Go.RowKit

theorem neg_len {E : TypeId} {B : Int} (hB : 1 < B) {w : World} {ao : Option Addr} {n c : Nat} {x z : Int} (h : Rp E B w (.slice ao n c) x) (hz : z < 0 ↔ x ≠ 0) : decide (0 < (n : Int)) = decide (z < 0) := by
 have h1 := (h.zero_len hB).1
 rw [decide_eq_decide, hz, ne_eq, ← h1]
 omega

theorem mul_neg_iff {x y : Int} (h : (x < 0 ∧ 0 ≤ y) ∨ (0 ≤ x ∧ y < 0)) : x * y < 0 ↔ (x.natAbs : Int) * y.natAbs ≠ 0 := by
 have h0 : x * y ≤ 0 := by
  rcases h with ⟨h1, h2⟩ | ⟨h1, h2⟩
  ·exact Int.mul_nonpos_of_nonpos_of_nonneg (by omega) h2
  ·exact Int.mul_nonpos_of_nonneg_of_nonpos h1 (by omega)
 have h1 : (x.natAbs : Int) * y.natAbs = ((x * y).natAbs : Int) := by rw [Int.natAbs_mul]; simp
 rw [h1]; omega
theorem mul_nonneg_of {x y : Int} (h : (x < 0 ∧ y < 0) ∨ (0 ≤ x ∧ 0 ≤ y)) : ¬ x * y < 0 := by
 have h0 : 0 ≤ x * y := by
  rcases h with ⟨h1, h2⟩ | ⟨h1, h2⟩
  ·exact Int.mul_nonneg_of_nonpos_of_nonpos (by omega) (by omega)
  ·exact Int.mul_nonneg h1 h2
 omega

set_option maxHeartbeats 3200000 in
theorem multiply_any (x y : Int) (u v : Value) (w : World) (hx : WN w u x) (hy : WN w v y) (fx : Fit x) (fy : Fit y) : Calls Try.prog 27 #[u, v] w (RetW w (x * y)) := by
 obtain ⟨ao, n, c, rfl, hs⟩ := hx
 obtain ⟨ao', n', c', rfl, hs'⟩ := hy
 have fx' := fit_abs fx
 have fy' := fit_abs fy
 have HA : Hid ((x.natAbs : Int) * y.natAbs = ((x * y).natAbs : Int)) := by unfold Hid; rw [Int.natAbs_mul]; simp
 clear fx fy
 by_cases h1 : x < 0
 ·by_cases h2 : y < 0
  ·rw [decide_eq_true h1, decide_eq_true h2]
   have HB1 := Hid.mk h1
   have HB2 := Hid.mk h2
   clear h1 h2
   go_enter Try.func27, Try.ntmps27
   go_wp2_with fail
   refine (multiplyLimbs_any _ _ _ _ _ (hs.keep (((kp_alloc w _).alloc' _).alloc' _)) (hs'.keep (((kp_alloc w _).alloc' _).alloc' _)) fx' fy').mono ?_
   rintro e w1 ⟨v1, rfl, hv1, hk1, hf1⟩
   obtain ⟨ao1, n1, c1, rfl⟩ := hv1.shape
   obtain ⟨hc, hf⟩ := bcell hk1
   have hz1 : w.heap.size + 2 < w1.heap.size := by have := hk1.size; simp at this; omega
   have hk := (((kp_alloc w (.cells #[.bool true, .slice ao n c] 39)).alloc' (.cells #[.bool true, .slice ao' n' c'] 39)).alloc' (.cells #[.bool false, .slice none 0 0] 39)).trans' hk1
   go_wp2_with fail
   refine bodyPost_ret (v := .agg #[.bool false, .slice ao1 n1 c1]) (by simp [results, Try.results27, go_sem, hc]) rfl ?_
   have h1 := HB1.out
   have h2 := HB2.out
   exact retW_end ((decide_eq_false (mul_nonneg_of (Or.inl ⟨by omega, by omega⟩))).symm) (by rw [← HA.out]; exact hv1) hk (by omega) (by rw [elemOf_keep hk1 (by simp)]; exact elemOf_at2 _ _ _ _ _)
  ·rw [decide_eq_true h1, decide_eq_false h2]
   have HB1 := Hid.mk h1
   have HB2 := Hid.mk h2
   clear h1 h2
   go_enter Try.func27, Try.ntmps27
   go_wp2_with fail
   refine (multiplyLimbs_any _ _ _ _ _ (hs.keep (((kp_alloc w _).alloc' _).alloc' _)) (hs'.keep (((kp_alloc w _).alloc' _).alloc' _)) fx' fy').mono ?_
   rintro e w1 ⟨v1, rfl, hv1, hk1, hf1⟩
   obtain ⟨ao1, n1, c1, rfl⟩ := hv1.shape
   obtain ⟨hc, hf⟩ := bcell hk1
   have hz1 : w.heap.size + 2 < w1.heap.size := by have := hk1.size; simp at this; omega
   have hk := (((kp_alloc w (.cells #[.bool true, .slice ao n c] 39)).alloc' (.cells #[.bool false, .slice ao' n' c'] 39)).alloc' (.cells #[.bool false, .slice none 0 0] 39)).trans' hk1
   go_wp2_with fail
   refine bodyPost_ret (v := .agg #[.bool (decide (0 < (n1 : Int))), .slice ao1 n1 c1]) (by simp [results, Try.results27, go_sem, hc]) rfl ?_
   have h1 := HB1.out
   have h2 := HB2.out
   exact retW_end (neg_len (by decide) hv1 (mul_neg_iff (Or.inl ⟨by omega, by omega⟩))) (by rw [← HA.out]; exact hv1) hk (by omega) (by rw [elemOf_keep hk1 (by simp)]; exact elemOf_at2 _ _ _ _ _)
 ·by_cases h2 : y < 0
  ·rw [decide_eq_false h1, decide_eq_true h2]
   have HB1 := Hid.mk h1
   have HB2 := Hid.mk h2
   clear h1 h2
   go_enter Try.func27, Try.ntmps27
   go_wp2_with fail
   refine (multiplyLimbs_any _ _ _ _ _ (hs.keep (((kp_alloc w _).alloc' _).alloc' _)) (hs'.keep (((kp_alloc w _).alloc' _).alloc' _)) fx' fy').mono ?_
   rintro e w1 ⟨v1, rfl, hv1, hk1, hf1⟩
   obtain ⟨ao1, n1, c1, rfl⟩ := hv1.shape
   obtain ⟨hc, hf⟩ := bcell hk1
   have hz1 : w.heap.size + 2 < w1.heap.size := by have := hk1.size; simp at this; omega
   have hk := (((kp_alloc w (.cells #[.bool false, .slice ao n c] 39)).alloc' (.cells #[.bool true, .slice ao' n' c'] 39)).alloc' (.cells #[.bool false, .slice none 0 0] 39)).trans' hk1
   go_wp2_with fail
   refine bodyPost_ret (v := .agg #[.bool (decide (0 < (n1 : Int))), .slice ao1 n1 c1]) (by simp [results, Try.results27, go_sem, hc]) rfl ?_
   have h1 := HB1.out
   have h2 := HB2.out
   exact retW_end (neg_len (by decide) hv1 (mul_neg_iff (Or.inr ⟨by omega, by omega⟩))) (by rw [← HA.out]; exact hv1) hk (by omega) (by rw [elemOf_keep hk1 (by simp)]; exact elemOf_at2 _ _ _ _ _)
  ·rw [decide_eq_false h1, decide_eq_false h2]
   have HB1 := Hid.mk h1
   have HB2 := Hid.mk h2
   clear h1 h2
   go_enter Try.func27, Try.ntmps27
   go_wp2_with fail
   refine (multiplyLimbs_any _ _ _ _ _ (hs.keep (((kp_alloc w _).alloc' _).alloc' _)) (hs'.keep (((kp_alloc w _).alloc' _).alloc' _)) fx' fy').mono ?_
   rintro e w1 ⟨v1, rfl, hv1, hk1, hf1⟩
   obtain ⟨ao1, n1, c1, rfl⟩ := hv1.shape
   obtain ⟨hc, hf⟩ := bcell hk1
   have hz1 : w.heap.size + 2 < w1.heap.size := by have := hk1.size; simp at this; omega
   have hk := (((kp_alloc w (.cells #[.bool false, .slice ao n c] 39)).alloc' (.cells #[.bool false, .slice ao' n' c'] 39)).alloc' (.cells #[.bool false, .slice none 0 0] 39)).trans' hk1
   go_wp2_with fail
   refine bodyPost_ret (v := .agg #[.bool false, .slice ao1 n1 c1]) (by simp [results, Try.results27, go_sem, hc]) rfl ?_
   have h1 := HB1.out
   have h2 := HB2.out
   exact retW_end ((decide_eq_false (mul_nonneg_of (Or.inr ⟨by omega, by omega⟩))).symm) (by rw [← HA.out]; exact hv1) hk (by omega) (by rw [elemOf_keep hk1 (by simp)]; exact elemOf_at2 _ _ _ _ _)

end Go.Proofs.Ytjahbjjekednfaa

namespace Go.Proofs.Ytjahbjjekednfaa
open Go.RowKit

/-- What a slice of integers reads as. -/
def readRow (w : World) : Value → List Int
 | .slice (some a) n _ => (List.range n).map (fun i => match w.cell? (a.add i) with | some (.int _ z) => z | _ => 0)
 | _ => []
theorem Row.read {w : World} {E : TypeId} {v : Value} {l : List Int} (h : Row w E v l) : readRow w v = l := by
 obtain ⟨ao, cap, b, off, rfl, h2, h3, h4, h5, h6⟩ := h
 rcases Nat.eq_zero_or_pos l.length with h0 | h0
 ·have hl : l = [] := List.eq_nil_of_length_eq_zero h0
  subst hl
  cases ao <;> rfl
 ·rw [(h5 h0).1]
  apply ext_at0 (by simp [readRow])
  intro i hi
  have hi' : i < l.length := by simpa [readRow] using hi
  rw [at0_eq hi]
  simp only [readRow, List.getElem_map, List.getElem_range, Addr.add_lit, h6 i hi']
def readNum (B : Int) (w : World) (v : Value) : Nat := (val B (readRow w v)).toNat
theorem Rp.read {E : TypeId} {B : Int} {w : World} {v : Value} {x : Int} (h : Rp E B w v x) : readNum B w v = x.toNat := by
 obtain ⟨l, h1, _, h3⟩ := h
 unfold readNum
 rw [h1.read, h3]

theorem pow9_small {n : Int} {k : Nat} (h0 : 0 ≤ n) (h : n ≤ 9223372036854775807) (hk : 3 ≤ k) : n / 1000000000 ^ k = 0 := by
 have h1 := pow_mono (B := 1000000000) (by decide) hk
 exact Int.ediv_eq_zero_of_lt h0 (by (have : (1000000000 : Int) ^ 3 = 1000000000000000000000000000 := by decide); omega)

set_option maxHeartbeats 1600000 in
set_option maxRecDepth 100000 in
theorem fromInt_any (n : Int) (w : World) (h0 : 0 ≤ n) (hn : n ≤ 9223372036854775807) : Calls Try.prog 28 #[.int .i64 n] w (RetW w n) := by
 obtain ⟨i0, hi, hz0, hz1, hz2⟩ := info_parts Try.infoI64
 go_enter Try.func28, Try.ntmps28
 go_wp2
 go_loopw [3, 4, 5] (fun s r _ wr => ∃ k : Nat, k ≤ 3 ∧ r = .int .i64 (n / 1000000000 ^ k) ∧ wr.ownsRow (w.heap.size + 1) 2 1 s k (vals (digTo 1000000000 n k)) ∧ Kp (w.alloc (.cells #[.bool false, .slice none 0 0] 39)) wr ∧ Hid (k = 0 ∨ 0 < n / 1000000000 ^ (k - 1)))
  (fun _ r _ _ => (intOf r).toNat)
 case atStart => exact ⟨0, by omega, by simp, by have := World.ownsRow_made (base := w.heap.size + 1) (e := 2) (size := 1) (w.alloc (.cells #[.bool false, .slice none 0 0] 39)) #[] 0 (by simp) (by decide) rfl; simp only [World.size_alloc] at this; exact this, kp_alloc _ _, Or.inl rfl⟩
 case round =>
  obtain ⟨k, hk, rfl, hown, hkr, hprev⟩ := hrel
  have hq0 : 0 ≤ n / 1000000000 ^ k := Int.ediv_nonneg h0 (Int.le_of_lt (pow_pos' (by decide) k))
  have hq1 : n / 1000000000 ^ k ≤ n := Int.ediv_le_self _ h0
  have HS := Hid.mk (digTo_succ 1000000000 n k)
  have HD := Hid.mk (div_pow_succ (B := 1000000000) (by decide) n k)
  have HP := Hid.mk (fun h => pow9_small (k := k) h0 hn h)
  have HE := Hid.mk (fun h => digTo_done (B := 1000000000) (n := n) (k := k) (by decide) h hprev.out)
  generalize hq : n / 1000000000 ^ k = q at *
  have HQ := Hid.mk hq
  clear hq
  by_cases h1 : q = 0
  ·have HE2 := Hid.mk (HE.out h1)
   subst h1
   have hrow := Row.of_owns hown
   obtain ⟨ao1, c1, hv, _, _⟩ := hrow.slice
   rw [digTo_length] at hv
   subst hv
   obtain ⟨hc, hf⟩ := bcell hkr
   have hz1 : w.heap.size < wr.heap.size := by have := hkr.size; simp at this; omega
   clear hown HE HP HD HS hprev
   have hn0 : ¬ n < 0 := by omega
   go_wp2_with fail
   refine bodyPost_ret (v := .agg #[.bool false, .slice ao1 k c1]) (by simp [results, Try.results28, go_sem, hc]) rfl ?_
   exact retW_end (by simp; omega) (by rw [show (n.natAbs : Int) = n by omega]; exact ⟨_, hrow, HE2.out⟩) ((kp_alloc _ _).trans' hkr) (Nat.le_refl _) (by rw [elemOf_keep hkr (by simp)]; exact elemOf_alloc_new _ _ _)
  ·have hb : (q != 0) = true := by simp [h1]
   have hk2 : k < 3 := by
    rcases Nat.lt_or_ge k 3 with h | h
    ·exact h
    ·exact absurd (HP.out h) h1
   have Hq := Hid.mk h1
   clear h1 HE HP
   go_wp2_with (at_builtin; (refine wpList_append_one wr rfl _ _ 37 rfl (w.alloc (.cells #[.bool false, .slice none 0 0] 39)) 2 i0 (.int .i64 0) 8 Try.underlying37 hi hz0 hz1 hz2 rfl _ k (digTo 1000000000 n k) (q % 1000000000) rfl (by rw [World.size_alloc]; exact hown) hkr rfl (by unfold maxLen; omega) (by omega) ?_))
   intro v' w1 hown' hbw'
   clear hown hkr
   go_wp2
   go_roundw
   case rel => exact ⟨k + 1, by omega, by rw [HD.out], by rw [HS.out]; exact hown', hbw', Or.inr (by rw [show k + 1 - 1 = k by omega, HQ.out]; have := Hq.out; omega)⟩
   case measure => simp [intOf]; have := Hq.out; omega

set_option maxHeartbeats 1600000 in
theorem divisor_any (x y : Int) (m : Nat) (u v : Value) (w : World) (hx : WN w u x) (hy : WN w v y) (hm : m ≤ 300000000) (fx : Ft m x) (fy : Ft m y) : Calls Try.prog 108 #[u, v] w (RetW w (Int.gcd x y : Int)) := by
 obtain ⟨ao, n, c, rfl, hs⟩ := hx
 obtain ⟨ao', n', c', rfl, hs'⟩ := hy
 have fx' := fit_abs (fx.fit (by omega))
 have fy' := fit_abs (fy.fit (by omega))
 go_enter Try.func108, Try.ntmps108
 go_wp2_with fail
 refine (copyLimbs_any _ _ _ (hs.keep (((kp_alloc w _).alloc' _).alloc' _)) fx').mono ?_
 rintro e w1 ⟨v1, rfl, hv1, hk1, hf1⟩
 obtain ⟨ao1, n1, c1, rfl⟩ := hv1.shape
 obtain ⟨hc, hf⟩ := bcell hk1
 have hz1 : w.heap.size + 2 < w1.heap.size := by have := hk1.size; simp at this; omega
 have hk := (((kp_alloc w (.cells #[.bool (decide (x < 0)), .slice ao n c] 39)).alloc' (.cells #[.bool (decide (y < 0)), .slice ao' n' c'] 39)).alloc' (.cells #[.bool false, .slice none 0 0] 39)).trans' hk1
 go_wp2_with fail
 refine (copyLimbs_any _ _ _ (hs'.keep hk) fy').mono ?_
 rintro e w2 ⟨v2, rfl, hv2, hk2, hf2⟩
 obtain ⟨ao2, n2, c2, rfl⟩ := hv2.shape
 have HK := Hid.mk (hk1.trans' hk2)
 have HKW := Hid.mk (hk.trans' hk2)
 have hv1' := hv1.keep hk2
 clear hc hf hk hk1 hv1
 go_wp2_with fail
 go_loopw [5, 6, 7, 8] (fun g l _ _ wr => ∃ a b : Nat, Rp 2 1000000000 wr g a ∧ Rp 2 1000000000 wr l b ∧ Hid (Nat.gcd a b = Int.gcd x y) ∧ Hid (a < 10 ^ m ∧ b < 10 ^ m) ∧ Kp w2 wr)
  (fun _ l _ _ wr => readNum 1000000000 wr l)
 case atStart => exact ⟨x.natAbs, y.natAbs, hv1', hv2, rfl, ⟨fx, fy⟩, Below.refl _ _⟩
 case round =>
  obtain ⟨a, b, hg, hl, hgc, hsz, hkr⟩ := hrel
  obtain ⟨aog, ng, cg, rfl⟩ := hg.shape
  obtain ⟨aol, nl, cl, rfl⟩ := hl.shape
  obtain ⟨hl1, hl2⟩ := hl.zero_len (by decide)
  clear hv1' hv2
  by_cases hb : b = 0
  ·have hnl : nl = 0 := by omega
   subst hnl
   subst hb
   have HG : Hid (a = Int.gcd x y) := by have := hgc.out; rw [Nat.gcd_zero_right] at this; exact this
   have HKr := HK.out.trans' hkr
   obtain ⟨hc, hf⟩ := bcell HKr
   have hz2 : w.heap.size + 2 < wr.heap.size := by have := HKr.size; simp at this; omega
   clear hl1 hl2 hgc hsz hl
   go_wp2_with fail
   refine bodyPost_ret (v := .agg #[.bool false, .slice aog ng cg]) (by simp [results, Try.results108, go_sem, hc]) rfl ?_
   exact retW_end (by simp) (by rw [← HG.out]; simpa using hg) (HKW.out.trans' hkr) (by omega) (by rw [elemOf_keep HKr (by simp)]; exact elemOf_at2 _ _ _ _ _)
  ·have hnl : 0 < nl := by omega
   have HB := Hid.mk hb
   clear hl1 hl2 hb
   go_wp2_with fail
   refine (divideLimbs_any a b m _ _ _ hg hl hm (by unfold Ft; simpa using hsz.out.1) (by unfold Ft; simpa using hsz.out.2)).mono ?_
   rintro e w3 ⟨v3, v4, rfl, hv3, hv4, hk3⟩
   have HM : Hid (readNum 1000000000 w3 v4 < readNum 1000000000 wr (.slice aol nl cl)) := by
    unfold Hid
    rw [hv4.read, hl.read]
    have := Nat.mod_lt a (Nat.pos_of_ne_zero HB.out)
    omega
   have HG : Hid (Nat.gcd b (a % b) = Int.gcd x y) := by
    unfold Hid
    rw [← hgc.out, Nat.gcd_comm a b, Nat.gcd_rec b a, Nat.gcd_comm]
   have HS : Hid (b < 10 ^ m ∧ a % b < 10 ^ m) := ⟨hsz.out.2, Nat.lt_of_le_of_lt (Nat.mod_le _ _) hsz.out.1⟩
   have hl3 := hl.keep hk3
   have hv4' : Rp 2 1000000000 w3 v4 ((a % b : Nat) : Int) := by simpa using hv4
   clear hg hl hgc hsz hv4 hv3
   go_wp2_with fail
   go_roundw
   case rel => exact ⟨b, a % b, hl3, hv4', HG, HS, hkr.trans' hk3⟩
   case measure => exact HM.out

end Go.Proofs.Ytjahbjjekednfaa
