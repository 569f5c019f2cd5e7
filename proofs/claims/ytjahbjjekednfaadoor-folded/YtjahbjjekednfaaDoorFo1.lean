import Derived.Test.YtjahbjjekednfaaDoorK5
import Derived.Test.YtjahbjjekednfaaDoorN2
import Derived.Test.YtjahbjjekednfaaDoorJ7
import Derived.Test.YtjahbjjekednfaaDoorS1
import Derived.Test.YtjahbjjekednfaaDoorAl
namespace Go.Proofs.YtjahbjjekednfaaDoor
open Go.RowKit

set_option maxHeartbeats 1600000 in
theorem positive_any (s : ByteArray) (w : World) (h1 : 1 ≤ s.size) (h2 : 49 ≤ byteAt s 0) (h3 : byteAt s 0 ≤ 57) : Calls Tryd.prog 21 #[.string s] w (RetV w (.bool true)) := by
 have hb0 := byteAt_eq s 0 h1
 have hl : (0 : Int) < (s.size : Int) := by omega
 have hg1 : decide (49 ≤ byteAt s 0) = true := decide_eq_true h2
 have hg2 : decide (byteAt s 0 ≤ 57) = true := decide_eq_true h3
 go_enter Tryd.func21, Tryd.ntmps21
 go_wp2_with fail
 go_ret
 exact ⟨rfl, Below.refl _ _⟩
/-- The text of a whole number above 0. -/
theorem text_pos {z : Int} (h : 1 ≤ z) : 1 ≤ (strOf (Go.Lib.itoa z)).size ∧ 49 ≤ byteAt (strOf (Go.Lib.itoa z)) 0 ∧ byteAt (strOf (Go.Lib.itoa z)) 0 ≤ 57 := by
 have hT : NumT (strOf (Go.Lib.itoa z)) z := rfl
 generalize Go.Lib.itoa z = t at *
 rcases numT_of hT with ⟨_, h2, h3⟩ | ⟨h2, _⟩
 ·rcases h2 with rfl | ⟨h4, h5, h6⟩
  ·have : decN (bi [48]) = 0 := by decide
   omega
  ·cases t with
   | nil => exact absurd rfl h4
   | cons c t =>
    have hc : isDig (c.toNat : Int) = true := h5 _ (by simp [bi])
    have hb : byteAt (strOf (c :: t)) 0 = (c.toNat : Int) := by rw [byteAt_bl, bl_strOf]; rfl
    have hn : c.toNat ≠ 48 := fun e => h6 (by show some c = some 48; rw [show c = 48 from UInt8.toNat_inj.1 e])
    have hbd := isDig_bd hc
    rw [hb, strOf_size, List.length_cons]
    omega
 ·omega
theorem len_pow {z : Int} (h : 0 < z) : z < ((10 ^ (strOf (Go.Lib.itoa z)).size : Nat) : Int) := by
 have hT : NumT (strOf (Go.Lib.itoa z)) z := rfl
 rw [strOf_size]
 generalize Go.Lib.itoa z = t at *
 rcases numT_of hT with ⟨_, h2, h3⟩ | ⟨h2, _⟩
 ·rcases h2 with rfl | ⟨_, h5, _⟩
  ·have : decN (bi [48]) = 0 := by decide
   omega
  ·have h1 := chk_bd h5 0 (bi t).length
   have h2 : chk (bi t) 0 (bi t).length = decN (bi t) := by
    unfold chk
    rw [List.take_length, List.drop_zero]
   rw [h2, ← h3, Nat.sub_zero, show (bi t).length = t.length by simp [bi]] at h1
   have h4 := h1.2
   push_cast
   exact h4
 ·omega
/-- The slice v holds the first K texts of f. -/
def RowT (w : World) (v : Value) (f : Nat → ByteArray) (K : Nat) : Prop := ∃ (ao : Option Addr) (cap b : Nat), v = .slice ao K cap ∧ K ≤ cap ∧ cap ≤ 9223372036854775807 ∧ (0 < K → ao = some ⟨b, 0, none⟩ ∧ b < w.heap.size) ∧
 (∀ i, i < K → w.cell? ⟨b, i, none⟩ = some (.string (f i)))
/-- The texts of the terms. -/
def tx (a : Qn) (i : Nat) : ByteArray := strOf (Go.Lib.itoa (tm (p0 a) (q0 a) (n0 a) i))
theorem RowT.of_owns {w : World} {base : Nat} {e : TypeId} {v : Value} {a : Qn} {K : Nat} (h : w.ownsRow base e 1 v (tms (p0 a) (q0 a) (n0 a) K).length (strsV (tms (p0 a) (q0 a) (n0 a) K))) : RowT w v (tx a) K := by
 have hv : strsV (tms (p0 a) (q0 a) (n0 a) K) = ((tms (p0 a) (q0 a) (n0 a) K).map (fun t => strOf (Go.Lib.itoa t))).map Value.string := by
  unfold strsV
  rw [List.map_map]
  rfl
 rw [hv] at h
 obtain ⟨ao, cap, b, h1, h2, h3, h4, h5⟩ := RowS.of_owns h
 rw [List.length_map, tms_len] at h1 h2 h4 h5
 refine ⟨ao, cap, b, h1, h2, h3, h4, fun i hi => (h5 i hi).trans ?_⟩
 unfold tx tms
 simp [hi]
theorem terms_row {s : ByteArray} {r : Rs} {N : Nat} {K : Nat} (hr : Rk s r) (he : r.e = 0) (hN : N ≤ 100) (hK : Exq (p0 r.v) (q0 r.v) (n0 r.v) N K) (W : World) (hT : Tens W) : Calls Tryd.prog 20 #[.string s, .int .i64 (N : Int)] W (fun e w' => ∃ v, e = .returned (.tuple #[v, .bool (decide ((rs r.v K).2 = 0)), .int .i64 0]) ∧ RowT w' v (tx r.v) K ∧ Kp W w') :=
 (sterms_any s N r _ _ _ W hr (by omega) (by omega) (Or.inr (Or.inr ⟨he, by omega, by omega, K, by rw [Int.toNat_natCast]; exact hK, rfl, rfl, rfl⟩)) hT).mono fun e w' ⟨v, h1, h2, h3⟩ => ⟨v, h1, RowT.of_owns h2, h3⟩

set_option maxHeartbeats 3200000 in
set_option maxRecDepth 100000 in
theorem fo_err (s : ByteArray) (k : Int) (n : Nat) (E : Int) (sp sq sr : ByteArray) (D : Int) (all early : Bool) (tx : Nat → ByteArray) (K M : Nat) (w : World) (n1 : n < 100) (hE : (E != 0) = true) (ha : all = false) (hs : K = 0) (hmm : M = 0)
 (HA : ∀ (w : World), Tens w → Calls Tryd.prog 12 #[] w (RetV w (.bool true))) (ht : Tens w)
 (HV : Hid (∀ W, Tens W → Calls Tryd.prog 9 #[.string s] W (RetV W (.tuple #[.agg #[.string sp, .string sq, .string sr, .int .i64 D], .int .i64 E])))) (HPk : Hid (∀ W, Calls Tryd.prog 19 #[.int .i64 k, .int .i64 100] W (RetV W (.int .i64 (n : Int)))))
 (HT1 : Hid (∀ W, Tens W → Calls Tryd.prog 20 #[.string s, .int .i64 ((n : Int) + 1)] W (fun e w' => ∃ v, e = .returned (.tuple #[v, .bool all, .int .i64 E]) ∧ RowT w' v tx K ∧ Kp W w')))
 (HT2 : Hid (∀ W, Tens W → Calls Tryd.prog 20 #[.string s, .int .i64 (n : Int)] W (fun e w' => ∃ v, e = .returned (.tuple #[v, .bool early, .int .i64 E]) ∧ RowT w' v tx M ∧ Kp W w'))) :
 Calls Tryd.prog 6 #[.string s, .int .i64 k] w (RetV w (.bool true)) := by
 subst ha hs hmm
 have hEE : (E != E) = false := by simp
 go_enter Tryd.func6, Tryd.ntmps6
 go_wp2_with fail
 refine (HA w ht).mono ?_
 rintro e w1 ⟨rfl, hk1⟩
 go_wp2_with fail
 refine (HV.out w1 (ht.keep hk1)).mono ?_
 rintro e w2 ⟨rfl, hk2⟩
 have B1 := Blk.new w2 #[.string sp, .string sq, .string sr, .int .i64 D] 23
 have hk := (hk1.trans' hk2).alloc' (.cells #[.string sp, .string sq, .string sr, .int .i64 D] 23)
 clear hk1 hk2
 go_wp2_with fail
 refine (HPk.out _).mono ?_
 rintro e w3 ⟨rfl, hk3⟩
 replace B1 := B1.keep hk3
 replace hk := hk.trans' hk3
 clear hk3
 go_wp2_with fail
 refine (HT1.out _ (ht.keep hk)).mono ?_
 rintro e w4 ⟨v1, rfl, hl, hk4⟩
 replace B1 := B1.keep hk4
 replace hk := hk.trans' hk4
 clear hk4
 obtain ⟨ao1, cap1, g1, rfl, hc1, hd1, hg1, hl⟩ := hl
 replace hg1 := Hid.mk hg1
 replace hl := Hid.mk hl
 go_wp2_with fail
 refine (HT2.out _ (ht.keep hk)).mono ?_
 rintro e w5 ⟨v2, rfl, hm, hk5⟩
 replace B1 := B1.keep hk5
 replace hk := hk.trans' hk5
 obtain ⟨ao2, cap2, g2, rfl, hc2, hd2, hg2, hm⟩ := hm
 replace hg2 := Hid.mk hg2
 replace hm := Hid.mk hm
 go_wp2_with fail
 go_ret
 exact ⟨rfl, hk⟩

end Go.Proofs.YtjahbjjekednfaaDoor
