import Derived.Test.YtjahbjjekednfabDoorLa
import Derived.Test.YtjahbjjekednfabDoorL0
import Derived.Test.YtjahbjjekednfabDoorW1
import Derived.Test.YtjahbjjekednfabDoorSoft
import Derived.Test.YtjahbjjekednfabDoorSt
import Derived.Test.YtjahbjjekednfabDoorF1
import Derived.Deep.CutRange
import Derived.Deep.LoopGhost
namespace Go.Proofs.YtjahbjjekednfabDoor
open Go.RowKit

set_option maxHeartbeats 800000 in
theorem allDigits_any (s : ByteArray) (w : World) (hs : s.size ≤ 1000) : Calls Tryd.prog 79 #[.string s] w (RetV w (.bool ((bl s).all isDig))) := by
 go_enter Tryd.func79, Tryd.ntmps79
 go_wp2_with fail
 go_loopw [3] (fun i wr => ∃ j : Nat, j ≤ s.size ∧ i = .int .i64 j ∧ Kp w wr ∧ Hid (∀ k, k < j → isDig (at0 (bl s) k) = true))
  (fun i _ => s.size - (intOf i).toNat)
 case atStart => exact ⟨0, by omega, rfl, Below.refl _ _, fun k hk => absurd hk (by omega)⟩
 case round =>
  obtain ⟨j, hj, rfl, hkr, HP⟩ := hrel
  have hlen := bl_len s
  by_cases h1 : j < s.size
  ·have hb := byteAt_eq s j h1
   have hbb := byteAt_bl s j
   have hj0 : (0 : Int) ≤ (j : Int) := by omega
   have hj1 : (j : Int) < (s.size : Int) := by omega
   by_cases hd : isDig (at0 (bl s) j) = true
   ·have hbd := isDig_bd hd
    rw [← hbb] at hbd
    have HP' : Hid (∀ k, k < j + 1 → isDig (at0 (bl s) k) = true) := fun k hk => by
     rcases Nat.lt_or_ge k j with h | h
     ·exact HP.out k h
     ·rw [show k = j by omega]; exact hd
    clear hd hbb HP hlen
    generalize byteAt s j = C at *
    go_wp2_with fail
    go_roundw
    case rel => exact ⟨j + 1, by omega, by go_num, hkr, HP'⟩
    case measure => simp [intOf]; omega
   ·have HF : Hid ((bl s).all isDig = false) := by
     unfold Hid
     rw [List.all_eq_false]
     exact ⟨at0 (bl s) j, by rw [at0_eq (by omega)]; exact List.getElem_mem _, hd⟩
    rw [← hbb] at hd
    unfold isDig at hd
    rw [HF.out]
    clear hbb HP hlen HF
    generalize byteAt s j = C at *
    by_cases h2 : C < 48
    ·clear hd
     go_wp2_with fail
     go_ret
     exact ⟨rfl, hkr⟩
    ·have h3 : 57 < C := by simp at hd; omega
     clear hd
     go_wp2_with fail
     go_ret
     exact ⟨rfl, hkr⟩
  ·have HT : Hid ((bl s).all isDig = true) := by
    unfold Hid
    rw [List.all_eq_true]
    intro c hc
    obtain ⟨k, hk, rfl⟩ := List.getElem_of_mem hc
    rw [← at0_eq hk]
    exact HP.out k (by omega)
   clear HP hlen
   go_wp2_with fail
   go_ret
   exact ⟨by rw [HT.out]; rfl, hkr⟩

end Go.Proofs.YtjahbjjekednfabDoor

namespace Go.Proofs.YtjahbjjekednfabDoor
open Go.RowKit

theorem pow9 (k : Nat) : (10 : Int) ^ (9 * k) = 1000000000 ^ k := by
 rw [Int.pow_mul]; rfl

set_option maxHeartbeats 3200000 in
set_option maxRecDepth 100000 in
/-- whole.limbsOf: the number that digits tell. -/
theorem limbsOf_any (s : ByteArray) (w : World) (hd : Digs (bl s)) (hs : s.size ≤ 1000) : Calls Tryd.prog 80 #[.string s] w (RetRp 2 1000000000 w (decN (bl s))) := by
 obtain ⟨i0, hi, hz0, hz1, hz2⟩ := info_parts Tryd.infoI64
 have HL := Hid.mk (bl_len s)
 have HDG := Hid.mk hd
 clear hd
 go_enter Tryd.func80, Tryd.ntmps80
 go_wp2_with fail
 go_loopw [3, 4] (fun v e wr => ∃ (k E : Nat) (l : List Int) (x : Int), k ≤ s.size ∧ E ≤ s.size ∧ e = .int .i64 x ∧ -9 < x ∧ x ≤ s.size ∧ wr.ownsRow w.heap.size 2 1 v k (vals l) ∧ Kp w wr ∧ Hid (x = (s.size : Int) - 9 * k ∧ E = s.size - 9 * k ∧ l.length = k ∧ Dig 1000000000 l ∧ val 1000000000 l = decN ((bl s).drop E)))
  (fun _ e _ => (intOf e).toNat)
 case atStart => exact ⟨0, s.size, [], _, by omega, by omega, rfl, by omega, by omega, by have := World.ownsRow_made (base := w.heap.size) (e := 2) (size := 1) w #[] 0 (by simp) (by decide) rfl; exact this, kp_alloc _ _, by simp, by omega, rfl, Dig.nil (by decide), by rw [← HL.out, List.drop_length]; rfl⟩
 case round =>
  obtain ⟨k, E, l, x, hk, hEs, rfl, hx0, hx1, hown, hkr, HV⟩ := hrel
  by_cases h1 : 0 < x
  ·have hEx : x = E := by have := HV.out; omega
   subst hEx
   have hE0 : 0 < E := by omega
   clear hx0 h1
   go_wp2_with fail
   go_loopw [5, 6] (fun m i wq => ∃ (j : Nat) (y M : Int), j ≤ 9 ∧ i = .int .i64 y ∧ m = .int .i64 M ∧ -9 ≤ y ∧ y ≤ E ∧ wq = wr ∧ Hid (y = (E : Int) + j - 9 ∧ M = chk (bl s) (E - 9) (E + j - 9)))
    (fun _ i _ => ((E : Int) - intOf i).toNat)
   case atStart => exact ⟨0, _, _, by omega, rfl, rfl, by omega, by omega, rfl, by simp, (chk_nil _ _).symm⟩
   case round =>
    obtain ⟨j, y, M, hj, rfl, rfl, hy0, hy1, rfl, HM⟩ := hrel
    have hM := chk_bd HDG.out (E - 9) (E + j - 9)
    rw [← HM.out.2] at hM
    have hM0 := hM.1
    have hM1 : M < 1000000000 := Int.lt_of_lt_of_le hM.2 (show (10 : Int) ^ (E + j - 9 - (E - 9)) ≤ 10 ^ 9 by exact_mod_cast Nat.pow_le_pow_right (show 0 < 10 by decide) (by omega))
    have hM2 : y < E → M < 100000000 := fun h => Int.lt_of_lt_of_le hM.2 (show (10 : Int) ^ (E + j - 9 - (E - 9)) ≤ 10 ^ 8 by exact_mod_cast Nat.pow_le_pow_right (show 0 < 10 by decide) (by have := HM.out.1; omega))
    clear hM
    by_cases h2 : y < E
    ·replace hM2 := hM2 h2
     by_cases h3 : 0 ≤ y
     ·obtain ⟨p, rfl⟩ : ∃ p : Nat, y = p := ⟨y.toNat, by omega⟩
      have hps : p < s.size := by omega
      have hb := byteAt_eq s p hps
      have hbd : 48 ≤ byteAt s p ∧ byteAt s p ≤ 57 := by
       rw [byteAt_bl]; exact isDig_bd (digs_at HDG.out (by rw [HL.out]; exact hps))
      have hpi : (p : Int) < (s.size : Int) := by omega
      have HN : Hid (((p + 1 : Int)) = (E : Int) + (j + 1 : Nat) - 9 ∧ M * 10 + (byteAt s p - 48) = chk (bl s) (E - 9) (E + (j + 1) - 9)) := by
       have := HM.out.1
       refine ⟨by omega, ?_⟩
       rw [HM.out.2, show E + (j + 1) - 9 = (E + j - 9) + 1 by omega, chk_step (by omega) (by rw [HL.out]; omega), byteAt_bl, show E + j - 9 = p by omega]
      generalize byteAt s p = C at *
      go_wp2_with fail
      go_roundw
      case rel => exact ⟨j + 1, _, _, by have := HM.out.1; omega, rfl, rfl, by omega, by omega, trivial, HN⟩
      case measure => simp [intOf]; omega
     ·have HN : Hid (y + 1 = (E : Int) + (j + 1 : Nat) - 9 ∧ M = chk (bl s) (E - 9) (E + (j + 1) - 9)) := by
       have := HM.out.1
       refine ⟨by omega, ?_⟩
       rw [HM.out.2, show E + (j + 1) - 9 = E + j - 9 by omega]
      go_wp2_with fail
      go_roundw
      case rel => exact ⟨j + 1, _, _, by have := HM.out.1; omega, rfl, rfl, by omega, by omega, trivial, HN⟩
      case measure => simp [intOf]; omega
    ·have hj9 : j = 9 := by have := HM.out.1; omega
     subst hj9
     have hye : y = E := by omega
     subst hye
     have HN : Hid ((E : Int) - 9 = (s.size : Int) - 9 * (k + 1 : Nat) ∧ E - 9 = s.size - 9 * (k + 1) ∧ (l ++ [M]).length = k + 1 ∧ Dig 1000000000 (l ++ [M]) ∧ val 1000000000 (l ++ [M]) = decN ((bl s).drop (E - 9))) := by
      obtain ⟨v1, v2, v3, v4, v5⟩ := HV.out
      refine ⟨by omega, by omega, by simp [v3], v4.snoc ⟨hM0, hM1⟩, ?_⟩
      rw [val_snoc, v5, v3, chk_split (a := E - 9) (b := E) (by omega) (by rw [HL.out]; omega), HM.out.2, HL.out, show E + 9 - 9 = E by omega, ← pow9, show s.size - E = 9 * k by omega, Int.mul_comm, Int.add_comm]
     have hcap : k < 1000 := by have := HV.out; omega
     have hks : k + 1 ≤ s.size := by have := HV.out; omega
     go_wp2_with (at_builtin; (refine wpList_append_one _ rfl _ _ 58 rfl w 2 i0 (.int .i64 0) 8 Tryd.underlying58 hi hz0 hz1 hz2 rfl u3 k l M rfl hown hkr rfl (by unfold maxLen; omega) (by omega) ?_))
     intro v' w1 hown' hbw'
     clear hown hkr
     go_wp2
     go_roundw
     case rel => exact ⟨k + 1, E - 9, l ++ [M], _, by omega, by omega, rfl, by omega, by omega, hown', hbw', HN⟩
     case measure => simp [intOf]; omega
  ·have HE : Hid (Dig 1000000000 l ∧ val 1000000000 l = decN (bl s)) := by
    obtain ⟨v1, v2, v3, v4, v5⟩ := HV.out
    rw [show E = 0 by omega, List.drop_zero] at v5
    exact ⟨v4, v5⟩
   clear HV
   have hr := Row.of_owns hown
   have hfr := fresh_of hown
   obtain ⟨ao, cap, hv', hc1, hc2⟩ := hr.slice
   clear hown
   subst hv'
   go_wp2_with (go_at_call 103; refine (significant_any _ _ _ (by exact hr)).mono ?_; rintro e w2 ⟨n, rfl, rfl, hsig⟩; have hn1 := hsig.1)
   go_ret
   exact subtract_end rfl hr HE.out.1 HE.out.2 hsig hkr hfr

end Go.Proofs.YtjahbjjekednfabDoor

namespace Go.Proofs.YtjahbjjekednfabDoor
open Go.RowKit Go.Lib

/-- A call that returns a number and true. -/
def RetWB (w : World) (z : Int) (e : Ending) (w' : World) : Prop := ∃ v, e = .returned (.tuple #[v, .bool true]) ∧ WN w' v z ∧ Kp w w'

theorem str_sub (c : UInt8) (t : List UInt8) : (strOf (c :: t)).extract 1 (t.length + 1) = strOf t := by
 apply ByteArray.ext
 apply Array.toList_inj.1
 rw [Go.Lib.extract_data]
 simp [strOf]
theorem str_ne {a b : List UInt8} (h : a ≠ b) : ((strOf a).toList == b) = false := by
 rw [ByteArray.toList_eq, beq_eq_false_iff_ne]
 exact h
theorem str_eq (a : List UInt8) : ((strOf a).toList == a) = true := by
 rw [ByteArray.toList_eq, beq_iff_eq]
 rfl
theorem alld {t : List UInt8} (h : ¬ Digs (bi t)) : (bl (strOf t)).all isDig = false := by
 rw [bl_strOf]
 refine Bool.eq_false_iff.2 fun e => h ?_
 rw [List.all_eq_true] at e
 exact e
theorem alld' {t : List UInt8} (h : Digs (bi t)) : (bl (strOf t)).all isDig = true := by
 rw [bl_strOf, List.all_eq_true]
 exact h
theorem dig45 {t : List UInt8} (h : Digs (bi (45 :: t))) : False := absurd (h 45 (by simp [bi])) (by decide)
theorem c_ne {c : UInt8} {k : Nat} (h : c ≠ UInt8.ofNat k) (hk : k < 256) : ((c.toNat : Int) == (k : Int)) = false := by
 rw [beq_eq_false_iff_ne]
 intro e
 apply h
 apply UInt8.toNat_inj.1
 simp
 omega
theorem retWB_end {w w1 : World} {z : Int} {c : Nat} {ao : Option Addr} {n k : Nat} {b : Bool} {u0 u1 : Value} (hb : b = decide (z < 0)) (hr : Rp 2 1000000000 w1 (.slice ao n k) (z.natAbs : Int)) (hk : Kp w w1)
  (hc : w.heap.size ≤ c) (he : elemOf w1 c = some 60) : RetWB w z (.returned (.tuple #[.agg #[.bool b, .slice ao n k], .bool true])) ((w1.setCell ⟨c, 0, none⟩ u0).setCell ⟨c, 1, none⟩ u1) := by
 obtain ⟨v, e, h1, h2⟩ := retW_end (u0 := u0) (u1 := u1) hb hr hk hc he
 cases e
 exact ⟨_, rfl, h1, h2⟩

set_option maxHeartbeats 1600000 in
set_option maxRecDepth 100000 in
theorem ft_nil (s : ByteArray) (hsz : s.size = 0) (w : World) : Calls Tryd.prog 47 #[.string s] w (RetV w (.tuple #[.agg #[.bool false, .slice none 0 0], .bool false])) := by
 have B0 : Blk (w.alloc (.cells #[.bool false, .slice none 0 0] 60)) w.heap.size #[.bool false, .slice none 0 0] 60 := Blk.new w _ _
 have bc := B0.cell
 have bf := B0.frozen
 have bl0 := B0.lt
 go_enter Tryd.func47, Tryd.ntmps47
 go_wp2_with fail
 refine bodyPost_ret (v := .tuple #[.agg #[.bool false, .slice none 0 0], .bool false]) (by simp [results, Tryd.results47, go_sem, bc]) rfl ?_
 exact ⟨rfl, kp_alloc w _⟩

set_option maxHeartbeats 1600000 in
set_option maxRecDepth 100000 in
theorem ft_minus (s s2 : ByteArray) (hsz : s.size = 1) (hc : ∀ h, s[0]'h = 45) (_hsub : s.extract 1 1 = s2) (_hs2 : s2.size = 0) (w : World) : Calls Tryd.prog 47 #[.string s] w (RetV w (.tuple #[.agg #[.bool false, .slice none 0 0], .bool false])) := by
 have B0 : Blk (w.alloc (.cells #[.bool false, .slice none 0 0] 60)) w.heap.size #[.bool false, .slice none 0 0] 60 := Blk.new w _ _
 have bc := B0.cell
 have bf := B0.frozen
 have bl0 := B0.lt
 go_enter Tryd.func47, Tryd.ntmps47
 go_wp2_with fail
 refine bodyPost_ret (v := .tuple #[.agg #[.bool false, .slice none 0 0], .bool false]) (by simp [results, Tryd.results47, go_sem, bc]) rfl ?_
 exact ⟨rfl, kp_alloc w _⟩

set_option maxHeartbeats 1600000 in
set_option maxRecDepth 100000 in
theorem ft_mbad (s s2 : ByteArray) (n m : Nat) (hn : n ≤ 1000) (hsz : s.size = n + 1) (hc : ∀ h, s[0]'h = 45) (hsub : s.extract 1 (n + 1) = s2) (hs2 : s2.size = m + 1) (hm : m ≤ 900) (hd : (bl s2).all isDig = false) (w : World) : Calls Tryd.prog 47 #[.string s] w (RetV w (.tuple #[.agg #[.bool false, .slice none 0 0], .bool false])) := by
 have B0 : Blk (w.alloc (.cells #[.bool false, .slice none 0 0] 60)) w.heap.size #[.bool false, .slice none 0 0] 60 := Blk.new w _ _
 have bc := B0.cell
 have bf := B0.frozen
 have bl0 := B0.lt
 have hl1 : ((m : Int) + 1 == 0) = false := by simp; omega
 have hAll := allDigits_any s2 (w.alloc (.cells #[.bool false, .slice none 0 0] 60)) (by omega)
 rw [hd] at hAll
 clear hd
 go_enter Tryd.func47, Tryd.ntmps47
 go_wp2_with fail
 refine hAll.mono ?_
 rintro e w1 ⟨rfl, hk1⟩
 have B1 := B0.keep hk1
 have bc1 := B1.cell
 have bf1 := B1.frozen
 have bl1 := B1.lt
 clear bc bf bl0
 go_wp2_with fail
 refine bodyPost_ret (v := .tuple #[.agg #[.bool false, .slice none 0 0], .bool false]) (by simp [results, Tryd.results47, go_sem, bc1]) rfl ?_
 exact ⟨rfl, kp2 (A := w.heap.size) _ _ ((kp_alloc w _).trans' hk1) (Nat.le_refl _)⟩

set_option maxHeartbeats 1600000 in
set_option maxRecDepth 100000 in
theorem ft_mzero (s s2 : ByteArray) (n m : Nat) (hn : n ≤ 1000) (hsz : s.size = n + 1) (hc : ∀ h, s[0]'h = 45) (hsub : s.extract 1 (n + 1) = s2) (hs2 : s2.size = m + 1) (hm : m ≤ 900) (hd : (bl s2).all isDig = true) (hc2 : ∀ h, s2[0]'h = 48) (hne : (s.toList == [48]) = false) (w : World) : Calls Tryd.prog 47 #[.string s] w (RetV w (.tuple #[.agg #[.bool false, .slice none 0 0], .bool false])) := by
 have B0 : Blk (w.alloc (.cells #[.bool false, .slice none 0 0] 60)) w.heap.size #[.bool false, .slice none 0 0] 60 := Blk.new w _ _
 have bc := B0.cell
 have bf := B0.frozen
 have bl0 := B0.lt
 have hl1 : ((m : Int) + 1 == 0) = false := by simp; omega
 have hAll := allDigits_any s2 (w.alloc (.cells #[.bool false, .slice none 0 0] 60)) (by omega)
 rw [hd] at hAll
 clear hd
 go_enter Tryd.func47, Tryd.ntmps47
 go_wp2_with fail
 refine hAll.mono ?_
 rintro e w1 ⟨rfl, hk1⟩
 have B1 := B0.keep hk1
 have bc1 := B1.cell
 have bf1 := B1.frozen
 have bl1 := B1.lt
 clear bc bf bl0
 go_wp2_with fail
 refine bodyPost_ret (v := .tuple #[.agg #[.bool false, .slice none 0 0], .bool false]) (by simp [results, Tryd.results47, go_sem, bc1]) rfl ?_
 exact ⟨rfl, kp2 (A := w.heap.size) _ _ ((kp_alloc w _).trans' hk1) (Nat.le_refl _)⟩

set_option maxHeartbeats 1600000 in
set_option maxRecDepth 100000 in
theorem ft_pbad (s : ByteArray) (n : Nat) (hn : n ≤ 900) (hsz : s.size = n + 1) (c : UInt8) (hc : ∀ h, s[0]'h = c) (h45 : ((c.toNat : Int) == 45) = false) (hd : (bl s).all isDig = false) (w : World) : Calls Tryd.prog 47 #[.string s] w (RetV w (.tuple #[.agg #[.bool false, .slice none 0 0], .bool false])) := by
 have B0 : Blk (w.alloc (.cells #[.bool false, .slice none 0 0] 60)) w.heap.size #[.bool false, .slice none 0 0] 60 := Blk.new w _ _
 have bc := B0.cell
 have bf := B0.frozen
 have bl0 := B0.lt
 have hl0 : ((n : Int) + 1 == 0) = false := by simp; omega
 have hAll := allDigits_any s (w.alloc (.cells #[.bool false, .slice none 0 0] 60)) (by omega)
 rw [hd] at hAll
 clear hd
 go_enter Tryd.func47, Tryd.ntmps47
 go_wp2_with fail
 refine hAll.mono ?_
 rintro e w1 ⟨rfl, hk1⟩
 have B1 := B0.keep hk1
 have bc1 := B1.cell
 have bf1 := B1.frozen
 have bl1 := B1.lt
 clear bc bf bl0
 go_wp2_with fail
 refine bodyPost_ret (v := .tuple #[.agg #[.bool false, .slice none 0 0], .bool false]) (by simp [results, Tryd.results47, go_sem, bc1]) rfl ?_
 exact ⟨rfl, kp2 (A := w.heap.size) _ _ ((kp_alloc w _).trans' hk1) (Nat.le_refl _)⟩

set_option maxHeartbeats 1600000 in
set_option maxRecDepth 100000 in
theorem ft_pzero (s : ByteArray) (n : Nat) (hn : n ≤ 900) (hsz : s.size = n + 1) (hc : ∀ h, s[0]'h = 48) (hd : (bl s).all isDig = true) (hne : (s.toList == [48]) = false) (w : World) : Calls Tryd.prog 47 #[.string s] w (RetV w (.tuple #[.agg #[.bool false, .slice none 0 0], .bool false])) := by
 have B0 : Blk (w.alloc (.cells #[.bool false, .slice none 0 0] 60)) w.heap.size #[.bool false, .slice none 0 0] 60 := Blk.new w _ _
 have bc := B0.cell
 have bf := B0.frozen
 have bl0 := B0.lt
 have hl0 : ((n : Int) + 1 == 0) = false := by simp; omega
 have hAll := allDigits_any s (w.alloc (.cells #[.bool false, .slice none 0 0] 60)) (by omega)
 rw [hd] at hAll
 clear hd
 go_enter Tryd.func47, Tryd.ntmps47
 go_wp2_with fail
 refine hAll.mono ?_
 rintro e w1 ⟨rfl, hk1⟩
 have B1 := B0.keep hk1
 have bc1 := B1.cell
 have bf1 := B1.frozen
 have bl1 := B1.lt
 clear bc bf bl0
 go_wp2_with fail
 refine bodyPost_ret (v := .tuple #[.agg #[.bool false, .slice none 0 0], .bool false]) (by simp [results, Tryd.results47, go_sem, bc1]) rfl ?_
 exact ⟨rfl, kp2 (A := w.heap.size) _ _ ((kp_alloc w _).trans' hk1) (Nat.le_refl _)⟩

set_option maxHeartbeats 1600000 in
set_option maxRecDepth 100000 in
theorem ft_mok (s s2 : ByteArray) (n m : Nat) (hn : n ≤ 1000) (hsz : s.size = n + 1) (hc : ∀ h, s[0]'h = 45) (hsub : s.extract 1 (n + 1) = s2) (hs2 : s2.size = m + 1) (hm : m ≤ 900) (hd : (bl s2).all isDig = true) (c : UInt8) (hc2 : ∀ h, s2[0]'h = c) (h48 : ((c.toNat : Int) == 48) = false) (z : Int) (hdg : Digs (bl s2)) (HZ : Hid (true = decide (z < 0) ∧ (z.natAbs : Int) = decN (bl s2))) (w : World) : Calls Tryd.prog 47 #[.string s] w (RetWB w z) := by
 have B0 : Blk (w.alloc (.cells #[.bool false, .slice none 0 0] 60)) w.heap.size #[.bool false, .slice none 0 0] 60 := Blk.new w _ _
 have bc := B0.cell
 have bf := B0.frozen
 have bl0 := B0.lt
 have hl1 : ((m : Int) + 1 == 0) = false := by simp; omega
 have hAll := allDigits_any s2 (w.alloc (.cells #[.bool false, .slice none 0 0] 60)) (by omega)
 rw [hd] at hAll
 clear hd
 go_enter Tryd.func47, Tryd.ntmps47
 go_wp2_with fail
 refine hAll.mono ?_
 rintro e w1 ⟨rfl, hk1⟩
 have B1 := B0.keep hk1
 have bc1 := B1.cell
 have bf1 := B1.frozen
 have bl1 := B1.lt
 clear bc bf bl0
 go_wp2_with fail
 refine (limbsOf_any s2 _ hdg (by omega)).mono ?_
 rintro e w2 ⟨v2, rfl, hr2, hk2, _⟩
 obtain ⟨ao2, n2, c2, rfl⟩ := hr2.shape
 replace B1 := B1.keep hk2
 have bc2 := B1.cell
 have bf2 := B1.frozen
 have bl2' := B1.lt
 clear bc1 bf1 bl1
 go_wp2_with fail
 refine bodyPost_ret (v := .tuple #[.agg #[.bool true, .slice ao2 n2 c2], .bool true]) (by simp [results, Tryd.results47, go_sem, bc2]) rfl ?_
 exact retWB_end (z := z) HZ.out.1 (by rw [HZ.out.2]; exact hr2) (((kp_alloc w _).trans' hk1).trans' hk2) (Nat.le_refl _) B1.elem

set_option maxHeartbeats 1600000 in
set_option maxRecDepth 100000 in
theorem ft_pok (s : ByteArray) (n : Nat) (hn : n ≤ 900) (hsz : s.size = n + 1) (c : UInt8) (hc : ∀ h, s[0]'h = c) (h45 : ((c.toNat : Int) == 45) = false) (h48 : ((c.toNat : Int) == 48) = false) (hd : (bl s).all isDig = true) (z : Int) (hdg : Digs (bl s)) (HZ : Hid (false = decide (z < 0) ∧ (z.natAbs : Int) = decN (bl s))) (w : World) : Calls Tryd.prog 47 #[.string s] w (RetWB w z) := by
 have B0 : Blk (w.alloc (.cells #[.bool false, .slice none 0 0] 60)) w.heap.size #[.bool false, .slice none 0 0] 60 := Blk.new w _ _
 have bc := B0.cell
 have bf := B0.frozen
 have bl0 := B0.lt
 have hl0 : ((n : Int) + 1 == 0) = false := by simp; omega
 have hAll := allDigits_any s (w.alloc (.cells #[.bool false, .slice none 0 0] 60)) (by omega)
 rw [hd] at hAll
 clear hd
 go_enter Tryd.func47, Tryd.ntmps47
 go_wp2_with fail
 refine hAll.mono ?_
 rintro e w1 ⟨rfl, hk1⟩
 have B1 := B0.keep hk1
 have bc1 := B1.cell
 have bf1 := B1.frozen
 have bl1 := B1.lt
 clear bc bf bl0
 go_wp2_with fail
 refine (limbsOf_any s _ hdg (by omega)).mono ?_
 rintro e w2 ⟨v2, rfl, hr2, hk2, _⟩
 obtain ⟨ao2, n2, c2, rfl⟩ := hr2.shape
 replace B1 := B1.keep hk2
 have bc2 := B1.cell
 have bf2 := B1.frozen
 have bl2' := B1.lt
 clear bc1 bf1 bl1
 go_wp2_with fail
 refine bodyPost_ret (v := .tuple #[.agg #[.bool false, .slice ao2 n2 c2], .bool true]) (by simp [results, Tryd.results47, go_sem, bc2]) rfl ?_
 exact retWB_end (z := z) HZ.out.1 (by rw [HZ.out.2]; exact hr2) (((kp_alloc w _).trans' hk1).trans' hk2) (Nat.le_refl _) B1.elem

set_option maxHeartbeats 1600000 in
set_option maxRecDepth 100000 in
theorem ft_zok (s : ByteArray) (hsz : s.size = 1) (hc : ∀ h, s[0]'h = 48) (hd : (bl s).all isDig = true) (hne : (s.toList == [48]) = true) (z : Int) (hdg : Digs (bl s)) (HZ : Hid (false = decide (z < 0) ∧ (z.natAbs : Int) = decN (bl s))) (w : World) : Calls Tryd.prog 47 #[.string s] w (RetWB w z) := by
 have B0 : Blk (w.alloc (.cells #[.bool false, .slice none 0 0] 60)) w.heap.size #[.bool false, .slice none 0 0] 60 := Blk.new w _ _
 have bc := B0.cell
 have bf := B0.frozen
 have bl0 := B0.lt
 have hAll := allDigits_any s (w.alloc (.cells #[.bool false, .slice none 0 0] 60)) (by omega)
 rw [hd] at hAll
 clear hd
 go_enter Tryd.func47, Tryd.ntmps47
 go_wp2_with fail
 refine hAll.mono ?_
 rintro e w1 ⟨rfl, hk1⟩
 have B1 := B0.keep hk1
 have bc1 := B1.cell
 have bf1 := B1.frozen
 have bl1 := B1.lt
 clear bc bf bl0
 go_wp2_with fail
 refine (limbsOf_any s _ hdg (by omega)).mono ?_
 rintro e w2 ⟨v2, rfl, hr2, hk2, _⟩
 obtain ⟨ao2, n2, c2, rfl⟩ := hr2.shape
 replace B1 := B1.keep hk2
 have bc2 := B1.cell
 have bf2 := B1.frozen
 have bl2' := B1.lt
 clear bc1 bf1 bl1
 go_wp2_with fail
 refine bodyPost_ret (v := .tuple #[.agg #[.bool false, .slice ao2 n2 c2], .bool true]) (by simp [results, Tryd.results47, go_sem, bc2]) rfl ?_
 exact retWB_end (z := z) HZ.out.1 (by rw [HZ.out.2]; exact hr2) (((kp_alloc w _).trans' hk1).trans' hk2) (Nat.le_refl _) B1.elem

/-- No number's text. -/
theorem fromText_no (t : List UInt8) (w : World) (hs : t.length ≤ 900) (hn : ∀ z, ¬ NumT (strOf t) z) : Calls Tryd.prog 47 #[.string (strOf t)] w (RetV w (.tuple #[.agg #[.bool false, .slice none 0 0], .bool false])) := by
 cases t with
 | nil => exact ft_nil _ rfl w
 | cons c t =>
  rw [List.length_cons] at hs
  by_cases hc : c = 45
  ·subst hc
   cases t with
   | nil => exact ft_minus _ _ rfl (fun _ => rfl) (str_sub 45 []) rfl w
   | cons d t =>
    rw [List.length_cons] at hs
    by_cases hd : Digs (bi (d :: t))
    ·have hd48 : d = 48 := Classical.byContradiction fun h => hn _ (numT_neg (t := d :: t) (by simp) hd (by simpa using h))
     subst hd48
     exact ft_mzero _ _ (t.length + 1) t.length (by omega) (str_sz _ _) (fun _ => rfl) (str_sub 45 (48 :: t)) (str_sz _ _) (by omega) (alld' hd) (fun _ => rfl) (str_ne (by simp)) w
    ·exact ft_mbad _ _ (t.length + 1) t.length (by omega) (str_sz _ _) (fun _ => rfl) (str_sub 45 (d :: t)) (str_sz _ _) (by omega) (alld hd) w
  ·have h45 : ((c.toNat : Int) == 45) = false := c_ne (k := 45) hc (by decide)
   by_cases hd : Digs (bi (c :: t))
   ·have h48 : c = 48 := Classical.byContradiction fun h => hn _ (numT_pos (t := c :: t) (Or.inr ⟨by simp, hd, by simpa using h⟩))
    subst h48
    have ht : t ≠ [] := fun h => hn _ (numT_pos (t := 48 :: t) (Or.inl (by rw [h])))
    exact ft_pzero _ t.length (by omega) (str_sz _ _) (fun _ => rfl) (alld' hd) (str_ne (by simpa using ht)) w
   ·exact ft_pbad _ t.length (by omega) (str_sz _ _) c (fun _ => rfl) h45 (alld hd) w
/-- A number's text. -/
theorem fromText_ok (t : List UInt8) (z : Int) (w : World) (hs : t.length ≤ 900) (hn : NumT (strOf t) z) : Calls Tryd.prog 47 #[.string (strOf t)] w (RetWB w z) := by
 rcases numT_of hn with ⟨h0, hsh, hz⟩ | ⟨h0, t', rfl, ht, hd, hh, hz⟩
 ·have hd : Digs (bi t) := by
   rcases hsh with rfl | ⟨_, h, _⟩
   ·exact fun c hc => by simp [bi] at hc; rw [hc]; rfl
   ·exact h
  have HZ : Hid (false = decide (z < 0) ∧ (z.natAbs : Int) = decN (bl (strOf t))) := ⟨by simp; omega, by rw [bl_strOf, ← hz]; omega⟩
  cases t with
  | nil => exact absurd hsh (by unfold Shp; simp)
  | cons c t =>
   rw [List.length_cons] at hs
   by_cases h48 : c = 48
   ·have ht : t = [] := by
     rcases hsh with h | ⟨_, _, h⟩
     ·simpa [h48] using h
     ·exact absurd (by rw [h48]; rfl) h
    subst h48
    subst ht
    exact ft_zok _ rfl (fun _ => rfl) (alld' hd) (str_eq _) z hd HZ w
   ·have h45 : ((c.toNat : Int) == 45) = false := c_ne (k := 45) (fun e => dig45 (t := t) (by rw [← show c = 45 from e]; exact hd)) (by decide)
    exact ft_pok _ t.length (by omega) (str_sz _ _) c (fun _ => rfl) h45 (c_ne (k := 48) h48 (by decide)) (alld' hd) z hd HZ w
 ·have HZ : Hid (true = decide (z < 0) ∧ (z.natAbs : Int) = decN (bl (strOf t'))) := ⟨by simp; omega, by rw [bl_strOf]; omega⟩
  rw [List.length_cons] at hs
  cases t' with
  | nil => exact absurd rfl ht
  | cons c t =>
   rw [List.length_cons] at hs
   exact ft_mok _ _ (t.length + 1) t.length (by omega) (str_sz _ _) (fun _ => rfl) (str_sub 45 (c :: t)) (str_sz _ _) (by omega) (alld' hd) c (fun _ => rfl) (c_ne (k := 48) (by simpa using hh) (by decide)) z hd HZ w

end Go.Proofs.YtjahbjjekednfabDoor

namespace Go.Proofs.YtjahbjjekednfabDoor
open Go.RowKit

/-- What holds all along: f is a*x, s is a*y, but for multiples of b. -/
structure Sh (a b f s x y : Int) : Prop where
 e1 : ∃ k, f = a * x + b * k
 e2 : ∃ k, s = a * y + b * k
 g : Int.gcd f s = Int.gcd a b
 m : x.natAbs * s.natAbs + y.natAbs * f.natAbs ≤ b.natAbs
 x : x.natAbs ≤ b.natAbs + 1
 y : y.natAbs ≤ b.natAbs
 f : f.natAbs ≤ a.natAbs + b.natAbs
 s : s.natAbs ≤ a.natAbs + b.natAbs
theorem sh_start (a b : Int) : Sh a b a b 1 0 := ⟨⟨0, by omega⟩, ⟨1, by omega⟩, rfl, by simp, by omega, by omega, by omega, by omega⟩
theorem gcd_tmod' (f s : Int) : Int.gcd s (f.tmod s) = Int.gcd f s := by
 unfold Int.gcd
 rw [Int.natAbs_tmod, Nat.gcd_comm f.natAbs, Nat.gcd_comm s.natAbs (f.natAbs % s.natAbs)]
 exact (Nat.gcd_rec s.natAbs f.natAbs).symm
theorem sh_step {a b f s x y : Int} (h : Sh a b f s x y) (hs : s ≠ 0) : Sh a b s (f.tmod s) y (x - f.tdiv s * y) := by
 obtain ⟨k1, e1⟩ := h.e1
 obtain ⟨k2, e2⟩ := h.e2
 have hd := Int.tmod_add_mul_tdiv f s
 have hab : f.natAbs = (f.tmod s).natAbs + s.natAbs * (f.tdiv s).natAbs := by
  rw [Int.natAbs_tmod, Int.natAbs_tdiv]
  exact (Nat.mod_add_div _ _).symm
 have hz : (x - f.tdiv s * y).natAbs ≤ x.natAbs + (f.tdiv s).natAbs * y.natAbs := by
  rw [← Int.natAbs_mul]
  omega
 have hm : (y.natAbs) * (f.tmod s).natAbs + (x - f.tdiv s * y).natAbs * s.natAbs ≤ b.natAbs := by
  have h1 := Nat.mul_le_mul_right s.natAbs hz
  have h2 := h.m
  rw [hab] at h2
  generalize (f.tmod s).natAbs = R at *
  generalize (f.tdiv s).natAbs = Q at *
  have e3 : (x.natAbs + Q * y.natAbs) * s.natAbs = x.natAbs * s.natAbs + y.natAbs * (s.natAbs * Q) := by grind
  have e4 : y.natAbs * (R + s.natAbs * Q) = y.natAbs * R + y.natAbs * (s.natAbs * Q) := by grind
  omega
 have hlt : (f.tmod s).natAbs < s.natAbs := by
  rw [Int.natAbs_tmod]
  exact Nat.mod_lt _ (by omega)
 refine ⟨⟨k2, e2⟩, ⟨k1 - f.tdiv s * k2, ?_⟩, ?_, hm, by have := h.y; omega, ?_, h.s, by have := h.s; omega⟩
 ·have : f.tmod s = f - s * f.tdiv s := by omega
  rw [this, e1]
  conv => lhs; rw [e2]
  have e5 : f.tdiv s = (a * x + b * k1).tdiv s := by rw [← e1]
  rw [← e5]
  grind
 ·rw [← h.g]
  exact gcd_tmod' f s
 ·have h3 : (x - f.tdiv s * y).natAbs * 1 ≤ (x - f.tdiv s * y).natAbs * s.natAbs := Nat.mul_le_mul_left _ (by omega)
  omega
/-- A call that returns the greatest common divisor (or its opposite), and the factor. -/
def RetSh (w : World) (a b : Int) (e : Ending) (w' : World) : Prop := ∃ u v g x, e = .returned (.tuple #[u, v]) ∧ WN w' u g ∧ WN w' v x ∧ Hid (g.natAbs = Int.gcd a b ∧ (∃ k, g = a * x + b * k) ∧ x.natAbs ≤ b.natAbs + 1) ∧ Kp w w'
theorem sh_end {a b f s x y : Int} (h : Sh a b f s x y) (hs : s = 0) : f.natAbs = Int.gcd a b ∧ (∃ k, f = a * x + b * k) ∧ x.natAbs ≤ b.natAbs + 1 := by
 refine ⟨?_, h.e1, h.x⟩
 rw [← h.g, hs]
 unfold Int.gcd
 simp

set_option maxHeartbeats 6400000 in
set_option maxRecDepth 100000 in
theorem share_any (a b : Int) (m : Nat) (u v : Value) (w : World) (hu : WN w u a) (hv : WN w v b) (hm : m ≤ 1000000) (fa : Ft m a) (fb : Ft m b) : Calls Tryd.prog 81 #[u, v] w (RetSh w a b) := by
 obtain ⟨b1, ao1, n1, c1, rfl⟩ := hu.shape'
 obtain ⟨b2, ao2, n2, c2, rfl⟩ := hv.shape'
 have HFT : Hid (∀ t : Int, t.natAbs ≤ a.natAbs + b.natAbs + 1 → Ft (m + 1) t) := by
  intro t ht
  unfold Ft at *
  rw [Nat.pow_succ]
  omega
 clear fa fb
 have kp0 : Kp w ((((w.alloc (.cells #[.bool b1, .slice ao1 n1 c1] 60)).alloc (.cells #[.bool b2, .slice ao2 n2 c2] 60)).alloc (.cells #[.bool false, .slice none 0 0] 60)).alloc (.cells #[.bool false, .slice none 0 0] 60)) := Kp.alloc' (Kp.alloc' (Kp.alloc' (kp_alloc w _) _) _) _
 have BA4 : Blk ((((w.alloc (.cells #[.bool b1, .slice ao1 n1 c1] 60)).alloc (.cells #[.bool b2, .slice ao2 n2 c2] 60)).alloc (.cells #[.bool false, .slice none 0 0] 60)).alloc (.cells #[.bool false, .slice none 0 0] 60)) (w.heap.size) #[.bool b1, .slice ao1 n1 c1] 60 := (Blk.alloc (Blk.alloc (Blk.alloc (Blk.new w _ _) (.cells #[.bool b2, .slice ao2 n2 c2] 60)) (.cells #[.bool false, .slice none 0 0] 60)) (.cells #[.bool false, .slice none 0 0] 60))
 have BB4 : Blk ((((w.alloc (.cells #[.bool b1, .slice ao1 n1 c1] 60)).alloc (.cells #[.bool b2, .slice ao2 n2 c2] 60)).alloc (.cells #[.bool false, .slice none 0 0] 60)).alloc (.cells #[.bool false, .slice none 0 0] 60)) (w.heap.size + 1) #[.bool b2, .slice ao2 n2 c2] 60 := (Blk.alloc (Blk.alloc (Blk.at (Blk.new (w.alloc (.cells #[.bool b1, .slice ao1 n1 c1] 60)) _ _) (by simp)) (.cells #[.bool false, .slice none 0 0] 60)) (.cells #[.bool false, .slice none 0 0] 60))
 have BR1 : Blk ((((w.alloc (.cells #[.bool b1, .slice ao1 n1 c1] 60)).alloc (.cells #[.bool b2, .slice ao2 n2 c2] 60)).alloc (.cells #[.bool false, .slice none 0 0] 60)).alloc (.cells #[.bool false, .slice none 0 0] 60)) (w.heap.size + 1 + 1) #[.bool false, .slice none 0 0] 60 := (Blk.alloc (Blk.at (Blk.new ((w.alloc (.cells #[.bool b1, .slice ao1 n1 c1] 60)).alloc (.cells #[.bool b2, .slice ao2 n2 c2] 60)) _ _) (by simp)) (.cells #[.bool false, .slice none 0 0] 60))
 have BR2 : Blk ((((w.alloc (.cells #[.bool b1, .slice ao1 n1 c1] 60)).alloc (.cells #[.bool b2, .slice ao2 n2 c2] 60)).alloc (.cells #[.bool false, .slice none 0 0] 60)).alloc (.cells #[.bool false, .slice none 0 0] 60)) (w.heap.size + 1 + 1 + 1) #[.bool false, .slice none 0 0] 60 := (Blk.at (Blk.new (((w.alloc (.cells #[.bool b1, .slice ao1 n1 c1] 60)).alloc (.cells #[.bool b2, .slice ao2 n2 c2] 60)).alloc (.cells #[.bool false, .slice none 0 0] 60)) _ _) (by simp))
 replace hu := hu.soft (Sf.keep kp0)
 replace hv := hv.soft (Sf.keep kp0)
 have ba4 := BA4.cell
 have bb4 := BB4.cell
 have ba4l := BA4.lt
 have bb4l := BB4.lt
 go_enter Tryd.func81, Tryd.ntmps81
 go_wp2_with fail
 generalize ((((w.alloc (.cells #[.bool b1, .slice ao1 n1 c1] 60)).alloc (.cells #[.bool b2, .slice ao2 n2 c2] 60)).alloc (.cells #[.bool false, .slice none 0 0] 60)).alloc (.cells #[.bool false, .slice none 0 0] 60)) = w4 at *
 go_cut [6, 7] from 14 to 38 (fun p6 p7 wx => ∃ A6 A7 : Nat, p6 = .pointer (some ⟨A6, 0, none⟩) ∧ p7 = .pointer (some ⟨A7, 0, none⟩) ∧ A6 ≠ A7 ∧ w4.heap.size ≤ A6 ∧ w4.heap.size ≤ A7 ∧ Blk wx A6 #[.bool b1, .slice ao1 n1 c1] 60 ∧ Blk wx A7 #[.bool b2, .slice ao2 n2 c2] 60 ∧ Kp w4 wx)
 case first =>
  go_region
  all_goals (go_wp2_with fail; go_meet)
  all_goals first
   | exact ⟨w4.heap.size, w4.heap.size + 1, rfl, rfl, by omega, by omega, by omega, Blk.drew (Blk.alloc (Blk.new w4 _ _) _), Blk.drew (Blk.at (Blk.new (w4.alloc (.cells #[.bool b1, .slice ao1 n1 c1] 60)) _ _) (by simp)), Kp.drew' (Kp.alloc' (kp_alloc w4 _) _)⟩
   | exact ⟨w4.heap.size + 1, w4.heap.size, rfl, rfl, by omega, by omega, by omega, Blk.drew (Blk.at (Blk.new (w4.alloc (.cells #[.bool b2, .slice ao2 n2 c2] 60)) _ _) (by simp)), Blk.drew (Blk.alloc (Blk.new w4 _ _) _), Kp.drew' (Kp.alloc' (kp_alloc w4 _) _)⟩
 case rest =>
  obtain ⟨A6, A7, rfl, rfl, ne67, ge6, ge7, BF, BS, hkc⟩ := hcut
  have r2l := BR2.lt
  replace BR1 := BR1.keep hkc
  replace BR2 := BR2.keep hkc
  replace hu := hu.soft (Sf.keep hkc)
  replace hv := hv.soft (Sf.keep hkc)
  have hkw := kp0.trans' hkc
  clear BA4 BB4 ba4 bb4 ba4l bb4l kp0 hkc
  go_wp2_with fail
  refine (fromInt_any 1 _ (by decide) (by decide)).mono ?_
  rintro e w5 ⟨v5, rfl, hX, hk5⟩
  obtain ⟨b5, ao5, n5, c5, rfl⟩ := hX.shape'
  have k5 := hk5.alloc' (.cells #[.bool b5, .slice ao5 n5 c5] 60)
  have l6 := (BF.keep hk5).lt
  have l7 := (BS.keep hk5).lt
  replace BR1 := BR1.keep k5
  replace BR2 := BR2.keep k5
  replace BF := BF.keep k5
  replace BS := BS.keep k5
  replace hu := hu.soft (Sf.keep k5)
  replace hv := hv.soft (Sf.keep k5)
  replace hX := hX.soft (Sf.keep (kp_alloc w5 (.cells #[.bool b5, .slice ao5 n5 c5] 60)))
  replace hkw := hkw.trans' k5
  have BX := Blk.new w5 #[.bool b5, .slice ao5 n5 c5] 60
  clear hk5 k5
  go_wp2_with fail
  generalize w5.alloc (.cells #[.bool b5, .slice ao5 n5 c5] 60) = w5a at *
  generalize w5.heap.size = A8 at *
  refine (fromInt_any 0 _ (by decide) (by decide)).mono ?_
  rintro e w6 ⟨v6, rfl, hY, hk6⟩
  obtain ⟨b6, ao6, n6, c6, rfl⟩ := hY.shape'
  have k6 := hk6.alloc' (.cells #[.bool b6, .slice ao6 n6 c6] 60)
  have l8 := (BX.keep hk6).lt
  replace BR1 := BR1.keep k6
  replace BR2 := BR2.keep k6
  replace BF := BF.keep k6
  replace BS := BS.keep k6
  replace BX := BX.keep k6
  replace hu := hu.soft (Sf.keep k6)
  replace hv := hv.soft (Sf.keep k6)
  replace hX := hX.soft (Sf.keep k6)
  replace hY := hY.soft (Sf.keep (kp_alloc w6 (.cells #[.bool b6, .slice ao6 n6 c6] 60)))
  replace hkw := hkw.trans' k6
  have BY := Blk.new w6 #[.bool b6, .slice ao6 n6 c6] 60
  clear hk6 k6
  go_wp2_with fail
  generalize w6.alloc (.cells #[.bool b6, .slice ao6 n6 c6] 60) = w6a at *
  generalize w6.heap.size = A9 at *
  go_loopg [] (b.natAbs) (fun gk wr => ∃ (f s x y : Int) (b1 : Bool) (ao1 : Option Addr) (n1 c1 : Nat) (b2 : Bool) (ao2 : Option Addr) (n2 c2 : Nat) (b5 : Bool) (ao5 : Option Addr) (n5 c5 : Nat) (b6 : Bool) (ao6 : Option Addr) (n6 c6 : Nat), Blk wr A6 #[.bool b1, .slice ao1 n1 c1] 60 ∧ Blk wr A7 #[.bool b2, .slice ao2 n2 c2] 60 ∧ Blk wr A8 #[.bool b5, .slice ao5 n5 c5] 60 ∧ Blk wr A9 #[.bool b6, .slice ao6 n6 c6] 60 ∧ WN wr (.agg #[.bool b1, .slice ao1 n1 c1]) f ∧ WN wr (.agg #[.bool b2, .slice ao2 n2 c2]) s ∧ WN wr (.agg #[.bool b5, .slice ao5 n5 c5]) x ∧ WN wr (.agg #[.bool b6, .slice ao6 n6 c6]) y ∧ Blk wr (w.heap.size + 1 + 1) #[.bool false, .slice none 0 0] 60 ∧ Blk wr (w.heap.size + 1 + 1 + 1) #[.bool false, .slice none 0 0] 60 ∧ Hid (Sh a b f s x y) ∧ s.natAbs ≤ gk ∧ Kp w wr)
  case atStart => exact ⟨a, b, 1, 0, _, _, _, _, _, _, _, _, _, _, _, _, _, _, _, _, BF, BS, BX, BY, hu, hv, hX, hY, BR1, BR2, sh_start a b, Nat.le_refl _, hkw⟩
  case round =>
   clear BF BS BX BY hu hv hX hY BR1 BR2 hkw
   obtain ⟨f, s, x, y, b1, ao1, n1, c1, b2, ao2, n2, c2, b5, ao5, n5, c5, b6, ao6, n6, c6, BF, BS, BX, BY, hF, hS, hX, hY, BR1, BR2, HSH, hgk, hkr⟩ := hrel
   have bsc := BS.cell
   have bsl := BS.lt
   go_wp2_with fail
   refine (sign_any s _ _ hS).mono ?_
   rintro e w7 ⟨rfl, hk7⟩
   replace BF := BF.keep hk7
   replace BS := BS.keep hk7
   replace BX := BX.keep hk7
   replace BY := BY.keep hk7
   replace BR1 := BR1.keep hk7
   replace BR2 := BR2.keep hk7
   replace hF := hF.soft (Sf.keep hk7)
   replace hS := hS.soft (Sf.keep hk7)
   replace hX := hX.soft (Sf.keep hk7)
   replace hY := hY.soft (Sf.keep hk7)
   replace hkr := hkr.trans' hk7
   clear bsc bsl hk7
   by_cases hs : s = 0
   ·have hb : (s.sign != 0) = false := by rw [hs]; rfl
    have HEND := Hid.mk (sh_end HSH.out hs)
    clear hs HSH hgk
    generalize s.sign = sg at *
    have bfc := BF.cell
    have bfl := BF.lt
    have bxc := BX.cell
    have bxl := BX.lt
    have r1c := BR1.cell
    have r1f := BR1.frozen
    have r1l := BR1.lt
    have r2c := BR2.cell
    have r2f := BR2.frozen
    have r2l2 := BR2.lt
    go_wp2_with fail
    go_region
    have BR1n := (ot2 (A := w.heap.size + 1 + 1 + 1) (.bool b5) (.slice ao5 n5 c5) (bl2 (.bool b1) (.slice ao1 n1 c1) BR1) (by omega))
    have BR2n := (bl2 (.bool b5) (.slice ao5 n5 c5) (ot2 (A := w.heap.size + 1 + 1) (.bool b1) (.slice ao1 n1 c1) BR2 (by omega)))
    have sfA := (sf2 (.bool b1) (.slice ao1 n1 c1) BR1 (E := 2) (by decide))
    have sfB := (sf2 (E := 2) (.bool b5) (.slice ao5 n5 c5) (ot2 (A := w.heap.size + 1 + 1) (.bool b1) (.slice ao1 n1 c1) BR2 (by omega)) (by decide))
    have hFn := (hF.soft sfA).soft sfB
    have hXn := (hX.soft sfA).soft sfB
    have hkn := (kp2 (A := w.heap.size + 1 + 1 + 1) (.bool b5) (.slice ao5 n5 c5) (kp2 (A := w.heap.size + 1 + 1) (.bool b1) (.slice ao1 n1 c1) hkr (by omega)) (by omega))
    clear sfA sfB BR1 BR2 r1c r1f r1l r2c r2f r2l2 bfc bfl bxc bxl hF hX hkr
    generalize ((((w7.setCell ⟨w.heap.size + 1 + 1, 0, none⟩ (.bool b1)).setCell ⟨w.heap.size + 1 + 1, 1, none⟩ (.slice ao1 n1 c1)).setCell ⟨w.heap.size + 1 + 1 + 1, 0, none⟩ (.bool b5)).setCell ⟨w.heap.size + 1 + 1 + 1, 1, none⟩ (.slice ao5 n5 c5)) = wz at *
    have r1c := BR1n.cell
    have r2c := BR2n.cell
    go_wp2_with fail
    refine bodyPost_ret (v := .tuple #[.agg #[.bool b1, .slice ao1 n1 c1], .agg #[.bool b5, .slice ao5 n5 c5]]) (by simp [results, Tryd.results81, go_sem, r1c, r2c]) rfl ?_
    exact ⟨_, _, f, x, rfl, hFn.soft (Sf.keep (Kp.drew' (Below.refl _ _))), hXn.soft (Sf.keep (Kp.drew' (Below.refl _ _))), HEND.out, Kp.drew' hkn⟩
   ·have hb : (s.sign != 0) = true := by
     rw [bne_iff_ne]
     exact fun e => hs (Int.sign_eq_zero_iff_zero.1 e)
    have HNX := Hid.mk (sh_step HSH.out hs)
    have ff := HFT.out f (by have := HSH.out.f; omega)
    have fs := HFT.out s (by have := HSH.out.s; omega)
    have fx := HFT.out x (by have := HSH.out.x; omega)
    have fy := HFT.out y (by have := HSH.out.y; omega)
    have hsl : (f.tmod s).natAbs < s.natAbs := by
     rw [Int.natAbs_tmod]
     exact Nat.mod_lt _ (by omega)
    clear hs HSH
    generalize s.sign = sg at *
    have bfc := BF.cell
    have bfl := BF.lt
    have bsc := BS.cell
    have bsl := BS.lt
    go_wp2_with fail
    refine (divide_any f s (m + 1) _ _ _ hF hS (by omega) ff fs).mono ?_
    rintro e w8 ⟨v10, v11, rfl, hQ, hR, hk8⟩
    obtain ⟨b10, ao10, n10, c10, rfl⟩ := hQ.shape'
    obtain ⟨b11, ao11, n11, c11, rfl⟩ := hR.shape'
    have ka : Kp w8 ((w8.alloc (.cells #[.bool b10, .slice ao10 n10 c10] 60)).alloc (.cells #[.bool b11, .slice ao11 n11 c11] 60)) := Kp.alloc' (kp_alloc w8 _) _
    have k8 := hk8.trans' ka
    have l6 := (BF.keep hk8).lt
    have l7 := (BS.keep hk8).lt
    have l8 := (BX.keep hk8).lt
    have l9 := (BY.keep hk8).lt
    replace BF := BF.keep k8
    replace BS := BS.keep k8
    replace BX := BX.keep k8
    replace BY := BY.keep k8
    replace BR1 := BR1.keep k8
    replace BR2 := BR2.keep k8
    replace hF := hF.soft (Sf.keep k8)
    replace hS := hS.soft (Sf.keep k8)
    replace hX := hX.soft (Sf.keep k8)
    replace hY := hY.soft (Sf.keep k8)
    replace hQ := hQ.soft (Sf.keep ka)
    replace hR := hR.soft (Sf.keep ka)
    replace hkr := hkr.trans' k8
    have BQ : Blk ((w8.alloc (.cells #[.bool b10, .slice ao10 n10 c10] 60)).alloc (.cells #[.bool b11, .slice ao11 n11 c11] 60)) w8.heap.size #[.bool b10, .slice ao10 n10 c10] 60 := Blk.alloc (Blk.new w8 _ _) _
    have BT : Blk ((w8.alloc (.cells #[.bool b10, .slice ao10 n10 c10] 60)).alloc (.cells #[.bool b11, .slice ao11 n11 c11] 60)) (w8.heap.size + 1) #[.bool b11, .slice ao11 n11 c11] 60 := Blk.at (Blk.new (w8.alloc (.cells #[.bool b10, .slice ao10 n10 c10] 60)) _ _) (by simp)
    have bqc := BQ.cell
    have bql := BQ.lt
    have byc := BY.cell
    have byl := BY.lt
    have fq : Ft (m + 1) (f.tdiv s) := ff.tdiv
    clear bfc bfl bsc bsl hk8 ka k8
    go_wp2_with fail
    refine (multiply_any (f.tdiv s) y _ _ _ hQ hY (fq.fit (by omega)) (fy.fit (by omega))).mono ?_
    rintro e w10 ⟨v12, rfl, hTk, hk10⟩
    obtain ⟨b12, ao12, n12, c12, rfl⟩ := hTk.shape'
    have k10 := hk10.alloc' (.cells #[.bool b12, .slice ao12 n12 c12] 60)
    have lt12 := (BT.keep hk10).lt
    replace BF := BF.keep k10
    replace BS := BS.keep k10
    replace BX := BX.keep k10
    replace BY := BY.keep k10
    replace BR1 := BR1.keep k10
    replace BR2 := BR2.keep k10
    replace BT := BT.keep k10
    replace hS := hS.soft (Sf.keep k10)
    replace hX := hX.soft (Sf.keep k10)
    replace hY := hY.soft (Sf.keep k10)
    replace hR := hR.soft (Sf.keep k10)
    replace hTk := hTk.soft (Sf.keep (kp_alloc w10 (.cells #[.bool b12, .slice ao12 n12 c12] 60)))
    replace hkr := hkr.trans' k10
    have BK := Blk.new w10 #[.bool b12, .slice ao12 n12 c12] 60
    generalize hA11 : w8.heap.size + 1 = A11 at *
    have l11 : w8.heap.size < A11 := by omega
    generalize w8.heap.size = A10 at *
    clear bqc bql byc byl BQ hQ hk10 k10 hA11 hF
    have bxc := BX.cell
    have bxl := BX.lt
    have bkc := BK.cell
    have bkl := BK.lt
    go_wp2_with fail
    refine (wsub_any x (f.tdiv s * y) _ _ _ hX hTk (fx.fit (by omega)) ((fq.mul fy).fit (by omega))).mono ?_
    rintro e w11 ⟨v13, rfl, hBh, hk11⟩
    obtain ⟨b13, ao13, n13, c13, rfl⟩ := hBh.shape'
    have k11 := hk11.alloc' (.cells #[.bool b13, .slice ao13 n13 c13] 60)
    have lt13 := (BT.keep hk11).lt
    replace BF := BF.keep k11
    replace BS := BS.keep k11
    replace BX := BX.keep k11
    replace BY := BY.keep k11
    replace BR1 := BR1.keep k11
    replace BR2 := BR2.keep k11
    replace BT := BT.keep k11
    replace hS := hS.soft (Sf.keep k11)
    replace hY := hY.soft (Sf.keep k11)
    replace hR := hR.soft (Sf.keep k11)
    replace hBh := hBh.soft (Sf.keep (kp_alloc w11 (.cells #[.bool b13, .slice ao13 n13 c13] 60)))
    replace hkr := hkr.trans' k11
    have BH := Blk.new w11 #[.bool b13, .slice ao13 n13 c13] 60
    clear bxc bxl bkc bkl BK hTk hX hk11 k11 fq ff fs fx fy
    go_wp2_with fail
    generalize w11.alloc (.cells #[.bool b13, .slice ao13 n13 c13] 60) = w12 at *
    generalize w11.heap.size = A13 at *
    have bsc := BS.cell
    have bsl := BS.lt
    have bsf := BS.frozen
    have bfc := BF.cell
    have bff := BF.frozen
    have bfl := BF.lt
    have btc := BT.cell
    have btl := BT.lt
    go_region
    have BF1 := (ot2 (A := A7) (.bool b11) (.slice ao11 n11 c11) (bl2 (.bool b2) (.slice ao2 n2 c2) BF) (by omega))
    have BS0 := (ot2 (A := A6) (.bool b2) (.slice ao2 n2 c2) BS (by omega))
    have BS1 := (bl2 (.bool b11) (.slice ao11 n11 c11) BS0)
    have sfA := (sf2 (E := 2) (.bool b2) (.slice ao2 n2 c2) BF (by decide))
    have sfB := (sf2 (E := 2) (.bool b11) (.slice ao11 n11 c11) BS0 (by decide))
    have BX1 := (ot2 (A := A7) (.bool b11) (.slice ao11 n11 c11) (ot2 (A := A6) (.bool b2) (.slice ao2 n2 c2) BX (by omega)) (by omega))
    have BY1 := (ot2 (A := A7) (.bool b11) (.slice ao11 n11 c11) (ot2 (A := A6) (.bool b2) (.slice ao2 n2 c2) BY (by omega)) (by omega))
    have BH1 := (ot2 (A := A7) (.bool b11) (.slice ao11 n11 c11) (ot2 (A := A6) (.bool b2) (.slice ao2 n2 c2) BH (by omega)) (by omega))
    have BR11 := (ot2 (A := A7) (.bool b11) (.slice ao11 n11 c11) (ot2 (A := A6) (.bool b2) (.slice ao2 n2 c2) BR1 (by omega)) (by omega))
    have BR21 := (ot2 (A := A7) (.bool b11) (.slice ao11 n11 c11) (ot2 (A := A6) (.bool b2) (.slice ao2 n2 c2) BR2 (by omega)) (by omega))
    have hS1 := (hS.soft sfA).soft sfB
    have hR1 := (hR.soft sfA).soft sfB
    have hY1 := (hY.soft sfA).soft sfB
    have hB1 := (hBh.soft sfA).soft sfB
    have hkr1 := (kp2 (A := A7) (.bool b11) (.slice ao11 n11 c11) (kp2 (A := A6) (.bool b2) (.slice ao2 n2 c2) hkr (by omega)) (by omega))
    clear bsc bsl bsf bfc bff bfl btc btl BF BS BS0 BX BY BH BR1 BR2 BT hS hR hY hBh hkr sfA sfB
    generalize ((((w12.setCell ⟨A6, 0, none⟩ (.bool b2)).setCell ⟨A6, 1, none⟩ (.slice ao2 n2 c2)).setCell ⟨A7, 0, none⟩ (.bool b11)).setCell ⟨A7, 1, none⟩ (.slice ao11 n11 c11)) = w13 at *
    have bxc := BX1.cell
    have bxf := BX1.frozen
    have bxl := BX1.lt
    have byc := BY1.cell
    have byf := BY1.frozen
    have byl := BY1.lt
    have bhc := BH1.cell
    have bhl := BH1.lt
    go_wp2_with fail
    go_region
    have BX2 := (ot2 (A := A9) (.bool b13) (.slice ao13 n13 c13) (bl2 (.bool b6) (.slice ao6 n6 c6) BX1) (by omega))
    have BY0 := (ot2 (A := A8) (.bool b6) (.slice ao6 n6 c6) BY1 (by omega))
    have BY2 := (bl2 (.bool b13) (.slice ao13 n13 c13) BY0)
    have sfA := (sf2 (E := 2) (.bool b6) (.slice ao6 n6 c6) BX1 (by decide))
    have sfB := (sf2 (E := 2) (.bool b13) (.slice ao13 n13 c13) BY0 (by decide))
    have BF2 := (ot2 (A := A9) (.bool b13) (.slice ao13 n13 c13) (ot2 (A := A8) (.bool b6) (.slice ao6 n6 c6) BF1 (by omega)) (by omega))
    have BS2 := (ot2 (A := A9) (.bool b13) (.slice ao13 n13 c13) (ot2 (A := A8) (.bool b6) (.slice ao6 n6 c6) BS1 (by omega)) (by omega))
    have BR12 := (ot2 (A := A9) (.bool b13) (.slice ao13 n13 c13) (ot2 (A := A8) (.bool b6) (.slice ao6 n6 c6) BR11 (by omega)) (by omega))
    have BR22 := (ot2 (A := A9) (.bool b13) (.slice ao13 n13 c13) (ot2 (A := A8) (.bool b6) (.slice ao6 n6 c6) BR21 (by omega)) (by omega))
    have hS2 := (hS1.soft sfA).soft sfB
    have hR2 := (hR1.soft sfA).soft sfB
    have hY2 := (hY1.soft sfA).soft sfB
    have hB2 := (hB1.soft sfA).soft sfB
    have hkr2 := (kp2 (A := A9) (.bool b13) (.slice ao13 n13 c13) (kp2 (A := A8) (.bool b6) (.slice ao6 n6 c6) hkr1 (by omega)) (by omega))
    clear bxc bxf bxl byc byf byl bhc bhl BF1 BS1 BX1 BY1 BY0 BH1 BR11 BR21 hS1 hR1 hY1 hB1 hkr1 sfA sfB
    generalize ((((w13.setCell ⟨A8, 0, none⟩ (.bool b6)).setCell ⟨A8, 1, none⟩ (.slice ao6 n6 c6)).setCell ⟨A9, 0, none⟩ (.bool b13)).setCell ⟨A9, 1, none⟩ (.slice ao13 n13 c13)) = w14 at *
    have kd : Kp w14 w14.drew.drew := Kp.drew' (Kp.drew' (Below.refl _ _))
    go_wp2_with fail
    go_roundg ((f.tmod s).natAbs)
    case rel => exact ⟨s, f.tmod s, y, x - f.tdiv s * y, _, _, _, _, _, _, _, _, _, _, _, _, _, _, _, _, BF2.keep kd, BS2.keep kd, BX2.keep kd, BY2.keep kd, hS2.soft (Sf.keep kd), hR2.soft (Sf.keep kd), hY2.soft (Sf.keep kd), hB2.soft (Sf.keep kd), BR12.keep kd, BR22.keep kd, HNX.out, Nat.le_refl _, hkr2.trans' kd⟩
    case measure => omega

end Go.Proofs.YtjahbjjekednfabDoor

namespace Go.Proofs.YtjahbjjekednfabDoor
open Go.RowKit

theorem fl_emod {x y : Int} (h : 0 < y) : x - fl x y * y = x % y := by
 unfold fl
 rw [if_pos h]
 have := Int.emod_add_mul_ediv x y
 rw [Int.mul_comm] at this
 omega

set_option maxHeartbeats 1600000 in
set_option maxRecDepth 100000 in
theorem least_neg (x y : Int) (m : Nat) (u v : Value) (w : World) (hx : WN w u x) (hy : WN w v y) (hm : m ≤ 1000000) (fx : Ft m x) (fy : Ft m y) (h : y < 0) :
  Calls Tryd.prog 82 #[u, v] w (RetW w (x % (-y))) := by
 obtain ⟨b1, ao1, n1, c1, rfl⟩ := hx.shape'
 obtain ⟨b2, ao2, n2, c2, rfl⟩ := hy.shape'
 have HE := Hid.mk (fl_emod (x := x) (y := -y) (by omega))
 have hsg : y.sign < 0 := by
  rw [Int.sign_eq_neg_one_of_neg h]; decide
 have fF : Ft m (fl x (-y)) := fx.le (fl_abs _ _)
 go_enter Tryd.func82, Tryd.ntmps82
 go_wp2_with fail
 have kp0 : Kp w _ := (Kp.alloc' (Kp.alloc' (Kp.alloc' (Below.refl w.heap.size w) (.cells #[.bool b1, .slice ao1 n1 c1] 60)) (.cells #[.bool b2, .slice ao2 n2 c2] 60)) (.cells #[.bool false, .slice none 0 0] 60))
 have sf0 : Sf 2 w _ := (Sf.alloc (Sf.alloc (Sf.alloc (Sf.refl 2 w) (.cells #[.bool b1, .slice ao1 n1 c1] 60)) (.cells #[.bool b2, .slice ao2 n2 c2] 60)) (.cells #[.bool false, .slice none 0 0] 60))
 refine (sign_any y _ _ (hy.soft sf0)).mono ?_
 rintro e w1 ⟨rfl, hk1⟩
 have kq0 := kp0.trans' hk1
 have sq0 := sf0.trans (Sf.keep hk1)
 have B1p1 : Blk w1 (w.heap.size) #[.bool b1, .slice ao1 n1 c1] 60 := Blk.keep hk1 (Blk.at (Blk.alloc (Blk.alloc (Blk.new _ _ _) _) _) (by simp))
 have B1p2 : Blk w1 (w.heap.size + 1) #[.bool b2, .slice ao2 n2 c2] 60 := Blk.keep hk1 (Blk.at (Blk.alloc (Blk.new _ _ _) _) (by simp))
 have B1res : Blk w1 (w.heap.size + 1 + 1) #[.bool false, .slice none 0 0] 60 := Blk.keep hk1 (Blk.at (Blk.new _ _ _) (by simp))
 have B1p1c := B1p1.cell
 have B1p1f := B1p1.frozen
 have B1p1l := B1p1.lt
 have ge1p1 : w.heap.size ≤ w.heap.size := by (first | omega | (have := kp0.size; simp only [World.size_alloc, size_setCell', size_drew'] at this; omega))
 have B1p2c := B1p2.cell
 have B1p2f := B1p2.frozen
 have B1p2l := B1p2.lt
 have ge1p2 : w.heap.size ≤ w.heap.size + 1 := by (first | omega | (have := kp0.size; simp only [World.size_alloc, size_setCell', size_drew'] at this; omega))
 have B1resc := B1res.cell
 have B1resf := B1res.frozen
 have B1resl := B1res.lt
 have ge1res : w.heap.size ≤ w.heap.size + 1 + 1 := by (first | omega | (have := kp0.size; simp only [World.size_alloc, size_setCell', size_drew'] at this; omega))
 replace hx := hx.soft sq0
 replace hy := hy.soft sq0
 generalize y.sign = sg at *
 go_wp2_with fail
 have kp1 : Kp w _ := kq0
 have sf1 : Sf 2 w1 _ := (Sf.refl 2 w1)
 refine (negate_any y _ _ (hy.soft sf1) (fy.fit (by omega))).mono ?_
 rintro e w2 ⟨v3, rfl, hn, hk2⟩
 obtain ⟨b3, ao3, n3, c3, rfl⟩ := hn.shape'
 have kq1 := kp1.trans' hk2
 have sq1 := sf1.trans (Sf.keep hk2)
 have B2p1 : Blk w2 (w.heap.size) #[.bool b1, .slice ao1 n1 c1] 60 := Blk.keep hk2 B1p1
 have B2p2 : Blk w2 (w.heap.size + 1) #[.bool b2, .slice ao2 n2 c2] 60 := Blk.keep hk2 B1p2
 have B2res : Blk w2 (w.heap.size + 1 + 1) #[.bool false, .slice none 0 0] 60 := Blk.keep hk2 B1res
 have B2p1c := B2p1.cell
 have B2p1f := B2p1.frozen
 have B2p1l := B2p1.lt
 have ge2p1 : w.heap.size ≤ w.heap.size := by (first | omega | (have := kp1.size; simp only [World.size_alloc, size_setCell', size_drew'] at this; omega))
 have B2p2c := B2p2.cell
 have B2p2f := B2p2.frozen
 have B2p2l := B2p2.lt
 have ge2p2 : w.heap.size ≤ w.heap.size + 1 := by (first | omega | (have := kp1.size; simp only [World.size_alloc, size_setCell', size_drew'] at this; omega))
 have B2resc := B2res.cell
 have B2resf := B2res.frozen
 have B2resl := B2res.lt
 have ge2res : w.heap.size ≤ w.heap.size + 1 + 1 := by (first | omega | (have := kp1.size; simp only [World.size_alloc, size_setCell', size_drew'] at this; omega))
 replace hx := hx.soft sq1
 clear B1p1 B1p1c B1p1f B1p2 B1p2c B1p2f B1res B1resc B1resf
 go_wp2_with fail
 have kp2 : Kp w _ := (stK2 (A := w.heap.size + 1) (.bool b3) (.slice ao3 n3 c3) kq1 (by have := ge2p2; omega))
 have sf2 : Sf 2 w2 _ := (stS2 (E := 2) (.bool b3) (.slice ao3 n3 c3) B2p2 (by decide))
 refine (floor_any x (-y) m _ _ _ (hx.soft sf2) (hn.soft sf2) (by omega) fx fy.neg (by omega)).mono ?_
 rintro e w3 ⟨v4, rfl, hf, hk3⟩
 obtain ⟨b4, ao4, n4, c4, rfl⟩ := hf.shape'
 have kq2 := kp2.trans' hk3
 have sq2 := sf2.trans (Sf.keep hk3)
 have B3p1 : Blk w3 (w.heap.size) #[.bool b1, .slice ao1 n1 c1] 60 := Blk.keep hk3 (Blk.other (Blk.other B2p1 (by omega)) (by omega))
 have B3p2 : Blk w3 (w.heap.size + 1) #[.bool b3, .slice ao3 n3 c3] 60 := Blk.keep hk3 (Blk.set (Blk.set B2p2))
 have B3res : Blk w3 (w.heap.size + 1 + 1) #[.bool false, .slice none 0 0] 60 := Blk.keep hk3 (Blk.other (Blk.other B2res (by omega)) (by omega))
 have B3p1c := B3p1.cell
 have B3p1f := B3p1.frozen
 have B3p1l := B3p1.lt
 have ge3p1 : w.heap.size ≤ w.heap.size := by (first | omega | (have := kp2.size; simp only [World.size_alloc, size_setCell', size_drew'] at this; omega))
 have B3p2c := B3p2.cell
 have B3p2f := B3p2.frozen
 have B3p2l := B3p2.lt
 have B3resc := B3res.cell
 have B3resf := B3res.frozen
 have B3resl := B3res.lt
 have ge3res : w.heap.size ≤ w.heap.size + 1 + 1 := by (first | omega | (have := kp2.size; simp only [World.size_alloc, size_setCell', size_drew'] at this; omega))
 replace hx := hx.soft sq2
 replace hn := hn.soft sq2
 clear B2p1 B2p1c B2p1f B2p2 B2p2c B2p2f B2res B2resc B2resf
 go_wp2_with fail
 have kp3 : Kp w _ := (Kp.alloc' kq2 (.cells #[.bool b4, .slice ao4 n4 c4] 60))
 have sf3 : Sf 2 w3 _ := (Sf.alloc (Sf.refl 2 w3) (.cells #[.bool b4, .slice ao4 n4 c4] 60))
 refine (multiply_any (fl x (-y)) (-y) _ _ _ (hf.soft sf3) (hn.soft sf3) (fF.fit (by omega)) (fy.neg.fit (by omega))).mono ?_
 rintro e w4 ⟨v5, rfl, ht, hk4⟩
 obtain ⟨b5, ao5, n5, c5, rfl⟩ := ht.shape'
 have kq3 := kp3.trans' hk4
 have sq3 := sf3.trans (Sf.keep hk4)
 have B4p1 : Blk w4 (w.heap.size) #[.bool b1, .slice ao1 n1 c1] 60 := Blk.keep hk4 (Blk.alloc B3p1 _)
 have B4res : Blk w4 (w.heap.size + 1 + 1) #[.bool false, .slice none 0 0] 60 := Blk.keep hk4 (Blk.alloc B3res _)
 have B4p1c := B4p1.cell
 have B4p1f := B4p1.frozen
 have B4p1l := B4p1.lt
 have B4resc := B4res.cell
 have B4resf := B4res.frozen
 have B4resl := B4res.lt
 have ge4res : w.heap.size ≤ w.heap.size + 1 + 1 := by (first | omega | (have := kp3.size; simp only [World.size_alloc, size_setCell', size_drew'] at this; omega))
 replace hx := hx.soft sq3
 clear B3p1 B3p1c B3p1f B3p2 B3p2c B3p2f B3res B3resc B3resf
 go_wp2_with fail
 have kp4 : Kp w _ := (Kp.alloc' kq3 (.cells #[.bool b5, .slice ao5 n5 c5] 60))
 have sf4 : Sf 2 w4 _ := (Sf.alloc (Sf.refl 2 w4) (.cells #[.bool b5, .slice ao5 n5 c5] 60))
 refine (wsub_any x (fl x (-y) * (-y)) _ _ _ (hx.soft sf4) (ht.soft sf4) (fx.fit (by omega)) ((fF.mul fy.neg).fit (by omega))).mono ?_
 rintro e w5 ⟨v6, rfl, hr, hk5⟩
 obtain ⟨b6, ao6, n6, c6, rfl⟩ := hr.shape'
 rw [HE.out] at hr
 have kq4 := kp4.trans' hk5
 have sq4 := sf4.trans (Sf.keep hk5)
 have B5res : Blk w5 (w.heap.size + 1 + 1) #[.bool false, .slice none 0 0] 60 := Blk.keep hk5 (Blk.alloc B4res _)
 have B5resc := B5res.cell
 have B5resf := B5res.frozen
 have B5resl := B5res.lt
 have ge5res : w.heap.size ≤ w.heap.size + 1 + 1 := by (first | omega | (have := kp4.size; simp only [World.size_alloc, size_setCell', size_drew'] at this; omega))
 clear B4p1 B4p1c B4p1f B4res B4resc B4resf
 go_wp2_with fail
 refine bodyPost_ret (v := .agg #[.bool b6, .slice ao6 n6 c6]) (by simp [results, Tryd.results82, go_sem, B5resc]) rfl ?_
 have kpE : Kp w _ := (stK2 (A := w.heap.size + 1 + 1) (.bool b6) (.slice ao6 n6 c6) kq4 (by have := ge5res; omega))
 have sfE : Sf 2 w5 _ := (stS2 (E := 2) (.bool b6) (.slice ao6 n6 c6) B5res (by decide))
 exact retW_mk hr sfE kpE

set_option maxHeartbeats 1600000 in
set_option maxRecDepth 100000 in
theorem least_pos (x y : Int) (m : Nat) (u v : Value) (w : World) (hx : WN w u x) (hy : WN w v y) (hm : m ≤ 1000000) (fx : Ft m x) (fy : Ft m y) (h : 0 < y) :
  Calls Tryd.prog 82 #[u, v] w (RetW w (x % y)) := by
 obtain ⟨b1, ao1, n1, c1, rfl⟩ := hx.shape'
 obtain ⟨b2, ao2, n2, c2, rfl⟩ := hy.shape'
 have HE := Hid.mk (fl_emod (x := x) (y := y) (by omega))
 have hsg : ¬ y.sign < 0 := by
  rw [Int.sign_eq_one_of_pos h]; decide
 have fF : Ft m (fl x y) := fx.le (fl_abs _ _)
 go_enter Tryd.func82, Tryd.ntmps82
 go_wp2_with fail
 have kp0 : Kp w _ := (Kp.alloc' (Kp.alloc' (Kp.alloc' (Below.refl w.heap.size w) (.cells #[.bool b1, .slice ao1 n1 c1] 60)) (.cells #[.bool b2, .slice ao2 n2 c2] 60)) (.cells #[.bool false, .slice none 0 0] 60))
 have sf0 : Sf 2 w _ := (Sf.alloc (Sf.alloc (Sf.alloc (Sf.refl 2 w) (.cells #[.bool b1, .slice ao1 n1 c1] 60)) (.cells #[.bool b2, .slice ao2 n2 c2] 60)) (.cells #[.bool false, .slice none 0 0] 60))
 refine (sign_any y _ _ (hy.soft sf0)).mono ?_
 rintro e w1 ⟨rfl, hk1⟩
 have kq0 := kp0.trans' hk1
 have sq0 := sf0.trans (Sf.keep hk1)
 have B1p1 : Blk w1 (w.heap.size) #[.bool b1, .slice ao1 n1 c1] 60 := Blk.keep hk1 (Blk.at (Blk.alloc (Blk.alloc (Blk.new _ _ _) _) _) (by simp))
 have B1p2 : Blk w1 (w.heap.size + 1) #[.bool b2, .slice ao2 n2 c2] 60 := Blk.keep hk1 (Blk.at (Blk.alloc (Blk.new _ _ _) _) (by simp))
 have B1res : Blk w1 (w.heap.size + 1 + 1) #[.bool false, .slice none 0 0] 60 := Blk.keep hk1 (Blk.at (Blk.new _ _ _) (by simp))
 have B1p1c := B1p1.cell
 have B1p1f := B1p1.frozen
 have B1p1l := B1p1.lt
 have B1p2c := B1p2.cell
 have B1p2f := B1p2.frozen
 have B1p2l := B1p2.lt
 have B1resc := B1res.cell
 have B1resf := B1res.frozen
 have B1resl := B1res.lt
 replace hx := hx.soft sq0
 replace hy := hy.soft sq0
 generalize y.sign = sg at *
 go_wp2_with fail
 have kp1 : Kp w _ := kq0
 have sf1 : Sf 2 w1 _ := (Sf.refl 2 w1)
 refine (floor_any x y m _ _ _ (hx.soft sf1) (hy.soft sf1) (by omega) fx fy (by omega)).mono ?_
 rintro e w2 ⟨v4, rfl, hf, hk2⟩
 obtain ⟨b4, ao4, n4, c4, rfl⟩ := hf.shape'
 have kq1 := kp1.trans' hk2
 have sq1 := sf1.trans (Sf.keep hk2)
 have B2p1 : Blk w2 (w.heap.size) #[.bool b1, .slice ao1 n1 c1] 60 := Blk.keep hk2 B1p1
 have B2p2 : Blk w2 (w.heap.size + 1) #[.bool b2, .slice ao2 n2 c2] 60 := Blk.keep hk2 B1p2
 have B2res : Blk w2 (w.heap.size + 1 + 1) #[.bool false, .slice none 0 0] 60 := Blk.keep hk2 B1res
 have B2p1c := B2p1.cell
 have B2p1f := B2p1.frozen
 have B2p1l := B2p1.lt
 have B2p2c := B2p2.cell
 have B2p2f := B2p2.frozen
 have B2p2l := B2p2.lt
 have B2resc := B2res.cell
 have B2resf := B2res.frozen
 have B2resl := B2res.lt
 replace hx := hx.soft sq1
 replace hy := hy.soft sq1
 clear B1p1 B1p1c B1p1f B1p2 B1p2c B1p2f B1res B1resc B1resf
 go_wp2_with fail
 have kp2 : Kp w _ := (Kp.alloc' kq1 (.cells #[.bool b4, .slice ao4 n4 c4] 60))
 have sf2 : Sf 2 w2 _ := (Sf.alloc (Sf.refl 2 w2) (.cells #[.bool b4, .slice ao4 n4 c4] 60))
 refine (multiply_any (fl x y) y _ _ _ (hf.soft sf2) (hy.soft sf2) (fF.fit (by omega)) (fy.fit (by omega))).mono ?_
 rintro e w3 ⟨v5, rfl, ht, hk3⟩
 obtain ⟨b5, ao5, n5, c5, rfl⟩ := ht.shape'
 have kq2 := kp2.trans' hk3
 have sq2 := sf2.trans (Sf.keep hk3)
 have B3p1 : Blk w3 (w.heap.size) #[.bool b1, .slice ao1 n1 c1] 60 := Blk.keep hk3 (Blk.alloc B2p1 _)
 have B3res : Blk w3 (w.heap.size + 1 + 1) #[.bool false, .slice none 0 0] 60 := Blk.keep hk3 (Blk.alloc B2res _)
 have B3p1c := B3p1.cell
 have B3p1f := B3p1.frozen
 have B3p1l := B3p1.lt
 have B3resc := B3res.cell
 have B3resf := B3res.frozen
 have B3resl := B3res.lt
 replace hx := hx.soft sq2
 clear B2p1 B2p1c B2p1f B2p2 B2p2c B2p2f B2res B2resc B2resf
 go_wp2_with fail
 have kp3 : Kp w _ := (Kp.alloc' kq2 (.cells #[.bool b5, .slice ao5 n5 c5] 60))
 have sf3 : Sf 2 w3 _ := (Sf.alloc (Sf.refl 2 w3) (.cells #[.bool b5, .slice ao5 n5 c5] 60))
 refine (wsub_any x (fl x y * y) _ _ _ (hx.soft sf3) (ht.soft sf3) (fx.fit (by omega)) ((fF.mul fy).fit (by omega))).mono ?_
 rintro e w4 ⟨v6, rfl, hr, hk4⟩
 obtain ⟨b6, ao6, n6, c6, rfl⟩ := hr.shape'
 rw [HE.out] at hr
 have kq3 := kp3.trans' hk4
 have sq3 := sf3.trans (Sf.keep hk4)
 have B4res : Blk w4 (w.heap.size + 1 + 1) #[.bool false, .slice none 0 0] 60 := Blk.keep hk4 (Blk.alloc B3res _)
 have B4resc := B4res.cell
 have B4resf := B4res.frozen
 have B4resl := B4res.lt
 have ge4res : w.heap.size ≤ w.heap.size + 1 + 1 := by (first | omega | (have := kp3.size; simp only [World.size_alloc, size_setCell', size_drew'] at this; omega))
 clear B3p1 B3p1c B3p1f B3res B3resc B3resf
 go_wp2_with fail
 refine bodyPost_ret (v := .agg #[.bool b6, .slice ao6 n6 c6]) (by simp [results, Tryd.results82, go_sem, B4resc]) rfl ?_
 have kpE : Kp w _ := (stK2 (A := w.heap.size + 1 + 1) (.bool b6) (.slice ao6 n6 c6) kq3 (by have := ge4res; omega))
 have sfE : Sf 2 w4 _ := (stS2 (E := 2) (.bool b6) (.slice ao6 n6 c6) B4res (by decide))
 exact retW_mk hr sfE kpE

theorem least_any (x y : Int) (m : Nat) (u v : Value) (w : World) (hx : WN w u x) (hy : WN w v y) (hm : m ≤ 1000000) (fx : Ft m x) (fy : Ft m y) (h : y ≠ 0) : Calls Tryd.prog 82 #[u, v] w (RetW w (x % (y.natAbs : Int))) := by
 by_cases h0 : y < 0
 ·rw [show (y.natAbs : Int) = -y by omega]
  exact least_neg x y m u v w hx hy hm fx fy h0
 ·rw [show (y.natAbs : Int) = y by omega]
  exact least_pos x y m u v w hx hy hm fx fy (by omega)

end Go.Proofs.YtjahbjjekednfabDoor

namespace Go.Proofs.YtjahbjjekednfabDoor
open Go.RowKit

/-- A call that returns two numbers that solve ax + by = c, or tells that there are none. -/
def RetSv (w : World) (a b c : Int) (e : Ending) (w' : World) : Prop :=
 ((∃ u v x y, e = .returned (.tuple #[u, v, .bool true]) ∧ WN w' u x ∧ WN w' v y ∧ Hid (Sol a b c x y ∧ x.natAbs ≤ a.natAbs + b.natAbs + c.natAbs + (b.natAbs + 1) * c.natAbs ∧ y.natAbs ≤ c.natAbs + a.natAbs * b.natAbs)) ∨
  (∃ b5 ao5 n5 c5 b6 ao6 n6 c6, e = .returned (.tuple #[.agg #[.bool b5, .slice ao5 n5 c5], .agg #[.bool b6, .slice ao6 n6 c6], .bool false]) ∧ Hid (∀ x y, a * x + b * y ≠ c))) ∧ Kp w w'
theorem tdiv_le (x y : Int) : (x.tdiv y).natAbs ≤ x.natAbs := by
 rw [Int.natAbs_tdiv]
 exact Nat.div_le_self _ _

set_option maxHeartbeats 6400000 in
set_option maxRecDepth 100000 in
theorem solve_any (a b c : Int) (m : Nat) (u v z : Value) (w : World) (ha : WN w u a) (hb : WN w v b) (hc : WN w z c) (hm : m ≤ 100000) (fa : Ft m a) (fb : Ft m b) (fc : Ft m c) (h0 : ¬ (a = 0 ∧ b = 0)) : Calls Tryd.prog 49 #[u, v, z] w (RetSv w a b c) := by
 obtain ⟨b1, ao1, n1, c1, rfl⟩ := ha.shape'
 obtain ⟨b2, ao2, n2, c2, rfl⟩ := hb.shape'
 obtain ⟨b3, ao3, n3, c3, rfl⟩ := hc.shape'
 have H0 := Hid.mk h0
 clear h0
 have hkw : Kp w (((((w.alloc (.cells #[.bool b1, .slice ao1 n1 c1] 60)).alloc (.cells #[.bool b2, .slice ao2 n2 c2] 60)).alloc (.cells #[.bool b3, .slice ao3 n3 c3] 60)).alloc (.cells #[.bool false, .slice none 0 0] 60)).alloc (.cells #[.bool false, .slice none 0 0] 60)) := Kp.alloc' (Kp.alloc' (Kp.alloc' (Kp.alloc' (kp_alloc w _) _) _) _) _
 have Ba : Blk (((((w.alloc (.cells #[.bool b1, .slice ao1 n1 c1] 60)).alloc (.cells #[.bool b2, .slice ao2 n2 c2] 60)).alloc (.cells #[.bool b3, .slice ao3 n3 c3] 60)).alloc (.cells #[.bool false, .slice none 0 0] 60)).alloc (.cells #[.bool false, .slice none 0 0] 60)) (w.heap.size) #[.bool b1, .slice ao1 n1 c1] 60 := (Blk.alloc (Blk.alloc (Blk.alloc (Blk.alloc (Blk.new w _ _) (.cells #[.bool b2, .slice ao2 n2 c2] 60)) (.cells #[.bool b3, .slice ao3 n3 c3] 60)) (.cells #[.bool false, .slice none 0 0] 60)) (.cells #[.bool false, .slice none 0 0] 60))
 have Bb : Blk (((((w.alloc (.cells #[.bool b1, .slice ao1 n1 c1] 60)).alloc (.cells #[.bool b2, .slice ao2 n2 c2] 60)).alloc (.cells #[.bool b3, .slice ao3 n3 c3] 60)).alloc (.cells #[.bool false, .slice none 0 0] 60)).alloc (.cells #[.bool false, .slice none 0 0] 60)) (w.heap.size + 1) #[.bool b2, .slice ao2 n2 c2] 60 := (Blk.alloc (Blk.alloc (Blk.alloc (Blk.at (Blk.new (w.alloc (.cells #[.bool b1, .slice ao1 n1 c1] 60)) _ _) (by simp)) (.cells #[.bool b3, .slice ao3 n3 c3] 60)) (.cells #[.bool false, .slice none 0 0] 60)) (.cells #[.bool false, .slice none 0 0] 60))
 have Bc : Blk (((((w.alloc (.cells #[.bool b1, .slice ao1 n1 c1] 60)).alloc (.cells #[.bool b2, .slice ao2 n2 c2] 60)).alloc (.cells #[.bool b3, .slice ao3 n3 c3] 60)).alloc (.cells #[.bool false, .slice none 0 0] 60)).alloc (.cells #[.bool false, .slice none 0 0] 60)) (w.heap.size + 1 + 1) #[.bool b3, .slice ao3 n3 c3] 60 := (Blk.alloc (Blk.alloc (Blk.at (Blk.new ((w.alloc (.cells #[.bool b1, .slice ao1 n1 c1] 60)).alloc (.cells #[.bool b2, .slice ao2 n2 c2] 60)) _ _) (by simp)) (.cells #[.bool false, .slice none 0 0] 60)) (.cells #[.bool false, .slice none 0 0] 60))
 have Br : Blk (((((w.alloc (.cells #[.bool b1, .slice ao1 n1 c1] 60)).alloc (.cells #[.bool b2, .slice ao2 n2 c2] 60)).alloc (.cells #[.bool b3, .slice ao3 n3 c3] 60)).alloc (.cells #[.bool false, .slice none 0 0] 60)).alloc (.cells #[.bool false, .slice none 0 0] 60)) (w.heap.size + 1 + 1 + 1) #[.bool false, .slice none 0 0] 60 := (Blk.alloc (Blk.at (Blk.new (((w.alloc (.cells #[.bool b1, .slice ao1 n1 c1] 60)).alloc (.cells #[.bool b2, .slice ao2 n2 c2] 60)).alloc (.cells #[.bool b3, .slice ao3 n3 c3] 60)) _ _) (by simp)) (.cells #[.bool false, .slice none 0 0] 60))
 have Bq : Blk (((((w.alloc (.cells #[.bool b1, .slice ao1 n1 c1] 60)).alloc (.cells #[.bool b2, .slice ao2 n2 c2] 60)).alloc (.cells #[.bool b3, .slice ao3 n3 c3] 60)).alloc (.cells #[.bool false, .slice none 0 0] 60)).alloc (.cells #[.bool false, .slice none 0 0] 60)) (w.heap.size + 1 + 1 + 1 + 1) #[.bool false, .slice none 0 0] 60 := (Blk.at (Blk.new ((((w.alloc (.cells #[.bool b1, .slice ao1 n1 c1] 60)).alloc (.cells #[.bool b2, .slice ao2 n2 c2] 60)).alloc (.cells #[.bool b3, .slice ao3 n3 c3] 60)).alloc (.cells #[.bool false, .slice none 0 0] 60)) _ _) (by simp))
 replace ha := ha.soft (Sf.keep hkw)
 replace hb := hb.soft (Sf.keep hkw)
 replace hc := hc.soft (Sf.keep hkw)
 go_enter Tryd.func49, Tryd.ntmps49
 skip
 go_wp2_with fail
 refine (fromInt_any 0 _ (by decide) (by decide)).mono ?_
 rintro e w11 ⟨v9, rfl, hn, hk1⟩
 obtain ⟨b9, ao9, n9, c9, rfl⟩ := hn.shape'
 have ka1 : Kp w11 (w11.alloc (.cells #[.bool b9, .slice ao9 n9 c9] 60)) := (kp_alloc w11 _)
 have kk1 := hk1.trans' ka1
 have lta1 := (Ba.keep hk1).lt
 have ltb1 := (Bb.keep hk1).lt
 have ltc1 := (Bc.keep hk1).lt
 have ltr1 := (Br.keep hk1).lt
 have ltq1 := (Bq.keep hk1).lt
 replace Ba := Ba.keep kk1
 replace Bb := Bb.keep kk1
 replace Bc := Bc.keep kk1
 replace Br := Br.keep kk1
 replace Bq := Bq.keep kk1
 replace ha := ha.soft (Sf.keep kk1)
 replace hb := hb.soft (Sf.keep kk1)
 replace hc := hc.soft (Sf.keep kk1)
 replace hn := hn.soft (Sf.keep ka1)
 replace hkw := hkw.trans' kk1
 have Bn : Blk (w11.alloc (.cells #[.bool b9, .slice ao9 n9 c9] 60)) (w11.heap.size) #[.bool b9, .slice ao9 n9 c9] 60 := (Blk.new w11 _ _)
 clear hk1 ka1 kk1
 have ac := Ba.cell
 have al := Ba.lt
 have bc := Bb.cell
 have bl := Bb.lt
 go_wp2_with fail
 generalize (w11.alloc (.cells #[.bool b9, .slice ao9 n9 c9] 60)) = x11 at *
 generalize w11.heap.size = An at *
 refine (share_any a b m _ _ _ ha hb (by omega) fa fb).mono ?_
 rintro e w12 ⟨v10, v11, g, x, rfl, hg, hx, HG, hk2⟩
 obtain ⟨b10, ao10, n10, c10, rfl⟩ := hg.shape'
 obtain ⟨b11, ao11, n11, c11, rfl⟩ := hx.shape'
 clear ac bc al bl
 have ka2 : Kp w12 ((w12.alloc (.cells #[.bool b10, .slice ao10 n10 c10] 60)).alloc (.cells #[.bool b11, .slice ao11 n11 c11] 60)) := (Kp.alloc' (kp_alloc w12 _) _)
 have kk2 := hk2.trans' ka2
 have lta2 := (Ba.keep hk2).lt
 have ltb2 := (Bb.keep hk2).lt
 have ltc2 := (Bc.keep hk2).lt
 have ltr2 := (Br.keep hk2).lt
 have ltq2 := (Bq.keep hk2).lt
 have ltn2 := (Bn.keep hk2).lt
 replace Ba := Ba.keep kk2
 replace Bb := Bb.keep kk2
 replace Bc := Bc.keep kk2
 replace Br := Br.keep kk2
 replace Bq := Bq.keep kk2
 replace Bn := Bn.keep kk2
 replace ha := ha.soft (Sf.keep kk2)
 replace hb := hb.soft (Sf.keep kk2)
 replace hc := hc.soft (Sf.keep kk2)
 replace hn := hn.soft (Sf.keep kk2)
 replace hg := hg.soft (Sf.keep ka2)
 replace hx := hx.soft (Sf.keep ka2)
 replace hkw := hkw.trans' kk2
 have Bg : Blk ((w12.alloc (.cells #[.bool b10, .slice ao10 n10 c10] 60)).alloc (.cells #[.bool b11, .slice ao11 n11 c11] 60)) (w12.heap.size) #[.bool b10, .slice ao10 n10 c10] 60 := (Blk.alloc (Blk.new w12 _ _) _)
 have Bp : Blk ((w12.alloc (.cells #[.bool b10, .slice ao10 n10 c10] 60)).alloc (.cells #[.bool b11, .slice ao11 n11 c11] 60)) (w12.heap.size + 1) #[.bool b11, .slice ao11 n11 c11] 60 := (Blk.at (Blk.new (w12.alloc (.cells #[.bool b10, .slice ao10 n10 c10] 60)) _ _) (by simp))
 clear hk2 ka2 kk2
 have g0 : g ≠ 0 := fun e => by
  have h1 := HG.out.1
  rw [e] at h1
  exact H0.out (Int.gcd_eq_zero_iff.1 h1.symm)
 have fg : Ft m g := (Ft.gcd fa fb).le (by have := HG.out.1; simp only [Int.natAbs_natCast]; omega)
 have fx : Ft (m + 1) x := by
  have h1 := HG.out.2.2
  unfold Ft at *
  rw [Nat.pow_succ]
  omega
 have cc := Bc.cell
 have cl := Bc.lt
 have gc := Bg.cell
 have gl := Bg.lt
 go_wp2_with fail
 generalize ((w12.alloc (.cells #[.bool b10, .slice ao10 n10 c10] 60)).alloc (.cells #[.bool b11, .slice ao11 n11 c11] 60)) = x12 at *
 generalize hAp : w12.heap.size + 1 = Ap at *
 have lAp : w12.heap.size < Ap := by omega
 clear hAp
 generalize w12.heap.size = Ag at *
 refine (divide_any c g m _ _ _ hc hg (by omega) fc fg).mono ?_
 rintro e w13 ⟨v12, v13, rfl, ht, hl, hk3⟩
 obtain ⟨b12, ao12, n12, c12, rfl⟩ := ht.shape'
 obtain ⟨b13, ao13, n13, c13, rfl⟩ := hl.shape'
 clear cc gc cl gl
 have ka3 : Kp w13 ((w13.alloc (.cells #[.bool b12, .slice ao12 n12 c12] 60)).alloc (.cells #[.bool b13, .slice ao13 n13 c13] 60)) := (Kp.alloc' (kp_alloc w13 _) _)
 have kk3 := hk3.trans' ka3
 have lta3 := (Ba.keep hk3).lt
 have ltb3 := (Bb.keep hk3).lt
 have ltc3 := (Bc.keep hk3).lt
 have ltr3 := (Br.keep hk3).lt
 have ltq3 := (Bq.keep hk3).lt
 have ltn3 := (Bn.keep hk3).lt
 have ltg3 := (Bg.keep hk3).lt
 have ltp3 := (Bp.keep hk3).lt
 replace Ba := Ba.keep kk3
 replace Bb := Bb.keep kk3
 replace Bc := Bc.keep kk3
 replace Br := Br.keep kk3
 replace Bq := Bq.keep kk3
 replace Bn := Bn.keep kk3
 replace Bg := Bg.keep kk3
 replace Bp := Bp.keep kk3
 replace ha := ha.soft (Sf.keep kk3)
 replace hb := hb.soft (Sf.keep kk3)
 replace hc := hc.soft (Sf.keep kk3)
 replace hn := hn.soft (Sf.keep kk3)
 replace hg := hg.soft (Sf.keep kk3)
 replace hx := hx.soft (Sf.keep kk3)
 replace ht := ht.soft (Sf.keep ka3)
 replace hl := hl.soft (Sf.keep ka3)
 replace hkw := hkw.trans' kk3
 have Bt : Blk ((w13.alloc (.cells #[.bool b12, .slice ao12 n12 c12] 60)).alloc (.cells #[.bool b13, .slice ao13 n13 c13] 60)) (w13.heap.size) #[.bool b12, .slice ao12 n12 c12] 60 := (Blk.alloc (Blk.new w13 _ _) _)
 have Bl : Blk ((w13.alloc (.cells #[.bool b12, .slice ao12 n12 c12] 60)).alloc (.cells #[.bool b13, .slice ao13 n13 c13] 60)) (w13.heap.size + 1) #[.bool b13, .slice ao13 n13 c13] 60 := (Blk.at (Blk.new (w13.alloc (.cells #[.bool b12, .slice ao12 n12 c12] 60)) _ _) (by simp))
 clear hk3 ka3 kk3
 have lc := Bl.cell
 have ll := Bl.lt
 go_wp2_with fail
 generalize ((w13.alloc (.cells #[.bool b12, .slice ao12 n12 c12] 60)).alloc (.cells #[.bool b13, .slice ao13 n13 c13] 60)) = x13 at *
 generalize hAl : w13.heap.size + 1 = Al at *
 have lAl : w13.heap.size < Al := by omega
 clear hAl
 generalize w13.heap.size = At at *
 refine (sign_any (c.tmod g) _ _ hl).mono ?_
 rintro e w14 ⟨rfl, hk4⟩
 clear lc ll
 replace Ba := Ba.keep hk4
 replace Bb := Bb.keep hk4
 replace Bc := Bc.keep hk4
 replace Br := Br.keep hk4
 replace Bq := Bq.keep hk4
 replace Bn := Bn.keep hk4
 replace Bg := Bg.keep hk4
 replace Bp := Bp.keep hk4
 replace Bt := Bt.keep hk4
 replace Bl := Bl.keep hk4
 replace ha := ha.soft (Sf.keep hk4)
 replace hb := hb.soft (Sf.keep hk4)
 replace hc := hc.soft (Sf.keep hk4)
 replace hn := hn.soft (Sf.keep hk4)
 replace hg := hg.soft (Sf.keep hk4)
 replace hx := hx.soft (Sf.keep hk4)
 replace ht := ht.soft (Sf.keep hk4)
 replace hl := hl.soft (Sf.keep hk4)
 replace hkw := hkw.trans' hk4
 clear hk4
 by_cases hd : c.tmod g ≠ 0
 ·have hb2 : ((c.tmod g).sign != 0) = true := by
   rw [bne_iff_ne]
   exact fun e => hd (Int.sign_eq_zero_iff_zero.1 e)
  have HN := Hid.mk (fun x y => line_none (x := x) (y := y) HG.out.1 hd)
  clear hd
  generalize (c.tmod g).sign = sg at *
  have nc := Bn.cell
  have nl := Bn.lt
  go_wp2_with fail
  have rc := Br.cell
  have rf := Br.frozen
  have rl := Br.lt
  have qc := Bq.cell
  have qf := Bq.frozen
  have ql := Bq.lt
  go_region
  have Br1 := (ot2 (A := w.heap.size + 1 + 1 + 1 + 1) (.bool b9) (.slice ao9 n9 c9) (bl2 (.bool b9) (.slice ao9 n9 c9) Br) (by omega))
  have Bq0 := (ot2 (A := w.heap.size + 1 + 1 + 1) (.bool b9) (.slice ao9 n9 c9) Bq (by omega))
  have Bq1 := (bl2 (.bool b9) (.slice ao9 n9 c9) Bq0)
  have sfA := (sf2 (E := 2) (.bool b9) (.slice ao9 n9 c9) Br (by decide)).trans (sf2 (E := 2) (.bool b9) (.slice ao9 n9 c9) Bq0 (by decide))
  have hkn := (kp2 (A := w.heap.size + 1 + 1 + 1 + 1) (.bool b9) (.slice ao9 n9 c9) (kp2 (A := w.heap.size + 1 + 1 + 1) (.bool b9) (.slice ao9 n9 c9) hkw (by omega)) (by omega))
  clear rc rf rl qc qf ql Br Bq Bq0
  generalize ((((w14.setCell ⟨w.heap.size + 1 + 1 + 1, 0, none⟩ (.bool b9)).setCell ⟨w.heap.size + 1 + 1 + 1, 1, none⟩ (.slice ao9 n9 c9)).setCell ⟨w.heap.size + 1 + 1 + 1 + 1, 0, none⟩ (.bool b9)).setCell ⟨w.heap.size + 1 + 1 + 1 + 1, 1, none⟩ (.slice ao9 n9 c9)) = wz at *
  have rc := Br1.cell
  have qc := Bq1.cell
  have kd : Kp wz wz.drew := Kp.drew' (Below.refl _ _)
  go_wp2_with fail
  refine bodyPost_ret (v := .tuple #[.agg #[.bool b9, .slice ao9 n9 c9], .agg #[.bool b9, .slice ao9 n9 c9], .bool false]) (by simp [results, Tryd.results49, go_sem, rc, qc]) rfl ?_
  exact ⟨Or.inr ⟨_, _, _, _, _, _, _, _, rfl, HN.out⟩, Kp.drew' hkn⟩
 ·have hd' : c.tmod g = 0 := Classical.not_not.1 hd
  have hb2 : ((c.tmod g).sign != 0) = false := by rw [hd']; rfl
  obtain ⟨kk, hkk⟩ := HG.out.2.1
  have HP := Hid.mk (line_prog (x := x) (k := kk) HG.out.1 hkk hd')
  have ftm : Ft m (c.tdiv g) := fc.le (tdiv_le c g)
  have HTM := Hid.mk (tdiv_le c g)
  clear hd hd' hkk
  generalize (c.tmod g).sign = sg at *
  generalize hT : c.tdiv g = T at *
  replace hT := Hid.mk hT
  clear Bl
  have pc := Bp.cell
  have pl := Bp.lt
  have tc := Bt.cell
  have tl := Bt.lt
  go_wp2_with fail
  refine (multiply_any x T _ _ _ hx ht (fx.fit (by omega)) (ftm.fit (by omega))).mono ?_
  rintro e w15 ⟨v14, rfl, hX, hk5⟩
  obtain ⟨b14, ao14, n14, c14, rfl⟩ := hX.shape'
  clear pc tc pl tl
  have ka5 : Kp w15 (w15.alloc (.cells #[.bool b14, .slice ao14 n14 c14] 60)) := (kp_alloc w15 _)
  have kk5 := hk5.trans' ka5
  have lta5 := (Ba.keep hk5).lt
  have ltb5 := (Bb.keep hk5).lt
  have ltc5 := (Bc.keep hk5).lt
  have ltr5 := (Br.keep hk5).lt
  have ltq5 := (Bq.keep hk5).lt
  have ltn5 := (Bn.keep hk5).lt
  have ltg5 := (Bg.keep hk5).lt
  have ltp5 := (Bp.keep hk5).lt
  have ltt5 := (Bt.keep hk5).lt
  replace Ba := Ba.keep kk5
  replace Bb := Bb.keep kk5
  replace Bc := Bc.keep kk5
  replace Br := Br.keep kk5
  replace Bq := Bq.keep kk5
  replace Bn := Bn.keep kk5
  replace Bg := Bg.keep kk5
  replace Bp := Bp.keep kk5
  replace Bt := Bt.keep kk5
  replace ha := ha.soft (Sf.keep kk5)
  replace hb := hb.soft (Sf.keep kk5)
  replace hc := hc.soft (Sf.keep kk5)
  replace hn := hn.soft (Sf.keep kk5)
  replace hg := hg.soft (Sf.keep kk5)
  replace hX := hX.soft (Sf.keep ka5)
  replace hkw := hkw.trans' kk5
  have BX : Blk (w15.alloc (.cells #[.bool b14, .slice ao14 n14 c14] 60)) (w15.heap.size) #[.bool b14, .slice ao14 n14 c14] 60 := (Blk.new w15 _ _)
  clear hk5 ka5 kk5
  have bc := Bb.cell
  have bl := Bb.lt
  go_wp2_with fail
  generalize (w15.alloc (.cells #[.bool b14, .slice ao14 n14 c14] 60)) = x15 at *
  generalize w15.heap.size = AX at *
  refine (sign_any b _ _ hb).mono ?_
  rintro e w16 ⟨rfl, hk6⟩
  clear bc bl
  replace Ba := Ba.keep hk6
  replace Bb := Bb.keep hk6
  replace Bc := Bc.keep hk6
  replace Br := Br.keep hk6
  replace Bq := Bq.keep hk6
  replace Bn := Bn.keep hk6
  replace Bg := Bg.keep hk6
  replace Bp := Bp.keep hk6
  replace Bt := Bt.keep hk6
  replace BX := BX.keep hk6
  replace ha := ha.soft (Sf.keep hk6)
  replace hb := hb.soft (Sf.keep hk6)
  replace hc := hc.soft (Sf.keep hk6)
  replace hn := hn.soft (Sf.keep hk6)
  replace hg := hg.soft (Sf.keep hk6)
  replace hX := hX.soft (Sf.keep hk6)
  replace hkw := hkw.trans' hk6
  clear hk6
  by_cases hb0 : b = 0
  ·have hb3 : (b.sign == 0) = true := by rw [hb0]; rfl
   have HSOL := Hid.mk (HP.out.1 hb0)
   have hsz : (x * T).natAbs ≤ a.natAbs + b.natAbs + c.natAbs + (b.natAbs + 1) * c.natAbs := by
    have h1 := HG.out.2.2
    have h2 := HTM.out
    rw [Int.natAbs_mul]
    have := Nat.mul_le_mul h1 h2
    omega
   have HSZ := Hid.mk hsz
   clear hsz hb0
   generalize b.sign = sb at *
   have Xc := BX.cell
   have Xl := BX.lt
   have nc := Bn.cell
   have nl := Bn.lt
   go_wp2_with fail
   have rc := Br.cell
   have rf := Br.frozen
   have rl := Br.lt
   have qc := Bq.cell
   have qf := Bq.frozen
   have ql := Bq.lt
   go_region
   have Br1 := (ot2 (A := w.heap.size + 1 + 1 + 1 + 1) (.bool b9) (.slice ao9 n9 c9) (bl2 (.bool b14) (.slice ao14 n14 c14) Br) (by omega))
   have Bq0 := (ot2 (A := w.heap.size + 1 + 1 + 1) (.bool b14) (.slice ao14 n14 c14) Bq (by omega))
   have Bq1 := (bl2 (.bool b9) (.slice ao9 n9 c9) Bq0)
   have sfA := (sf2 (E := 2) (.bool b14) (.slice ao14 n14 c14) Br (by decide)).trans (sf2 (E := 2) (.bool b9) (.slice ao9 n9 c9) Bq0 (by decide))
   have hkn := (kp2 (A := w.heap.size + 1 + 1 + 1 + 1) (.bool b9) (.slice ao9 n9 c9) (kp2 (A := w.heap.size + 1 + 1 + 1) (.bool b14) (.slice ao14 n14 c14) hkw (by omega)) (by omega))
   clear rc rf rl qc qf ql Br Bq Bq0
   generalize ((((w16.setCell ⟨w.heap.size + 1 + 1 + 1, 0, none⟩ (.bool b14)).setCell ⟨w.heap.size + 1 + 1 + 1, 1, none⟩ (.slice ao14 n14 c14)).setCell ⟨w.heap.size + 1 + 1 + 1 + 1, 0, none⟩ (.bool b9)).setCell ⟨w.heap.size + 1 + 1 + 1 + 1, 1, none⟩ (.slice ao9 n9 c9)) = wz at *
   have rc := Br1.cell
   have qc := Bq1.cell
   have kd : Kp wz wz.drew := Kp.drew' (Below.refl _ _)
   go_wp2_with fail
   refine bodyPost_ret (v := .tuple #[.agg #[.bool b14, .slice ao14 n14 c14], .agg #[.bool b9, .slice ao9 n9 c9], .bool true]) (by simp [results, Tryd.results49, go_sem, rc, qc]) rfl ?_
   exact ⟨Or.inl ⟨_, _, _, 0, rfl, (hX.soft sfA).soft (Sf.keep kd), (hn.soft sfA).soft (Sf.keep kd), HSOL.out, HSZ.out, by simp⟩, Kp.drew' hkn⟩
  ·have hb3 : (b.sign == 0) = false := by
    rw [beq_eq_false_iff_ne]
    exact fun e => hb0 (Int.sign_eq_zero_iff_zero.1 e)
   obtain ⟨hs0, HSOL⟩ := HP.out.2 hb0
   replace HSOL := Hid.mk HSOL
   have fXX : Ft (m + 1 + m) (x * T) := fx.mul ftm
   have fst : Ft m (b.tdiv g) := fb.le (tdiv_le b g)
   have HST := Hid.mk (tdiv_le b g)
   generalize b.sign = sb at *
   generalize x * T = XT at *
   have bc := Bb.cell
   have bl := Bb.lt
   have gc := Bg.cell
   have gl := Bg.lt
   go_wp2_with fail
   refine (divide_any b g m _ _ _ hb hg (by omega) fb fg).mono ?_
   rintro e w17 ⟨v15, v16, rfl, hs, hu, hk7⟩
   obtain ⟨b15, ao15, n15, c15, rfl⟩ := hs.shape'
   obtain ⟨b16, ao16, n16, c16, rfl⟩ := hu.shape'
   clear bc gc bl gl
   have ka7 : Kp w17 ((w17.alloc (.cells #[.bool b15, .slice ao15 n15 c15] 60)).alloc (.cells #[.bool b16, .slice ao16 n16 c16] 60)) := (Kp.alloc' (kp_alloc w17 _) _)
   have kk7 := hk7.trans' ka7
   have lta7 := (Ba.keep hk7).lt
   have ltb7 := (Bb.keep hk7).lt
   have ltc7 := (Bc.keep hk7).lt
   have ltr7 := (Br.keep hk7).lt
   have ltq7 := (Bq.keep hk7).lt
   have ltn7 := (Bn.keep hk7).lt
   have ltg7 := (Bg.keep hk7).lt
   have ltp7 := (Bp.keep hk7).lt
   have ltt7 := (Bt.keep hk7).lt
   have ltX7 := (BX.keep hk7).lt
   replace Ba := Ba.keep kk7
   replace Bb := Bb.keep kk7
   replace Bc := Bc.keep kk7
   replace Br := Br.keep kk7
   replace Bq := Bq.keep kk7
   replace Bn := Bn.keep kk7
   replace Bg := Bg.keep kk7
   replace Bp := Bp.keep kk7
   replace Bt := Bt.keep kk7
   replace BX := BX.keep kk7
   replace ha := ha.soft (Sf.keep kk7)
   replace hb := hb.soft (Sf.keep kk7)
   replace hc := hc.soft (Sf.keep kk7)
   replace hn := hn.soft (Sf.keep kk7)
   replace hX := hX.soft (Sf.keep kk7)
   replace hs := hs.soft (Sf.keep ka7)
   replace hu := hu.soft (Sf.keep ka7)
   replace hkw := hkw.trans' kk7
   have Bs : Blk ((w17.alloc (.cells #[.bool b15, .slice ao15 n15 c15] 60)).alloc (.cells #[.bool b16, .slice ao16 n16 c16] 60)) (w17.heap.size) #[.bool b15, .slice ao15 n15 c15] 60 := (Blk.alloc (Blk.new w17 _ _) _)
   have Bu : Blk ((w17.alloc (.cells #[.bool b15, .slice ao15 n15 c15] 60)).alloc (.cells #[.bool b16, .slice ao16 n16 c16] 60)) (w17.heap.size + 1) #[.bool b16, .slice ao16 n16 c16] 60 := (Blk.at (Blk.new (w17.alloc (.cells #[.bool b15, .slice ao15 n15 c15] 60)) _ _) (by simp))
   clear hk7 ka7 kk7
   generalize b.tdiv g = S at *
   have Xc := BX.cell
   have Xl := BX.lt
   have sc := Bs.cell
   have sl := Bs.lt
   go_wp2_with fail
   generalize ((w17.alloc (.cells #[.bool b15, .slice ao15 n15 c15] 60)).alloc (.cells #[.bool b16, .slice ao16 n16 c16] 60)) = x17 at *
   generalize hAu : w17.heap.size + 1 = Au at *
   have lAu : w17.heap.size < Au := by omega
   clear hAu
   generalize w17.heap.size = As at *
   refine (least_any XT S (m + 1 + m) _ _ _ hX hs (by omega) fXX (fst.mono (by omega)) hs0).mono ?_
   rintro e w18 ⟨v17, rfl, hY, hk8⟩
   obtain ⟨b17, ao17, n17, c17, rfl⟩ := hY.shape'
   clear Xc sc Xl sl
   replace Ba := Ba.keep hk8
   replace Bb := Bb.keep hk8
   replace Bc := Bc.keep hk8
   replace Br := Br.keep hk8
   replace Bq := Bq.keep hk8
   replace Bn := Bn.keep hk8
   replace Bg := Bg.keep hk8
   replace Bp := Bp.keep hk8
   replace Bt := Bt.keep hk8
   replace BX := BX.keep hk8
   replace Bs := Bs.keep hk8
   replace Bu := Bu.keep hk8
   replace ha := ha.soft (Sf.keep hk8)
   replace hb := hb.soft (Sf.keep hk8)
   replace hc := hc.soft (Sf.keep hk8)
   replace hn := hn.soft (Sf.keep hk8)
   replace hkw := hkw.trans' hk8
   clear hk8
   have hm0 : 0 ≤ XT % (S.natAbs : Int) := Int.emod_nonneg _ (by omega)
   have hm1 : XT % (S.natAbs : Int) < (S.natAbs : Int) := Int.emod_lt_of_pos _ (by omega)
   have fY : Ft m (XT % (S.natAbs : Int)) := fst.le (by omega)
   have HYB : Hid ((XT % (S.natAbs : Int)).natAbs ≤ b.natAbs) := by unfold Hid; have := HST.out; omega
   clear hm0 hm1
   generalize XT % (S.natAbs : Int) = Y at *
   have Xc := BX.cell
   have Xl := BX.lt
   have Xf := BX.frozen
   clear Xc Xl Xf
   have Xc := BX.cell
   have Xf := BX.frozen
   have Xl := BX.lt
   have sfx := (sf2 (E := 2) (.bool b17) (.slice ao17 n17 c17) BX (by decide))
   replace hkw := (kp2 (A := AX) (.bool b17) (.slice ao17 n17 c17) hkw (by omega))
   replace Ba := (ot2 (A := AX) (.bool b17) (.slice ao17 n17 c17) Ba (by omega))
   replace Bb := (ot2 (A := AX) (.bool b17) (.slice ao17 n17 c17) Bb (by omega))
   replace Bc := (ot2 (A := AX) (.bool b17) (.slice ao17 n17 c17) Bc (by omega))
   replace Br := (ot2 (A := AX) (.bool b17) (.slice ao17 n17 c17) Br (by omega))
   replace Bq := (ot2 (A := AX) (.bool b17) (.slice ao17 n17 c17) Bq (by omega))
   replace Bn := (ot2 (A := AX) (.bool b17) (.slice ao17 n17 c17) Bn (by omega))
   replace Bg := (ot2 (A := AX) (.bool b17) (.slice ao17 n17 c17) Bg (by omega))
   replace Bp := (ot2 (A := AX) (.bool b17) (.slice ao17 n17 c17) Bp (by omega))
   replace Bt := (ot2 (A := AX) (.bool b17) (.slice ao17 n17 c17) Bt (by omega))
   replace Bs := (ot2 (A := AX) (.bool b17) (.slice ao17 n17 c17) Bs (by omega))
   replace Bu := (ot2 (A := AX) (.bool b17) (.slice ao17 n17 c17) Bu (by omega))
   replace BX := (bl2 (.bool b17) (.slice ao17 n17 c17) BX)
   replace ha := ha.soft sfx
   replace hb := hb.soft sfx
   replace hc := hc.soft sfx
   replace hn := hn.soft sfx
   replace hY := hY.soft sfx
   clear sfx
   have ac := Ba.cell
   have al := Ba.lt
   have Xc2 := BX.cell
   have Xl2 := BX.lt
   go_wp2_with fail
   clear Xc Xf Xl ac al Xc2 Xl2
   generalize ((w18.setCell ⟨AX, 0, none⟩ (.bool b17)).setCell ⟨AX, 1, none⟩ (.slice ao17 n17 c17)) = x18 at *
   refine (multiply_any a Y _ _ _ ha hY (fa.fit (by omega)) (fY.fit (by omega))).mono ?_
   rintro e w20 ⟨v18, rfl, hK, hk10⟩
   obtain ⟨b18, ao18, n18, c18, rfl⟩ := hK.shape'
   have ka10 : Kp w20 (w20.alloc (.cells #[.bool b18, .slice ao18 n18 c18] 60)) := (kp_alloc w20 _)
   have kk10 := hk10.trans' ka10
   have lta10 := (Ba.keep hk10).lt
   have ltb10 := (Bb.keep hk10).lt
   have ltc10 := (Bc.keep hk10).lt
   have ltr10 := (Br.keep hk10).lt
   have ltq10 := (Bq.keep hk10).lt
   have ltn10 := (Bn.keep hk10).lt
   have ltg10 := (Bg.keep hk10).lt
   have ltp10 := (Bp.keep hk10).lt
   have ltt10 := (Bt.keep hk10).lt
   have ltX10 := (BX.keep hk10).lt
   have lts10 := (Bs.keep hk10).lt
   have ltu10 := (Bu.keep hk10).lt
   replace Ba := Ba.keep kk10
   replace Bb := Bb.keep kk10
   replace Bc := Bc.keep kk10
   replace Br := Br.keep kk10
   replace Bq := Bq.keep kk10
   replace Bn := Bn.keep kk10
   replace Bg := Bg.keep kk10
   replace Bp := Bp.keep kk10
   replace Bt := Bt.keep kk10
   replace BX := BX.keep kk10
   replace Bs := Bs.keep kk10
   replace Bu := Bu.keep kk10
   replace ha := ha.soft (Sf.keep kk10)
   replace hb := hb.soft (Sf.keep kk10)
   replace hc := hc.soft (Sf.keep kk10)
   replace hn := hn.soft (Sf.keep kk10)
   replace hY := hY.soft (Sf.keep kk10)
   replace hK := hK.soft (Sf.keep ka10)
   replace hkw := hkw.trans' kk10
   have Bk : Blk (w20.alloc (.cells #[.bool b18, .slice ao18 n18 c18] 60)) (w20.heap.size) #[.bool b18, .slice ao18 n18 c18] 60 := (Blk.new w20 _ _)
   clear hk10 ka10 kk10
   have cc := Bc.cell
   have cl := Bc.lt
   have kc := Bk.cell
   have kl := Bk.lt
   go_wp2_with fail
   generalize (w20.alloc (.cells #[.bool b18, .slice ao18 n18 c18] 60)) = x20 at *
   generalize w20.heap.size = Ak at *
   refine (wsub_any c (a * Y) _ _ _ hc hK (fc.fit (by omega)) ((fa.mul fY).fit (by omega))).mono ?_
   rintro e w21 ⟨v19, rfl, hR, hk11⟩
   obtain ⟨b19, ao19, n19, c19, rfl⟩ := hR.shape'
   clear cc kc cl kl
   have ka11 : Kp w21 (w21.alloc (.cells #[.bool b19, .slice ao19 n19 c19] 60)) := (kp_alloc w21 _)
   have kk11 := hk11.trans' ka11
   have lta11 := (Ba.keep hk11).lt
   have ltb11 := (Bb.keep hk11).lt
   have ltc11 := (Bc.keep hk11).lt
   have ltr11 := (Br.keep hk11).lt
   have ltq11 := (Bq.keep hk11).lt
   have ltn11 := (Bn.keep hk11).lt
   have ltg11 := (Bg.keep hk11).lt
   have ltp11 := (Bp.keep hk11).lt
   have ltt11 := (Bt.keep hk11).lt
   have ltX11 := (BX.keep hk11).lt
   have lts11 := (Bs.keep hk11).lt
   have ltu11 := (Bu.keep hk11).lt
   have ltk11 := (Bk.keep hk11).lt
   replace Ba := Ba.keep kk11
   replace Bb := Bb.keep kk11
   replace Bc := Bc.keep kk11
   replace Br := Br.keep kk11
   replace Bq := Bq.keep kk11
   replace Bn := Bn.keep kk11
   replace Bg := Bg.keep kk11
   replace Bp := Bp.keep kk11
   replace Bt := Bt.keep kk11
   replace BX := BX.keep kk11
   replace Bs := Bs.keep kk11
   replace Bu := Bu.keep kk11
   replace Bk := Bk.keep kk11
   replace ha := ha.soft (Sf.keep kk11)
   replace hb := hb.soft (Sf.keep kk11)
   replace hc := hc.soft (Sf.keep kk11)
   replace hn := hn.soft (Sf.keep kk11)
   replace hY := hY.soft (Sf.keep kk11)
   replace hR := hR.soft (Sf.keep ka11)
   replace hkw := hkw.trans' kk11
   have Be : Blk (w21.alloc (.cells #[.bool b19, .slice ao19 n19 c19] 60)) (w21.heap.size) #[.bool b19, .slice ao19 n19 c19] 60 := (Blk.new w21 _ _)
   clear hk11 ka11 kk11
   have fR : Ft (m + m + 1) (c - a * Y) := by
    have := Ft.add (fc.mono (show m ≤ m + m by omega)) (fa.mul fY).neg
    rwa [← Int.sub_eq_add_neg] at this
   have ec := Be.cell
   have el := Be.lt
   have bc := Bb.cell
   have bl := Bb.lt
   go_wp2_with fail
   generalize (w21.alloc (.cells #[.bool b19, .slice ao19 n19 c19] 60)) = x21 at *
   generalize w21.heap.size = Ae at *
   refine (divide_any (c - a * Y) b (m + m + 1) _ _ _ hR hb (by omega) fR (fb.mono (by omega))).mono ?_
   rintro e w22 ⟨v20, v21, rfl, hV, hV2, hk12⟩
   obtain ⟨b20, ao20, n20, c20, rfl⟩ := hV.shape'
   obtain ⟨b21, ao21, n21, c21, rfl⟩ := hV2.shape'
   clear ec bc el bl
   have ka12 : Kp w22 ((w22.alloc (.cells #[.bool b20, .slice ao20 n20 c20] 60)).alloc (.cells #[.bool b21, .slice ao21 n21 c21] 60)) := (Kp.alloc' (kp_alloc w22 _) _)
   have kk12 := hk12.trans' ka12
   have lta12 := (Ba.keep hk12).lt
   have ltb12 := (Bb.keep hk12).lt
   have ltc12 := (Bc.keep hk12).lt
   have ltr12 := (Br.keep hk12).lt
   have ltq12 := (Bq.keep hk12).lt
   have ltn12 := (Bn.keep hk12).lt
   have ltg12 := (Bg.keep hk12).lt
   have ltp12 := (Bp.keep hk12).lt
   have ltt12 := (Bt.keep hk12).lt
   have ltX12 := (BX.keep hk12).lt
   have lts12 := (Bs.keep hk12).lt
   have ltu12 := (Bu.keep hk12).lt
   have ltk12 := (Bk.keep hk12).lt
   have lte12 := (Be.keep hk12).lt
   replace Ba := Ba.keep kk12
   replace Bb := Bb.keep kk12
   replace Bc := Bc.keep kk12
   replace Br := Br.keep kk12
   replace Bq := Bq.keep kk12
   replace Bn := Bn.keep kk12
   replace Bg := Bg.keep kk12
   replace Bp := Bp.keep kk12
   replace Bt := Bt.keep kk12
   replace BX := BX.keep kk12
   replace Bs := Bs.keep kk12
   replace Bu := Bu.keep kk12
   replace Bk := Bk.keep kk12
   replace Be := Be.keep kk12
   replace ha := ha.soft (Sf.keep kk12)
   replace hb := hb.soft (Sf.keep kk12)
   replace hc := hc.soft (Sf.keep kk12)
   replace hn := hn.soft (Sf.keep kk12)
   replace hY := hY.soft (Sf.keep kk12)
   replace hV := hV.soft (Sf.keep ka12)
   replace hV2 := hV2.soft (Sf.keep ka12)
   replace hkw := hkw.trans' kk12
   have Bv : Blk ((w22.alloc (.cells #[.bool b20, .slice ao20 n20 c20] 60)).alloc (.cells #[.bool b21, .slice ao21 n21 c21] 60)) (w22.heap.size) #[.bool b20, .slice ao20 n20 c20] 60 := (Blk.alloc (Blk.new w22 _ _) _)
   have Bf : Blk ((w22.alloc (.cells #[.bool b20, .slice ao20 n20 c20] 60)).alloc (.cells #[.bool b21, .slice ao21 n21 c21] 60)) (w22.heap.size + 1) #[.bool b21, .slice ao21 n21 c21] 60 := (Blk.at (Blk.new (w22.alloc (.cells #[.bool b20, .slice ao20 n20 c20] 60)) _ _) (by simp))
   clear hk12 ka12 kk12
   have HSZ2 : Hid (((c - a * Y).tdiv b).natAbs ≤ c.natAbs + a.natAbs * b.natAbs) := by
    unfold Hid
    have h1 := tdiv_le (c - a * Y) b
    have h2 : (a * Y).natAbs ≤ a.natAbs * b.natAbs := by rw [Int.natAbs_mul]; exact Nat.mul_le_mul_left _ HYB.out
    omega
   have HSZ1 : Hid (Y.natAbs ≤ a.natAbs + b.natAbs + c.natAbs + (b.natAbs + 1) * c.natAbs) := by unfold Hid; have := HYB.out; omega
   have Xc := BX.cell
   have Xl := BX.lt
   have vc := Bv.cell
   have vl := Bv.lt
   go_wp2_with fail
   generalize ((w22.alloc (.cells #[.bool b20, .slice ao20 n20 c20] 60)).alloc (.cells #[.bool b21, .slice ao21 n21 c21] 60)) = x22 at *
   generalize hAf : w22.heap.size + 1 = Af at *
   have lAf : w22.heap.size < Af := by omega
   clear hAf
   generalize w22.heap.size = Av at *
   have rc := Br.cell
   have rf := Br.frozen
   have rl := Br.lt
   have qc := Bq.cell
   have qf := Bq.frozen
   have ql := Bq.lt
   go_region
   have Br1 := (ot2 (A := w.heap.size + 1 + 1 + 1 + 1) (.bool b20) (.slice ao20 n20 c20) (bl2 (.bool b17) (.slice ao17 n17 c17) Br) (by omega))
   have Bq0 := (ot2 (A := w.heap.size + 1 + 1 + 1) (.bool b17) (.slice ao17 n17 c17) Bq (by omega))
   have Bq1 := (bl2 (.bool b20) (.slice ao20 n20 c20) Bq0)
   have sfA := (sf2 (E := 2) (.bool b17) (.slice ao17 n17 c17) Br (by decide)).trans (sf2 (E := 2) (.bool b20) (.slice ao20 n20 c20) Bq0 (by decide))
   have hkn := (kp2 (A := w.heap.size + 1 + 1 + 1 + 1) (.bool b20) (.slice ao20 n20 c20) (kp2 (A := w.heap.size + 1 + 1 + 1) (.bool b17) (.slice ao17 n17 c17) hkw (by omega)) (by omega))
   clear rc rf rl qc qf ql Br Bq Bq0
   generalize ((((x22.setCell ⟨w.heap.size + 1 + 1 + 1, 0, none⟩ (.bool b17)).setCell ⟨w.heap.size + 1 + 1 + 1, 1, none⟩ (.slice ao17 n17 c17)).setCell ⟨w.heap.size + 1 + 1 + 1 + 1, 0, none⟩ (.bool b20)).setCell ⟨w.heap.size + 1 + 1 + 1 + 1, 1, none⟩ (.slice ao20 n20 c20)) = wz at *
   have rc := Br1.cell
   have qc := Bq1.cell
   have kd : Kp wz wz.drew := Kp.drew' (Below.refl _ _)
   go_wp2_with fail
   refine bodyPost_ret (v := .tuple #[.agg #[.bool b17, .slice ao17 n17 c17], .agg #[.bool b20, .slice ao20 n20 c20], .bool true]) (by simp [results, Tryd.results49, go_sem, rc, qc]) rfl ?_
   exact ⟨Or.inl ⟨_, _, _, _, rfl, (hY.soft sfA).soft (Sf.keep kd), (hV.soft sfA).soft (Sf.keep kd), HSOL.out, HSZ1.out, HSZ2.out⟩, Kp.drew' hkn⟩

end Go.Proofs.YtjahbjjekednfabDoor

namespace Go.Proofs.YtjahbjjekednfabDoor
open Go.RowKit Go.Lib

/-- A call that returns a number, and whether the text told one. -/
def RetTx (w : World) (s : ByteArray) (e : Ending) (w' : World) : Prop := ∃ (z : Int) (ok : Bool) (b : Bool) (ao : Option Addr) (n c : Nat), e = .returned (.tuple #[.agg #[.bool b, .slice ao n c], .bool ok]) ∧ WN w' (.agg #[.bool b, .slice ao n c]) z ∧ Hid ((ok = true → NumT s z) ∧ (ok = false → ∀ z, ¬ NumT s z)) ∧ Kp w w'
theorem fromText_any (s : ByteArray) (w : World) (hs : s.size ≤ 900) : Calls Tryd.prog 47 #[.string s] w (RetTx w s) := by
 have e : s = strOf s.data.toList := by apply ByteArray.ext; simp [strOf]
 have hl : s.data.toList.length ≤ 900 := by
  rw [Array.length_toList]
  exact hs
 generalize s.data.toList = t at e hl
 subst e
 by_cases h : ∃ z, NumT (strOf t) z
 ·obtain ⟨z, hz⟩ := h
  refine (fromText_ok t z w hl hz).mono ?_
  rintro e w1 ⟨v, rfl, hv, hk⟩
  obtain ⟨b, ao, n, c, rfl⟩ := hv.shape'
  exact ⟨z, true, b, ao, n, c, rfl, hv, ⟨fun _ => hz, fun h => by cases h⟩, hk⟩
 ·refine (fromText_no t w hl (fun z hz => h ⟨z, hz⟩)).mono ?_
  rintro e w1 ⟨rfl, hk⟩
  exact ⟨0, false, _, _, _, _, rfl, wn_zero w1, ⟨fun h => (by cases h), fun _ z hz => h ⟨z, hz⟩⟩, hk⟩
/-- What Line tells. -/
def OutL (sa sb sc s1 s2 : ByteArray) (er : Int) : Prop :=
 ((40 < sa.size ∨ 40 < sb.size ∨ 40 < sc.size ∨ (∀ z, ¬ NumT sa z) ∨ (∀ z, ¬ NumT sb z) ∨ (∀ z, ¬ NumT sc z)) ∧ s1 = ⟨#[]⟩ ∧ s2 = ⟨#[]⟩ ∧ er = 5) ∨
 (sa.size ≤ 40 ∧ sb.size ≤ 40 ∧ sc.size ≤ 40 ∧ ∃ a b c, NumT sa a ∧ NumT sb b ∧ NumT sc c ∧
  ((a = 0 ∧ b = 0 ∧ s1 = ⟨#[]⟩ ∧ s2 = ⟨#[]⟩ ∧ er = 5) ∨ (¬ (a = 0 ∧ b = 0) ∧ (∀ x y, a * x + b * y ≠ c) ∧ s1 = ⟨#[]⟩ ∧ s2 = ⟨#[]⟩ ∧ er = 8) ∨
   (¬ (a = 0 ∧ b = 0) ∧ ∃ x y, Sol a b c x y ∧ s1 = strOf (itoa x) ∧ s2 = strOf (itoa y) ∧ er = 0)))
theorem outL_uni {sa sb sc s1 s2 t1 t2 : ByteArray} {er fr : Int} (h : OutL sa sb sc s1 s2 er) (k : OutL sa sb sc t1 t2 fr) : s1 = t1 ∧ s2 = t2 ∧ er = fr := by
 rcases h with ⟨h1, rfl, rfl, rfl⟩ | ⟨h1, h2, h3, a, b, c, ha, hb, hc, h4⟩ <;> rcases k with ⟨k1, rfl, rfl, rfl⟩ | ⟨k1, k2, k3, a', b', c', ka, kb, kc, k4⟩
 ·exact ⟨rfl, rfl, rfl⟩
 ·exfalso
  rcases h1 with e | e | e | e | e | e
  ·omega
  ·omega
  ·omega
  ·exact e _ ka
  ·exact e _ kb
  ·exact e _ kc
 ·exfalso
  rcases k1 with e | e | e | e | e | e
  ·omega
  ·omega
  ·omega
  ·exact e _ ha
  ·exact e _ hb
  ·exact e _ hc
 ·obtain rfl := numT_uni ha ka
  obtain rfl := numT_uni hb kb
  obtain rfl := numT_uni hc kc
  rcases h4 with ⟨e1, e2, rfl, rfl, rfl⟩ | ⟨e1, e2, rfl, rfl, rfl⟩ | ⟨e1, x, y, e2, rfl, rfl, rfl⟩ <;> rcases k4 with ⟨f1, f2, rfl, rfl, rfl⟩ | ⟨f1, f2, rfl, rfl, rfl⟩ | ⟨f1, x', y', f2, rfl, rfl, rfl⟩
  ·exact ⟨rfl, rfl, rfl⟩
  ·exact absurd ⟨e1, e2⟩ f1
  ·exact absurd ⟨e1, e2⟩ f1
  ·exact absurd ⟨f1, f2⟩ e1
  ·exact ⟨rfl, rfl, rfl⟩
  ·exact absurd f2.eq (e2 _ _)
  ·exact absurd ⟨f1, f2⟩ e1
  ·exact absurd e2.eq (f2 _ _)
  ·obtain ⟨rfl, rfl⟩ := e2.uni f2 e1
   exact ⟨rfl, rfl, rfl⟩
def RetLn (w : World) (sa sb sc : ByteArray) (e : Ending) (w' : World) : Prop := ∃ s1 s2 er, e = .returned (.tuple #[.string s1, .string s2, .int .i64 er]) ∧ Hid (OutL sa sb sc s1 s2 er) ∧ Kp w w'
theorem numT_ft {s : ByteArray} {z : Int} (h : NumT s z) (hs : s.size ≤ 40) : Ft 40 z := by
 have e : s = strOf s.data.toList := by apply ByteArray.ext; simp [strOf]
 have hl : s.data.toList.length ≤ 40 := by
  rw [Array.length_toList]
  exact hs
 generalize s.data.toList = t at e hl
 subst e
 have key : ∀ l : List UInt8, Digs (bi l) → l.length ≤ 40 → Ft 40 (decN (bi l)) := fun l hd hl2 => by
  obtain ⟨b1, b2⟩ := decN_bd hd
  have e3 : (bi l).length = l.length := by simp [bi]
  rw [e3] at b2
  have b3 : (10 : Int) ^ l.length ≤ 10 ^ 40 := pow_mono (by decide) hl2
  unfold Ft
  have b4 : decN (bi l) < 10 ^ 40 := Int.lt_of_lt_of_le b2 b3
  have b5 : ((10 : Int) ^ 40) = ((10 ^ 40 : Nat) : Int) := by decide
  rw [b5] at b4
  omega
 rcases numT_of h with ⟨_, h2, h3⟩ | ⟨_, t', rfl, _, h4, _, h5⟩
 ·rw [h3]
  refine key t ?_ hl
  rcases h2 with rfl | ⟨_, h6, _⟩
  ·exact fun c hc => by simp [bi] at hc; rw [hc]; rfl
  ·exact h6
 ·rw [h5]
  exact (key t' h4 (by simp only [List.length_cons] at hl; omega)).neg
theorem sol_fit {a b c x : Int} (fa : Ft 40 a) (fb : Ft 40 b) (fc : Ft 40 c) (h : x.natAbs ≤ a.natAbs + b.natAbs + c.natAbs + (b.natAbs + 1) * c.natAbs ∨ x.natAbs ≤ c.natAbs + a.natAbs * b.natAbs) : Fit x := by
 refine ⟨81, by decide, ?_⟩
 have h1 : (b.natAbs + 1) * c.natAbs ≤ 10 ^ 40 * 10 ^ 40 := Nat.mul_le_mul fb (Nat.le_of_lt fc)
 have h2 : a.natAbs * b.natAbs ≤ 10 ^ 40 * 10 ^ 40 := Nat.mul_le_mul (Nat.le_of_lt fa) (Nat.le_of_lt fb)
 have e1 : (10 : Nat) ^ 40 * 10 ^ 40 * 10 = 10 ^ 81 := by decide
 have e2 : (10 : Nat) ^ 40 * 4 ≤ 10 ^ 40 * 10 ^ 40 := by decide
 unfold Ft at fa fb fc
 rw [← e1]
 generalize (10 : Nat) ^ 40 * 10 ^ 40 = Q at *
 generalize (10 : Nat) ^ 40 = P at *
 omega

set_option maxHeartbeats 6400000 in
set_option maxRecDepth 100000 in
/-- surd.Line. -/
theorem sline_any (sa sb sc : ByteArray) (w : World) (ht : Tens w) : Calls Tryd.prog 20 #[.string sa, .string sb, .string sc] w (RetLn w sa sb sc) := by
 by_cases hbig : 40 < sa.size ∨ 40 < sb.size ∨ 40 < sc.size
 ·have HO : Hid (OutL sa sb sc ⟨#[]⟩ ⟨#[]⟩ 5) := Or.inl ⟨by omega, rfl, rfl, rfl⟩
  by_cases h1 : 40 < sa.size
  ·clear hbig
   go_enter Tryd.func20, Tryd.ntmps20
   go_wp2_with fail
   refine bodyPost_ret (v := .tuple #[.string ⟨#[]⟩, .string ⟨#[]⟩, .int .i64 5]) (by simp [results, Tryd.results20, go_sem]) rfl ?_
   exact ⟨_, _, _, rfl, HO, Below.refl _ _⟩
  ·by_cases h2 : 40 < sb.size
   ·clear hbig
    go_enter Tryd.func20, Tryd.ntmps20
    go_wp2_with fail
    refine bodyPost_ret (v := .tuple #[.string ⟨#[]⟩, .string ⟨#[]⟩, .int .i64 5]) (by simp [results, Tryd.results20, go_sem]) rfl ?_
    exact ⟨_, _, _, rfl, HO, Below.refl _ _⟩
   ·have h3 : 40 < sc.size := by omega
    clear hbig
    go_enter Tryd.func20, Tryd.ntmps20
    go_wp2_with fail
    refine bodyPost_ret (v := .tuple #[.string ⟨#[]⟩, .string ⟨#[]⟩, .int .i64 5]) (by simp [results, Tryd.results20, go_sem]) rfl ?_
    exact ⟨_, _, _, rfl, HO, Below.refl _ _⟩
 ·have h1 : sa.size ≤ 40 := by omega
  have h2 : sb.size ≤ 40 := by omega
  have h3 : sc.size ≤ 40 := by omega
  clear hbig
  have hkw : Kp w w := Below.refl _ _
  go_enter Tryd.func20, Tryd.ntmps20
  skip
  go_wp2_with fail
  refine (fromText_any sa _ (by omega)).mono ?_
  rintro e w11 ⟨za, ok1, b1, ao1, n1, c1, rfl, hza, Hza, hk1⟩
  have ka1 : Kp w11 (w11.alloc (.cells #[.bool b1, .slice ao1 n1 c1] 60)) := (kp_alloc w11 _)
  have kk1 := hk1.trans' ka1
  replace hkw := hkw.trans' kk1
  have Ba : Blk (w11.alloc (.cells #[.bool b1, .slice ao1 n1 c1] 60)) (w11.heap.size) #[.bool b1, .slice ao1 n1 c1] 60 := (Blk.new w11 _ _)
  clear hk1 ka1 kk1
  replace hza := hza.soft (Sf.keep (kp_alloc w11 (.cells #[.bool b1, .slice ao1 n1 c1] 60)))
  skip
  go_wp2_with fail
  generalize (w11.alloc (.cells #[.bool b1, .slice ao1 n1 c1] 60)) = x11 at *
  generalize w11.heap.size = Aa at *
  refine (fromText_any sb _ (by omega)).mono ?_
  rintro e w12 ⟨zb, ok2, b2, ao2, n2, c2, rfl, hzb, Hzb, hk2⟩
  have ka2 : Kp w12 (w12.alloc (.cells #[.bool b2, .slice ao2 n2 c2] 60)) := (kp_alloc w12 _)
  have kk2 := hk2.trans' ka2
  have lta2 := (Ba.keep hk2).lt
  replace Ba := Ba.keep kk2
  replace hza := hza.soft (Sf.keep kk2)
  replace hkw := hkw.trans' kk2
  have Bb : Blk (w12.alloc (.cells #[.bool b2, .slice ao2 n2 c2] 60)) (w12.heap.size) #[.bool b2, .slice ao2 n2 c2] 60 := (Blk.new w12 _ _)
  clear hk2 ka2 kk2
  replace hzb := hzb.soft (Sf.keep (kp_alloc w12 (.cells #[.bool b2, .slice ao2 n2 c2] 60)))
  skip
  go_wp2_with fail
  generalize (w12.alloc (.cells #[.bool b2, .slice ao2 n2 c2] 60)) = x12 at *
  generalize w12.heap.size = Ab at *
  refine (fromText_any sc _ (by omega)).mono ?_
  rintro e w13 ⟨zc, ok3, b3, ao3, n3, c3, rfl, hzc, Hzc, hk3⟩
  have ka3 : Kp w13 (w13.alloc (.cells #[.bool b3, .slice ao3 n3 c3] 60)) := (kp_alloc w13 _)
  have kk3 := hk3.trans' ka3
  have lta3 := (Ba.keep hk3).lt
  have ltb3 := (Bb.keep hk3).lt
  replace Ba := Ba.keep kk3
  replace Bb := Bb.keep kk3
  replace hza := hza.soft (Sf.keep kk3)
  replace hzb := hzb.soft (Sf.keep kk3)
  replace hkw := hkw.trans' kk3
  have Bc : Blk (w13.alloc (.cells #[.bool b3, .slice ao3 n3 c3] 60)) (w13.heap.size) #[.bool b3, .slice ao3 n3 c3] 60 := (Blk.new w13 _ _)
  clear hk3 ka3 kk3
  replace hzc := hzc.soft (Sf.keep (kp_alloc w13 (.cells #[.bool b3, .slice ao3 n3 c3] 60)))
  cases ok1 with
  | false =>
   go_wp2_with fail
   refine bodyPost_ret (v := .tuple #[.string ⟨#[]⟩, .string ⟨#[]⟩, .int .i64 5]) (by simp [results, Tryd.results20, go_sem]) rfl ?_
   exact ⟨_, _, _, rfl, Or.inl ⟨Or.inr (Or.inr (Or.inr (Or.inl (Hza.out.2 (by trivial))))), rfl, rfl, rfl⟩, hkw⟩
  | true =>
   cases ok2 with
   | false =>
    go_wp2_with fail
    refine bodyPost_ret (v := .tuple #[.string ⟨#[]⟩, .string ⟨#[]⟩, .int .i64 5]) (by simp [results, Tryd.results20, go_sem]) rfl ?_
    exact ⟨_, _, _, rfl, Or.inl ⟨Or.inr (Or.inr (Or.inr (Or.inr (Or.inl (Hzb.out.2 (by trivial)))))), rfl, rfl, rfl⟩, hkw⟩
   | true =>
    cases ok3 with
    | false =>
     go_wp2_with fail
     refine bodyPost_ret (v := .tuple #[.string ⟨#[]⟩, .string ⟨#[]⟩, .int .i64 5]) (by simp [results, Tryd.results20, go_sem]) rfl ?_
     exact ⟨_, _, _, rfl, Or.inl ⟨Or.inr (Or.inr (Or.inr (Or.inr (Or.inr (Hzc.out.2 (by trivial)))))), rfl, rfl, rfl⟩, hkw⟩
    | true =>
     replace Hza := Hid.mk (Hza.out.1 rfl)
     replace Hzb := Hid.mk (Hzb.out.1 rfl)
     replace Hzc := Hid.mk (Hzc.out.1 rfl)
     have fa := numT_ft Hza.out h1
     have fb := numT_ft Hzb.out h2
     have fc := numT_ft Hzc.out h3
     have ac := Ba.cell
     have al := Ba.lt
     go_wp2_with fail
     generalize (w13.alloc (.cells #[.bool b3, .slice ao3 n3 c3] 60)) = x13 at *
     generalize w13.heap.size = Ac at *
     refine (sign_any za _ _ hza).mono ?_
     rintro e w14 ⟨rfl, hk4⟩
     clear ac al
     replace Ba := Ba.keep hk4
     replace Bb := Bb.keep hk4
     replace Bc := Bc.keep hk4
     replace hza := hza.soft (Sf.keep hk4)
     replace hzb := hzb.soft (Sf.keep hk4)
     replace hzc := hzc.soft (Sf.keep hk4)
     replace hkw := hkw.trans' hk4
     clear hk4
     have bc := Bb.cell
     have bl := Bb.lt
     go_wp2_with fail
     refine (sign_any zb _ _ hzb).mono ?_
     rintro e w15 ⟨rfl, hk5⟩
     clear bc bl
     replace Ba := Ba.keep hk5
     replace Bb := Bb.keep hk5
     replace Bc := Bc.keep hk5
     replace hza := hza.soft (Sf.keep hk5)
     replace hzb := hzb.soft (Sf.keep hk5)
     replace hzc := hzc.soft (Sf.keep hk5)
     replace hkw := hkw.trans' hk5
     clear hk5
     by_cases hz : za = 0 ∧ zb = 0
     ·have e1 : (za.sign == 0) = true := by rw [hz.1]; rfl
      have e2 : (zb.sign == 0) = true := by rw [hz.2]; rfl
      have HO : Hid (OutL sa sb sc ⟨#[]⟩ ⟨#[]⟩ 5) := Or.inr ⟨h1, h2, h3, za, zb, zc, Hza.out, Hzb.out, Hzc.out, Or.inl ⟨hz.1, hz.2, rfl, rfl, rfl⟩⟩
      clear hz
      generalize za.sign = g1 at *
      generalize zb.sign = g2 at *
      go_wp2_with fail
      refine bodyPost_ret (v := .tuple #[.string ⟨#[]⟩, .string ⟨#[]⟩, .int .i64 5]) (by simp [results, Tryd.results20, go_sem]) rfl ?_
      exact ⟨_, _, _, rfl, HO, hkw⟩
     ·have HNZ := Hid.mk hz
      have e1 : (za.sign == 0) = decide (za = 0) := by
       by_cases e : za = 0
       ·rw [e]; rfl
       ·rw [decide_eq_false e, beq_eq_false_iff_ne]
        exact fun k => e (Int.sign_eq_zero_iff_zero.1 k)
      have e2 : za = 0 → (zb.sign == 0) = false := fun e => by
       rw [beq_eq_false_iff_ne]
       exact fun k => hz ⟨e, Int.sign_eq_zero_iff_zero.1 k⟩
      have hSv := solve_any za zb zc 40 _ _ _ _ hza hzb hzc (by decide) fa fb fc hz
      have ac := Ba.cell
      have al := Ba.lt
      have bc := Bb.cell
      have bl := Bb.lt
      have cc := Bc.cell
      have ccl := Bc.lt
      have E1 := Hid.mk e1
      clear e1 hz
      by_cases hA : za = 0
      ·have e1 : (za.sign == 0) = true := by rw [E1.out]; exact decide_eq_true hA
       replace e2 := e2 hA
       clear hA E1
       generalize za.sign = g1 at *
       generalize zb.sign = g2 at *
       go_wp2_with fail
       refine hSv.mono ?_
       rintro e w9 ⟨hO, hk9⟩
       rcases hO with ⟨u, v, x, y, rfl, hx, hy, HS⟩ | ⟨b5, ao5, n5, c5, b6, ao6, n6, c6, rfl, HN⟩
       ·obtain ⟨b5, ao5, n5, c5, rfl⟩ := hx.shape'
        obtain ⟨b6, ao6, n6, c6, rfl⟩ := hy.shape'
        have ka : Kp w9 ((w9.alloc (.cells #[.bool b5, .slice ao5 n5 c5] 60)).alloc (.cells #[.bool b6, .slice ao6 n6 c6] 60)) := Kp.alloc' (kp_alloc w9 _) _
        have BX : Blk ((w9.alloc (.cells #[.bool b5, .slice ao5 n5 c5] 60)).alloc (.cells #[.bool b6, .slice ao6 n6 c6] 60)) w9.heap.size #[.bool b5, .slice ao5 n5 c5] 60 := Blk.alloc (Blk.new w9 _ _) _
        have BY : Blk ((w9.alloc (.cells #[.bool b5, .slice ao5 n5 c5] 60)).alloc (.cells #[.bool b6, .slice ao6 n6 c6] 60)) (w9.heap.size + 1) #[.bool b6, .slice ao6 n6 c6] 60 := Blk.at (Blk.new (w9.alloc (.cells #[.bool b5, .slice ao5 n5 c5] 60)) _ _) (by simp)
        replace hx := hx.soft (Sf.keep ka)
        replace hy := hy.soft (Sf.keep ka)
        have hkZ := (hkw.trans' hk9).trans' ka
        have fx := sol_fit fa fb fc (Or.inl HS.out.2.1)
        have fy := sol_fit fa fb fc (Or.inr HS.out.2.2)
        have HO : Hid (OutL sa sb sc (strOf (itoa x)) (strOf (itoa y)) 0) := Or.inr ⟨h1, h2, h3, za, zb, zc, Hza.out, Hzb.out, Hzc.out, Or.inr (Or.inr ⟨HNZ.out, x, y, HS.out.1, rfl, rfl, rfl⟩)⟩
        have hT1 := text_any x _ _ hx fx (ht.keep hkZ)
        have HT2 := fun (W : World) (hW : WN W (.agg #[.bool b6, .slice ao6 n6 c6]) y) (htt : Tens W) => text_any y _ W hW fy htt
        generalize strOf (itoa x) = S1 at *
        generalize strOf (itoa y) = S2 at *
        have xc := BX.cell
        have xl := BX.lt
        clear ac al bc bl cc ccl
        go_wp2_with fail
        refine hT1.mono ?_
        rintro e w10 ⟨rfl, hk10⟩
        replace BY := BY.keep hk10
        have yc := BY.cell
        have yl := BY.lt
        clear xc xl
        go_wp2_with fail
        refine (HT2 _ (hy.soft (Sf.keep hk10)) (ht.keep (hkZ.trans' hk10))).mono ?_
        rintro e w11 ⟨rfl, hk11⟩
        clear yc yl
        go_wp2_with fail
        refine bodyPost_ret (v := .tuple #[.string S1, .string S2, .int .i64 0]) (by simp [results, Tryd.results20, go_sem]) rfl ?_
        exact ⟨_, _, _, rfl, HO, (hkZ.trans' hk10).trans' hk11⟩
       ·have HO : Hid (OutL sa sb sc ⟨#[]⟩ ⟨#[]⟩ 8) := Or.inr ⟨h1, h2, h3, za, zb, zc, Hza.out, Hzb.out, Hzc.out, Or.inr (Or.inl ⟨HNZ.out, HN.out, rfl, rfl, rfl⟩)⟩
        go_wp2_with fail
        refine bodyPost_ret (v := .tuple #[.string ⟨#[]⟩, .string ⟨#[]⟩, .int .i64 8]) (by simp [results, Tryd.results20, go_sem]) rfl ?_
        exact ⟨_, _, _, rfl, HO, ((hkw.trans' hk9).alloc' _).alloc' _⟩
      ·have e1 : (za.sign == 0) = false := by rw [E1.out]; exact decide_eq_false hA
       clear hA E1 e2
       generalize za.sign = g1 at *
       generalize zb.sign = g2 at *
       go_wp2_with fail
       refine hSv.mono ?_
       rintro e w9 ⟨hO, hk9⟩
       rcases hO with ⟨u, v, x, y, rfl, hx, hy, HS⟩ | ⟨b5, ao5, n5, c5, b6, ao6, n6, c6, rfl, HN⟩
       ·obtain ⟨b5, ao5, n5, c5, rfl⟩ := hx.shape'
        obtain ⟨b6, ao6, n6, c6, rfl⟩ := hy.shape'
        have ka : Kp w9 ((w9.alloc (.cells #[.bool b5, .slice ao5 n5 c5] 60)).alloc (.cells #[.bool b6, .slice ao6 n6 c6] 60)) := Kp.alloc' (kp_alloc w9 _) _
        have BX : Blk ((w9.alloc (.cells #[.bool b5, .slice ao5 n5 c5] 60)).alloc (.cells #[.bool b6, .slice ao6 n6 c6] 60)) w9.heap.size #[.bool b5, .slice ao5 n5 c5] 60 := Blk.alloc (Blk.new w9 _ _) _
        have BY : Blk ((w9.alloc (.cells #[.bool b5, .slice ao5 n5 c5] 60)).alloc (.cells #[.bool b6, .slice ao6 n6 c6] 60)) (w9.heap.size + 1) #[.bool b6, .slice ao6 n6 c6] 60 := Blk.at (Blk.new (w9.alloc (.cells #[.bool b5, .slice ao5 n5 c5] 60)) _ _) (by simp)
        replace hx := hx.soft (Sf.keep ka)
        replace hy := hy.soft (Sf.keep ka)
        have hkZ := (hkw.trans' hk9).trans' ka
        have fx := sol_fit fa fb fc (Or.inl HS.out.2.1)
        have fy := sol_fit fa fb fc (Or.inr HS.out.2.2)
        have HO : Hid (OutL sa sb sc (strOf (itoa x)) (strOf (itoa y)) 0) := Or.inr ⟨h1, h2, h3, za, zb, zc, Hza.out, Hzb.out, Hzc.out, Or.inr (Or.inr ⟨HNZ.out, x, y, HS.out.1, rfl, rfl, rfl⟩)⟩
        have hT1 := text_any x _ _ hx fx (ht.keep hkZ)
        have HT2 := fun (W : World) (hW : WN W (.agg #[.bool b6, .slice ao6 n6 c6]) y) (htt : Tens W) => text_any y _ W hW fy htt
        generalize strOf (itoa x) = S1 at *
        generalize strOf (itoa y) = S2 at *
        have xc := BX.cell
        have xl := BX.lt
        clear ac al bc bl cc ccl
        go_wp2_with fail
        refine hT1.mono ?_
        rintro e w10 ⟨rfl, hk10⟩
        replace BY := BY.keep hk10
        have yc := BY.cell
        have yl := BY.lt
        clear xc xl
        go_wp2_with fail
        refine (HT2 _ (hy.soft (Sf.keep hk10)) (ht.keep (hkZ.trans' hk10))).mono ?_
        rintro e w11 ⟨rfl, hk11⟩
        clear yc yl
        go_wp2_with fail
        refine bodyPost_ret (v := .tuple #[.string S1, .string S2, .int .i64 0]) (by simp [results, Tryd.results20, go_sem]) rfl ?_
        exact ⟨_, _, _, rfl, HO, (hkZ.trans' hk10).trans' hk11⟩
       ·have HO : Hid (OutL sa sb sc ⟨#[]⟩ ⟨#[]⟩ 8) := Or.inr ⟨h1, h2, h3, za, zb, zc, Hza.out, Hzb.out, Hzc.out, Or.inr (Or.inl ⟨HNZ.out, HN.out, rfl, rfl, rfl⟩)⟩
        go_wp2_with fail
        refine bodyPost_ret (v := .tuple #[.string ⟨#[]⟩, .string ⟨#[]⟩, .int .i64 8]) (by simp [results, Tryd.results20, go_sem]) rfl ?_
        exact ⟨_, _, _, rfl, HO, ((hkw.trans' hk9).alloc' _).alloc' _⟩

end Go.Proofs.YtjahbjjekednfabDoor
