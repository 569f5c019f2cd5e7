import Derived.Test.YtjahbjjekednfabDoorL9
import Derived.Test.YtjahbjjekednfabDoorL4
import Derived.Test.YtjahbjjekednfabDoorV1
import Derived.Test.YtjahbjjekednfabDoorP1
import Derived.Deep.RegionWith
namespace Go.Proofs.YtjahbjjekednfabDoor
open Go.RowKit

/-- A call that returns a number of the reference, and whether the text told one. -/
def RetNb (w : World) (s : ByteArray) (e : Ending) (w' : World) : Prop := ∃ (z : Int) (ok : Bool) (b : Bool) (ao : Option Addr) (n c : Nat), e = .returned (.tuple #[.agg #[.bool b, .slice ao n c], .bool ok]) ∧ IN w' (.agg #[.bool b, .slice ao n c]) z ∧ Hid ((ok = true → NumT s z) ∧ (ok = false → ∀ z, ¬ NumT s z)) ∧ Kp w w'

theorem str_beq (a b : ByteArray) : (a.toList == b.toList) = decide (a = b) := by
 have ha : a = strOf a.data.toList := by apply ByteArray.ext; simp [strOf]
 have hb : b = strOf b.data.toList := by apply ByteArray.ext; simp [strOf]
 generalize a.data.toList = x at ha
 generalize b.data.toList = y at hb
 subst ha hb
 rw [eq_of_beq (str_eq x), eq_of_beq (str_eq y)]
 by_cases h : x = y
 ·rw [h]; simp
 ·rw [decide_eq_false (fun e => h (strOf_inj e)), beq_eq_false_iff_ne]
  exact h
/-- One that is not wanted. -/
theorem wpAnyL_sk {P : Program} {md : Region.Mode} {ops : Array Oper} {Q : Exit → Act → World → Prop} {S : World → Prop} {i k : Nat} {oi : Oper} {fuel : Nat} {listed : Array Bool} {a : Act} {w : World} (hi : ops[i]? = some oi) (hS : S w)
 (h : wpAnyL P md ops Q S fuel (listed.setIfInBounds i true) (a.put oi.dst undef) w)
 (hs : Region.noSelect ops = true := by kernel_rfl) (hf : Region.free md ops listed i = true := by kernel_rfl) (hr : (Region.ready md ops listed).contains i = true := by kernel_rfl) (hw : awaits md ops listed i k = true := by kernel_rfl)
 (hQ : ∀ c a w, Q (.panic c) (a.put oi.dst undef) w → Q (.panic c) a w := by exact fun _ _ _ h => h) (hg : Region.wanted oi (yielded ops a.tmps) = false := by rfl) : wpAnyL P md ops Q S (fuel + 1) listed a w :=
 wpAnyL_take hi hs hf hr hw hQ (Or.inr ⟨hg, rfl⟩) hS h

set_option maxHeartbeats 400000 in
theorem rdgt_any (c : Int) (w : World) : Calls Tryd.prog 83 #[.int .u8 c] w fun e w' => e = .returned (.bool (isDig c)) ∧ w' = w := by
 by_cases h : 48 ≤ c
 ·have HD : Hid (isDig c = decide (c ≤ 57)) := by unfold Hid isDig; simp [h]
  go_enter Tryd.func83, Tryd.ntmps83
  go_wp2
  go_ret
  exact ⟨by rw [HD.out]; rfl, rfl⟩
 ·have HD : Hid (isDig c = false) := by unfold Hid isDig; simp [h]
  go_enter Tryd.func83, Tryd.ntmps83
  go_wp2
  go_ret
  exact ⟨by rw [HD.out]; rfl, rfl⟩

set_option maxHeartbeats 3200000 in
set_option maxRecDepth 100000 in
theorem nb_neg (s s2 : ByteArray) (n : Nat) (hn : n ≤ 39) (hsz : s.size = n + 1) (hc : ∀ h, s[0]'h = 45) (hsub : s.extract 1 (n + 1) = s2) (hs2 : s2.size = n) (hne : (s2.toList == []) = false) (HN1 : Hid (∀ z, NumT s z → Hid (Digs (bl s2)) ∧ z = - decN (bl s2))) (w : World) : Calls Tryd.prog 50 #[.string s] w (RetNb w s) := by
 have BE0 : Blk (w.alloc (.cells #[.bool false, .slice none 0 0] 81)) w.heap.size #[.bool false, .slice none 0 0] 81 := Blk.new w _ _
 have kp0 : Kp w (w.alloc (.cells #[.bool false, .slice none 0 0] 81)) := kp_alloc w _
 go_enter Tryd.func50, Tryd.ntmps50
 go_wp2_with fail
 go_loopw [6] (fun i wr => ∃ j : Nat, j ≤ s2.size ∧ i = .int .i64 j ∧ Blk wr w.heap.size #[.bool false, .slice none 0 0] 81 ∧ Kp w wr ∧ Hid (∀ k, k < j → isDig (at0 (bl s2) k) = true))
  (fun i _ => s2.size - (intOf i).toNat)
 case atStart => exact ⟨0, by omega, rfl, BE0, kp0, fun k hk => absurd hk (by omega)⟩
 case round =>
  clear BE0 kp0
  obtain ⟨j, hj, rfl, BE, hkr, HP⟩ := hrel
  have hlen := bl_len s2
  by_cases h1 : j < s2.size
  ·have hb := byteAt_eq s2 j h1
   have hbb := byteAt_bl s2 j
   have hj0 : (0 : Int) ≤ (j : Int) := by omega
   have hj1 : (j : Int) < (s2.size : Int) := by omega
   by_cases hd : isDig (at0 (bl s2) j) = true
   ·have HP' : Hid (∀ k, k < j + 1 → isDig (at0 (bl s2) k) = true) := fun k hk => by
     rcases Nat.lt_or_ge k j with h | h
     ·exact HP.out k h
     ·rw [show k = j by omega]; exact hd
    rw [← hbb] at hd
    have hD := fun (W : World) => rdgt_any (byteAt s2 j) W
    rw [hd] at hD
    clear hd hbb HP hlen
    generalize byteAt s2 j = C at *
    go_wp2_with fail
    refine (hD _).mono ?_
    rintro e w1 ⟨rfl, rfl⟩
    go_wp2_with fail
    go_roundw
    case rel => exact ⟨j + 1, by omega, by go_num, BE, hkr, HP'⟩
    case measure => simp [intOf]; omega
   ·have HF : Hid (∀ z, ¬ NumT s z) := fun z hz => hd ((HN1.out z hz).1.out (at0 (bl s2) j) (by rw [at0_eq (by omega)]; exact List.getElem_mem _))
    rw [← hbb] at hd
    have hD := fun (W : World) => rdgt_any (byteAt s2 j) W
    rw [Bool.eq_false_iff.2 hd] at hD
    clear hd hbb HP hlen
    generalize byteAt s2 j = C at *
    have bec := BE.cell
    have bef := BE.frozen
    have bel := BE.lt
    go_wp2_with fail
    refine (hD _).mono ?_
    rintro e w1 ⟨rfl, rfl⟩
    go_wp2_with fail
    refine bodyPost_ret (v := .tuple #[.agg #[.bool false, .slice none 0 0], .bool false]) (by simp [results, Tryd.results50, go_sem, bec]) rfl ?_
    have wee : w.heap.size ≤ w.heap.size := Nat.le_refl _
    exact ⟨_, _, _, _, _, _, rfl, in_zero _, ⟨fun h => (by cases h), fun _ => HF.out⟩, (kp2 (A := w.heap.size) (.bool false) (.slice none 0 0) hkr (by omega))⟩
  ·have HDG : Hid (Digs (bl s2)) := fun c hc => by
    obtain ⟨k, hk, rfl⟩ := List.getElem_of_mem hc
    rw [← at0_eq hk]
    exact HP.out k (by omega)
   have fz : Fit (- decN (bl s2)) := by
    obtain ⟨b1, b2⟩ := decN_bd HDG.out
    rw [bl_len] at b2
    refine ⟨41, by decide, ?_⟩
    have b3 : (10 : Int) ^ s2.size ≤ 10 ^ 40 := pow_mono (by decide) (by omega)
    have b4 : decN (bl s2) < 10 ^ 40 := Int.lt_of_lt_of_le b2 b3
    have b5 : ((10 : Int) ^ 40) = ((10 ^ 40 : Nat) : Int) := by decide
    rw [b5] at b4
    have b6 : (10 : Nat) ^ 40 < 10 ^ 41 := by decide
    omega
   clear HP hlen
   go_wp2_with fail
   refine (read40 s2 _ HDG.out (by omega)).mono ?_
   rintro e w2 ⟨v1, rfl, hX, hk2⟩
   obtain ⟨b1, ao1, n1, c1, rfl⟩ := hX.shape'
   have BX := Blk.new w2 #[.bool b1, .slice ao1 n1 c1] 81
   have hsx := (BE.keep hk2).lt
   replace hkr := (hkr.trans' hk2).alloc' (.cells #[.bool b1, .slice ao1 n1 c1] 81)
   replace BE := (BE.keep hk2).alloc (.cells #[.bool b1, .slice ao1 n1 c1] 81)
   replace hX := hX.keep (kp_alloc w2 (.cells #[.bool b1, .slice ao1 n1 c1] 81))
   have bxc := BX.cell
   have bxf := BX.frozen
   have bxl := BX.lt
   have bec := BE.cell
   have bef := BE.frozen
   have bel := BE.lt
   clear hk2
   go_wp2_with fail
   generalize w2.alloc (.cells #[.bool b1, .slice ao1 n1 c1] 81) = wx at *
   generalize w2.heap.size = AX at *
   refine (less_any _ _ _ hX).mono ?_
   rintro e w3 ⟨v2, rfl, hY, hk3⟩
   obtain ⟨b2, ao2, n2, c2, rfl⟩ := hY.shape'
   replace BX := BX.keep hk3
   replace BE := BE.keep hk3
   replace hkr := hkr.trans' hk3
   clear bxc bxf bxl bec bef bel hX hk3
   have bxc := BX.cell
   have bxf := BX.frozen
   have bxl := BX.lt
   have bec := BE.cell
   have bef := BE.frozen
   have bel := BE.lt
   go_wp2_with fail
   have sfx := (sf2 (E := 3) (.bool b2) (.slice ao2 n2 c2) BX (by decide))
   replace hX := hY.soft sfx
   replace hkr := (kp2 (A := AX) (.bool b2) (.slice ao2 n2 c2) hkr (by omega))
   replace BE := (ot2 (A := AX) (.bool b2) (.slice ao2 n2 c2) BE (by omega))
   replace BX := (bl2 (.bool b2) (.slice ao2 n2 c2) BX)
   clear hY sfx bxc bxf bxl bec bef bel
   generalize ((w3.setCell ⟨AX, 0, none⟩ (.bool b2)).setCell ⟨AX, 1, none⟩ (.slice ao2 n2 c2)) = wx at *
   have hTX := fun (W : World) (hh : IN W (.agg #[.bool b2, .slice ao2 n2 c2]) (- decN (bl s2))) => text_ref (- decN (bl s2)) _ W hh fz
   have HOK : Hid (∀ ok : Bool, ok = decide (strOf (Go.Lib.itoa (- decN (bl s2))) = s) → (ok = true → NumT s (- decN (bl s2))) ∧ (ok = false → ∀ z, ¬ NumT s z)) := by
    intro ok ho
    refine ⟨fun h => ?_, fun h z hz => ?_⟩
    ·rw [h] at ho
     exact (of_decide_eq_true ho.symm).symm
    ·rw [h] at ho
     have h2 := (HN1.out z hz).2
     rw [h2] at hz
     exact of_decide_eq_false ho.symm hz.symm
   clear HN1 HDG
   generalize (- decN (bl s2)) = z at *
   generalize strOf (Go.Lib.itoa z) = S at *
   replace hX := hX.soft (Sf.drew (Sf.refl _ _))
   replace BE := BE.drew
   refine wp_region_l (S := fun w' => Blk w' AX #[.bool b2, .slice ao2 n2 c2] 81 ∧ Kp w w') (by kernel_rfl) ⟨BX.drew, Kp.drew' hkr⟩ (fun hS0 => ?_)
   clear BX hkr
   generalize wx.drew = wd at *
   refine wpAnyL_tk (i := 0) (k := 9) (v := .agg #[.bool b2, .slice ao2 n2 c2]) rfl ?_ hS0 ?_
   ·intro w' hw'; have hc := hw'.1.cell; go_simp
   simp only [sq]
   refine wpAnyL_tk (i := 1) (k := 2) (v := .string s2) rfl ?_ hS0 ?_
   ·intro w' hw'; go_simp
   simp only [sq]
   refine wpAnyL_tk (i := 2) (k := 3) (v := .bool true) rfl ?_ hS0 ?_
   ·intro w' hw'; go_simp
   simp only [sq]
   refine wpAnyL_tk (i := 3) (k := 4) (v := .bool true) rfl ?_ hS0 ?_
   ·intro w' hw'; go_simp
   simp only [sq]
   refine wpAnyL_tk (i := 4) (k := 5) (v := .agg #[.bool b2, .slice ao2 n2 c2]) rfl ?_ hS0 ?_
   ·intro w' hw'; have hc := hw'.1.cell; go_simp
   simp only [sq]
   refine wpAnyL_tk (i := 6) (k := 7) (v := .string s) rfl ?_ hS0 ?_
   ·intro w' hw'; go_simp
   simp only [sq]
   refine wpAnyL_on (i := 5) rfl (fun K hK => ?_)
   go_simp
   refine (hTX _ hX).mono ?_
   rintro e w4 ⟨rfl, hk4⟩
   replace BE := BE.keep hk4
   replace hX := hX.keep hk4
   go_wp2_with fail
   refine hK.out _ _ ⟨hS0.1.keep hk4, hS0.2.trans' hk4⟩ (fun hS1 => ?_)
   clear hK K hS0 hk4
   refine wpAnyL_tk (i := 7) (k := 8) (v := .bool (decide (S = s))) rfl ?_ hS1 ?_
   ·intro w' hw'; go_simp; exact str_beq S s
   simp only [sq]
   have hok := HOK.out _ rfl
   have HK2 := Hid.mk hok
   generalize decide (S = s) = ok at *
   clear hok HOK
   refine wpAnyL_tk (i := 8) (k := 10) (v := .bool ok) rfl ?_ hS1 ?_
   ·intro w' hw'; go_simp
   simp only [sq]
   refine wpAnyL_on (i := 9) rfl (fun K hK => ?_)
   have bec := BE.cell
   have bef := BE.frozen
   have bel := BE.lt
   have hax := hS1.1.lt
   have hne2 : w.heap.size ≠ AX := by omega
   go_simp
   refine hK.out _ _ ⟨(ot2 (A := w.heap.size) (.bool b2) (.slice ao2 n2 c2) hS1.1 (by omega)), (kp2 (A := w.heap.size) (.bool b2) (.slice ao2 n2 c2) hS1.2 (by omega))⟩ (fun hS2 => ?_)
   clear hK K hS1 hax hne2
   have sf1 := (sf2 (E := 3) (.bool b2) (.slice ao2 n2 c2) BE (by decide))
   replace BE := (bl2 (.bool b2) (.slice ao2 n2 c2) BE)
   replace hX := hX.soft sf1
   clear bec bef bel sf1
   generalize ((w4.setCell ⟨w.heap.size, 0, none⟩ (.bool b2)).setCell ⟨w.heap.size, 1, none⟩ (.slice ao2 n2 c2)) = w5 at *
   refine wpAnyL_last (i := 10) rfl (by kernel_rfl) (by kernel_rfl) (by kernel_rfl) (fun K hK => ?_)
   go_simp
   refine hK.out _ _ ?_
   clear hK K
   have bec := BE.cell
   go_wp2_with fail
   refine bodyPost_ret (v := .tuple #[.agg #[.bool b2, .slice ao2 n2 c2], .bool ok]) (by simp [results, Tryd.results50, go_sem, bec]) rfl ?_
   exact ⟨_, _, _, _, _, _, rfl, hX, HK2, hS2.2⟩

set_option maxHeartbeats 3200000 in
set_option maxRecDepth 100000 in
theorem nb_minus (s s2 : ByteArray) (hsz : s.size = 1) (hc : ∀ h, s[0]'h = 45) (hsub : s.extract 1 1 = s2) (hs2 : s2.size = 0) (he : s2 = ⟨#[]⟩) (HN0 : Hid (∀ z, ¬ NumT s z)) (HN1 : Hid (∀ z, NumT s z → Hid (Digs (bl s2)) ∧ z = - decN (bl s2))) (w : World) : Calls Tryd.prog 50 #[.string s] w (RetNb w s) := by
 have BE0 : Blk (w.alloc (.cells #[.bool false, .slice none 0 0] 81)) w.heap.size #[.bool false, .slice none 0 0] 81 := Blk.new w _ _
 have kp0 : Kp w (w.alloc (.cells #[.bool false, .slice none 0 0] 81)) := kp_alloc w _
 go_enter Tryd.func50, Tryd.ntmps50
 go_wp2_with fail
 go_loopw [6] (fun i wr => ∃ j : Nat, j ≤ s2.size ∧ i = .int .i64 j ∧ Blk wr w.heap.size #[.bool false, .slice none 0 0] 81 ∧ Kp w wr ∧ Hid (∀ k, k < j → isDig (at0 (bl s2) k) = true))
  (fun i _ => s2.size - (intOf i).toNat)
 case atStart => exact ⟨0, by omega, rfl, BE0, kp0, fun k hk => absurd hk (by omega)⟩
 case round =>
  clear BE0 kp0
  obtain ⟨j, hj, rfl, BE, hkr, HP⟩ := hrel
  have hlen := bl_len s2
  by_cases h1 : j < s2.size
  ·exact absurd h1 (by omega)
  ·have HDG : Hid (Digs (bl s2)) := fun c hc => by
    obtain ⟨k, hk, rfl⟩ := List.getElem_of_mem hc
    rw [← at0_eq hk]
    exact HP.out k (by omega)
   have fz : Fit (- decN (bl s2)) := by
    obtain ⟨b1, b2⟩ := decN_bd HDG.out
    rw [bl_len] at b2
    refine ⟨41, by decide, ?_⟩
    have b3 : (10 : Int) ^ s2.size ≤ 10 ^ 40 := pow_mono (by decide) (by omega)
    have b4 : decN (bl s2) < 10 ^ 40 := Int.lt_of_lt_of_le b2 b3
    have b5 : ((10 : Int) ^ 40) = ((10 ^ 40 : Nat) : Int) := by decide
    rw [b5] at b4
    have b6 : (10 : Nat) ^ 40 < 10 ^ 41 := by decide
    omega
   clear HP hlen
   subst he
   go_wp2_with fail
   refine (read40 ⟨#[]⟩ _ HDG.out (by omega)).mono ?_
   rintro e w2 ⟨v1, rfl, hX, hk2⟩
   obtain ⟨b1, ao1, n1, c1, rfl⟩ := hX.shape'
   have BX := Blk.new w2 #[.bool b1, .slice ao1 n1 c1] 81
   have hsx := (BE.keep hk2).lt
   replace hkr := (hkr.trans' hk2).alloc' (.cells #[.bool b1, .slice ao1 n1 c1] 81)
   replace BE := (BE.keep hk2).alloc (.cells #[.bool b1, .slice ao1 n1 c1] 81)
   replace hX := hX.keep (kp_alloc w2 (.cells #[.bool b1, .slice ao1 n1 c1] 81))
   have bxc := BX.cell
   have bxf := BX.frozen
   have bxl := BX.lt
   have bec := BE.cell
   have bef := BE.frozen
   have bel := BE.lt
   clear hk2
   go_wp2_with fail
   generalize w2.alloc (.cells #[.bool b1, .slice ao1 n1 c1] 81) = wx at *
   generalize w2.heap.size = AX at *
   refine (less_any _ _ _ hX).mono ?_
   rintro e w3 ⟨v2, rfl, hY, hk3⟩
   obtain ⟨b2, ao2, n2, c2, rfl⟩ := hY.shape'
   replace BX := BX.keep hk3
   replace BE := BE.keep hk3
   replace hkr := hkr.trans' hk3
   clear bxc bxf bxl bec bef bel hX hk3
   have bxc := BX.cell
   have bxf := BX.frozen
   have bxl := BX.lt
   have bec := BE.cell
   have bef := BE.frozen
   have bel := BE.lt
   go_wp2_with fail
   have sfx := (sf2 (E := 3) (.bool b2) (.slice ao2 n2 c2) BX (by decide))
   replace hX := hY.soft sfx
   replace hkr := (kp2 (A := AX) (.bool b2) (.slice ao2 n2 c2) hkr (by omega))
   replace BE := (ot2 (A := AX) (.bool b2) (.slice ao2 n2 c2) BE (by omega))
   replace BX := (bl2 (.bool b2) (.slice ao2 n2 c2) BX)
   clear hY sfx bxc bxf bxl bec bef bel
   generalize ((w3.setCell ⟨AX, 0, none⟩ (.bool b2)).setCell ⟨AX, 1, none⟩ (.slice ao2 n2 c2)) = wx at *
   replace hX := hX.soft (Sf.drew (Sf.refl _ _))
   replace BE := BE.drew
   refine wp_region_l (S := fun w' => Blk w' AX #[.bool b2, .slice ao2 n2 c2] 81 ∧ Kp w w') (by kernel_rfl) ⟨BX.drew, Kp.drew' hkr⟩ (fun hS0 => ?_)
   clear BX hkr
   generalize wx.drew = w4 at *
   refine wpAnyL_tk (i := 0) (k := 9) (v := .agg #[.bool b2, .slice ao2 n2 c2]) rfl ?_ hS0 ?_
   ·intro w' hw'; have hc := hw'.1.cell; go_simp
   simp only [sq]
   refine wpAnyL_tk (i := 1) (k := 2) (v := .string ⟨#[]⟩) rfl ?_ hS0 ?_
   ·intro w' hw'; go_simp; try rfl
   simp only [sq]
   refine wpAnyL_tk (i := 2) (k := 3) (v := .bool false) rfl ?_ hS0 ?_
   ·intro w' hw'; go_simp
   simp only [sq]
   refine wpAnyL_tk (i := 3) (k := 4) (v := .bool false) rfl ?_ hS0 ?_
   ·intro w' hw'; go_simp
   simp only [sq]
   refine wpAnyL_sk (i := 4) (k := 5) rfl hS0 ?_
   simp only [sq]
   refine wpAnyL_sk (i := 5) (k := 9) rfl hS0 ?_
   simp only [sq]
   refine wpAnyL_sk (i := 6) (k := 7) rfl hS0 ?_
   simp only [sq]
   refine wpAnyL_sk (i := 7) (k := 8) rfl hS0 ?_
   simp only [sq]
   refine wpAnyL_tk (i := 8) (k := 10) (v := .bool false) rfl ?_ hS0 ?_
   ·intro w' hw'; go_simp
   simp only [sq]
   refine wpAnyL_on (i := 9) rfl (fun K hK => ?_)
   have bec := BE.cell
   have bef := BE.frozen
   have bel := BE.lt
   have hax := hS0.1.lt
   have hne2 : w.heap.size ≠ AX := by omega
   go_simp
   refine hK.out _ _ ⟨(ot2 (A := w.heap.size) (.bool b2) (.slice ao2 n2 c2) hS0.1 (by omega)), (kp2 (A := w.heap.size) (.bool b2) (.slice ao2 n2 c2) hS0.2 (by omega))⟩ (fun hS2 => ?_)
   clear hK K hS0 hax hne2
   have sf1 := (sf2 (E := 3) (.bool b2) (.slice ao2 n2 c2) BE (by decide))
   replace BE := (bl2 (.bool b2) (.slice ao2 n2 c2) BE)
   replace hX := hX.soft sf1
   clear bec bef bel sf1
   generalize ((w4.setCell ⟨w.heap.size, 0, none⟩ (.bool b2)).setCell ⟨w.heap.size, 1, none⟩ (.slice ao2 n2 c2)) = w5 at *
   refine wpAnyL_last (i := 10) rfl (by kernel_rfl) (by kernel_rfl) (by kernel_rfl) (fun K hK => ?_)
   go_simp
   refine hK.out _ _ ?_
   clear hK K
   have bec := BE.cell
   go_wp2_with fail
   refine bodyPost_ret (v := .tuple #[.agg #[.bool b2, .slice ao2 n2 c2], .bool false]) (by simp [results, Tryd.results50, go_sem, bec]) rfl ?_
   exact ⟨_, _, _, _, _, _, rfl, hX, ⟨fun h => (by cases h), fun _ => HN0.out⟩, hS2.2⟩

set_option maxHeartbeats 3200000 in
set_option maxRecDepth 100000 in
theorem nb_pos (s : ByteArray) (n : Nat) (hn : n ≤ 39) (hsz : s.size = n + 1) (c : UInt8) (hc : ∀ h, s[0]'h = c) (h45 : ((c.toNat : Int) == 45) = false) (hne : (s.toList == []) = false) (HN1 : Hid (∀ z, NumT s z → Hid (Digs (bl s)) ∧ z = decN (bl s))) (w : World) : Calls Tryd.prog 50 #[.string s] w (RetNb w s) := by
 have BE0 : Blk (w.alloc (.cells #[.bool false, .slice none 0 0] 81)) w.heap.size #[.bool false, .slice none 0 0] 81 := Blk.new w _ _
 have kp0 : Kp w (w.alloc (.cells #[.bool false, .slice none 0 0] 81)) := kp_alloc w _
 go_enter Tryd.func50, Tryd.ntmps50
 go_wp2_with fail
 go_loopw [6] (fun i wr => ∃ j : Nat, j ≤ s.size ∧ i = .int .i64 j ∧ Blk wr w.heap.size #[.bool false, .slice none 0 0] 81 ∧ Kp w wr ∧ Hid (∀ k, k < j → isDig (at0 (bl s) k) = true))
  (fun i _ => s.size - (intOf i).toNat)
 case atStart => exact ⟨0, by omega, rfl, BE0, kp0, fun k hk => absurd hk (by omega)⟩
 case round =>
  clear BE0 kp0
  obtain ⟨j, hj, rfl, BE, hkr, HP⟩ := hrel
  have hlen := bl_len s
  by_cases h1 : j < s.size
  ·have hb := byteAt_eq s j h1
   have hbb := byteAt_bl s j
   have hj0 : (0 : Int) ≤ (j : Int) := by omega
   have hj1 : (j : Int) < (s.size : Int) := by omega
   by_cases hd : isDig (at0 (bl s) j) = true
   ·have HP' : Hid (∀ k, k < j + 1 → isDig (at0 (bl s) k) = true) := fun k hk => by
     rcases Nat.lt_or_ge k j with h | h
     ·exact HP.out k h
     ·rw [show k = j by omega]; exact hd
    rw [← hbb] at hd
    have hD := fun (W : World) => rdgt_any (byteAt s j) W
    rw [hd] at hD
    clear hd hbb HP hlen
    generalize byteAt s j = C at *
    go_wp2_with fail
    refine (hD _).mono ?_
    rintro e w1 ⟨rfl, rfl⟩
    go_wp2_with fail
    go_roundw
    case rel => exact ⟨j + 1, by omega, by go_num, BE, hkr, HP'⟩
    case measure => simp [intOf]; omega
   ·have HF : Hid (∀ z, ¬ NumT s z) := fun z hz => hd ((HN1.out z hz).1.out (at0 (bl s) j) (by rw [at0_eq (by omega)]; exact List.getElem_mem _))
    rw [← hbb] at hd
    have hD := fun (W : World) => rdgt_any (byteAt s j) W
    rw [Bool.eq_false_iff.2 hd] at hD
    clear hd hbb HP hlen
    generalize byteAt s j = C at *
    have bec := BE.cell
    have bef := BE.frozen
    have bel := BE.lt
    go_wp2_with fail
    refine (hD _).mono ?_
    rintro e w1 ⟨rfl, rfl⟩
    go_wp2_with fail
    refine bodyPost_ret (v := .tuple #[.agg #[.bool false, .slice none 0 0], .bool false]) (by simp [results, Tryd.results50, go_sem, bec]) rfl ?_
    have wee : w.heap.size ≤ w.heap.size := Nat.le_refl _
    exact ⟨_, _, _, _, _, _, rfl, in_zero _, ⟨fun h => (by cases h), fun _ => HF.out⟩, (kp2 (A := w.heap.size) (.bool false) (.slice none 0 0) hkr (by omega))⟩
  ·have HDG : Hid (Digs (bl s)) := fun c hc => by
    obtain ⟨k, hk, rfl⟩ := List.getElem_of_mem hc
    rw [← at0_eq hk]
    exact HP.out k (by omega)
   have fz : Fit (decN (bl s)) := by
    obtain ⟨b1, b2⟩ := decN_bd HDG.out
    rw [bl_len] at b2
    refine ⟨41, by decide, ?_⟩
    have b3 : (10 : Int) ^ s.size ≤ 10 ^ 40 := pow_mono (by decide) (by omega)
    have b4 : decN (bl s) < 10 ^ 40 := Int.lt_of_lt_of_le b2 b3
    have b5 : ((10 : Int) ^ 40) = ((10 ^ 40 : Nat) : Int) := by decide
    rw [b5] at b4
    have b6 : (10 : Nat) ^ 40 < 10 ^ 41 := by decide
    omega
   clear HP hlen
   go_wp2_with fail
   refine (read40 s _ HDG.out (by omega)).mono ?_
   rintro e w2 ⟨v1, rfl, hX, hk2⟩
   obtain ⟨b1, ao1, n1, c1, rfl⟩ := hX.shape'
   have BX := Blk.new w2 #[.bool b1, .slice ao1 n1 c1] 81
   have hsx := (BE.keep hk2).lt
   replace hkr := (hkr.trans' hk2).alloc' (.cells #[.bool b1, .slice ao1 n1 c1] 81)
   replace BE := (BE.keep hk2).alloc (.cells #[.bool b1, .slice ao1 n1 c1] 81)
   replace hX := hX.keep (kp_alloc w2 (.cells #[.bool b1, .slice ao1 n1 c1] 81))
   have bxc := BX.cell
   have bxf := BX.frozen
   have bxl := BX.lt
   have bec := BE.cell
   have bef := BE.frozen
   have bel := BE.lt
   clear hk2
   go_wp2_with fail
   generalize w2.alloc (.cells #[.bool b1, .slice ao1 n1 c1] 81) = wx at *
   generalize w2.heap.size = AX at *
   clear bxc bxf bxl bec bef bel
   have hTX := fun (W : World) (hh : IN W (.agg #[.bool b1, .slice ao1 n1 c1]) (decN (bl s))) => text_ref (decN (bl s)) _ W hh fz
   have HOK : Hid (∀ ok : Bool, ok = decide (strOf (Go.Lib.itoa (decN (bl s))) = s) → (ok = true → NumT s (decN (bl s))) ∧ (ok = false → ∀ z, ¬ NumT s z)) := by
    intro ok ho
    refine ⟨fun h => ?_, fun h z hz => ?_⟩
    ·rw [h] at ho
     exact (of_decide_eq_true ho.symm).symm
    ·rw [h] at ho
     have h2 := (HN1.out z hz).2
     rw [h2] at hz
     exact of_decide_eq_false ho.symm hz.symm
   clear HN1 HDG
   generalize (decN (bl s)) = z at *
   generalize strOf (Go.Lib.itoa z) = S at *
   replace hX := hX.soft (Sf.drew (Sf.refl _ _))
   replace BE := BE.drew
   refine wp_region_l (S := fun w' => Blk w' AX #[.bool b1, .slice ao1 n1 c1] 81 ∧ Kp w w') (by kernel_rfl) ⟨BX.drew, Kp.drew' hkr⟩ (fun hS0 => ?_)
   clear BX hkr
   generalize wx.drew = wd at *
   refine wpAnyL_tk (i := 0) (k := 9) (v := .agg #[.bool b1, .slice ao1 n1 c1]) rfl ?_ hS0 ?_
   ·intro w' hw'; have hc := hw'.1.cell; go_simp
   simp only [sq]
   refine wpAnyL_tk (i := 1) (k := 2) (v := .string s) rfl ?_ hS0 ?_
   ·intro w' hw'; go_simp
   simp only [sq]
   refine wpAnyL_tk (i := 2) (k := 3) (v := .bool true) rfl ?_ hS0 ?_
   ·intro w' hw'; go_simp
   simp only [sq]
   refine wpAnyL_tk (i := 3) (k := 4) (v := .bool true) rfl ?_ hS0 ?_
   ·intro w' hw'; go_simp
   simp only [sq]
   refine wpAnyL_tk (i := 4) (k := 5) (v := .agg #[.bool b1, .slice ao1 n1 c1]) rfl ?_ hS0 ?_
   ·intro w' hw'; have hc := hw'.1.cell; go_simp
   simp only [sq]
   refine wpAnyL_tk (i := 6) (k := 7) (v := .string s) rfl ?_ hS0 ?_
   ·intro w' hw'; go_simp
   simp only [sq]
   refine wpAnyL_on (i := 5) rfl (fun K hK => ?_)
   go_simp
   refine (hTX _ hX).mono ?_
   rintro e w4 ⟨rfl, hk4⟩
   replace BE := BE.keep hk4
   replace hX := hX.keep hk4
   go_wp2_with fail
   refine hK.out _ _ ⟨hS0.1.keep hk4, hS0.2.trans' hk4⟩ (fun hS1 => ?_)
   clear hK K hS0 hk4
   refine wpAnyL_tk (i := 7) (k := 8) (v := .bool (decide (S = s))) rfl ?_ hS1 ?_
   ·intro w' hw'; go_simp; exact str_beq S s
   simp only [sq]
   have hok := HOK.out _ rfl
   have HK2 := Hid.mk hok
   generalize decide (S = s) = ok at *
   clear hok HOK
   refine wpAnyL_tk (i := 8) (k := 10) (v := .bool ok) rfl ?_ hS1 ?_
   ·intro w' hw'; go_simp
   simp only [sq]
   refine wpAnyL_on (i := 9) rfl (fun K hK => ?_)
   have bec := BE.cell
   have bef := BE.frozen
   have bel := BE.lt
   have hax := hS1.1.lt
   have hne2 : w.heap.size ≠ AX := by omega
   go_simp
   refine hK.out _ _ ⟨(ot2 (A := w.heap.size) (.bool b1) (.slice ao1 n1 c1) hS1.1 (by omega)), (kp2 (A := w.heap.size) (.bool b1) (.slice ao1 n1 c1) hS1.2 (by omega))⟩ (fun hS2 => ?_)
   clear hK K hS1 hax hne2
   have sf1 := (sf2 (E := 3) (.bool b1) (.slice ao1 n1 c1) BE (by decide))
   replace BE := (bl2 (.bool b1) (.slice ao1 n1 c1) BE)
   replace hX := hX.soft sf1
   clear bec bef bel sf1
   generalize ((w4.setCell ⟨w.heap.size, 0, none⟩ (.bool b1)).setCell ⟨w.heap.size, 1, none⟩ (.slice ao1 n1 c1)) = w5 at *
   refine wpAnyL_last (i := 10) rfl (by kernel_rfl) (by kernel_rfl) (by kernel_rfl) (fun K hK => ?_)
   go_simp
   refine hK.out _ _ ?_
   clear hK K
   have bec := BE.cell
   go_wp2_with fail
   refine bodyPost_ret (v := .tuple #[.agg #[.bool b1, .slice ao1 n1 c1], .bool ok]) (by simp [results, Tryd.results50, go_sem, bec]) rfl ?_
   exact ⟨_, _, _, _, _, _, rfl, hX, HK2, hS2.2⟩

set_option maxHeartbeats 3200000 in
set_option maxRecDepth 100000 in
theorem nb_nil (s : ByteArray) (hsz : s.size = 0) (he : s = ⟨#[]⟩) (HN0 : Hid (∀ z, ¬ NumT s z)) (HN1 : Hid (∀ z, NumT s z → Hid (Digs (bl s)) ∧ z = decN (bl s))) (w : World) : Calls Tryd.prog 50 #[.string s] w (RetNb w s) := by
 have BE0 : Blk (w.alloc (.cells #[.bool false, .slice none 0 0] 81)) w.heap.size #[.bool false, .slice none 0 0] 81 := Blk.new w _ _
 have kp0 : Kp w (w.alloc (.cells #[.bool false, .slice none 0 0] 81)) := kp_alloc w _
 go_enter Tryd.func50, Tryd.ntmps50
 go_wp2_with fail
 go_loopw [6] (fun i wr => ∃ j : Nat, j ≤ s.size ∧ i = .int .i64 j ∧ Blk wr w.heap.size #[.bool false, .slice none 0 0] 81 ∧ Kp w wr ∧ Hid (∀ k, k < j → isDig (at0 (bl s) k) = true))
  (fun i _ => s.size - (intOf i).toNat)
 case atStart => exact ⟨0, by omega, rfl, BE0, kp0, fun k hk => absurd hk (by omega)⟩
 case round =>
  clear BE0 kp0
  obtain ⟨j, hj, rfl, BE, hkr, HP⟩ := hrel
  have hlen := bl_len s
  by_cases h1 : j < s.size
  ·exact absurd h1 (by omega)
  ·have HDG : Hid (Digs (bl s)) := fun c hc => by
    obtain ⟨k, hk, rfl⟩ := List.getElem_of_mem hc
    rw [← at0_eq hk]
    exact HP.out k (by omega)
   have fz : Fit (decN (bl s)) := by
    obtain ⟨b1, b2⟩ := decN_bd HDG.out
    rw [bl_len] at b2
    refine ⟨41, by decide, ?_⟩
    have b3 : (10 : Int) ^ s.size ≤ 10 ^ 40 := pow_mono (by decide) (by omega)
    have b4 : decN (bl s) < 10 ^ 40 := Int.lt_of_lt_of_le b2 b3
    have b5 : ((10 : Int) ^ 40) = ((10 ^ 40 : Nat) : Int) := by decide
    rw [b5] at b4
    have b6 : (10 : Nat) ^ 40 < 10 ^ 41 := by decide
    omega
   clear HP hlen
   subst he
   go_wp2_with fail
   refine (read40 ⟨#[]⟩ _ HDG.out (by omega)).mono ?_
   rintro e w2 ⟨v1, rfl, hX, hk2⟩
   obtain ⟨b1, ao1, n1, c1, rfl⟩ := hX.shape'
   have BX := Blk.new w2 #[.bool b1, .slice ao1 n1 c1] 81
   have hsx := (BE.keep hk2).lt
   replace hkr := (hkr.trans' hk2).alloc' (.cells #[.bool b1, .slice ao1 n1 c1] 81)
   replace BE := (BE.keep hk2).alloc (.cells #[.bool b1, .slice ao1 n1 c1] 81)
   replace hX := hX.keep (kp_alloc w2 (.cells #[.bool b1, .slice ao1 n1 c1] 81))
   have bxc := BX.cell
   have bxf := BX.frozen
   have bxl := BX.lt
   have bec := BE.cell
   have bef := BE.frozen
   have bel := BE.lt
   clear hk2
   go_wp2_with fail
   generalize w2.alloc (.cells #[.bool b1, .slice ao1 n1 c1] 81) = wx at *
   generalize w2.heap.size = AX at *
   clear bxc bxf bxl bec bef bel
   replace hX := hX.soft (Sf.drew (Sf.refl _ _))
   replace BE := BE.drew
   refine wp_region_l (S := fun w' => Blk w' AX #[.bool b1, .slice ao1 n1 c1] 81 ∧ Kp w w') (by kernel_rfl) ⟨BX.drew, Kp.drew' hkr⟩ (fun hS0 => ?_)
   clear BX hkr
   generalize wx.drew = w4 at *
   refine wpAnyL_tk (i := 0) (k := 9) (v := .agg #[.bool b1, .slice ao1 n1 c1]) rfl ?_ hS0 ?_
   ·intro w' hw'; have hc := hw'.1.cell; go_simp
   simp only [sq]
   refine wpAnyL_tk (i := 1) (k := 2) (v := .string ⟨#[]⟩) rfl ?_ hS0 ?_
   ·intro w' hw'; go_simp; try rfl
   simp only [sq]
   refine wpAnyL_tk (i := 2) (k := 3) (v := .bool false) rfl ?_ hS0 ?_
   ·intro w' hw'; go_simp
   simp only [sq]
   refine wpAnyL_tk (i := 3) (k := 4) (v := .bool false) rfl ?_ hS0 ?_
   ·intro w' hw'; go_simp
   simp only [sq]
   refine wpAnyL_sk (i := 4) (k := 5) rfl hS0 ?_
   simp only [sq]
   refine wpAnyL_sk (i := 5) (k := 9) rfl hS0 ?_
   simp only [sq]
   refine wpAnyL_sk (i := 6) (k := 7) rfl hS0 ?_
   simp only [sq]
   refine wpAnyL_sk (i := 7) (k := 8) rfl hS0 ?_
   simp only [sq]
   refine wpAnyL_tk (i := 8) (k := 10) (v := .bool false) rfl ?_ hS0 ?_
   ·intro w' hw'; go_simp
   simp only [sq]
   refine wpAnyL_on (i := 9) rfl (fun K hK => ?_)
   have bec := BE.cell
   have bef := BE.frozen
   have bel := BE.lt
   have hax := hS0.1.lt
   have hne2 : w.heap.size ≠ AX := by omega
   go_simp
   refine hK.out _ _ ⟨(ot2 (A := w.heap.size) (.bool b1) (.slice ao1 n1 c1) hS0.1 (by omega)), (kp2 (A := w.heap.size) (.bool b1) (.slice ao1 n1 c1) hS0.2 (by omega))⟩ (fun hS2 => ?_)
   clear hK K hS0 hax hne2
   have sf1 := (sf2 (E := 3) (.bool b1) (.slice ao1 n1 c1) BE (by decide))
   replace BE := (bl2 (.bool b1) (.slice ao1 n1 c1) BE)
   replace hX := hX.soft sf1
   clear bec bef bel sf1
   generalize ((w4.setCell ⟨w.heap.size, 0, none⟩ (.bool b1)).setCell ⟨w.heap.size, 1, none⟩ (.slice ao1 n1 c1)) = w5 at *
   refine wpAnyL_last (i := 10) rfl (by kernel_rfl) (by kernel_rfl) (by kernel_rfl) (fun K hK => ?_)
   go_simp
   refine hK.out _ _ ?_
   clear hK K
   have bec := BE.cell
   go_wp2_with fail
   refine bodyPost_ret (v := .tuple #[.agg #[.bool b1, .slice ao1 n1 c1], .bool false]) (by simp [results, Tryd.results50, go_sem, bec]) rfl ?_
   exact ⟨_, _, _, _, _, _, rfl, hX, ⟨fun h => (by cases h), fun _ => HN0.out⟩, hS2.2⟩

/-- surdref.number. -/
theorem number_any (s : ByteArray) (w : World) (hs : s.size ≤ 40) : Calls Tryd.prog 50 #[.string s] w (RetNb w s) := by
 have e : s = strOf s.data.toList := by apply ByteArray.ext; simp [strOf]
 have hl : s.data.toList.length ≤ 40 := by
  rw [Array.length_toList]
  exact hs
 generalize s.data.toList = t at e hl
 subst e
 cases t with
 | nil =>
  have h0 : ∀ z, ¬ NumT (strOf []) z := fun z hz => by
   rcases numT_of hz with ⟨_, h2, _⟩ | ⟨_, t', h2, _⟩
   ·rcases h2 with h2 | h2
    ·cases h2
    ·exact h2.1 rfl
   ·cases h2
  exact nb_nil _ rfl rfl h0 (fun z hz => absurd hz (h0 z)) w
 | cons c t =>
  by_cases hc : c = 45
  ·subst hc
   have hN : ∀ z, NumT (strOf (45 :: t)) z → t ≠ [] ∧ Digs (bi t) ∧ z = - decN (bi t) := fun z hz => by
    rcases numT_of hz with ⟨_, h2, _⟩ | ⟨_, t', h2, h3, h4, _, h5⟩
    ·rcases h2 with h2 | h2
     ·cases h2
     ·exact absurd h2.2.1 (fun h => dig45 h)
    ·cases h2
     exact ⟨h3, h4, h5⟩
   cases t with
   | nil => exact nb_minus _ (strOf []) rfl (fun _ => rfl) (str_sub 45 []) rfl rfl (fun z hz => (hN z hz).1 rfl) (fun z hz => ⟨(hN z hz).2.1, (hN z hz).2.2⟩) w
   | cons c2 t2 =>
    refine nb_neg _ (strOf (c2 :: t2)) (c2 :: t2).length ?_ (str_sz _ _) (fun _ => rfl) (str_sub 45 (c2 :: t2)) (strOf_size _) (str_ne (by simp)) (fun z hz => ⟨(hN z hz).2.1, (hN z hz).2.2⟩) w
    simp only [List.length_cons] at hl ⊢
    omega
  ·refine nb_pos _ t.length ?_ (str_sz _ _) c (fun _ => rfl) (c_ne hc (by decide)) (str_ne (by simp)) (fun z hz => ?_) w
   ·simp only [List.length_cons] at hl
    omega
   ·rcases numT_of hz with ⟨_, h2, h3⟩ | ⟨_, t', h2, _⟩
    ·refine ⟨?_, h3⟩
     rcases h2 with h2 | h2
     ·cases h2
      exact fun c hc => by simp [bl_strOf, bi] at hc; rw [hc]; rfl
     ·exact h2.2.1
    ·cases h2
     exact absurd rfl hc

end Go.Proofs.YtjahbjjekednfabDoor
