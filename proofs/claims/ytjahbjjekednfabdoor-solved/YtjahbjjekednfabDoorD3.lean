import Derived.Test.YtjahbjjekednfabDoorD1
import Derived.Test.YtjahbjjekednfabDoorD2
import Derived.Deep.LoopGhost
namespace Go.Proofs.YtjahbjjekednfabDoor
open Go.RowKit

theorem qsqrt_ns {d : Nat} (h2 : 2 ≤ d) (hd : d ≤ 2000) (hs : ∀ m, m * m ≠ d) : p0 (qsqrt d) = 0 ∧ q0 (qsqrt d) = 1 ∧ n0 (qsqrt d) = (d : Int) ∧ QF 10 (qsqrt d) ∧ QD (qsqrt d) := by
 have hr := sqf_root (n := d) (by omega) (by omega)
 have e := qsqrt_of hr (by omega)
 have e1 := hr.eq
 have o0 := hr.op
 have s0 := hr.sp
 generalize sqf d 1000 = o at *
 generalize d / (o * o) = s at *
 have s1 : s ≠ 1 := fun k => hs o (by rw [k, Nat.mul_one] at e1; exact e1)
 rw [if_neg s1] at e
 have b1 : o ≤ d := by
  have h1 : o * 1 ≤ o * (o * s) := Nat.mul_le_mul_left o (Nat.mul_pos o0 s0)
  rw [← Nat.mul_assoc, e1] at h1
  omega
 have b2 : s ≤ d := by
  have h1 : 1 * s ≤ o * o * s := Nat.mul_le_mul_right s (Nat.mul_pos o0 o0)
  omega
 rw [e]
 refine ⟨?_, ?_, ?_, ⟨?_, ?_, ?_⟩, ?_, ?_⟩
 ·simp [p0]
 ·simp only [q0]
  rw [if_neg (by omega)]; rfl
 ·simp only [n0, Int.mul_one]
  rw [← e1, Int.natCast_mul, Int.natCast_mul]
 ·show Ft 10 0
  unfold Ft; decide
 ·show Ft 10 (o : Int)
  exact ft_small (by omega)
 ·show Ft 10 1
  unfold Ft; decide
 ·show (0 : Int) ≤ (s : Int)
  omega
 ·show (s : Int) ≤ 1000000
  omega
theorem pf_next {d : Nat} {j : Nat} (hd : d ≤ 2000) (h : PFine d j) : Ft 115 (cv 0 1 d (j + 1)).lp ∧ Ft 115 (cv 0 1 d (j + 1)).lq := by
 have fr : Ft 10 ((isq (d : Int).toNat : Nat) : Int) := by
  have h1 := (isq_ok d).1
  have h2 := Nat.le_mul_self (isq d)
  rw [Int.toNat_natCast]
  exact ft_small (by omega)
 have ht := trm_ft h.p h.q fr (by have := h.on; omega)
 refine ⟨?_, ?_⟩
 ·show Ft 115 (tm 0 1 d j * (cv 0 1 d j).lp + (cv 0 1 d j).ap)
  exact Ft.mono (Ft.add (ht.mul h.lp) (h.ap.mono (by decide))) (by decide)
 ·show Ft 115 (tm 0 1 d j * (cv 0 1 d j).lq + (cv 0 1 d j).aq)
  exact Ft.mono (Ft.add (ht.mul h.lq) (h.aq.mono (by decide))) (by decide)

set_option maxHeartbeats 6400000 in
set_option maxRecDepth 100000 in
/-- expansion.Pell. -/
theorem pell_any (d : Nat) (J : Nat) (w : World) (h2 : 2 ≤ d) (hd : d ≤ 2000) (hs : ∀ m, m * m ≠ d) (hJ : PellAt d J) :
 Calls Tryd.prog 38 #[.int .i64 (d : Int)] w (RetFR w (cv 0 1 d J).lp (cv 0 1 d J).lq) := by
 obtain ⟨e1, e2, e3, fq, fd⟩ := qsqrt_ns h2 hd hs
 have HBG := Hid.mk (fun (W : World) (v : Value) (hW : XN W v (qsqrt d)) => begin_any (qsqrt d) 10 v W hW (by decide) fq fd)
 rw [e1, e2, e3] at HBG
 have HRT := fun (W : World) => root_any d W (by omega)
 have HPF := Hid.mk hJ.fine
 have HNO := Hid.mk hJ.no
 have HYE := Hid.mk hJ.yes
 have hJ1 := hJ.pos
 have HNX := Hid.mk (fun (j : Nat) (h : PFine d j) => pf_next hd h)
 have fdd : Ft 10 (d : Int) := ft_small hd
 have frr : Ft 10 ((isq (d : Int).toNat : Nat) : Int) := by
  have h1 := (isq_ok d).1
  have h2 := Nat.le_mul_self (isq d)
  rw [Int.toNat_natCast]
  exact ft_small (by omega)
 have fdb : Ft 115 (d : Int) := fdd.mono (by decide)
 have hFI := fun (W : World) => fromInt_any (d : Int) W (by omega) (by omega)
 have hd0 : (0 : Int) ≤ (d : Int) := by omega
 have HW := Hid.mk (IntWalk.i64_in (d : Int) (by omega))
 clear hJ fq fd e1 e2 e3 hs h2
 generalize qsqrt d = a at *
 generalize ((d : Nat) : Int) = d at *
 have BE0 : Blk (w.alloc (.cells #[.bool false, .slice none 0 0, .bool false, .slice none 0 0] 76)) w.heap.size #[.bool false, .slice none 0 0, .bool false, .slice none 0 0] 76 := Blk.new w _ _
 have kp0 : Kp w (w.alloc (.cells #[.bool false, .slice none 0 0, .bool false, .slice none 0 0] 76)) := kp_alloc w _
 go_enter Tryd.func38, Tryd.ntmps38
 go_wp2_with fail
 refine (HRT _).mono ?_
 rintro e w1 ⟨v1, rfl, hX, hk1⟩
 obtain ⟨b1, ao1, n1, c1, b2, ao2, n2, c2, b3, ao3, n3, c3, rfl, _, _, _⟩ := id hX
 generalize a.d = D at *
 have BX0 := Blk.new w1 #[.bool b1, .slice ao1 n1 c1, .bool b2, .slice ao2 n2 c2, .bool b3, .slice ao3 n3 c3, .int .i64 D] 62
 have hkw := (kp0.trans' hk1).alloc' (.cells #[.bool b1, .slice ao1 n1 c1, .bool b2, .slice ao2 n2 c2, .bool b3, .slice ao3 n3 c3, .int .i64 D] 62)
 replace BE0 := (BE0.keep hk1).alloc (.cells #[.bool b1, .slice ao1 n1 c1, .bool b2, .slice ao2 n2 c2, .bool b3, .slice ao3 n3 c3, .int .i64 D] 62)
 replace hX := hX.keep (kp_alloc w1 (.cells #[.bool b1, .slice ao1 n1 c1, .bool b2, .slice ao2 n2 c2, .bool b3, .slice ao3 n3 c3, .int .i64 D] 62))
 have hsz : w.heap.size + 1 ≤ w1.heap.size := by have := hk1.size; simp only [World.size_alloc] at this; omega
 clear kp0 hk1 HRT
 go_wp2_with fail
 generalize w1.alloc (.cells #[.bool b1, .slice ao1 n1 c1, .bool b2, .slice ao2 n2 c2, .bool b3, .slice ao3 n3 c3, .int .i64 D] 62) = wa at *
 generalize w1.heap.size = AX at *
 refine (hFI _).mono ?_
 rintro e w2 ⟨v2, rfl, hG, hk2⟩
 obtain ⟨b20, ao20, n20, c20, rfl⟩ := hG.shape'
 have BG0 := Blk.new w2 #[.bool b20, .slice ao20 n20 c20] 60
 have hsz2 := (BX0.keep hk2).lt
 replace hkw := (hkw.trans' hk2).alloc' (.cells #[.bool b20, .slice ao20 n20 c20] 60)
 replace BE0 := (BE0.keep hk2).alloc (.cells #[.bool b20, .slice ao20 n20 c20] 60)
 replace BX0 := (BX0.keep hk2).alloc (.cells #[.bool b20, .slice ao20 n20 c20] 60)
 replace hX := (hX.keep hk2).keep (kp_alloc w2 (.cells #[.bool b20, .slice ao20 n20 c20] 60))
 replace hG := hG.keep (kp_alloc w2 (.cells #[.bool b20, .slice ao20 n20 c20] 60))
 have bxc := BX0.cell
 have bxl := BX0.lt
 clear hk2 hFI
 go_wp2_with fail
 generalize w2.alloc (.cells #[.bool b20, .slice ao20 n20 c20] 60) = wb at *
 generalize w2.heap.size = AG at *
 refine (HBG.out _ _ hX).mono ?_
 rintro e w3 ⟨v3, rfl, hW, hk3⟩
 obtain ⟨b4, ao4, n4, c4, b5, ao5, n5, c5, b6, ao6, n6, c6, b7, ao7, n7, c7, b8, ao8, n8, c8, b9, ao9, n9, c9, b10, ao10, n10, c10, b11, ao11, n11, c11, rfl, _, _, _, _, _, _, _, _⟩ := id hW
 have hsz3 := (BG0.keep hk3).lt
 replace hkw := (hkw.trans' hk3).alloc' (.cells #[.bool b4, .slice ao4 n4 c4, .bool b5, .slice ao5 n5 c5, .bool b6, .slice ao6 n6 c6, .bool b7, .slice ao7 n7 c7, .bool b8, .slice ao8 n8 c8, .bool b9, .slice ao9 n9 c9, .bool b10, .slice ao10 n10 c10, .bool b11, .slice ao11 n11 c11] 115)
 replace BE0 := (BE0.keep hk3).alloc (.cells #[.bool b4, .slice ao4 n4 c4, .bool b5, .slice ao5 n5 c5, .bool b6, .slice ao6 n6 c6, .bool b7, .slice ao7 n7 c7, .bool b8, .slice ao8 n8 c8, .bool b9, .slice ao9 n9 c9, .bool b10, .slice ao10 n10 c10, .bool b11, .slice ao11 n11 c11] 115)
 replace BG0 := (BG0.keep hk3).alloc (.cells #[.bool b4, .slice ao4 n4 c4, .bool b5, .slice ao5 n5 c5, .bool b6, .slice ao6 n6 c6, .bool b7, .slice ao7 n7 c7, .bool b8, .slice ao8 n8 c8, .bool b9, .slice ao9 n9 c9, .bool b10, .slice ao10 n10 c10, .bool b11, .slice ao11 n11 c11] 115)
 have BA0 := Blk.new w3 #[.bool b4, .slice ao4 n4 c4, .bool b5, .slice ao5 n5 c5, .bool b6, .slice ao6 n6 c6, .bool b7, .slice ao7 n7 c7, .bool b8, .slice ao8 n8 c8, .bool b9, .slice ao9 n9 c9, .bool b10, .slice ao10 n10 c10, .bool b11, .slice ao11 n11 c11] 115
 replace hW := hW.keep (kp_alloc w3 (.cells #[.bool b4, .slice ao4 n4 c4, .bool b5, .slice ao5 n5 c5, .bool b6, .slice ao6 n6 c6, .bool b7, .slice ao7 n7 c7, .bool b8, .slice ao8 n8 c8, .bool b9, .slice ao9 n9 c9, .bool b10, .slice ao10 n10 c10, .bool b11, .slice ao11 n11 c11] 115))
 replace hG := (hG.keep hk3).keep (kp_alloc w3 (.cells #[.bool b4, .slice ao4 n4 c4, .bool b5, .slice ao5 n5 c5, .bool b6, .slice ao6 n6 c6, .bool b7, .slice ao7 n7 c7, .bool b8, .slice ao8 n8 c8, .bool b9, .slice ao9 n9 c9, .bool b10, .slice ao10 n10 c10, .bool b11, .slice ao11 n11 c11] 115))
 clear hk3 BX0 bxc bxl HBG hX
 go_wp2_with fail
 generalize w3.alloc (.cells #[.bool b4, .slice ao4 n4 c4, .bool b5, .slice ao5 n5 c5, .bool b6, .slice ao6 n6 c6, .bool b7, .slice ao7 n7 c7, .bool b8, .slice ao8 n8 c8, .bool b9, .slice ao9 n9 c9, .bool b10, .slice ao10 n10 c10, .bool b11, .slice ao11 n11 c11] 115) = wc at *
 generalize w3.heap.size = AT at *
 go_loopg [] J (fun k wr => ∃ (j : Nat) (b4 : Bool) (ao4 : Option Addr) (n4 c4 : Nat) (b5 : Bool) (ao5 : Option Addr) (n5 c5 : Nat) (b6 : Bool) (ao6 : Option Addr) (n6 c6 : Nat) (b7 : Bool) (ao7 : Option Addr) (n7 c7 : Nat) (b8 : Bool) (ao8 : Option Addr) (n8 c8 : Nat) (b9 : Bool) (ao9 : Option Addr) (n9 c9 : Nat) (b10 : Bool) (ao10 : Option Addr) (n10 c10 : Nat) (b11 : Bool) (ao11 : Option Addr) (n11 c11 : Nat), J - j ≤ k ∧ j < J ∧ Blk wr AT #[.bool b4, .slice ao4 n4 c4, .bool b5, .slice ao5 n5 c5, .bool b6, .slice ao6 n6 c6, .bool b7, .slice ao7 n7 c7, .bool b8, .slice ao8 n8 c8, .bool b9, .slice ao9 n9 c9, .bool b10, .slice ao10 n10 c10, .bool b11, .slice ao11 n11 c11] 115 ∧ WK wr (.agg #[.bool b4, .slice ao4 n4 c4, .bool b5, .slice ao5 n5 c5, .bool b6, .slice ao6 n6 c6, .bool b7, .slice ao7 n7 c7, .bool b8, .slice ao8 n8 c8, .bool b9, .slice ao9 n9 c9, .bool b10, .slice ao10 n10 c10, .bool b11, .slice ao11 n11 c11]) (rst 0 1 d j).1 (rst 0 1 d j).2 d (cv 0 1 d j).lp (cv 0 1 d j).lq (cv 0 1 d j).ap (cv 0 1 d j).aq ∧ Blk wr w.heap.size #[.bool false, .slice none 0 0, .bool false, .slice none 0 0] 76 ∧ Blk wr AG #[.bool b20, .slice ao20 n20 c20] 60 ∧ WN wr (.agg #[.bool b20, .slice ao20 n20 c20]) d ∧ Kp w wr)
 case atStart => exact ⟨0, _, _, _, _, _, _, _, _, _, _, _, _, _, _, _, _, _, _, _, _, _, _, _, _, _, _, _, _, _, _, _, _, by omega, by omega, BA0, hW, BE0, BG0, hG, hkw⟩
 case round =>
  clear hW BA0 BE0 hkw BG0 hG
  obtain ⟨j, b4, ao4, n4, c4, b5, ao5, n5, c5, b6, ao6, n6, c6, b7, ao7, n7, c7, b8, ao8, n8, c8, b9, ao9, n9, c9, b10, ao10, n10, c10, b11, ao11, n11, c11, hjk, hjJ, BA, hW, BE, BG, hG, hkr⟩ := hrel
  have hR := hW.rr.1
  have hEn := ended_any _ _ _ _ wr hR
  have hF := HPF.out j hjJ
  have hq : (rst 0 1 d j).2 ≠ 0 := by have := hF.on; omega
  rw [decide_eq_false hq] at hEn
  have HNY := Hid.mk (fun (W : World) (hW : WK W (.agg #[.bool b4, .slice ao4 n4 c4, .bool b5, .slice ao5 n5 c5, .bool b6, .slice ao6 n6 c6, .bool b7, .slice ao7 n7 c7, .bool b8, .slice ao8 n8 c8, .bool b9, .slice ao9 n9 c9, .bool b10, .slice ao10 n10 c10, .bool b11, .slice ao11 n11 c11]) (rst 0 1 d j).1 (rst 0 1 d j).2 d (cv 0 1 d j).lp (cv 0 1 d j).lq (cv 0 1 d j).ap (cv 0 1 d j).aq) => wnext_any _ _ _ _ _ _ _ 10 101 _ W hW (by decide) (by decide) hF.p hF.q fdd frr hq hd0 hF.lp hF.lq hF.ap hF.aq)
  obtain ⟨g1, g2⟩ := HNX.out j hF
  have G1 := Hid.mk g1
  have G2 := Hid.mk g2
  clear hq hF g1 g2
  have bac := BA.cell
  have bal := BA.lt
  go_wp2_with fail
  refine hEn.mono ?_
  rintro e w4 ⟨rfl, hk4⟩
  replace BA := BA.keep hk4
  replace BE := BE.keep hk4
  replace BG := BG.keep hk4
  replace hW := hW.keep hk4
  replace hG := hG.keep hk4
  replace hkr := hkr.trans' hk4
  have hNx := HNY.out w4 hW
  clear hEn bac bal hk4 hR
  have bac := BA.cell
  have bal := BA.lt
  go_wp2_with fail
  refine hNx.mono ?_
  rintro e w5 ⟨v5, rfl, hY, hk5⟩
  have hY : WK w5 v5 (rst 0 1 d (j + 1)).1 (rst 0 1 d (j + 1)).2 d (cv 0 1 d (j + 1)).lp (cv 0 1 d (j + 1)).lq (cv 0 1 d (j + 1)).ap (cv 0 1 d (j + 1)).aq := hY
  obtain ⟨b12, ao12, n12, c12, b13, ao13, n13, c13, b14, ao14, n14, c14, b15, ao15, n15, c15, b16, ao16, n16, c16, b17, ao17, n17, c17, b18, ao18, n18, c18, b19, ao19, n19, c19, rfl, _, _, _, _, g5, g6, _, _⟩ := id hY
  replace BA := BA.keep hk5
  replace BE := BE.keep hk5
  replace BG := BG.keep hk5
  replace hG := hG.keep hk5
  replace hkr := hkr.trans' hk5
  clear bac bal hNx HNY hW hk5
  have hS : ∀ W : World, Sf 2 w5 W → Calls Tryd.prog 75 #[.agg #[.bool b16, .slice ao16 n16 c16, .bool b17, .slice ao17 n17 c17], .agg #[.bool b20, .slice ao20 n20 c20]] W (RetV W (.bool (decide ((cv 0 1 d (j + 1)).lp * (cv 0 1 d (j + 1)).lp - (cv 0 1 d (j + 1)).lq * (cv 0 1 d (j + 1)).lq * d = 1)))) := fun W hs => solves_any _ _ _ 115 _ _ W ⟨_, _, _, _, _, _, _, _, rfl, g5.soft hs, g6.soft hs⟩ (hG.soft hs) (by decide) G1.out G2.out fdb
  have HS := Hid.mk hS
  clear hS g5 g6
  have bac := BA.cell
  have baf := BA.frozen
  have bal := BA.lt
  have bgc := BG.cell
  have bgl := BG.lt
  have sfA := (sf16 (E := 2) (.bool b12) (.slice ao12 n12 c12) (.bool b13) (.slice ao13 n13 c13) (.bool b14) (.slice ao14 n14 c14) (.bool b15) (.slice ao15 n15 c15) (.bool b16) (.slice ao16 n16 c16) (.bool b17) (.slice ao17 n17 c17) (.bool b18) (.slice ao18 n18 c18) (.bool b19) (.slice ao19 n19 c19) BA (by decide))
  have BAn := (bl16 (.bool b12) (.slice ao12 n12 c12) (.bool b13) (.slice ao13 n13 c13) (.bool b14) (.slice ao14 n14 c14) (.bool b15) (.slice ao15 n15 c15) (.bool b16) (.slice ao16 n16 c16) (.bool b17) (.slice ao17 n17 c17) (.bool b18) (.slice ao18 n18 c18) (.bool b19) (.slice ao19 n19 c19) BA)
  have BEn := (ot16 (A := AT) (.bool b12) (.slice ao12 n12 c12) (.bool b13) (.slice ao13 n13 c13) (.bool b14) (.slice ao14 n14 c14) (.bool b15) (.slice ao15 n15 c15) (.bool b16) (.slice ao16 n16 c16) (.bool b17) (.slice ao17 n17 c17) (.bool b18) (.slice ao18 n18 c18) (.bool b19) (.slice ao19 n19 c19) BE (by omega))
  have BGn := (ot16 (A := AT) (.bool b12) (.slice ao12 n12 c12) (.bool b13) (.slice ao13 n13 c13) (.bool b14) (.slice ao14 n14 c14) (.bool b15) (.slice ao15 n15 c15) (.bool b16) (.slice ao16 n16 c16) (.bool b17) (.slice ao17 n17 c17) (.bool b18) (.slice ao18 n18 c18) (.bool b19) (.slice ao19 n19 c19) BG (by omega))
  have hkn := (kp16 (A := AT) (.bool b12) (.slice ao12 n12 c12) (.bool b13) (.slice ao13 n13 c13) (.bool b14) (.slice ao14 n14 c14) (.bool b15) (.slice ao15 n15 c15) (.bool b16) (.slice ao16 n16 c16) (.bool b17) (.slice ao17 n17 c17) (.bool b18) (.slice ao18 n18 c18) (.bool b19) (.slice ao19 n19 c19) hkr (by omega))
  have hYn := hY.soft sfA
  have hGn := hG.soft sfA
  have hSn := HS.out _ sfA
  clear HS
  by_cases hj : j + 1 = J
  ·have hyes : (cv 0 1 d (j + 1)).lp * (cv 0 1 d (j + 1)).lp - (cv 0 1 d (j + 1)).lq * (cv 0 1 d (j + 1)).lq * d = 1 := by rw [hj]; exact HYE.out
   rw [decide_eq_true hyes] at hSn
   clear hyes sfA
   subst hj
   go_wp2_with fail
   refine hSn.mono ?_
   rintro e w6 ⟨rfl, hk6⟩
   replace BAn := BAn.keep hk6
   replace BEn := BEn.keep hk6
   replace hYn := hYn.keep hk6
   replace hkn := hkn.trans' hk6
   clear hSn bac baf bal bgc bgl hGn BGn BA BE BG hY hkr hG hk6
   obtain ⟨_, _, _, _, _, _, _, _, _, _, _, _, _, _, _, _, _, _, _, _, _, _, _, _, _, _, _, _, _, _, _, _, eW, _, _, _, _, g5, g6, _, _⟩ := hYn
   simp only [Value.agg.injEq, Array.mk.injEq, List.cons.injEq, Value.bool.injEq, Value.slice.injEq] at eW
   obtain ⟨_, ⟨_, _, _⟩, _, ⟨_, _, _⟩, _, ⟨_, _, _⟩, _, ⟨_, _, _⟩, rfl, ⟨rfl, rfl, rfl⟩, rfl, ⟨rfl, rfl, rfl⟩, _⟩ := eW
   have bac := BAn.cell
   have bal := BAn.lt
   have bec := BEn.cell
   have bef := BEn.frozen
   have bel := BEn.lt
   go_wp2_with fail
   refine bodyPost_ret (v := .agg #[.bool b16, .slice ao16 n16 c16, .bool b17, .slice ao17 n17 c17]) (by simp [results, Tryd.results38, go_sem, bec]) rfl ?_
   have hwe : ∀ o, w.heap.size ≤ (⟨w.heap.size, o, none⟩ : Addr).block := fun _ => Nat.le_refl _
   have sfE := (Sf.set (E := 2) (t := 76) (c := w.heap.size) (o := 3) (y := .slice ao17 n17 c17) (Sf.set (t := 76) (c := w.heap.size) (o := 2) (y := .bool b17) (Sf.set (t := 76) (c := w.heap.size) (o := 1) (y := .slice ao16 n16 c16) (Sf.set (t := 76) (c := w.heap.size) (o := 0) (y := .bool b16) (Sf.refl 2 w6) BEn.elem (by decide)) (by simp only [elemOf_setCell]; exact BEn.elem) (by decide)) (by simp only [elemOf_setCell]; exact BEn.elem) (by decide)) (by simp only [elemOf_setCell]; exact BEn.elem) (by decide))
   exact ⟨_, rfl, ⟨_, _, _, _, _, _, _, _, rfl, g5.soft sfE, g6.soft sfE⟩, Below.setCell (Below.setCell (Below.setCell (Below.setCell hkn (hwe _) _) (hwe _) _) (hwe _) _) (hwe _) _⟩
  ·have hno : ¬ ((cv 0 1 d (j + 1)).lp * (cv 0 1 d (j + 1)).lp - (cv 0 1 d (j + 1)).lq * (cv 0 1 d (j + 1)).lq * d = 1) := HNO.out (j + 1) (by omega) (by omega)
   rw [decide_eq_false hno] at hSn
   clear hno sfA
   have hj2 : j + 1 < J := by omega
   clear hj
   go_wp2_with fail
   refine hSn.mono ?_
   rintro e w6 ⟨rfl, hk6⟩
   replace BAn := BAn.keep hk6
   replace BEn := BEn.keep hk6
   replace BGn := BGn.keep hk6
   replace hYn := hYn.keep hk6
   replace hGn := hGn.keep hk6
   replace hkn := hkn.trans' hk6
   clear hSn bac baf bal bgc bgl BA BE BG hY hkr hG hk6
   go_wp2_with fail
   go_roundg (J - (j + 1))
   case rel => exact ⟨j + 1, _, _, _, _, _, _, _, _, _, _, _, _, _, _, _, _, _, _, _, _, _, _, _, _, _, _, _, _, _, _, _, _, by omega, by omega, BAn, hYn, BEn, BGn, hGn, hkn⟩
   case measure => omega

end Go.Proofs.YtjahbjjekednfabDoor
