import Derived.Test.YtjahbjjekednfaaDoorBn
import Derived.Test.YtjahbjjekednfaaDoorF10
import Derived.Deep.LoopGhost
namespace Go.Proofs.YtjahbjjekednfaaDoor
open Go.RowKit

set_option maxHeartbeats 6400000 in
set_option maxRecDepth 100000 in
/-- expansion.Best. -/
theorem best_any (a : Qn) (n : Int) (J : Nat) (v : Value) (w : World) (hv : XN w v a) (hc : Cn a) (f : QF 1100000 a) (hd : QD a) (h1 : 1 ≤ n) (hn : n ≤ 1000) (hB : BAt a n J) : Calls Tryd.prog 39 #[v, .int .i64 n] w (RetFR w (bst a n J).1 (bst a n J).2) := by
 have HB := Hid.mk hB
 have HSZ : Hid (∀ i, i ≤ J → Sz a i) := fun i hi => sz_all hc f (by have := hB.le hc h1; omega) (fun j hj => (hB.on j (by omega)).1)
 have HFT := Hid.mk (hB.ft hc f h1 hn)
 have HFT' := Hid.mk (hB.ft' hc f h1 hn)
 have HOF := Hid.mk (oth_ft hc f h1 hn hB)
 have HLQ := Hid.mk (hB.lq hc h1)
 have HPJ : Hid (1 ≤ J) := hB.pos hc h1
 have HL0 : Hid ((cv (p0 a) (q0 a) (n0 a) J).lq ≠ 0) := by
  unfold Hid
  obtain ⟨i, hi⟩ : ∃ i, J = i + 1 := ⟨J - 1, by have := HPJ.out; omega⟩
  have := (cvq_pos (hB.tms hc) i (by omega)).1
  rw [hi]
  omega
 have HNN := Hid.mk (n0_nn hc)
 have HQF : Hid (QF 9000000 a) := f.mono (by decide)
 have HQD := Hid.mk hd
 have HBG := Hid.mk (fun (W : World) (hW : XN W v a) => begin_any a 1100000 v W hW (by decide) f hd)
 clear hc f hd hB
 obtain ⟨b1, ao1, n1, c1, b2, ao2, n2, c2, b3, ao3, n3, c3, rfl, _, _, _⟩ := id hv
 have hkw : Kp w ((w.alloc (.cells #[.bool b1, .slice ao1 n1 c1, .bool b2, .slice ao2 n2 c2, .bool b3, .slice ao3 n3 c3, .int .i64 a.d] 58)).alloc (.cells #[.bool false, .slice none 0 0, .bool false, .slice none 0 0] 78)) := (Kp.alloc' (kp_alloc w _) _)
 have Bx : Blk ((w.alloc (.cells #[.bool b1, .slice ao1 n1 c1, .bool b2, .slice ao2 n2 c2, .bool b3, .slice ao3 n3 c3, .int .i64 a.d] 58)).alloc (.cells #[.bool false, .slice none 0 0, .bool false, .slice none 0 0] 78)) (w.heap.size) #[.bool b1, .slice ao1 n1 c1, .bool b2, .slice ao2 n2 c2, .bool b3, .slice ao3 n3 c3, .int .i64 a.d] 58 := (Blk.alloc (Blk.new w _ _) _)
 have Br : Blk ((w.alloc (.cells #[.bool b1, .slice ao1 n1 c1, .bool b2, .slice ao2 n2 c2, .bool b3, .slice ao3 n3 c3, .int .i64 a.d] 58)).alloc (.cells #[.bool false, .slice none 0 0, .bool false, .slice none 0 0] 78)) (w.heap.size + 1) #[.bool false, .slice none 0 0, .bool false, .slice none 0 0] 78 := (Blk.at (Blk.new (w.alloc (.cells #[.bool b1, .slice ao1 n1 c1, .bool b2, .slice ao2 n2 c2, .bool b3, .slice ao3 n3 c3, .int .i64 a.d] 58)) _ _) (by simp))
 replace hv := hv.keep hkw
 go_enter Tryd.func39, Tryd.ntmps39
 go_wp2_with fail
 generalize ((w.alloc (.cells #[.bool b1, .slice ao1 n1 c1, .bool b2, .slice ao2 n2 c2, .bool b3, .slice ao3 n3 c3, .int .i64 a.d] 58)).alloc (.cells #[.bool false, .slice none 0 0, .bool false, .slice none 0 0] 78)) = x0 at *
 refine (fromInt_any n _ (by omega) (by omega)).mono ?_
 rintro e w21 ⟨v20, rfl, hmo, hk21⟩
 obtain ⟨b20, ao20, n20, c20, rfl⟩ := hmo.shape'
 have ka21 : Kp w21 (w21.alloc (.cells #[.bool b20, .slice ao20 n20 c20] 56)) := kp_alloc w21 _
 have kk21 := hk21.trans' ka21
 have ltx21 := (Bx.keep hk21).lt
 have ltr21 := (Br.keep hk21).lt
 replace Bx := Bx.keep kk21
 replace Br := Br.keep kk21
 replace hv := hv.keep kk21
 replace hkw := hkw.trans' kk21
 replace hmo := hmo.keep ka21
 have Bm : Blk (w21.alloc (.cells #[.bool b20, .slice ao20 n20 c20] 56)) w21.heap.size #[.bool b20, .slice ao20 n20 c20] 56 := Blk.new w21 _ _
 have gem : w.heap.size ≤ w21.heap.size := by have := (hkw.size); simp only [World.size_alloc] at this; omega
 clear hk21 ka21 kk21
 have xc := Bx.cell
 have xl := Bx.lt
 go_wp2_with fail
 generalize (w21.alloc (.cells #[.bool b20, .slice ao20 n20 c20] 56)) = x21 at *
 generalize w21.heap.size = Am at *
 refine (HBG.out _ hv).mono ?_
 rintro e w22 ⟨v4, rfl, hW, hk22⟩
 obtain ⟨b4, ao4, n4, c4, b5, ao5, n5, c5, b6, ao6, n6, c6, b7, ao7, n7, c7, b8, ao8, n8, c8, b9, ao9, n9, c9, b10, ao10, n10, c10, b11, ao11, n11, c11, rfl, _, _, _, _, _, _, _, _⟩ := id hW
 clear xc xl
 have ka22 : Kp w22 (w22.alloc (.cells #[.bool b4, .slice ao4 n4 c4, .bool b5, .slice ao5 n5 c5, .bool b6, .slice ao6 n6 c6, .bool b7, .slice ao7 n7 c7, .bool b8, .slice ao8 n8 c8, .bool b9, .slice ao9 n9 c9, .bool b10, .slice ao10 n10 c10, .bool b11, .slice ao11 n11 c11] 102)) := kp_alloc w22 _
 have kk22 := hk22.trans' ka22
 have ltx22 := (Bx.keep hk22).lt
 have ltr22 := (Br.keep hk22).lt
 have ltm22 := (Bm.keep hk22).lt
 replace Bx := Bx.keep kk22
 replace Br := Br.keep kk22
 replace Bm := Bm.keep kk22
 replace hv := hv.keep kk22
 replace hmo := hmo.keep kk22
 replace hkw := hkw.trans' kk22
 replace hW := hW.keep ka22
 have Bt : Blk (w22.alloc (.cells #[.bool b4, .slice ao4 n4 c4, .bool b5, .slice ao5 n5 c5, .bool b6, .slice ao6 n6 c6, .bool b7, .slice ao7 n7 c7, .bool b8, .slice ao8 n8 c8, .bool b9, .slice ao9 n9 c9, .bool b10, .slice ao10 n10 c10, .bool b11, .slice ao11 n11 c11] 102)) w22.heap.size #[.bool b4, .slice ao4 n4 c4, .bool b5, .slice ao5 n5 c5, .bool b6, .slice ao6 n6 c6, .bool b7, .slice ao7 n7 c7, .bool b8, .slice ao8 n8 c8, .bool b9, .slice ao9 n9 c9, .bool b10, .slice ao10 n10 c10, .bool b11, .slice ao11 n11 c11] 102 := Blk.new w22 _ _
 have get : w.heap.size ≤ w22.heap.size := by have := (hkw.size); simp only [World.size_alloc] at this; omega
 clear hk22 ka22 kk22
 go_wp2_with fail
 generalize (w22.alloc (.cells #[.bool b4, .slice ao4 n4 c4, .bool b5, .slice ao5 n5 c5, .bool b6, .slice ao6 n6 c6, .bool b7, .slice ao7 n7 c7, .bool b8, .slice ao8 n8 c8, .bool b9, .slice ao9 n9 c9, .bool b10, .slice ao10 n10 c10, .bool b11, .slice ao11 n11 c11] 102)) = x22 at *
 generalize w22.heap.size = At at *
 generalize (Value.agg #[.bool b4, .slice ao4 n4 c4, .bool b5, .slice ao5 n5 c5, .bool b6, .slice ao6 n6 c6, .bool b7, .slice ao7 n7 c7, .bool b8, .slice ao8 n8 c8, .bool b9, .slice ao9 n9 c9, .bool b10, .slice ao10 n10 c10, .bool b11, .slice ao11 n11 c11]) = V12
 generalize (Value.agg #[.bool b1, .slice ao1 n1 c1, .bool b2, .slice ao2 n2 c2, .bool b3, .slice ao3 n3 c3, .int .i64 a.d]) = V11
 generalize (Value.agg #[.bool b20, .slice ao20 n20 c20]) = V10
 go_loopg [] (J + 1) (fun g wr => ∃ (j : Nat) (b4 : Bool) (ao4 : Option Addr) (n4 c4 : Nat) (b5 : Bool) (ao5 : Option Addr) (n5 c5 : Nat) (b6 : Bool) (ao6 : Option Addr) (n6 c6 : Nat) (b7 : Bool) (ao7 : Option Addr) (n7 c7 : Nat) (b8 : Bool) (ao8 : Option Addr) (n8 c8 : Nat) (b9 : Bool) (ao9 : Option Addr) (n9 c9 : Nat) (b10 : Bool) (ao10 : Option Addr) (n10 c10 : Nat) (b11 : Bool) (ao11 : Option Addr) (n11 c11 : Nat), j ≤ J ∧ j + g = J + 1 ∧ Blk wr At #[.bool b4, .slice ao4 n4 c4, .bool b5, .slice ao5 n5 c5, .bool b6, .slice ao6 n6 c6, .bool b7, .slice ao7 n7 c7, .bool b8, .slice ao8 n8 c8, .bool b9, .slice ao9 n9 c9, .bool b10, .slice ao10 n10 c10, .bool b11, .slice ao11 n11 c11] 102 ∧ WK wr (.agg #[.bool b4, .slice ao4 n4 c4, .bool b5, .slice ao5 n5 c5, .bool b6, .slice ao6 n6 c6, .bool b7, .slice ao7 n7 c7, .bool b8, .slice ao8 n8 c8, .bool b9, .slice ao9 n9 c9, .bool b10, .slice ao10 n10 c10, .bool b11, .slice ao11 n11 c11]) (rs a j).1 (rs a j).2 (n0 a) (cv (p0 a) (q0 a) (n0 a) j).lp (cv (p0 a) (q0 a) (n0 a) j).lq (cv (p0 a) (q0 a) (n0 a) j).ap (cv (p0 a) (q0 a) (n0 a) j).aq ∧ Blk wr w.heap.size #[.bool b1, .slice ao1 n1 c1, .bool b2, .slice ao2 n2 c2, .bool b3, .slice ao3 n3 c3, .int .i64 a.d] 58 ∧ Blk wr (w.heap.size + 1) #[.bool false, .slice none 0 0, .bool false, .slice none 0 0] 78 ∧ Blk wr Am #[.bool b20, .slice ao20 n20 c20] 56 ∧ WN wr (.agg #[.bool b20, .slice ao20 n20 c20]) n ∧ XN wr (.agg #[.bool b1, .slice ao1 n1 c1, .bool b2, .slice ao2 n2 c2, .bool b3, .slice ao3 n3 c3, .int .i64 a.d]) a ∧ Kp w wr)
 case atStart => exact ⟨0, _, _, _, _, _, _, _, _, _, _, _, _, _, _, _, _, _, _, _, _, _, _, _, _, _, _, _, _, _, _, _, _, by omega, by omega, Bt, hW, Bx, Br, Bm, hmo, hv, hkw⟩
 case round =>
  clear hW Bt Bx Br Bm hmo hv hkw
  obtain ⟨j, b4, ao4, n4, c4, b5, ao5, n5, c5, b6, ao6, n6, c6, b7, ao7, n7, c7, b8, ao8, n8, c8, b9, ao9, n9, c9, b10, ao10, n10, c10, b11, ao11, n11, c11, hjJ, hjg, Bt, hW, Bx, Br, Bm, hmo, hv, hkw⟩ := hrel
  obtain ⟨hR, g5, g6⟩ := hW.rr
  have hEn := ended_any _ _ _ _ wr hR
  have tc := Bt.cell
  have tl := Bt.lt
  by_cases hq : (rs a j).2 = 0
  ·as_aux_lemma =>
   have HJ : Hid (j = J) := by
    unfold Hid
    rcases Nat.lt_or_ge j J with e | e
    ·exact absurd hq (HB.out.on j e).1
    ·omega
   have HE : Hid (bst a n J = ((cv (p0 a) (q0 a) (n0 a) j).lp, (cv (p0 a) (q0 a) (n0 a) j).lq)) := by
    unfold Hid bst
    rw [← HJ.out, if_pos hq]
    rfl
   rw [decide_eq_true hq] at hEn
   clear hq
   go_wp2_with fail
   refine hEn.mono ?_
   rintro e w30 ⟨rfl, hk30⟩
   replace Bt := Bt.keep hk30
   replace Br := Br.keep hk30
   replace g5 := g5.keep hk30
   replace g6 := g6.keep hk30
   replace hkw := hkw.trans' hk30
   clear tc tl hEn hR hW
   have tc := Bt.cell
   have tl := Bt.lt
   have rc := Br.cell
   have rf := Br.frozen
   have rl := Br.lt
   go_wp2_with fail
   refine bodyPost_ret (v := .agg #[.bool b8, .slice ao8 n8 c8, .bool b9, .slice ao9 n9 c9]) (by simp [results, Tryd.results39, go_sem, rc]) rfl ?_
   rw [HE.out]
   exact ⟨_, rfl, FR.soft (sf4 (E := 2) (.bool b8) (.slice ao8 n8 c8) (.bool b9) (.slice ao9 n9 c9) Br (by decide)) ⟨_, _, _, _, _, _, _, _, rfl, g5, g6⟩, kp4 (A := w.heap.size + 1) (.bool b8) (.slice ao8 n8 c8) (.bool b9) (.slice ao9 n9 c9) hkw (by omega)⟩
  ·rw [decide_eq_false hq] at hEn
   have hs := HSZ.out j hjJ
   obtain ⟨f1, f2⟩ := HFT.out j hjJ
   obtain ⟨f3, f4⟩ := HFT'.out j hjJ
   have HNX := Hid.mk (fun (W : World) (hW : WK W (.agg #[.bool b4, .slice ao4 n4 c4, .bool b5, .slice ao5 n5 c5, .bool b6, .slice ao6 n6 c6, .bool b7, .slice ao7 n7 c7, .bool b8, .slice ao8 n8 c8, .bool b9, .slice ao9 n9 c9, .bool b10, .slice ao10 n10 c10, .bool b11, .slice ao11 n11 c11]) (rs a j).1 (rs a j).2 (n0 a) (cv (p0 a) (q0 a) (n0 a) j).lp (cv (p0 a) (q0 a) (n0 a) j).lq (cv (p0 a) (q0 a) (n0 a) j).ap (cv (p0 a) (q0 a) (n0 a) j).aq) => wnext_any _ _ _ _ _ _ _ 4500000 2400005 _ W hW (by decide) (by decide) (hs.p.mono (by decide)) (hs.q.mono (by decide)) hs.n (hs.r.mono (by decide)) hq HNN.out f1 f2 f3 f4)
   clear hs f1 f2 f3 f4
   go_wp2_with fail
   refine hEn.mono ?_
   rintro e w30 ⟨rfl, hk30⟩
   replace Bt := Bt.keep hk30
   replace Bx := Bx.keep hk30
   replace Br := Br.keep hk30
   replace Bm := Bm.keep hk30
   replace hW := hW.keep hk30
   replace hmo := hmo.keep hk30
   replace hv := hv.keep hk30
   replace hkw := hkw.trans' hk30
   clear tc tl hEn hR g5 g6 hk30
   have tc := Bt.cell
   have tl := Bt.lt
   have hNx := HNX.out w30 hW
   go_wp2_with fail
   refine hNx.mono ?_
   rintro e w31 ⟨v31, rfl, hY, hk31⟩
   obtain ⟨b12, ao12, n12, c12, b13, ao13, n13, c13, b14, ao14, n14, c14, b15, ao15, n15, c15, b16, ao16, n16, c16, b17, ao17, n17, c17, b18, ao18, n18, c18, b19, ao19, n19, c19, rfl, _, _, _, _, _, _, _, _⟩ := id hY
   have ka : Kp w31 (w31.alloc (.cells #[.bool b12, .slice ao12 n12 c12, .bool b13, .slice ao13 n13 c13, .bool b14, .slice ao14 n14 c14, .bool b15, .slice ao15 n15 c15, .bool b16, .slice ao16 n16 c16, .bool b17, .slice ao17 n17 c17, .bool b18, .slice ao18 n18 c18, .bool b19, .slice ao19 n19 c19] 102)) := kp_alloc w31 _
   have kk := hk31.trans' ka
   have lt31 := (Bt.keep hk31).lt
   have lr31 := (Br.keep hk31).lt
   have lx31 := (Bx.keep hk31).lt
   have lm31 := (Bm.keep hk31).lt
   have By : Blk (w31.alloc (.cells #[.bool b12, .slice ao12 n12 c12, .bool b13, .slice ao13 n13 c13, .bool b14, .slice ao14 n14 c14, .bool b15, .slice ao15 n15 c15, .bool b16, .slice ao16 n16 c16, .bool b17, .slice ao17 n17 c17, .bool b18, .slice ao18 n18 c18, .bool b19, .slice ao19 n19 c19] 102)) w31.heap.size #[.bool b12, .slice ao12 n12 c12, .bool b13, .slice ao13 n13 c13, .bool b14, .slice ao14 n14 c14, .bool b15, .slice ao15 n15 c15, .bool b16, .slice ao16 n16 c16, .bool b17, .slice ao17 n17 c17, .bool b18, .slice ao18 n18 c18, .bool b19, .slice ao19 n19 c19] 102 := Blk.new w31 _ _
   replace Bt := Bt.keep kk
   replace Bx := Bx.keep kk
   replace Br := Br.keep kk
   replace Bm := Bm.keep kk
   replace hW := hW.keep kk
   replace hY := hY.keep ka
   replace hmo := hmo.keep kk
   replace hv := hv.keep kk
   replace hkw := hkw.trans' kk
   clear tc tl hNx HNX hk31 ka kk
   obtain ⟨_, y5, y6⟩ := hY.rr
   have mc := Bm.cell
   have ml := Bm.lt
   have yc := By.cell
   have yl := By.lt
   generalize (Value.agg #[.bool b4, .slice ao4 n4 c4, .bool b5, .slice ao5 n5 c5, .bool b6, .slice ao6 n6 c6, .bool b7, .slice ao7 n7 c7, .bool b8, .slice ao8 n8 c8, .bool b9, .slice ao9 n9 c9, .bool b10, .slice ao10 n10 c10, .bool b11, .slice ao11 n11 c11]) = V17
   generalize (Value.agg #[.bool b4, .slice ao4 n4 c4, .bool b5, .slice ao5 n5 c5, .bool b6, .slice ao6 n6 c6, .bool b7, .slice ao7 n7 c7]) = V14
   go_wp2_with fail
   generalize w31.alloc (.cells #[.bool b12, .slice ao12 n12 c12, .bool b13, .slice ao13 n13 c13, .bool b14, .slice ao14 n14 c14, .bool b15, .slice ao15 n15 c15, .bool b16, .slice ao16 n16 c16, .bool b17, .slice ao17 n17 c17, .bool b18, .slice ao18 n18 c18, .bool b19, .slice ao19 n19 c19] 102) = x31 at *
   generalize w31.heap.size = Ay at *
   refine (wcompare_any _ n _ _ _ y6 hmo).mono ?_
   rintro e w32 ⟨rfl, hk32⟩
   replace Bt := Bt.keep hk32
   replace By := By.keep hk32
   replace Bx := Bx.keep hk32
   replace Br := Br.keep hk32
   replace Bm := Bm.keep hk32
   replace hW := hW.keep hk32
   replace hY := hY.keep hk32
   replace hmo := hmo.keep hk32
   replace hv := hv.keep hk32
   replace hkw := hkw.trans' hk32
   clear mc ml yc yl y5 y6 hk32
   generalize (Value.agg #[.bool b12, .slice ao12 n12 c12, .bool b13, .slice ao13 n13 c13, .bool b14, .slice ao14 n14 c14, .bool b15, .slice ao15 n15 c15, .bool b16, .slice ao16 n16 c16, .bool b17, .slice ao17 n17 c17, .bool b18, .slice ao18 n18 c18, .bool b19, .slice ao19 n19 c19]) = V18
   generalize (Value.agg #[.bool b17, .slice ao17 n17 c17]) = V21
   have hnx : trm (rs a j).1 (rs a j).2 (n0 a) * (cv (p0 a) (q0 a) (n0 a) j).lq + (cv (p0 a) (q0 a) (n0 a) j).aq = (cv (p0 a) (q0 a) (n0 a) (j + 1)).lq := rfl
   have hnx2 : trm (rs a j).1 (rs a j).2 (n0 a) * (cv (p0 a) (q0 a) (n0 a) j).lp + (cv (p0 a) (q0 a) (n0 a) j).ap = (cv (p0 a) (q0 a) (n0 a) (j + 1)).lp := rfl
   by_cases hst : (cv (p0 a) (q0 a) (n0 a) (j + 1)).lq ≤ n
   ·have hsg : ¬ 0 < (trm (rs a j).1 (rs a j).2 (n0 a) * (cv (p0 a) (q0 a) (n0 a) j).lq + (cv (p0 a) (q0 a) (n0 a) j).aq - n).sign := by
     rw [hnx]
     intro k
     have := Int.sign_eq_one_iff_pos.1 (by rcases sign3 ((cv (p0 a) (q0 a) (n0 a) (j + 1)).lq - n) with ⟨s1, _⟩ | ⟨s1, _⟩ | ⟨s1, _⟩ <;> omega : ((cv (p0 a) (q0 a) (n0 a) (j + 1)).lq - n).sign = 1)
     omega
    generalize (trm (rs a j).1 (rs a j).2 (n0 a) * (cv (p0 a) (q0 a) (n0 a) j).lq + (cv (p0 a) (q0 a) (n0 a) j).aq - n).sign = S at *
    have HjJ : Hid (j + 1 ≤ J) := by
     unfold Hid
     rcases Nat.lt_or_ge j J with e | e
     ·exact e
     ·exfalso
      have e2 : j = J := by omega
      subst e2
      exact HB.out.stop ⟨hq, hst⟩
    replace hY : WK w32 (.agg #[.bool b12, .slice ao12 n12 c12, .bool b13, .slice ao13 n13 c13, .bool b14, .slice ao14 n14 c14, .bool b15, .slice ao15 n15 c15, .bool b16, .slice ao16 n16 c16, .bool b17, .slice ao17 n17 c17, .bool b18, .slice ao18 n18 c18, .bool b19, .slice ao19 n19 c19]) (rs a (j + 1)).1 (rs a (j + 1)).2 (n0 a) (cv (p0 a) (q0 a) (n0 a) (j + 1)).lp (cv (p0 a) (q0 a) (n0 a) (j + 1)).lq (cv (p0 a) (q0 a) (n0 a) (j + 1)).ap (cv (p0 a) (q0 a) (n0 a) (j + 1)).aq := hY
    clear hst hq hW hnx hnx2
    have tc := Bt.cell
    have tf := Bt.frozen
    have tl := Bt.lt
    have yc := By.cell
    have yl := By.lt
    go_wp2_with fail
    have sfx := (sf16 (E := 2) (.bool b12) (.slice ao12 n12 c12) (.bool b13) (.slice ao13 n13 c13) (.bool b14) (.slice ao14 n14 c14) (.bool b15) (.slice ao15 n15 c15) (.bool b16) (.slice ao16 n16 c16) (.bool b17) (.slice ao17 n17 c17) (.bool b18) (.slice ao18 n18 c18) (.bool b19) (.slice ao19 n19 c19) Bt (by decide))
    replace hY := hY.soft sfx
    replace hmo := hmo.soft sfx
    replace hv := hv.soft sfx
    replace hkw := kp16 (A := At) (.bool b12) (.slice ao12 n12 c12) (.bool b13) (.slice ao13 n13 c13) (.bool b14) (.slice ao14 n14 c14) (.bool b15) (.slice ao15 n15 c15) (.bool b16) (.slice ao16 n16 c16) (.bool b17) (.slice ao17 n17 c17) (.bool b18) (.slice ao18 n18 c18) (.bool b19) (.slice ao19 n19 c19) hkw (by omega)
    replace Bx := ot16 (A := At) (.bool b12) (.slice ao12 n12 c12) (.bool b13) (.slice ao13 n13 c13) (.bool b14) (.slice ao14 n14 c14) (.bool b15) (.slice ao15 n15 c15) (.bool b16) (.slice ao16 n16 c16) (.bool b17) (.slice ao17 n17 c17) (.bool b18) (.slice ao18 n18 c18) (.bool b19) (.slice ao19 n19 c19) Bx (by omega)
    replace Br := ot16 (A := At) (.bool b12) (.slice ao12 n12 c12) (.bool b13) (.slice ao13 n13 c13) (.bool b14) (.slice ao14 n14 c14) (.bool b15) (.slice ao15 n15 c15) (.bool b16) (.slice ao16 n16 c16) (.bool b17) (.slice ao17 n17 c17) (.bool b18) (.slice ao18 n18 c18) (.bool b19) (.slice ao19 n19 c19) Br (by omega)
    replace Bm := ot16 (A := At) (.bool b12) (.slice ao12 n12 c12) (.bool b13) (.slice ao13 n13 c13) (.bool b14) (.slice ao14 n14 c14) (.bool b15) (.slice ao15 n15 c15) (.bool b16) (.slice ao16 n16 c16) (.bool b17) (.slice ao17 n17 c17) (.bool b18) (.slice ao18 n18 c18) (.bool b19) (.slice ao19 n19 c19) Bm (by omega)
    replace Bt := bl16 (.bool b12) (.slice ao12 n12 c12) (.bool b13) (.slice ao13 n13 c13) (.bool b14) (.slice ao14 n14 c14) (.bool b15) (.slice ao15 n15 c15) (.bool b16) (.slice ao16 n16 c16) (.bool b17) (.slice ao17 n17 c17) (.bool b18) (.slice ao18 n18 c18) (.bool b19) (.slice ao19 n19 c19) Bt
    clear sfx tc tf tl yc yl By
    generalize ((((((((((((((((w32.setCell ⟨At, 0, none⟩ (.bool b12)).setCell ⟨At, 1, none⟩ (.slice ao12 n12 c12)).setCell ⟨At, 2, none⟩ (.bool b13)).setCell ⟨At, 3, none⟩ (.slice ao13 n13 c13)).setCell ⟨At, 4, none⟩ (.bool b14)).setCell ⟨At, 5, none⟩ (.slice ao14 n14 c14)).setCell ⟨At, 6, none⟩ (.bool b15)).setCell ⟨At, 7, none⟩ (.slice ao15 n15 c15)).setCell ⟨At, 8, none⟩ (.bool b16)).setCell ⟨At, 9, none⟩ (.slice ao16 n16 c16)).setCell ⟨At, 10, none⟩ (.bool b17)).setCell ⟨At, 11, none⟩ (.slice ao17 n17 c17)).setCell ⟨At, 12, none⟩ (.bool b18)).setCell ⟨At, 13, none⟩ (.slice ao18 n18 c18)).setCell ⟨At, 14, none⟩ (.bool b19)).setCell ⟨At, 15, none⟩ (.slice ao19 n19 c19)) = wz at *
    have hjJ2 := HjJ.out
    go_roundg (J - j)
    case rel => exact ⟨j + 1, _, _, _, _, _, _, _, _, _, _, _, _, _, _, _, _, _, _, _, _, _, _, _, _, _, _, _, _, _, _, _, _, hjJ2, by omega, Bt, hY, Bx, Br, Bm, hmo, hv, hkw⟩
    case measure => omega
   ·as_aux_lemma =>
    have hsg : 0 < (trm (rs a j).1 (rs a j).2 (n0 a) * (cv (p0 a) (q0 a) (n0 a) j).lq + (cv (p0 a) (q0 a) (n0 a) j).aq - n).sign := by
     rw [hnx, Int.sign_eq_one_of_pos (by omega)]
     decide
    generalize (trm (rs a j).1 (rs a j).2 (n0 a) * (cv (p0 a) (q0 a) (n0 a) j).lq + (cv (p0 a) (q0 a) (n0 a) j).aq - n).sign = S at *
    have HJ : Hid (j = J) := by
     unfold Hid
     rcases Nat.lt_or_ge j J with e | e
     ·exact absurd (HB.out.on j e).2 hst
     ·omega
    have HOS := Hid.mk (fun (W : World) (hW : WK W (.agg #[.bool b4, .slice ao4 n4 c4, .bool b5, .slice ao5 n5 c5, .bool b6, .slice ao6 n6 c6, .bool b7, .slice ao7 n7 c7, .bool b8, .slice ao8 n8 c8, .bool b9, .slice ao9 n9 c9, .bool b10, .slice ao10 n10 c10, .bool b11, .slice ao11 n11 c11]) (rs a j).1 (rs a j).2 (n0 a) (cv (p0 a) (q0 a) (n0 a) j).lp (cv (p0 a) (q0 a) (n0 a) j).lq (cv (p0 a) (q0 a) (n0 a) j).ap (cv (p0 a) (q0 a) (n0 a) j).aq) (hm : WN W (.agg #[.bool b20, .slice ao20 n20 c20]) n) => otherSide_any _ _ _ _ _ _ _ n 2400005 _ _ W hW hm (by decide) (HFT.out j hjJ).1 (HFT.out j hjJ).2 (HFT'.out j hjJ).1 (HFT'.out j hjJ).2 (Ft.mono (m := 4) (by unfold Ft; omega) (by decide)) (by rw [HJ.out]; exact HL0.out))
    have HD := Hid.mk (oth_det a n j)
    have HBS : Hid (bst a n J = if alt j = 1 then nq (qcmp a (md (cv (p0 a) (q0 a) (n0 a) j).lp (cv (p0 a) (q0 a) (n0 a) j).lq (oth a n j).1 (oth a n j).2)) ((oth a n j).1, (oth a n j).2) ((cv (p0 a) (q0 a) (n0 a) j).lp, (cv (p0 a) (q0 a) (n0 a) j).lq) else nq (qcmp a (md (cv (p0 a) (q0 a) (n0 a) j).lp (cv (p0 a) (q0 a) (n0 a) j).lq (oth a n j).1 (oth a n j).2)) ((cv (p0 a) (q0 a) (n0 a) j).lp, (cv (p0 a) (q0 a) (n0 a) j).lq) ((oth a n j).1, (oth a n j).2)) := by
     unfold Hid bst
     rw [← HJ.out, if_neg hq]
     rfl
    have HOF2 : Hid (Ft 2400010 (oth a n j).1 ∧ Ft 2400010 (oth a n j).2) := by unfold Hid; rw [HJ.out]; exact HOF.out
    have HFL : Hid (Ft 2400010 (cv (p0 a) (q0 a) (n0 a) j).lp ∧ Ft 2400010 (cv (p0 a) (q0 a) (n0 a) j).lq) := ⟨(HFT.out j hjJ).1.mono (by decide), (HFT.out j hjJ).2.mono (by decide)⟩
    clear hst hq hnx hnx2 hY By
    have tc := Bt.cell
    have tl := Bt.lt
    have mc := Bm.cell
    have ml := Bm.lt
    have hOS := HOS.out w32 hW hmo
    go_wp2_with fail
    refine hOS.mono ?_
    rintro e w33 ⟨v33, rfl, hO, hk33⟩
    change FR w33 v33 (oth a n j).1 (oth a n j).2 at hO
    obtain ⟨b21, ao21, n21, c21, b22, ao22, n22, c22, rfl, _, _⟩ := id hO
    have ka : Kp w33 (w33.alloc (.cells #[.bool b21, .slice ao21 n21 c21, .bool b22, .slice ao22 n22 c22] 78)) := kp_alloc w33 _
    have kk := hk33.trans' ka
    have Bo : Blk (w33.alloc (.cells #[.bool b21, .slice ao21 n21 c21, .bool b22, .slice ao22 n22 c22] 78)) w33.heap.size #[.bool b21, .slice ao21 n21 c21, .bool b22, .slice ao22 n22 c22] 78 := Blk.new w33 _ _
    obtain ⟨_, g5, g6⟩ := hW.rr
    replace Bt := Bt.keep kk
    replace Bx := Bx.keep kk
    replace Br := Br.keep kk
    replace g5 := g5.keep kk
    replace g6 := g6.keep kk
    replace hO := FR.soft (Sf.keep ka) hO
    replace hv := hv.keep kk
    replace hkw := hkw.trans' kk
    have hL : FR (w33.alloc (.cells #[.bool b21, .slice ao21 n21 c21, .bool b22, .slice ao22 n22 c22] 78)) (.agg #[.bool b8, .slice ao8 n8 c8, .bool b9, .slice ao9 n9 c9]) (cv (p0 a) (q0 a) (n0 a) j).lp (cv (p0 a) (q0 a) (n0 a) j).lq := ⟨_, _, _, _, _, _, _, _, rfl, g5, g6⟩
    clear tc tl mc ml hk33 ka kk g5 g6 hW hmo Bm hOS HOS
    have tc := Bt.cell
    have tl := Bt.lt
    have xc := Bx.cell
    have xl := Bx.lt
    have oc := Bo.cell
    have ol := Bo.lt
    by_cases hal : alt j = 1
    ·as_aux_lemma =>
     have hNR := nearer_gt a _ _ _ _ 2400010 _ _ _ _ hv hL hO (by decide) HQF.out HQD.out HFL.out.1 HFL.out.2 HOF2.out.1 HOF2.out.2 (by have := HD.out; unfold lst' at this; rw [this, hal]; rfl)
     rw [if_pos hal] at HBS
     clear hal
     go_wp2_with fail
     refine hNR.mono ?_
     rintro e w34 ⟨v34, rfl, hF, hk34⟩
     obtain ⟨b23, ao23, n23, c23, b24, ao24, n24, c24, rfl, _, _⟩ := id hF
     replace Br := Br.keep hk34
     replace hkw := hkw.trans' hk34
     clear tc tl xc xl oc ol hNR
     have rc := Br.cell
     have rf := Br.frozen
     have rl := Br.lt
     go_wp2_with fail
     refine bodyPost_ret (v := .agg #[.bool b23, .slice ao23 n23 c23, .bool b24, .slice ao24 n24 c24]) (by simp [results, Tryd.results39, go_sem, rc]) rfl ?_
     rw [HBS.out]
     exact ⟨_, rfl, hF.soft (sf4 (E := 2) (.bool b23) (.slice ao23 n23 c23) (.bool b24) (.slice ao24 n24 c24) Br (by decide)), kp4 (A := w.heap.size + 1) (.bool b23) (.slice ao23 n23 c23) (.bool b24) (.slice ao24 n24 c24) hkw (by omega)⟩
    ·as_aux_lemma =>
     have hNR := nearer_le a _ _ _ _ 2400010 _ _ _ _ hv hL hO (by decide) HQF.out HQD.out HFL.out.1 HFL.out.2 HOF2.out.1 HOF2.out.2 (by have := HD.out; unfold lst' at this; rw [this, (alt_two j).resolve_left hal]; rfl)
     rw [if_neg hal] at HBS
     clear hal
     go_wp2_with fail
     refine hNR.mono ?_
     rintro e w34 ⟨v34, rfl, hF, hk34⟩
     obtain ⟨b23, ao23, n23, c23, b24, ao24, n24, c24, rfl, _, _⟩ := id hF
     replace Br := Br.keep hk34
     replace hkw := hkw.trans' hk34
     clear tc tl xc xl oc ol hNR
     have rc := Br.cell
     have rf := Br.frozen
     have rl := Br.lt
     go_wp2_with fail
     refine bodyPost_ret (v := .agg #[.bool b23, .slice ao23 n23 c23, .bool b24, .slice ao24 n24 c24]) (by simp [results, Tryd.results39, go_sem, rc]) rfl ?_
     rw [HBS.out]
     exact ⟨_, rfl, hF.soft (sf4 (E := 2) (.bool b23) (.slice ao23 n23 c23) (.bool b24) (.slice ao24 n24 c24) Br (by decide)), kp4 (A := w.heap.size + 1) (.bool b23) (.slice ao23 n23 c23) (.bool b24) (.slice ao24 n24 c24) hkw (by omega)⟩


end Go.Proofs.YtjahbjjekednfaaDoor
