import Derived.Test.YtjahbjjekednfabDoorL6
namespace Go.Proofs.YtjahbjjekednfabDoor
open Go.RowKit

/-- A call that returns two numbers that solve ax + by = c, or tells that there are none. -/
def RetSv (w : World) (a b c : Int) (e : Ending) (w' : World) : Prop :=
 ((∃ u v x y, e = .returned (.tuple #[u, v, .bool true]) ∧ WN w' u x ∧ WN w' v y ∧ Hid (Sol a b c x y ∧ x.natAbs ≤ a.natAbs + b.natAbs + c.natAbs + (b.natAbs + 1) * c.natAbs ∧ y.natAbs ≤ c.natAbs + a.natAbs * b.natAbs)) ∨
  (∃ b5 ao5 n5 c5 b6 ao6 n6 c6, e = .returned (.tuple #[.agg #[.bool b5, .slice ao5 n5 c5], .agg #[.bool b6, .slice ao6 n6 c6], .bool false]) ∧ Hid (∀ x y, a * x + b * y ≠ c))) ∧ Kp w w'
theorem tdiv_le (x y : Int) : (x.tdiv y).natAbs ≤ x.natAbs := by
 rw [Int.natAbs_tdiv]
 exact Nat.div_le_self _ _

set_option maxHeartbeats 6400000 in
set_option maxRecDepth 100000 in
theorem solve_any (a b c : Int) (m : Nat) (u v z : Value) (w : World) (ha : WN w u a) (hb : WN w v b) (hc : WN w z c) (hm : m ≤ 100000) (fa : Ft m a) (fb : Ft m b) (fc : Ft m c) (h0 : ¬ (a = 0 ∧ b = 0)) : Calls Tryd.prog 49 #[u, v, z] w (RetSv w a b c) := by
 obtain ⟨b1, ao1, n1, c1, rfl⟩ := ha.shape'
 obtain ⟨b2, ao2, n2, c2, rfl⟩ := hb.shape'
 obtain ⟨b3, ao3, n3, c3, rfl⟩ := hc.shape'
 have H0 := Hid.mk h0
 clear h0
 have hkw : Kp w (((((w.alloc (.cells #[.bool b1, .slice ao1 n1 c1] 60)).alloc (.cells #[.bool b2, .slice ao2 n2 c2] 60)).alloc (.cells #[.bool b3, .slice ao3 n3 c3] 60)).alloc (.cells #[.bool false, .slice none 0 0] 60)).alloc (.cells #[.bool false, .slice none 0 0] 60)) := Kp.alloc' (Kp.alloc' (Kp.alloc' (Kp.alloc' (kp_alloc w _) _) _) _) _
 have Ba : Blk (((((w.alloc (.cells #[.bool b1, .slice ao1 n1 c1] 60)).alloc (.cells #[.bool b2, .slice ao2 n2 c2] 60)).alloc (.cells #[.bool b3, .slice ao3 n3 c3] 60)).alloc (.cells #[.bool false, .slice none 0 0] 60)).alloc (.cells #[.bool false, .slice none 0 0] 60)) (w.heap.size) #[.bool b1, .slice ao1 n1 c1] 60 := (Blk.alloc (Blk.alloc (Blk.alloc (Blk.alloc (Blk.new w _ _) (.cells #[.bool b2, .slice ao2 n2 c2] 60)) (.cells #[.bool b3, .slice ao3 n3 c3] 60)) (.cells #[.bool false, .slice none 0 0] 60)) (.cells #[.bool false, .slice none 0 0] 60))
 have Bb : Blk (((((w.alloc (.cells #[.bool b1, .slice ao1 n1 c1] 60)).alloc (.cells #[.bool b2, .slice ao2 n2 c2] 60)).alloc (.cells #[.bool b3, .slice ao3 n3 c3] 60)).alloc (.cells #[.bool false, .slice none 0 0] 60)).alloc (.cells #[.bool false, .slice none 0 0] 60)) (w.heap.size + 1) #[.bool b2, .slice ao2 n2 c2] 60 := (Blk.alloc (Blk.alloc (Blk.alloc (Blk.at (Blk.new (w.alloc (.cells #[.bool b1, .slice ao1 n1 c1] 60)) _ _) (by simp)) (.cells #[.bool b3, .slice ao3 n3 c3] 60)) (.cells #[.bool false, .slice none 0 0] 60)) (.cells #[.bool false, .slice none 0 0] 60))
 have Bc : Blk (((((w.alloc (.cells #[.bool b1, .slice ao1 n1 c1] 60)).alloc (.cells #[.bool b2, .slice ao2 n2 c2] 60)).alloc (.cells #[.bool b3, .slice ao3 n3 c3] 60)).alloc (.cells #[.bool false, .slice none 0 0] 60)).alloc (.cells #[.bool false, .slice none 0 0] 60)) (w.heap.size + 1 + 1) #[.bool b3, .slice ao3 n3 c3] 60 := (Blk.alloc (Blk.alloc (Blk.at (Blk.new ((w.alloc (.cells #[.bool b1, .slice ao1 n1 c1] 60)).alloc (.cells #[.bool b2, .slice ao2 n2 c2] 60)) _ _) (by simp)) (.cells #[.bool false, .slice none 0 0] 60)) (.cells #[.bool false, .slice none 0 0] 60))
 have Br : Blk (((((w.alloc (.cells #[.bool b1, .slice ao1 n1 c1] 60)).alloc (.cells #[.bool b2, .slice ao2 n2 c2] 60)).alloc (.cells #[.bool b3, .slice ao3 n3 c3] 60)).alloc (.cells #[.bool false, .slice none 0 0] 60)).alloc (.cells #[.bool false, .slice none 0 0] 60)) (w.heap.size + 1 + 1 + 1) #[.bool false, .slice none 0 0] 60 := (Blk.alloc (Blk.at (Blk.new (((w.alloc (.cells #[.bool b1, .slice ao1 n1 c1] 60)).alloc (.cells #[.bool b2, .slice ao2 n2 c2] 60)).alloc (.cells #[.bool b3, .slice ao3 n3 c3] 60)) _ _) (by simp)) (.cells #[.bool false, .slice none 0 0] 60))
 have Bq : Blk (((((w.alloc (.cells #[.bool b1, .slice ao1 n1 c1] 60)).alloc (.cells #[.bool b2, .slice ao2 n2 c2] 60)).alloc (.cells #[.bool b3, .slice ao3 n3 c3] 60)).alloc (.cells #[.bool false, .slice none 0 0] 60)).alloc (.cells #[.bool false, .slice none 0 0] 60)) (w.heap.size + 1 + 1 + 1 + 1) #[.bool false, .slice none 0 0] 60 := (Blk.at (Blk.new ((((w.alloc (.cells #[.bool b1, .slice ao1 n1 c1] 60)).alloc (.cells #[.bool b2, .slice ao2 n2 c2] 60)).alloc (.cells #[.bool b3, .slice ao3 n3 c3] 60)).alloc (.cells #[.bool false, .slice none 0 0] 60)) _ _) (by simp))
 replace ha := ha.soft (Sf.keep hkw)
 replace hb := hb.soft (Sf.keep hkw)
 replace hc := hc.soft (Sf.keep hkw)
 go_enter Tryd.func49, Tryd.ntmps49
 skip
 go_wp2_with fail
 refine (fromInt_any 0 _ (by decide) (by decide)).mono ?_
 rintro e w11 ⟨v9, rfl, hn, hk1⟩
 obtain ⟨b9, ao9, n9, c9, rfl⟩ := hn.shape'
 have ka1 : Kp w11 (w11.alloc (.cells #[.bool b9, .slice ao9 n9 c9] 60)) := (kp_alloc w11 _)
 have kk1 := hk1.trans' ka1
 have lta1 := (Ba.keep hk1).lt
 have ltb1 := (Bb.keep hk1).lt
 have ltc1 := (Bc.keep hk1).lt
 have ltr1 := (Br.keep hk1).lt
 have ltq1 := (Bq.keep hk1).lt
 replace Ba := Ba.keep kk1
 replace Bb := Bb.keep kk1
 replace Bc := Bc.keep kk1
 replace Br := Br.keep kk1
 replace Bq := Bq.keep kk1
 replace ha := ha.soft (Sf.keep kk1)
 replace hb := hb.soft (Sf.keep kk1)
 replace hc := hc.soft (Sf.keep kk1)
 replace hn := hn.soft (Sf.keep ka1)
 replace hkw := hkw.trans' kk1
 have Bn : Blk (w11.alloc (.cells #[.bool b9, .slice ao9 n9 c9] 60)) (w11.heap.size) #[.bool b9, .slice ao9 n9 c9] 60 := (Blk.new w11 _ _)
 clear hk1 ka1 kk1
 have ac := Ba.cell
 have al := Ba.lt
 have bc := Bb.cell
 have bl := Bb.lt
 go_wp2_with fail
 generalize (w11.alloc (.cells #[.bool b9, .slice ao9 n9 c9] 60)) = x11 at *
 generalize w11.heap.size = An at *
 refine (share_any a b m _ _ _ ha hb (by omega) fa fb).mono ?_
 rintro e w12 ⟨v10, v11, g, x, rfl, hg, hx, HG, hk2⟩
 obtain ⟨b10, ao10, n10, c10, rfl⟩ := hg.shape'
 obtain ⟨b11, ao11, n11, c11, rfl⟩ := hx.shape'
 clear ac bc al bl
 have ka2 : Kp w12 ((w12.alloc (.cells #[.bool b10, .slice ao10 n10 c10] 60)).alloc (.cells #[.bool b11, .slice ao11 n11 c11] 60)) := (Kp.alloc' (kp_alloc w12 _) _)
 have kk2 := hk2.trans' ka2
 have lta2 := (Ba.keep hk2).lt
 have ltb2 := (Bb.keep hk2).lt
 have ltc2 := (Bc.keep hk2).lt
 have ltr2 := (Br.keep hk2).lt
 have ltq2 := (Bq.keep hk2).lt
 have ltn2 := (Bn.keep hk2).lt
 replace Ba := Ba.keep kk2
 replace Bb := Bb.keep kk2
 replace Bc := Bc.keep kk2
 replace Br := Br.keep kk2
 replace Bq := Bq.keep kk2
 replace Bn := Bn.keep kk2
 replace ha := ha.soft (Sf.keep kk2)
 replace hb := hb.soft (Sf.keep kk2)
 replace hc := hc.soft (Sf.keep kk2)
 replace hn := hn.soft (Sf.keep kk2)
 replace hg := hg.soft (Sf.keep ka2)
 replace hx := hx.soft (Sf.keep ka2)
 replace hkw := hkw.trans' kk2
 have Bg : Blk ((w12.alloc (.cells #[.bool b10, .slice ao10 n10 c10] 60)).alloc (.cells #[.bool b11, .slice ao11 n11 c11] 60)) (w12.heap.size) #[.bool b10, .slice ao10 n10 c10] 60 := (Blk.alloc (Blk.new w12 _ _) _)
 have Bp : Blk ((w12.alloc (.cells #[.bool b10, .slice ao10 n10 c10] 60)).alloc (.cells #[.bool b11, .slice ao11 n11 c11] 60)) (w12.heap.size + 1) #[.bool b11, .slice ao11 n11 c11] 60 := (Blk.at (Blk.new (w12.alloc (.cells #[.bool b10, .slice ao10 n10 c10] 60)) _ _) (by simp))
 clear hk2 ka2 kk2
 have g0 : g ≠ 0 := fun e => by
  have h1 := HG.out.1
  rw [e] at h1
  exact H0.out (Int.gcd_eq_zero_iff.1 h1.symm)
 have fg : Ft m g := (Ft.gcd fa fb).le (by have := HG.out.1; simp only [Int.natAbs_natCast]; omega)
 have fx : Ft (m + 1) x := by
  have h1 := HG.out.2.2
  unfold Ft at *
  rw [Nat.pow_succ]
  omega
 have cc := Bc.cell
 have cl := Bc.lt
 have gc := Bg.cell
 have gl := Bg.lt
 go_wp2_with fail
 generalize ((w12.alloc (.cells #[.bool b10, .slice ao10 n10 c10] 60)).alloc (.cells #[.bool b11, .slice ao11 n11 c11] 60)) = x12 at *
 generalize hAp : w12.heap.size + 1 = Ap at *
 have lAp : w12.heap.size < Ap := by omega
 clear hAp
 generalize w12.heap.size = Ag at *
 refine (divide_any c g m _ _ _ hc hg (by omega) fc fg).mono ?_
 rintro e w13 ⟨v12, v13, rfl, ht, hl, hk3⟩
 obtain ⟨b12, ao12, n12, c12, rfl⟩ := ht.shape'
 obtain ⟨b13, ao13, n13, c13, rfl⟩ := hl.shape'
 clear cc gc cl gl
 have ka3 : Kp w13 ((w13.alloc (.cells #[.bool b12, .slice ao12 n12 c12] 60)).alloc (.cells #[.bool b13, .slice ao13 n13 c13] 60)) := (Kp.alloc' (kp_alloc w13 _) _)
 have kk3 := hk3.trans' ka3
 have lta3 := (Ba.keep hk3).lt
 have ltb3 := (Bb.keep hk3).lt
 have ltc3 := (Bc.keep hk3).lt
 have ltr3 := (Br.keep hk3).lt
 have ltq3 := (Bq.keep hk3).lt
 have ltn3 := (Bn.keep hk3).lt
 have ltg3 := (Bg.keep hk3).lt
 have ltp3 := (Bp.keep hk3).lt
 replace Ba := Ba.keep kk3
 replace Bb := Bb.keep kk3
 replace Bc := Bc.keep kk3
 replace Br := Br.keep kk3
 replace Bq := Bq.keep kk3
 replace Bn := Bn.keep kk3
 replace Bg := Bg.keep kk3
 replace Bp := Bp.keep kk3
 replace ha := ha.soft (Sf.keep kk3)
 replace hb := hb.soft (Sf.keep kk3)
 replace hc := hc.soft (Sf.keep kk3)
 replace hn := hn.soft (Sf.keep kk3)
 replace hg := hg.soft (Sf.keep kk3)
 replace hx := hx.soft (Sf.keep kk3)
 replace ht := ht.soft (Sf.keep ka3)
 replace hl := hl.soft (Sf.keep ka3)
 replace hkw := hkw.trans' kk3
 have Bt : Blk ((w13.alloc (.cells #[.bool b12, .slice ao12 n12 c12] 60)).alloc (.cells #[.bool b13, .slice ao13 n13 c13] 60)) (w13.heap.size) #[.bool b12, .slice ao12 n12 c12] 60 := (Blk.alloc (Blk.new w13 _ _) _)
 have Bl : Blk ((w13.alloc (.cells #[.bool b12, .slice ao12 n12 c12] 60)).alloc (.cells #[.bool b13, .slice ao13 n13 c13] 60)) (w13.heap.size + 1) #[.bool b13, .slice ao13 n13 c13] 60 := (Blk.at (Blk.new (w13.alloc (.cells #[.bool b12, .slice ao12 n12 c12] 60)) _ _) (by simp))
 clear hk3 ka3 kk3
 have lc := Bl.cell
 have ll := Bl.lt
 go_wp2_with fail
 generalize ((w13.alloc (.cells #[.bool b12, .slice ao12 n12 c12] 60)).alloc (.cells #[.bool b13, .slice ao13 n13 c13] 60)) = x13 at *
 generalize hAl : w13.heap.size + 1 = Al at *
 have lAl : w13.heap.size < Al := by omega
 clear hAl
 generalize w13.heap.size = At at *
 refine (sign_any (c.tmod g) _ _ hl).mono ?_
 rintro e w14 ⟨rfl, hk4⟩
 clear lc ll
 replace Ba := Ba.keep hk4
 replace Bb := Bb.keep hk4
 replace Bc := Bc.keep hk4
 replace Br := Br.keep hk4
 replace Bq := Bq.keep hk4
 replace Bn := Bn.keep hk4
 replace Bg := Bg.keep hk4
 replace Bp := Bp.keep hk4
 replace Bt := Bt.keep hk4
 replace Bl := Bl.keep hk4
 replace ha := ha.soft (Sf.keep hk4)
 replace hb := hb.soft (Sf.keep hk4)
 replace hc := hc.soft (Sf.keep hk4)
 replace hn := hn.soft (Sf.keep hk4)
 replace hg := hg.soft (Sf.keep hk4)
 replace hx := hx.soft (Sf.keep hk4)
 replace ht := ht.soft (Sf.keep hk4)
 replace hl := hl.soft (Sf.keep hk4)
 replace hkw := hkw.trans' hk4
 clear hk4
 by_cases hd : c.tmod g ≠ 0
 ·have hb2 : ((c.tmod g).sign != 0) = true := by
   rw [bne_iff_ne]
   exact fun e => hd (Int.sign_eq_zero_iff_zero.1 e)
  have HN := Hid.mk (fun x y => line_none (x := x) (y := y) HG.out.1 hd)
  clear hd
  generalize (c.tmod g).sign = sg at *
  have nc := Bn.cell
  have nl := Bn.lt
  go_wp2_with fail
  have rc := Br.cell
  have rf := Br.frozen
  have rl := Br.lt
  have qc := Bq.cell
  have qf := Bq.frozen
  have ql := Bq.lt
  go_region
  have Br1 := (ot2 (A := w.heap.size + 1 + 1 + 1 + 1) (.bool b9) (.slice ao9 n9 c9) (bl2 (.bool b9) (.slice ao9 n9 c9) Br) (by omega))
  have Bq0 := (ot2 (A := w.heap.size + 1 + 1 + 1) (.bool b9) (.slice ao9 n9 c9) Bq (by omega))
  have Bq1 := (bl2 (.bool b9) (.slice ao9 n9 c9) Bq0)
  have sfA := (sf2 (E := 2) (.bool b9) (.slice ao9 n9 c9) Br (by decide)).trans (sf2 (E := 2) (.bool b9) (.slice ao9 n9 c9) Bq0 (by decide))
  have hkn := (kp2 (A := w.heap.size + 1 + 1 + 1 + 1) (.bool b9) (.slice ao9 n9 c9) (kp2 (A := w.heap.size + 1 + 1 + 1) (.bool b9) (.slice ao9 n9 c9) hkw (by omega)) (by omega))
  clear rc rf rl qc qf ql Br Bq Bq0
  generalize ((((w14.setCell ⟨w.heap.size + 1 + 1 + 1, 0, none⟩ (.bool b9)).setCell ⟨w.heap.size + 1 + 1 + 1, 1, none⟩ (.slice ao9 n9 c9)).setCell ⟨w.heap.size + 1 + 1 + 1 + 1, 0, none⟩ (.bool b9)).setCell ⟨w.heap.size + 1 + 1 + 1 + 1, 1, none⟩ (.slice ao9 n9 c9)) = wz at *
  have rc := Br1.cell
  have qc := Bq1.cell
  have kd : Kp wz wz.drew := Kp.drew' (Below.refl _ _)
  go_wp2_with fail
  refine bodyPost_ret (v := .tuple #[.agg #[.bool b9, .slice ao9 n9 c9], .agg #[.bool b9, .slice ao9 n9 c9], .bool false]) (by simp [results, Tryd.results49, go_sem, rc, qc]) rfl ?_
  exact ⟨Or.inr ⟨_, _, _, _, _, _, _, _, rfl, HN.out⟩, Kp.drew' hkn⟩
 ·have hd' : c.tmod g = 0 := Classical.not_not.1 hd
  have hb2 : ((c.tmod g).sign != 0) = false := by rw [hd']; rfl
  obtain ⟨kk, hkk⟩ := HG.out.2.1
  have HP := Hid.mk (line_prog (x := x) (k := kk) HG.out.1 hkk hd')
  have ftm : Ft m (c.tdiv g) := fc.le (tdiv_le c g)
  have HTM := Hid.mk (tdiv_le c g)
  clear hd hd' hkk
  generalize (c.tmod g).sign = sg at *
  generalize hT : c.tdiv g = T at *
  replace hT := Hid.mk hT
  clear Bl
  have pc := Bp.cell
  have pl := Bp.lt
  have tc := Bt.cell
  have tl := Bt.lt
  go_wp2_with fail
  refine (multiply_any x T _ _ _ hx ht (fx.fit (by omega)) (ftm.fit (by omega))).mono ?_
  rintro e w15 ⟨v14, rfl, hX, hk5⟩
  obtain ⟨b14, ao14, n14, c14, rfl⟩ := hX.shape'
  clear pc tc pl tl
  have ka5 : Kp w15 (w15.alloc (.cells #[.bool b14, .slice ao14 n14 c14] 60)) := (kp_alloc w15 _)
  have kk5 := hk5.trans' ka5
  have lta5 := (Ba.keep hk5).lt
  have ltb5 := (Bb.keep hk5).lt
  have ltc5 := (Bc.keep hk5).lt
  have ltr5 := (Br.keep hk5).lt
  have ltq5 := (Bq.keep hk5).lt
  have ltn5 := (Bn.keep hk5).lt
  have ltg5 := (Bg.keep hk5).lt
  have ltp5 := (Bp.keep hk5).lt
  have ltt5 := (Bt.keep hk5).lt
  replace Ba := Ba.keep kk5
  replace Bb := Bb.keep kk5
  replace Bc := Bc.keep kk5
  replace Br := Br.keep kk5
  replace Bq := Bq.keep kk5
  replace Bn := Bn.keep kk5
  replace Bg := Bg.keep kk5
  replace Bp := Bp.keep kk5
  replace Bt := Bt.keep kk5
  replace ha := ha.soft (Sf.keep kk5)
  replace hb := hb.soft (Sf.keep kk5)
  replace hc := hc.soft (Sf.keep kk5)
  replace hn := hn.soft (Sf.keep kk5)
  replace hg := hg.soft (Sf.keep kk5)
  replace hX := hX.soft (Sf.keep ka5)
  replace hkw := hkw.trans' kk5
  have BX : Blk (w15.alloc (.cells #[.bool b14, .slice ao14 n14 c14] 60)) (w15.heap.size) #[.bool b14, .slice ao14 n14 c14] 60 := (Blk.new w15 _ _)
  clear hk5 ka5 kk5
  have bc := Bb.cell
  have bl := Bb.lt
  go_wp2_with fail
  generalize (w15.alloc (.cells #[.bool b14, .slice ao14 n14 c14] 60)) = x15 at *
  generalize w15.heap.size = AX at *
  refine (sign_any b _ _ hb).mono ?_
  rintro e w16 ⟨rfl, hk6⟩
  clear bc bl
  replace Ba := Ba.keep hk6
  replace Bb := Bb.keep hk6
  replace Bc := Bc.keep hk6
  replace Br := Br.keep hk6
  replace Bq := Bq.keep hk6
  replace Bn := Bn.keep hk6
  replace Bg := Bg.keep hk6
  replace Bp := Bp.keep hk6
  replace Bt := Bt.keep hk6
  replace BX := BX.keep hk6
  replace ha := ha.soft (Sf.keep hk6)
  replace hb := hb.soft (Sf.keep hk6)
  replace hc := hc.soft (Sf.keep hk6)
  replace hn := hn.soft (Sf.keep hk6)
  replace hg := hg.soft (Sf.keep hk6)
  replace hX := hX.soft (Sf.keep hk6)
  replace hkw := hkw.trans' hk6
  clear hk6
  by_cases hb0 : b = 0
  ·have hb3 : (b.sign == 0) = true := by rw [hb0]; rfl
   have HSOL := Hid.mk (HP.out.1 hb0)
   have hsz : (x * T).natAbs ≤ a.natAbs + b.natAbs + c.natAbs + (b.natAbs + 1) * c.natAbs := by
    have h1 := HG.out.2.2
    have h2 := HTM.out
    rw [Int.natAbs_mul]
    have := Nat.mul_le_mul h1 h2
    omega
   have HSZ := Hid.mk hsz
   clear hsz hb0
   generalize b.sign = sb at *
   have Xc := BX.cell
   have Xl := BX.lt
   have nc := Bn.cell
   have nl := Bn.lt
   go_wp2_with fail
   have rc := Br.cell
   have rf := Br.frozen
   have rl := Br.lt
   have qc := Bq.cell
   have qf := Bq.frozen
   have ql := Bq.lt
   go_region
   have Br1 := (ot2 (A := w.heap.size + 1 + 1 + 1 + 1) (.bool b9) (.slice ao9 n9 c9) (bl2 (.bool b14) (.slice ao14 n14 c14) Br) (by omega))
   have Bq0 := (ot2 (A := w.heap.size + 1 + 1 + 1) (.bool b14) (.slice ao14 n14 c14) Bq (by omega))
   have Bq1 := (bl2 (.bool b9) (.slice ao9 n9 c9) Bq0)
   have sfA := (sf2 (E := 2) (.bool b14) (.slice ao14 n14 c14) Br (by decide)).trans (sf2 (E := 2) (.bool b9) (.slice ao9 n9 c9) Bq0 (by decide))
   have hkn := (kp2 (A := w.heap.size + 1 + 1 + 1 + 1) (.bool b9) (.slice ao9 n9 c9) (kp2 (A := w.heap.size + 1 + 1 + 1) (.bool b14) (.slice ao14 n14 c14) hkw (by omega)) (by omega))
   clear rc rf rl qc qf ql Br Bq Bq0
   generalize ((((w16.setCell ⟨w.heap.size + 1 + 1 + 1, 0, none⟩ (.bool b14)).setCell ⟨w.heap.size + 1 + 1 + 1, 1, none⟩ (.slice ao14 n14 c14)).setCell ⟨w.heap.size + 1 + 1 + 1 + 1, 0, none⟩ (.bool b9)).setCell ⟨w.heap.size + 1 + 1 + 1 + 1, 1, none⟩ (.slice ao9 n9 c9)) = wz at *
   have rc := Br1.cell
   have qc := Bq1.cell
   have kd : Kp wz wz.drew := Kp.drew' (Below.refl _ _)
   go_wp2_with fail
   refine bodyPost_ret (v := .tuple #[.agg #[.bool b14, .slice ao14 n14 c14], .agg #[.bool b9, .slice ao9 n9 c9], .bool true]) (by simp [results, Tryd.results49, go_sem, rc, qc]) rfl ?_
   exact ⟨Or.inl ⟨_, _, _, 0, rfl, (hX.soft sfA).soft (Sf.keep kd), (hn.soft sfA).soft (Sf.keep kd), HSOL.out, HSZ.out, by simp⟩, Kp.drew' hkn⟩
  ·have hb3 : (b.sign == 0) = false := by
    rw [beq_eq_false_iff_ne]
    exact fun e => hb0 (Int.sign_eq_zero_iff_zero.1 e)
   obtain ⟨hs0, HSOL⟩ := HP.out.2 hb0
   replace HSOL := Hid.mk HSOL
   have fXX : Ft (m + 1 + m) (x * T) := fx.mul ftm
   have fst : Ft m (b.tdiv g) := fb.le (tdiv_le b g)
   have HST := Hid.mk (tdiv_le b g)
   generalize b.sign = sb at *
   generalize x * T = XT at *
   have bc := Bb.cell
   have bl := Bb.lt
   have gc := Bg.cell
   have gl := Bg.lt
   go_wp2_with fail
   refine (divide_any b g m _ _ _ hb hg (by omega) fb fg).mono ?_
   rintro e w17 ⟨v15, v16, rfl, hs, hu, hk7⟩
   obtain ⟨b15, ao15, n15, c15, rfl⟩ := hs.shape'
   obtain ⟨b16, ao16, n16, c16, rfl⟩ := hu.shape'
   clear bc gc bl gl
   have ka7 : Kp w17 ((w17.alloc (.cells #[.bool b15, .slice ao15 n15 c15] 60)).alloc (.cells #[.bool b16, .slice ao16 n16 c16] 60)) := (Kp.alloc' (kp_alloc w17 _) _)
   have kk7 := hk7.trans' ka7
   have lta7 := (Ba.keep hk7).lt
   have ltb7 := (Bb.keep hk7).lt
   have ltc7 := (Bc.keep hk7).lt
   have ltr7 := (Br.keep hk7).lt
   have ltq7 := (Bq.keep hk7).lt
   have ltn7 := (Bn.keep hk7).lt
   have ltg7 := (Bg.keep hk7).lt
   have ltp7 := (Bp.keep hk7).lt
   have ltt7 := (Bt.keep hk7).lt
   have ltX7 := (BX.keep hk7).lt
   replace Ba := Ba.keep kk7
   replace Bb := Bb.keep kk7
   replace Bc := Bc.keep kk7
   replace Br := Br.keep kk7
   replace Bq := Bq.keep kk7
   replace Bn := Bn.keep kk7
   replace Bg := Bg.keep kk7
   replace Bp := Bp.keep kk7
   replace Bt := Bt.keep kk7
   replace BX := BX.keep kk7
   replace ha := ha.soft (Sf.keep kk7)
   replace hb := hb.soft (Sf.keep kk7)
   replace hc := hc.soft (Sf.keep kk7)
   replace hn := hn.soft (Sf.keep kk7)
   replace hX := hX.soft (Sf.keep kk7)
   replace hs := hs.soft (Sf.keep ka7)
   replace hu := hu.soft (Sf.keep ka7)
   replace hkw := hkw.trans' kk7
   have Bs : Blk ((w17.alloc (.cells #[.bool b15, .slice ao15 n15 c15] 60)).alloc (.cells #[.bool b16, .slice ao16 n16 c16] 60)) (w17.heap.size) #[.bool b15, .slice ao15 n15 c15] 60 := (Blk.alloc (Blk.new w17 _ _) _)
   have Bu : Blk ((w17.alloc (.cells #[.bool b15, .slice ao15 n15 c15] 60)).alloc (.cells #[.bool b16, .slice ao16 n16 c16] 60)) (w17.heap.size + 1) #[.bool b16, .slice ao16 n16 c16] 60 := (Blk.at (Blk.new (w17.alloc (.cells #[.bool b15, .slice ao15 n15 c15] 60)) _ _) (by simp))
   clear hk7 ka7 kk7
   generalize b.tdiv g = S at *
   have Xc := BX.cell
   have Xl := BX.lt
   have sc := Bs.cell
   have sl := Bs.lt
   go_wp2_with fail
   generalize ((w17.alloc (.cells #[.bool b15, .slice ao15 n15 c15] 60)).alloc (.cells #[.bool b16, .slice ao16 n16 c16] 60)) = x17 at *
   generalize hAu : w17.heap.size + 1 = Au at *
   have lAu : w17.heap.size < Au := by omega
   clear hAu
   generalize w17.heap.size = As at *
   refine (least_any XT S (m + 1 + m) _ _ _ hX hs (by omega) fXX (fst.mono (by omega)) hs0).mono ?_
   rintro e w18 ⟨v17, rfl, hY, hk8⟩
   obtain ⟨b17, ao17, n17, c17, rfl⟩ := hY.shape'
   clear Xc sc Xl sl
   replace Ba := Ba.keep hk8
   replace Bb := Bb.keep hk8
   replace Bc := Bc.keep hk8
   replace Br := Br.keep hk8
   replace Bq := Bq.keep hk8
   replace Bn := Bn.keep hk8
   replace Bg := Bg.keep hk8
   replace Bp := Bp.keep hk8
   replace Bt := Bt.keep hk8
   replace BX := BX.keep hk8
   replace Bs := Bs.keep hk8
   replace Bu := Bu.keep hk8
   replace ha := ha.soft (Sf.keep hk8)
   replace hb := hb.soft (Sf.keep hk8)
   replace hc := hc.soft (Sf.keep hk8)
   replace hn := hn.soft (Sf.keep hk8)
   replace hkw := hkw.trans' hk8
   clear hk8
   have hm0 : 0 ≤ XT % (S.natAbs : Int) := Int.emod_nonneg _ (by omega)
   have hm1 : XT % (S.natAbs : Int) < (S.natAbs : Int) := Int.emod_lt_of_pos _ (by omega)
   have fY : Ft m (XT % (S.natAbs : Int)) := fst.le (by omega)
   have HYB : Hid ((XT % (S.natAbs : Int)).natAbs ≤ b.natAbs) := by unfold Hid; have := HST.out; omega
   clear hm0 hm1
   generalize XT % (S.natAbs : Int) = Y at *
   have Xc := BX.cell
   have Xl := BX.lt
   have Xf := BX.frozen
   clear Xc Xl Xf
   have Xc := BX.cell
   have Xf := BX.frozen
   have Xl := BX.lt
   have sfx := (sf2 (E := 2) (.bool b17) (.slice ao17 n17 c17) BX (by decide))
   replace hkw := (kp2 (A := AX) (.bool b17) (.slice ao17 n17 c17) hkw (by omega))
   replace Ba := (ot2 (A := AX) (.bool b17) (.slice ao17 n17 c17) Ba (by omega))
   replace Bb := (ot2 (A := AX) (.bool b17) (.slice ao17 n17 c17) Bb (by omega))
   replace Bc := (ot2 (A := AX) (.bool b17) (.slice ao17 n17 c17) Bc (by omega))
   replace Br := (ot2 (A := AX) (.bool b17) (.slice ao17 n17 c17) Br (by omega))
   replace Bq := (ot2 (A := AX) (.bool b17) (.slice ao17 n17 c17) Bq (by omega))
   replace Bn := (ot2 (A := AX) (.bool b17) (.slice ao17 n17 c17) Bn (by omega))
   replace Bg := (ot2 (A := AX) (.bool b17) (.slice ao17 n17 c17) Bg (by omega))
   replace Bp := (ot2 (A := AX) (.bool b17) (.slice ao17 n17 c17) Bp (by omega))
   replace Bt := (ot2 (A := AX) (.bool b17) (.slice ao17 n17 c17) Bt (by omega))
   replace Bs := (ot2 (A := AX) (.bool b17) (.slice ao17 n17 c17) Bs (by omega))
   replace Bu := (ot2 (A := AX) (.bool b17) (.slice ao17 n17 c17) Bu (by omega))
   replace BX := (bl2 (.bool b17) (.slice ao17 n17 c17) BX)
   replace ha := ha.soft sfx
   replace hb := hb.soft sfx
   replace hc := hc.soft sfx
   replace hn := hn.soft sfx
   replace hY := hY.soft sfx
   clear sfx
   have ac := Ba.cell
   have al := Ba.lt
   have Xc2 := BX.cell
   have Xl2 := BX.lt
   go_wp2_with fail
   clear Xc Xf Xl ac al Xc2 Xl2
   generalize ((w18.setCell ⟨AX, 0, none⟩ (.bool b17)).setCell ⟨AX, 1, none⟩ (.slice ao17 n17 c17)) = x18 at *
   refine (multiply_any a Y _ _ _ ha hY (fa.fit (by omega)) (fY.fit (by omega))).mono ?_
   rintro e w20 ⟨v18, rfl, hK, hk10⟩
   obtain ⟨b18, ao18, n18, c18, rfl⟩ := hK.shape'
   have ka10 : Kp w20 (w20.alloc (.cells #[.bool b18, .slice ao18 n18 c18] 60)) := (kp_alloc w20 _)
   have kk10 := hk10.trans' ka10
   have lta10 := (Ba.keep hk10).lt
   have ltb10 := (Bb.keep hk10).lt
   have ltc10 := (Bc.keep hk10).lt
   have ltr10 := (Br.keep hk10).lt
   have ltq10 := (Bq.keep hk10).lt
   have ltn10 := (Bn.keep hk10).lt
   have ltg10 := (Bg.keep hk10).lt
   have ltp10 := (Bp.keep hk10).lt
   have ltt10 := (Bt.keep hk10).lt
   have ltX10 := (BX.keep hk10).lt
   have lts10 := (Bs.keep hk10).lt
   have ltu10 := (Bu.keep hk10).lt
   replace Ba := Ba.keep kk10
   replace Bb := Bb.keep kk10
   replace Bc := Bc.keep kk10
   replace Br := Br.keep kk10
   replace Bq := Bq.keep kk10
   replace Bn := Bn.keep kk10
   replace Bg := Bg.keep kk10
   replace Bp := Bp.keep kk10
   replace Bt := Bt.keep kk10
   replace BX := BX.keep kk10
   replace Bs := Bs.keep kk10
   replace Bu := Bu.keep kk10
   replace ha := ha.soft (Sf.keep kk10)
   replace hb := hb.soft (Sf.keep kk10)
   replace hc := hc.soft (Sf.keep kk10)
   replace hn := hn.soft (Sf.keep kk10)
   replace hY := hY.soft (Sf.keep kk10)
   replace hK := hK.soft (Sf.keep ka10)
   replace hkw := hkw.trans' kk10
   have Bk : Blk (w20.alloc (.cells #[.bool b18, .slice ao18 n18 c18] 60)) (w20.heap.size) #[.bool b18, .slice ao18 n18 c18] 60 := (Blk.new w20 _ _)
   clear hk10 ka10 kk10
   have cc := Bc.cell
   have cl := Bc.lt
   have kc := Bk.cell
   have kl := Bk.lt
   go_wp2_with fail
   generalize (w20.alloc (.cells #[.bool b18, .slice ao18 n18 c18] 60)) = x20 at *
   generalize w20.heap.size = Ak at *
   refine (wsub_any c (a * Y) _ _ _ hc hK (fc.fit (by omega)) ((fa.mul fY).fit (by omega))).mono ?_
   rintro e w21 ⟨v19, rfl, hR, hk11⟩
   obtain ⟨b19, ao19, n19, c19, rfl⟩ := hR.shape'
   clear cc kc cl kl
   have ka11 : Kp w21 (w21.alloc (.cells #[.bool b19, .slice ao19 n19 c19] 60)) := (kp_alloc w21 _)
   have kk11 := hk11.trans' ka11
   have lta11 := (Ba.keep hk11).lt
   have ltb11 := (Bb.keep hk11).lt
   have ltc11 := (Bc.keep hk11).lt
   have ltr11 := (Br.keep hk11).lt
   have ltq11 := (Bq.keep hk11).lt
   have ltn11 := (Bn.keep hk11).lt
   have ltg11 := (Bg.keep hk11).lt
   have ltp11 := (Bp.keep hk11).lt
   have ltt11 := (Bt.keep hk11).lt
   have ltX11 := (BX.keep hk11).lt
   have lts11 := (Bs.keep hk11).lt
   have ltu11 := (Bu.keep hk11).lt
   have ltk11 := (Bk.keep hk11).lt
   replace Ba := Ba.keep kk11
   replace Bb := Bb.keep kk11
   replace Bc := Bc.keep kk11
   replace Br := Br.keep kk11
   replace Bq := Bq.keep kk11
   replace Bn := Bn.keep kk11
   replace Bg := Bg.keep kk11
   replace Bp := Bp.keep kk11
   replace Bt := Bt.keep kk11
   replace BX := BX.keep kk11
   replace Bs := Bs.keep kk11
   replace Bu := Bu.keep kk11
   replace Bk := Bk.keep kk11
   replace ha := ha.soft (Sf.keep kk11)
   replace hb := hb.soft (Sf.keep kk11)
   replace hc := hc.soft (Sf.keep kk11)
   replace hn := hn.soft (Sf.keep kk11)
   replace hY := hY.soft (Sf.keep kk11)
   replace hR := hR.soft (Sf.keep ka11)
   replace hkw := hkw.trans' kk11
   have Be : Blk (w21.alloc (.cells #[.bool b19, .slice ao19 n19 c19] 60)) (w21.heap.size) #[.bool b19, .slice ao19 n19 c19] 60 := (Blk.new w21 _ _)
   clear hk11 ka11 kk11
   have fR : Ft (m + m + 1) (c - a * Y) := by
    have := Ft.add (fc.mono (show m ≤ m + m by omega)) (fa.mul fY).neg
    rwa [← Int.sub_eq_add_neg] at this
   have ec := Be.cell
   have el := Be.lt
   have bc := Bb.cell
   have bl := Bb.lt
   go_wp2_with fail
   generalize (w21.alloc (.cells #[.bool b19, .slice ao19 n19 c19] 60)) = x21 at *
   generalize w21.heap.size = Ae at *
   refine (divide_any (c - a * Y) b (m + m + 1) _ _ _ hR hb (by omega) fR (fb.mono (by omega))).mono ?_
   rintro e w22 ⟨v20, v21, rfl, hV, hV2, hk12⟩
   obtain ⟨b20, ao20, n20, c20, rfl⟩ := hV.shape'
   obtain ⟨b21, ao21, n21, c21, rfl⟩ := hV2.shape'
   clear ec bc el bl
   have ka12 : Kp w22 ((w22.alloc (.cells #[.bool b20, .slice ao20 n20 c20] 60)).alloc (.cells #[.bool b21, .slice ao21 n21 c21] 60)) := (Kp.alloc' (kp_alloc w22 _) _)
   have kk12 := hk12.trans' ka12
   have lta12 := (Ba.keep hk12).lt
   have ltb12 := (Bb.keep hk12).lt
   have ltc12 := (Bc.keep hk12).lt
   have ltr12 := (Br.keep hk12).lt
   have ltq12 := (Bq.keep hk12).lt
   have ltn12 := (Bn.keep hk12).lt
   have ltg12 := (Bg.keep hk12).lt
   have ltp12 := (Bp.keep hk12).lt
   have ltt12 := (Bt.keep hk12).lt
   have ltX12 := (BX.keep hk12).lt
   have lts12 := (Bs.keep hk12).lt
   have ltu12 := (Bu.keep hk12).lt
   have ltk12 := (Bk.keep hk12).lt
   have lte12 := (Be.keep hk12).lt
   replace Ba := Ba.keep kk12
   replace Bb := Bb.keep kk12
   replace Bc := Bc.keep kk12
   replace Br := Br.keep kk12
   replace Bq := Bq.keep kk12
   replace Bn := Bn.keep kk12
   replace Bg := Bg.keep kk12
   replace Bp := Bp.keep kk12
   replace Bt := Bt.keep kk12
   replace BX := BX.keep kk12
   replace Bs := Bs.keep kk12
   replace Bu := Bu.keep kk12
   replace Bk := Bk.keep kk12
   replace Be := Be.keep kk12
   replace ha := ha.soft (Sf.keep kk12)
   replace hb := hb.soft (Sf.keep kk12)
   replace hc := hc.soft (Sf.keep kk12)
   replace hn := hn.soft (Sf.keep kk12)
   replace hY := hY.soft (Sf.keep kk12)
   replace hV := hV.soft (Sf.keep ka12)
   replace hV2 := hV2.soft (Sf.keep ka12)
   replace hkw := hkw.trans' kk12
   have Bv : Blk ((w22.alloc (.cells #[.bool b20, .slice ao20 n20 c20] 60)).alloc (.cells #[.bool b21, .slice ao21 n21 c21] 60)) (w22.heap.size) #[.bool b20, .slice ao20 n20 c20] 60 := (Blk.alloc (Blk.new w22 _ _) _)
   have Bf : Blk ((w22.alloc (.cells #[.bool b20, .slice ao20 n20 c20] 60)).alloc (.cells #[.bool b21, .slice ao21 n21 c21] 60)) (w22.heap.size + 1) #[.bool b21, .slice ao21 n21 c21] 60 := (Blk.at (Blk.new (w22.alloc (.cells #[.bool b20, .slice ao20 n20 c20] 60)) _ _) (by simp))
   clear hk12 ka12 kk12
   have HSZ2 : Hid (((c - a * Y).tdiv b).natAbs ≤ c.natAbs + a.natAbs * b.natAbs) := by
    unfold Hid
    have h1 := tdiv_le (c - a * Y) b
    have h2 : (a * Y).natAbs ≤ a.natAbs * b.natAbs := by rw [Int.natAbs_mul]; exact Nat.mul_le_mul_left _ HYB.out
    omega
   have HSZ1 : Hid (Y.natAbs ≤ a.natAbs + b.natAbs + c.natAbs + (b.natAbs + 1) * c.natAbs) := by unfold Hid; have := HYB.out; omega
   have Xc := BX.cell
   have Xl := BX.lt
   have vc := Bv.cell
   have vl := Bv.lt
   go_wp2_with fail
   generalize ((w22.alloc (.cells #[.bool b20, .slice ao20 n20 c20] 60)).alloc (.cells #[.bool b21, .slice ao21 n21 c21] 60)) = x22 at *
   generalize hAf : w22.heap.size + 1 = Af at *
   have lAf : w22.heap.size < Af := by omega
   clear hAf
   generalize w22.heap.size = Av at *
   have rc := Br.cell
   have rf := Br.frozen
   have rl := Br.lt
   have qc := Bq.cell
   have qf := Bq.frozen
   have ql := Bq.lt
   go_region
   have Br1 := (ot2 (A := w.heap.size + 1 + 1 + 1 + 1) (.bool b20) (.slice ao20 n20 c20) (bl2 (.bool b17) (.slice ao17 n17 c17) Br) (by omega))
   have Bq0 := (ot2 (A := w.heap.size + 1 + 1 + 1) (.bool b17) (.slice ao17 n17 c17) Bq (by omega))
   have Bq1 := (bl2 (.bool b20) (.slice ao20 n20 c20) Bq0)
   have sfA := (sf2 (E := 2) (.bool b17) (.slice ao17 n17 c17) Br (by decide)).trans (sf2 (E := 2) (.bool b20) (.slice ao20 n20 c20) Bq0 (by decide))
   have hkn := (kp2 (A := w.heap.size + 1 + 1 + 1 + 1) (.bool b20) (.slice ao20 n20 c20) (kp2 (A := w.heap.size + 1 + 1 + 1) (.bool b17) (.slice ao17 n17 c17) hkw (by omega)) (by omega))
   clear rc rf rl qc qf ql Br Bq Bq0
   generalize ((((x22.setCell ⟨w.heap.size + 1 + 1 + 1, 0, none⟩ (.bool b17)).setCell ⟨w.heap.size + 1 + 1 + 1, 1, none⟩ (.slice ao17 n17 c17)).setCell ⟨w.heap.size + 1 + 1 + 1 + 1, 0, none⟩ (.bool b20)).setCell ⟨w.heap.size + 1 + 1 + 1 + 1, 1, none⟩ (.slice ao20 n20 c20)) = wz at *
   have rc := Br1.cell
   have qc := Bq1.cell
   have kd : Kp wz wz.drew := Kp.drew' (Below.refl _ _)
   go_wp2_with fail
   refine bodyPost_ret (v := .tuple #[.agg #[.bool b17, .slice ao17 n17 c17], .agg #[.bool b20, .slice ao20 n20 c20], .bool true]) (by simp [results, Tryd.results49, go_sem, rc, qc]) rfl ?_
   exact ⟨Or.inl ⟨_, _, _, _, rfl, (hY.soft sfA).soft (Sf.keep kd), (hV.soft sfA).soft (Sf.keep kd), HSOL.out, HSZ1.out, HSZ2.out⟩, Kp.drew' hkn⟩

end Go.Proofs.YtjahbjjekednfabDoor
