import Derived.Test.YtjahbjjekednfaaJ1
import Derived.Test.YtjahbjjekednfaaR10
import Derived.Deep.LoopGhost
namespace Go.Proofs.Ytjahbjjekednfaa
open Go.RowKit

theorem ft_two {m : Nat} {t x : Int} (h : Ft m t) (h1 : x.natAbs ≤ 2 * t.natAbs + 1) : Ft (m + 1) x := by
 unfold Ft at *
 rw [Nat.pow_succ]
 omega
theorem sign_one {x : Int} (h : 0 < x) : x.sign = 1 := Int.sign_eq_one_of_pos h
theorem sign_le {x : Int} (h : x ≤ 0) : x.sign ≤ 0 := by
 rcases Int.lt_or_eq_of_le h with e | e
 ·rw [Int.sign_eq_neg_one_of_neg e]; decide
 ·rw [e]; decide

set_option maxHeartbeats 6400000 in
set_option maxRecDepth 100000 in
/-- surdref.floor: the whole part t. -/
theorem floor_ref (a : Qn) (t : Int) (m : Nat) (u : Value) (w : World) (ha : NN w u a) (hm : m ≤ 30000000) (f : QF m a) (ft : Ft m t) (d0 : 0 ≤ a.d) (d1 : a.d ≤ 1000000) (hP : ∀ x, 0 ≤ ovr a x ↔ x ≤ t) :
  Calls Try.prog 41 #[u] w (RetI w t) := by
 obtain ⟨b1, ao1, n1, c1, b2, ao2, n2, c2, b3, ao3, n3, c3, rfl, hp, hq, hr⟩ := id ha
 clear hp hq hr
 have HP := Hid.mk hP
 clear hP
 have f2 : Fit 2 := ⟨1, by decide, by decide⟩
 have f1 : Fit 1 := ⟨1, by decide, by decide⟩
 have f2t : Ft (m + 2) 2 := Ft.mono (m := 1) (by unfold Ft; decide) (by omega)
 have HF := fun (x : Int) (h : x.natAbs ≤ 2 * t.natAbs + 1) => ft_two ft h
 have HO := Hid.mk (fun (x : Int) (vv : Value) (W : World) (hk : Kp w W) (h : IN W vv x) (hx : Ft (m + 1) x) => over_any a x (m + 1) _ vv W (ha.keep hk) h (by omega) (f.mono (by omega)) hx d0 d1)
 have HF := Hid.mk HF
 clear f ft d0 d1 ha
 have kp0 : Kp w ((w.alloc (.cells #[.bool b1, .slice ao1 n1 c1, .bool b2, .slice ao2 n2 c2, .bool b3, .slice ao3 n3 c3, .int .i64 a.d] 48)).alloc (.cells #[.bool false, .slice none 0 0] 46)) := Kp.alloc' (kp_alloc w _) _
 have BX0 : Blk ((w.alloc (.cells #[.bool b1, .slice ao1 n1 c1, .bool b2, .slice ao2 n2 c2, .bool b3, .slice ao3 n3 c3, .int .i64 a.d] 48)).alloc (.cells #[.bool false, .slice none 0 0] 46)) w.heap.size #[.bool b1, .slice ao1 n1 c1, .bool b2, .slice ao2 n2 c2, .bool b3, .slice ao3 n3 c3, .int .i64 a.d] 48 := Blk.alloc (Blk.new w _ _) _
 have BE0 : Blk ((w.alloc (.cells #[.bool b1, .slice ao1 n1 c1, .bool b2, .slice ao2 n2 c2, .bool b3, .slice ao3 n3 c3, .int .i64 a.d] 48)).alloc (.cells #[.bool false, .slice none 0 0] 46)) (w.heap.size + 1) #[.bool false, .slice none 0 0] 46 := Blk.at (Blk.new (w.alloc (.cells #[.bool b1, .slice ao1 n1 c1, .bool b2, .slice ao2 n2 c2, .bool b3, .slice ao3 n3 c3, .int .i64 a.d] 48)) _ _) (by simp)
 go_enter Try.func41, Try.ntmps41
 go_wp2_with fail
 refine (of_m1 _).mono ?_
 rintro e w1 ⟨v5, rfl, hL, hk1⟩
 obtain ⟨b5, ao5, n5, c5, rfl⟩ := hL.shape'
 have hk1w := kp0.trans' hk1
 replace BX0 := (BX0.keep hk1).alloc (.cells #[.bool b5, .slice ao5 n5 c5] 46)
 replace BE0 := (BE0.keep hk1).alloc (.cells #[.bool b5, .slice ao5 n5 c5] 46)
 have BL0 := Blk.new w1 #[.bool b5, .slice ao5 n5 c5] 46
 replace hL := hL.keep (kp_alloc w1 (.cells #[.bool b5, .slice ao5 n5 c5] 46))
 replace hk1w := hk1w.alloc' (.cells #[.bool b5, .slice ao5 n5 c5] 46)
 have geA3 : w.heap.size ≤ w1.heap.size := (kp0.trans' hk1).size
 have neX : w.heap.size ≠ w1.heap.size := by have := hk1.size; simp only [World.size_alloc] at this; omega
 have neE : w.heap.size + 1 ≠ w1.heap.size := by have := hk1.size; simp only [World.size_alloc] at this; omega
 clear kp0 hk1
 go_wp2_with fail
 generalize w1.alloc (.cells #[.bool b5, .slice ao5 n5 c5] 46) = wa at *
 generalize w1.heap.size = A3 at *

 go_loopg [] ((-1 - t).toNat) (fun k wr => ∃ (L : Int) (b5 : Bool) (ao5 : Option Addr) (n5 c5 : Nat), Blk wr A3 #[.bool b5, .slice ao5 n5 c5] 46 ∧ IN wr (.agg #[.bool b5, .slice ao5 n5 c5]) L ∧ Blk wr w.heap.size #[.bool b1, .slice ao1 n1 c1, .bool b2, .slice ao2 n2 c2, .bool b3, .slice ao3 n3 c3, .int .i64 a.d] 48 ∧ Blk wr (w.heap.size + 1) #[.bool false, .slice none 0 0] 46 ∧ Kp w wr ∧ L ≤ -1 ∧ (L = -1 ∨ 2 * t < L) ∧ (L - t).toNat ≤ k)
 case atStart => exact ⟨-1, _, _, _, _, BL0, hL, BX0, BE0, hk1w, by omega, by omega, by omega⟩
 case round =>
  clear BL0 hL BX0 BE0 hk1w
  obtain ⟨L, bL, aoL, nL, cL, BL, hL, BX, BE, hkr, hl1, hl2, hgk⟩ := hrel
  have bxc := BX.cell
  have blc := BL.cell
  have bxl := BX.lt
  have bll := BL.lt
  have HC := HO.out L _ wr hkr hL (HF.out L (by omega))
  have hpl := HP.out L
  have fL : Fit L := (HF.out L (by omega)).fit (by omega)
  generalize ovr a L = o at HC hpl
  by_cases h : 0 ≤ o
  ·have hLt := hpl.1 h
   clear hpl hgk fL
   go_wp2_with fail
   refine HC.mono ?_
   rintro e w2 ⟨rfl, hk2⟩
   replace BL := BL.keep hk2
   replace BX := BX.keep hk2
   replace BE := BE.keep hk2
   replace hL := hL.keep hk2
   have hk2w := hkr.trans' hk2
   clear bxc blc bxl bll HC hk2 hkr
   go_wp2_with fail
   refine (of_any 1 _ (by decide) (by decide)).mono ?_
   rintro e w3 ⟨v6, rfl, hH, hk3⟩
   obtain ⟨b6, ao6, n6, c6, rfl⟩ := hH.shape'
   have geA5 : w.heap.size ≤ w3.heap.size := (hk2w.trans' hk3).size
   have neX5 : w.heap.size ≠ w3.heap.size := by have := (BX.keep hk3).lt; omega
   have neE5 : w.heap.size + 1 ≠ w3.heap.size := by have := (BE.keep hk3).lt; omega
   have neL5 : A3 ≠ w3.heap.size := by have := (BL.keep hk3).lt; omega
   replace BX := (BX.keep hk3).alloc (.cells #[.bool b6, .slice ao6 n6 c6] 46)
   replace BE := (BE.keep hk3).alloc (.cells #[.bool b6, .slice ao6 n6 c6] 46)
   replace BL := (BL.keep hk3).alloc (.cells #[.bool b6, .slice ao6 n6 c6] 46)
   replace hL := (hL.keep hk3).keep (kp_alloc w3 (.cells #[.bool b6, .slice ao6 n6 c6] 46))
   have BH0 := Blk.new w3 #[.bool b6, .slice ao6 n6 c6] 46
   replace hH := hH.keep (kp_alloc w3 (.cells #[.bool b6, .slice ao6 n6 c6] 46))
   replace hk2w := (hk2w.trans' hk3).alloc' (.cells #[.bool b6, .slice ao6 n6 c6] 46)
   clear hk3
   go_wp2_with fail
   generalize w3.alloc (.cells #[.bool b6, .slice ao6 n6 c6] 46) = wb at *
   generalize w3.heap.size = A5 at *
   clear h
   have BX0 := BX
   have BE0 := BE
   have BL0 := BL
   have hL0 := hL
   clear BX BE BL hL
   go_loopg [] (t.toNat) (fun k wr => ∃ (H : Int) (b5 : Bool) (ao5 : Option Addr) (n5 c5 : Nat), Blk wr A5 #[.bool b5, .slice ao5 n5 c5] 46 ∧ IN wr (.agg #[.bool b5, .slice ao5 n5 c5]) H ∧ Blk wr w.heap.size #[.bool b1, .slice ao1 n1 c1, .bool b2, .slice ao2 n2 c2, .bool b3, .slice ao3 n3 c3, .int .i64 a.d] 48 ∧ Blk wr (w.heap.size + 1) #[.bool false, .slice none 0 0] 46 ∧ Blk wr A3 #[.bool bL, .slice aoL nL cL] 46 ∧ IN wr (.agg #[.bool bL, .slice aoL nL cL]) L ∧ Kp w wr ∧ 1 ≤ H ∧ (H = 1 ∨ H ≤ 2 * t) ∧ (t + 1 - H).toNat ≤ k)
   case atStart => exact ⟨1, _, _, _, _, BH0, hH, BX0, BE0, BL0, hL0, hk2w, by omega, by omega, by omega⟩
   case round =>
    clear BH0 hH BX0 BE0 BL0 hL0 hk2w
    obtain ⟨H, b5, ao5, n5, c5, BH, hH, BX, BE, BL, hL, hkr, hh1, hh2, hgk⟩ := hrel
    have bxc := BX.cell
    have bhc := BH.cell
    have bxl := BX.lt
    have bhl := BH.lt
    have HC := HO.out H _ wr hkr hH (HF.out H (by omega))
    have hph := HP.out H
    have fH : Fit H := (HF.out H (by omega)).fit (by omega)
    generalize ovr a H = o at HC hph
    by_cases h : o < 0
    ·have hHt : t < H := by have := hph.2; omega
     clear hph hgk fH
     go_wp2_with fail
     refine HC.mono ?_
     rintro e w4 ⟨rfl, hk4⟩
     replace BL := BL.keep hk4
     replace BH := BH.keep hk4
     replace BX := BX.keep hk4
     replace BE := BE.keep hk4
     replace hL := hL.keep hk4
     replace hH := hH.keep hk4
     have hk4w := hkr.trans' hk4
     clear bxc bhc bxl bhl HC hk4 hkr
     go_wp2_with fail
     clear h
     have BX0 := BX
     have BE0 := BE
     have BL0 := BL
     have hL0 := hL
     have BH0 := BH
     have hH0 := hH
     clear BX BE BL hL BH hH
     have hb1 : L.natAbs ≤ 2 * t.natAbs + 1 := by omega
     have hb2 : H.natAbs ≤ 2 * t.natAbs + 1 := by omega
     go_loopg [] ((H - L).toNat) (fun k wr => ∃ (L H : Int) (bL : Bool) (aoL : Option Addr) (nL cL : Nat) (b5 : Bool) (ao5 : Option Addr) (n5 c5 : Nat), Blk wr A5 #[.bool b5, .slice ao5 n5 c5] 46 ∧ IN wr (.agg #[.bool b5, .slice ao5 n5 c5]) H ∧ Blk wr w.heap.size #[.bool b1, .slice ao1 n1 c1, .bool b2, .slice ao2 n2 c2, .bool b3, .slice ao3 n3 c3, .int .i64 a.d] 48 ∧ Blk wr (w.heap.size + 1) #[.bool false, .slice none 0 0] 46 ∧ Blk wr A3 #[.bool bL, .slice aoL nL cL] 46 ∧ IN wr (.agg #[.bool bL, .slice aoL nL cL]) L ∧ Kp w wr ∧ L ≤ t ∧ t < H ∧ L.natAbs ≤ 2 * t.natAbs + 1 ∧ H.natAbs ≤ 2 * t.natAbs + 1 ∧ (H - L).toNat ≤ k)
     case atStart => exact ⟨L, H, _, _, _, _, _, _, _, _, BH0, hH0, BX0, BE0, BL0, hL0, hk4w, hLt, hHt, hb1, hb2, Nat.le_refl _⟩
     case round =>
      clear hl1 hl2 hh1 hh2 BH0 hH0 BX0 BE0 BL0 hL0 hk4w hLt hHt hb1 hb2
      obtain ⟨L, H, bL, aoL, nL, cL, b5, ao5, n5, c5, BH, hH, BX, BE, BL, hL, hkr, hLt, hHt, hb1, hb2, hgk⟩ := hrel
      have bhc := BH.cell
      have blc := BL.cell
      have bhl := BH.lt
      have bll := BL.lt
      have fL : Fit L := (HF.out L hb1).fit (by omega)
      have fH : Fit H := (HF.out H hb2).fit (by omega)
      have fD : Ft (m + 2) (H - L) := by
       have := Ft.add (HF.out H hb2) (HF.out L hb1).neg
       rwa [← Int.sub_eq_add_neg] at this
      have fDf : Fit (H - L) := fD.fit (by omega)
      go_wp2_with fail
      refine (rminus_any H L _ _ _ hH hL fH fL).mono ?_
      rintro e w5 ⟨v7, rfl, hD, hk5⟩
      obtain ⟨b7, ao7, n7, c7, rfl⟩ := hD.shape'
      go_wp2_with fail
      refine (of_any 1 _ (by decide) (by decide)).mono ?_
      rintro e w6 ⟨v8, rfl, h1, hk6⟩
      obtain ⟨b8, ao8, n8, c8, rfl⟩ := h1.shape'
      go_wp2_with fail
      refine (rcmp_any (H - L) 1 _ _ _ (hD.keep hk6) h1 fDf f1).mono ?_
      rintro e w7 ⟨rfl, hk7⟩
      have hk57 := (hk5.trans' hk6).trans' hk7
      replace BL := BL.keep hk57
      replace BH := BH.keep hk57
      replace BX := BX.keep hk57
      replace BE := BE.keep hk57
      replace hL := hL.keep hk57
      replace hH := hH.keep hk57
      have hk7w := hkr.trans' hk57
      clear bhc blc bhl bll hk5 hk6 hk7 hk57 hkr hD h1
      by_cases hd : 1 < H - L
      ·have hs := Hid.mk (sign_one (x := H - L - 1) (by omega))
       have hsg : 0 < (H - L - 1).sign := by rw [hs.out]; decide
       clear hs
       generalize (H - L - 1).sign = sg at *
       have bhc := BH.cell
       have blc := BL.cell
       have bhl := BH.lt
       have bll := BL.lt
       go_wp2_with fail
       refine (rminus_any H L _ _ _ hH hL fH fL).mono ?_
       rintro e w5 ⟨v7, rfl, hD, hk5⟩
       obtain ⟨b7, ao7, n7, c7, rfl⟩ := hD.shape'
       replace BL := (BL.keep hk5).alloc (.cells #[.bool b7, .slice ao7 n7 c7] 46)
       replace BH := (BH.keep hk5).alloc (.cells #[.bool b7, .slice ao7 n7 c7] 46)
       replace BX := (BX.keep hk5).alloc (.cells #[.bool b7, .slice ao7 n7 c7] 46)
       replace BE := (BE.keep hk5).alloc (.cells #[.bool b7, .slice ao7 n7 c7] 46)
       replace hL := (hL.keep hk5).keep (kp_alloc w5 (.cells #[.bool b7, .slice ao7 n7 c7] 46))
       replace hH := (hH.keep hk5).keep (kp_alloc w5 (.cells #[.bool b7, .slice ao7 n7 c7] 46))
       have BD := Blk.new w5 #[.bool b7, .slice ao7 n7 c7] 46
       replace hD := hD.keep (kp_alloc w5 (.cells #[.bool b7, .slice ao7 n7 c7] 46))
       replace hk7w := (hk7w.trans' hk5).alloc' (.cells #[.bool b7, .slice ao7 n7 c7] 46)
       clear bhc blc bhl bll hk5 hsg
       go_wp2_with fail
       generalize w5.alloc (.cells #[.bool b7, .slice ao7 n7 c7] 46) = w6d at *
       generalize w5.heap.size = A7 at *
       have hD0 : 0 ≤ H - L := by omega
       have HDE : Hid (∃ D : Int, D = H - L) := ⟨_, rfl⟩
       generalize hDE : H - L = D at hD hD0 fD
       replace hDE := Hid.mk hDE
       go_cut [8, 9] from 30 to 54 (fun p _ wx => ∃ (bp : Nat) (bb : Bool) (aa : Option Addr) (nn cc : Nat), p = .pointer (some ⟨bp, 0, none⟩) ∧ Blk wx bp #[.bool bb, .slice aa nn cc] 46 ∧ IN wx (.agg #[.bool bb, .slice aa nn cc]) (D / 2) ∧ Kp w6d wx ∧ w6d.heap.size ≤ bp)
       case first =>
        refine wp_region_l (S := fun w' => Kp w6d w') (by kernel_rfl) (Kp.drew' (Below.refl _ _)) (fun hS0 => ?_)
        generalize w6d.drew = wd at *
        refine wpAnyL_tk (i := 0) (k := 2) (v := .agg #[.bool b7, .slice ao7 n7 c7]) rfl ?_ hS0 ?_
        ·intro w' hw'; have hc := ((BD).keep hw').cell; go_simp
        simp only [sq]
        refine wpAnyL_ready (rs := [1, 6, 7]) (by kernel_rfl) (by simp) ?_
        refine AllReadyL.cons rfl (fun K hK => ?_) ?_
        ·go_simp
         refine (of_any 2 _ (by decide) (by decide)).mono ?_
         rintro e w101 ⟨v101, rfl, hv101, hk101⟩
         obtain ⟨b101, ao101, n101, c101, rfl⟩ := hv101.shape'
         go_wp2_with fail
         refine hK.out _ _ (hS0.trans' hk101) (fun hS1 => ?_)
         clear hK K
         refine wpAnyL_ready (rs := [2, 6, 7]) (by kernel_rfl) (by simp) ?_
         refine AllReadyL.cons rfl (fun K hK => ?_) ?_
         ·go_simp
          refine (rdiv_any D 2 (m + 2) _ _ _ (hD.keep hS1) hv101 hD0 (by decide) (by omega) fD f2t).mono ?_
          rintro e w102 ⟨v102, u102x, rfl, hv102, hu102, hk102⟩
          obtain ⟨b102, ao102, n102, c102, rfl⟩ := hv102.shape'
          obtain ⟨b102x, ao102x, n102x, c102x, rfl⟩ := hu102.shape'
          go_wp2_with fail
          refine hK.out _ _ (hS1.trans' hk102) (fun hS2 => ?_)
          clear hK K
          refine wpAnyL_tk (i := 3) (k := 4) (v := .tuple #[.agg #[.bool b102, .slice ao102 n102 c102], .agg #[.bool b102x, .slice ao102x n102x c102x]]) rfl ?_ hS2 ?_
          ·intro w' hw'; go_simp
          simp only [sq]
          refine wpAnyL_tk (i := 4) (k := 8) (v := .agg #[.bool b102, .slice ao102 n102 c102]) rfl ?_ hS2 ?_
          ·intro w' hw'; go_simp
          simp only [sq]
          refine wpAnyL_tk (i := 5) (k := 9) (v := .agg #[.bool b102x, .slice ao102x n102x c102x]) rfl ?_ hS2 ?_
          ·intro w' hw'; go_simp
          simp only [sq]
          refine wpAnyL_ready (rs := [6, 7]) (by kernel_rfl) (by simp) ?_
          refine AllReadyL.cons rfl (fun K hK => ?_) ?_
          ·go_simp
           refine hK.out _ _ (Kp.alloc' hS2 (.cells #[.bool false, .slice none 0 0] 46)) (fun hS3 => ?_)
           clear hK K
           have NB6 := Blk.new w102 #[.bool false, .slice none 0 0] 46
           have ge6 : w6d.heap.size ≤ w102.heap.size := hS2.size
           replace hv102 := hv102.keep (kp_alloc w102 (.cells #[.bool false, .slice none 0 0] 46))
           replace hu102 := hu102.keep (kp_alloc w102 (.cells #[.bool false, .slice none 0 0] 46))
           try simp only [sq]
           generalize hA6 : w102.heap.size = A6 at *
           generalize w102.alloc (.cells #[.bool false, .slice none 0 0] 46) = wn6 at *
           refine wpAnyL_on (i := 7) rfl (fun K hK => ?_)
           go_simp
           refine hK.out _ _ (Kp.alloc' hS3 (.cells #[.bool false, .slice none 0 0] 46)) (fun hS4 => ?_)
           clear hK K
           have NB7 := Blk.new wn6 #[.bool false, .slice none 0 0] 46
           have ge7 : w6d.heap.size ≤ wn6.heap.size := hS3.size
           have ne6x7 : A6 ≠ wn6.heap.size := by have := NB6.lt; omega
           replace hv102 := hv102.keep (kp_alloc wn6 (.cells #[.bool false, .slice none 0 0] 46))
           replace hu102 := hu102.keep (kp_alloc wn6 (.cells #[.bool false, .slice none 0 0] 46))
           replace NB6 := NB6.keep (kp_alloc wn6 (.cells #[.bool false, .slice none 0 0] 46))
           try simp only [sq]
           generalize hA7 : wn6.heap.size = A7 at *
           generalize wn6.alloc (.cells #[.bool false, .slice none 0 0] 46) = wn7 at *
           refine wpAnyL_on (i := 8) rfl (fun K hK => ?_)
           have st_c := NB6.cell
           have st_f := NB6.frozen
           have st_l := NB6.lt
           go_simp
           refine hK.out _ _ (stK2 (A := A6) (.bool b102) (.slice ao102 n102 c102) hS4 ge6) (fun hS5 => ?_)
           clear hK K
           have sfS := (stS2 (E := 3) (.bool b102) (.slice ao102 n102 c102) NB6 (by decide))
           replace hv102 := hv102.soft sfS
           replace hu102 := hu102.soft sfS
           replace NB7 := (Blk.other (c := A6) (o := 1) (y := .slice ao102 n102 c102) (Blk.other (c := A6) (o := 0) (y := .bool b102) NB7 (by omega)) (by omega))
           replace NB6 := (Blk.set (o := 1) (y := .slice ao102 n102 c102) (Blk.set (o := 0) (y := .bool b102) NB6))
           clear sfS st_c st_f st_l
           try simp only [sq]
           generalize ((wn7.setCell ⟨A6, 0, none⟩ (.bool b102)).setCell ⟨A6, 1, none⟩ (.slice ao102 n102 c102)) = wt8 at *
           simp only [List.setIfInBounds_toArray, List.set_cons_zero, List.set_cons_succ] at NB6
           have st_c := NB7.cell
           have st_f := NB7.frozen
           have st_l := NB7.lt
           refine wpAnyL_last (i := 9) rfl (by kernel_rfl) (by kernel_rfl) (by kernel_rfl) (fun K hK => ?_)
           go_simp
           refine hK.out _ _ ?_
           clear hK K
           go_wp2_with fail
           go_meet
           case rel => exact ⟨A6, _, _, _, _, rfl, (ot2 (A := A7) (.bool b102x) (.slice ao102x n102x c102x) NB6 (by omega)), hv102.soft (sf2 (.bool b102x) (.slice ao102x n102x c102x) NB7 (by decide)), (kp2 (A := A7) (.bool b102x) (.slice ao102x n102x c102x) hS5 ge7), ge6⟩
          refine AllReadyL.cons rfl (fun K hK => ?_) ?_
          ·go_simp
           refine hK.out _ _ (Kp.alloc' hS2 (.cells #[.bool false, .slice none 0 0] 46)) (fun hS3 => ?_)
           clear hK K
           have NB7 := Blk.new w102 #[.bool false, .slice none 0 0] 46
           have ge7 : w6d.heap.size ≤ w102.heap.size := hS2.size
           replace hv102 := hv102.keep (kp_alloc w102 (.cells #[.bool false, .slice none 0 0] 46))
           replace hu102 := hu102.keep (kp_alloc w102 (.cells #[.bool false, .slice none 0 0] 46))
           try simp only [sq]
           generalize hA7 : w102.heap.size = A7 at *
           generalize w102.alloc (.cells #[.bool false, .slice none 0 0] 46) = wn7 at *
           refine wpAnyL_on (i := 6) rfl (fun K hK => ?_)
           go_simp
           refine hK.out _ _ (Kp.alloc' hS3 (.cells #[.bool false, .slice none 0 0] 46)) (fun hS4 => ?_)
           clear hK K
           have NB6 := Blk.new wn7 #[.bool false, .slice none 0 0] 46
           have ge6 : w6d.heap.size ≤ wn7.heap.size := hS3.size
           have ne7x6 : A7 ≠ wn7.heap.size := by have := NB7.lt; omega
           replace hv102 := hv102.keep (kp_alloc wn7 (.cells #[.bool false, .slice none 0 0] 46))
           replace hu102 := hu102.keep (kp_alloc wn7 (.cells #[.bool false, .slice none 0 0] 46))
           replace NB7 := NB7.keep (kp_alloc wn7 (.cells #[.bool false, .slice none 0 0] 46))
           try simp only [sq]
           generalize hA6 : wn7.heap.size = A6 at *
           generalize wn7.alloc (.cells #[.bool false, .slice none 0 0] 46) = wn6 at *
           refine wpAnyL_on (i := 8) rfl (fun K hK => ?_)
           have st_c := NB6.cell
           have st_f := NB6.frozen
           have st_l := NB6.lt
           go_simp
           refine hK.out _ _ (stK2 (A := A6) (.bool b102) (.slice ao102 n102 c102) hS4 ge6) (fun hS5 => ?_)
           clear hK K
           have sfS := (stS2 (E := 3) (.bool b102) (.slice ao102 n102 c102) NB6 (by decide))
           replace hv102 := hv102.soft sfS
           replace hu102 := hu102.soft sfS
           replace NB7 := (Blk.other (c := A6) (o := 1) (y := .slice ao102 n102 c102) (Blk.other (c := A6) (o := 0) (y := .bool b102) NB7 (by omega)) (by omega))
           replace NB6 := (Blk.set (o := 1) (y := .slice ao102 n102 c102) (Blk.set (o := 0) (y := .bool b102) NB6))
           clear sfS st_c st_f st_l
           try simp only [sq]
           generalize ((wn6.setCell ⟨A6, 0, none⟩ (.bool b102)).setCell ⟨A6, 1, none⟩ (.slice ao102 n102 c102)) = wt8 at *
           simp only [List.setIfInBounds_toArray, List.set_cons_zero, List.set_cons_succ] at NB6
           have st_c := NB7.cell
           have st_f := NB7.frozen
           have st_l := NB7.lt
           refine wpAnyL_last (i := 9) rfl (by kernel_rfl) (by kernel_rfl) (by kernel_rfl) (fun K hK => ?_)
           go_simp
           refine hK.out _ _ ?_
           clear hK K
           go_wp2_with fail
           go_meet
           case rel => exact ⟨A6, _, _, _, _, rfl, (ot2 (A := A7) (.bool b102x) (.slice ao102x n102x c102x) NB6 (by omega)), hv102.soft (sf2 (.bool b102x) (.slice ao102x n102x c102x) NB7 (by decide)), (kp2 (A := A7) (.bool b102x) (.slice ao102x n102x c102x) hS5 ge7), ge6⟩
          exact AllReadyL.nil
         refine AllReadyL.cons rfl (fun K hK => ?_) ?_
         ·go_simp
          refine hK.out _ _ (Kp.alloc' hS1 (.cells #[.bool false, .slice none 0 0] 46)) (fun hS2 => ?_)
          clear hK K
          have NB6 := Blk.new w101 #[.bool false, .slice none 0 0] 46
          have ge6 : w6d.heap.size ≤ w101.heap.size := hS1.size
          replace hv101 := hv101.keep (kp_alloc w101 (.cells #[.bool false, .slice none 0 0] 46))
          try simp only [sq]
          generalize hA6 : w101.heap.size = A6 at *
          generalize w101.alloc (.cells #[.bool false, .slice none 0 0] 46) = wn6 at *
          refine wpAnyL_ready (rs := [2, 7]) (by kernel_rfl) (by simp) ?_
          refine AllReadyL.cons rfl (fun K hK => ?_) ?_
          ·go_simp
           refine (rdiv_any D 2 (m + 2) _ _ _ (hD.keep hS2) hv101 hD0 (by decide) (by omega) fD f2t).mono ?_
           rintro e w102 ⟨v102, u102x, rfl, hv102, hu102, hk102⟩
           obtain ⟨b102, ao102, n102, c102, rfl⟩ := hv102.shape'
           obtain ⟨b102x, ao102x, n102x, c102x, rfl⟩ := hu102.shape'
           replace NB6 := NB6.keep hk102
           go_wp2_with fail
           refine hK.out _ _ (hS2.trans' hk102) (fun hS3 => ?_)
           clear hK K
           refine wpAnyL_tk (i := 3) (k := 4) (v := .tuple #[.agg #[.bool b102, .slice ao102 n102 c102], .agg #[.bool b102x, .slice ao102x n102x c102x]]) rfl ?_ hS3 ?_
           ·intro w' hw'; go_simp
           simp only [sq]
           refine wpAnyL_tk (i := 4) (k := 8) (v := .agg #[.bool b102, .slice ao102 n102 c102]) rfl ?_ hS3 ?_
           ·intro w' hw'; go_simp
           simp only [sq]
           refine wpAnyL_tk (i := 5) (k := 9) (v := .agg #[.bool b102x, .slice ao102x n102x c102x]) rfl ?_ hS3 ?_
           ·intro w' hw'; go_simp
           simp only [sq]
           refine wpAnyL_on (i := 7) rfl (fun K hK => ?_)
           go_simp
           refine hK.out _ _ (Kp.alloc' hS3 (.cells #[.bool false, .slice none 0 0] 46)) (fun hS4 => ?_)
           clear hK K
           have NB7 := Blk.new w102 #[.bool false, .slice none 0 0] 46
           have ge7 : w6d.heap.size ≤ w102.heap.size := hS3.size
           have ne6x7 : A6 ≠ w102.heap.size := by have := NB6.lt; omega
           replace NB6 := NB6.keep (kp_alloc w102 (.cells #[.bool false, .slice none 0 0] 46))
           replace hv102 := hv102.keep (kp_alloc w102 (.cells #[.bool false, .slice none 0 0] 46))
           replace hu102 := hu102.keep (kp_alloc w102 (.cells #[.bool false, .slice none 0 0] 46))
           try simp only [sq]
           generalize hA7 : w102.heap.size = A7 at *
           generalize w102.alloc (.cells #[.bool false, .slice none 0 0] 46) = wn7 at *
           refine wpAnyL_on (i := 8) rfl (fun K hK => ?_)
           have st_c := NB6.cell
           have st_f := NB6.frozen
           have st_l := NB6.lt
           go_simp
           refine hK.out _ _ (stK2 (A := A6) (.bool b102) (.slice ao102 n102 c102) hS4 ge6) (fun hS5 => ?_)
           clear hK K
           have sfS := (stS2 (E := 3) (.bool b102) (.slice ao102 n102 c102) NB6 (by decide))
           replace hv102 := hv102.soft sfS
           replace hu102 := hu102.soft sfS
           replace NB7 := (Blk.other (c := A6) (o := 1) (y := .slice ao102 n102 c102) (Blk.other (c := A6) (o := 0) (y := .bool b102) NB7 (by omega)) (by omega))
           replace NB6 := (Blk.set (o := 1) (y := .slice ao102 n102 c102) (Blk.set (o := 0) (y := .bool b102) NB6))
           clear sfS st_c st_f st_l
           try simp only [sq]
           generalize ((wn7.setCell ⟨A6, 0, none⟩ (.bool b102)).setCell ⟨A6, 1, none⟩ (.slice ao102 n102 c102)) = wt8 at *
           simp only [List.setIfInBounds_toArray, List.set_cons_zero, List.set_cons_succ] at NB6
           have st_c := NB7.cell
           have st_f := NB7.frozen
           have st_l := NB7.lt
           refine wpAnyL_last (i := 9) rfl (by kernel_rfl) (by kernel_rfl) (by kernel_rfl) (fun K hK => ?_)
           go_simp
           refine hK.out _ _ ?_
           clear hK K
           go_wp2_with fail
           go_meet
           case rel => exact ⟨A6, _, _, _, _, rfl, (ot2 (A := A7) (.bool b102x) (.slice ao102x n102x c102x) NB6 (by omega)), hv102.soft (sf2 (.bool b102x) (.slice ao102x n102x c102x) NB7 (by decide)), (kp2 (A := A7) (.bool b102x) (.slice ao102x n102x c102x) hS5 ge7), ge6⟩
          refine AllReadyL.cons rfl (fun K hK => ?_) ?_
          ·go_simp
           refine hK.out _ _ (Kp.alloc' hS2 (.cells #[.bool false, .slice none 0 0] 46)) (fun hS3 => ?_)
           clear hK K
           have NB7 := Blk.new wn6 #[.bool false, .slice none 0 0] 46
           have ge7 : w6d.heap.size ≤ wn6.heap.size := hS2.size
           have ne6x7 : A6 ≠ wn6.heap.size := by have := NB6.lt; omega
           replace hv101 := hv101.keep (kp_alloc wn6 (.cells #[.bool false, .slice none 0 0] 46))
           replace NB6 := NB6.keep (kp_alloc wn6 (.cells #[.bool false, .slice none 0 0] 46))
           try simp only [sq]
           generalize hA7 : wn6.heap.size = A7 at *
           generalize wn6.alloc (.cells #[.bool false, .slice none 0 0] 46) = wn7 at *
           refine wpAnyL_on (i := 2) rfl (fun K hK => ?_)
           go_simp
           refine (rdiv_any D 2 (m + 2) _ _ _ (hD.keep hS3) hv101 hD0 (by decide) (by omega) fD f2t).mono ?_
           rintro e w102 ⟨v102, u102x, rfl, hv102, hu102, hk102⟩
           obtain ⟨b102, ao102, n102, c102, rfl⟩ := hv102.shape'
           obtain ⟨b102x, ao102x, n102x, c102x, rfl⟩ := hu102.shape'
           replace NB6 := NB6.keep hk102
           replace NB7 := NB7.keep hk102
           go_wp2_with fail
           refine hK.out _ _ (hS3.trans' hk102) (fun hS4 => ?_)
           clear hK K
           refine wpAnyL_tk (i := 3) (k := 4) (v := .tuple #[.agg #[.bool b102, .slice ao102 n102 c102], .agg #[.bool b102x, .slice ao102x n102x c102x]]) rfl ?_ hS4 ?_
           ·intro w' hw'; go_simp
           simp only [sq]
           refine wpAnyL_tk (i := 4) (k := 8) (v := .agg #[.bool b102, .slice ao102 n102 c102]) rfl ?_ hS4 ?_
           ·intro w' hw'; go_simp
           simp only [sq]
           refine wpAnyL_tk (i := 5) (k := 9) (v := .agg #[.bool b102x, .slice ao102x n102x c102x]) rfl ?_ hS4 ?_
           ·intro w' hw'; go_simp
           simp only [sq]
           refine wpAnyL_on (i := 8) rfl (fun K hK => ?_)
           have st_c := NB6.cell
           have st_f := NB6.frozen
           have st_l := NB6.lt
           go_simp
           refine hK.out _ _ (stK2 (A := A6) (.bool b102) (.slice ao102 n102 c102) hS4 ge6) (fun hS5 => ?_)
           clear hK K
           have sfS := (stS2 (E := 3) (.bool b102) (.slice ao102 n102 c102) NB6 (by decide))
           replace NB7 := (Blk.other (c := A6) (o := 1) (y := .slice ao102 n102 c102) (Blk.other (c := A6) (o := 0) (y := .bool b102) NB7 (by omega)) (by omega))
           replace hv102 := hv102.soft sfS
           replace hu102 := hu102.soft sfS
           replace NB6 := (Blk.set (o := 1) (y := .slice ao102 n102 c102) (Blk.set (o := 0) (y := .bool b102) NB6))
           clear sfS st_c st_f st_l
           try simp only [sq]
           generalize ((w102.setCell ⟨A6, 0, none⟩ (.bool b102)).setCell ⟨A6, 1, none⟩ (.slice ao102 n102 c102)) = wt8 at *
           simp only [List.setIfInBounds_toArray, List.set_cons_zero, List.set_cons_succ] at NB6
           have st_c := NB7.cell
           have st_f := NB7.frozen
           have st_l := NB7.lt
           refine wpAnyL_last (i := 9) rfl (by kernel_rfl) (by kernel_rfl) (by kernel_rfl) (fun K hK => ?_)
           go_simp
           refine hK.out _ _ ?_
           clear hK K
           go_wp2_with fail
           go_meet
           case rel => exact ⟨A6, _, _, _, _, rfl, (ot2 (A := A7) (.bool b102x) (.slice ao102x n102x c102x) NB6 (by omega)), hv102.soft (sf2 (.bool b102x) (.slice ao102x n102x c102x) NB7 (by decide)), (kp2 (A := A7) (.bool b102x) (.slice ao102x n102x c102x) hS5 ge7), ge6⟩
          exact AllReadyL.nil
         refine AllReadyL.cons rfl (fun K hK => ?_) ?_
         ·go_simp
          refine hK.out _ _ (Kp.alloc' hS1 (.cells #[.bool false, .slice none 0 0] 46)) (fun hS2 => ?_)
          clear hK K
          have NB7 := Blk.new w101 #[.bool false, .slice none 0 0] 46
          have ge7 : w6d.heap.size ≤ w101.heap.size := hS1.size
          replace hv101 := hv101.keep (kp_alloc w101 (.cells #[.bool false, .slice none 0 0] 46))
          try simp only [sq]
          generalize hA7 : w101.heap.size = A7 at *
          generalize w101.alloc (.cells #[.bool false, .slice none 0 0] 46) = wn7 at *
          refine wpAnyL_ready (rs := [2, 6]) (by kernel_rfl) (by simp) ?_
          refine AllReadyL.cons rfl (fun K hK => ?_) ?_
          ·go_simp
           refine (rdiv_any D 2 (m + 2) _ _ _ (hD.keep hS2) hv101 hD0 (by decide) (by omega) fD f2t).mono ?_
           rintro e w102 ⟨v102, u102x, rfl, hv102, hu102, hk102⟩
           obtain ⟨b102, ao102, n102, c102, rfl⟩ := hv102.shape'
           obtain ⟨b102x, ao102x, n102x, c102x, rfl⟩ := hu102.shape'
           replace NB7 := NB7.keep hk102
           go_wp2_with fail
           refine hK.out _ _ (hS2.trans' hk102) (fun hS3 => ?_)
           clear hK K
           refine wpAnyL_tk (i := 3) (k := 4) (v := .tuple #[.agg #[.bool b102, .slice ao102 n102 c102], .agg #[.bool b102x, .slice ao102x n102x c102x]]) rfl ?_ hS3 ?_
           ·intro w' hw'; go_simp
           simp only [sq]
           refine wpAnyL_tk (i := 4) (k := 8) (v := .agg #[.bool b102, .slice ao102 n102 c102]) rfl ?_ hS3 ?_
           ·intro w' hw'; go_simp
           simp only [sq]
           refine wpAnyL_tk (i := 5) (k := 9) (v := .agg #[.bool b102x, .slice ao102x n102x c102x]) rfl ?_ hS3 ?_
           ·intro w' hw'; go_simp
           simp only [sq]
           refine wpAnyL_on (i := 6) rfl (fun K hK => ?_)
           go_simp
           refine hK.out _ _ (Kp.alloc' hS3 (.cells #[.bool false, .slice none 0 0] 46)) (fun hS4 => ?_)
           clear hK K
           have NB6 := Blk.new w102 #[.bool false, .slice none 0 0] 46
           have ge6 : w6d.heap.size ≤ w102.heap.size := hS3.size
           have ne7x6 : A7 ≠ w102.heap.size := by have := NB7.lt; omega
           replace NB7 := NB7.keep (kp_alloc w102 (.cells #[.bool false, .slice none 0 0] 46))
           replace hv102 := hv102.keep (kp_alloc w102 (.cells #[.bool false, .slice none 0 0] 46))
           replace hu102 := hu102.keep (kp_alloc w102 (.cells #[.bool false, .slice none 0 0] 46))
           try simp only [sq]
           generalize hA6 : w102.heap.size = A6 at *
           generalize w102.alloc (.cells #[.bool false, .slice none 0 0] 46) = wn6 at *
           refine wpAnyL_on (i := 8) rfl (fun K hK => ?_)
           have st_c := NB6.cell
           have st_f := NB6.frozen
           have st_l := NB6.lt
           go_simp
           refine hK.out _ _ (stK2 (A := A6) (.bool b102) (.slice ao102 n102 c102) hS4 ge6) (fun hS5 => ?_)
           clear hK K
           have sfS := (stS2 (E := 3) (.bool b102) (.slice ao102 n102 c102) NB6 (by decide))
           replace NB7 := (Blk.other (c := A6) (o := 1) (y := .slice ao102 n102 c102) (Blk.other (c := A6) (o := 0) (y := .bool b102) NB7 (by omega)) (by omega))
           replace hv102 := hv102.soft sfS
           replace hu102 := hu102.soft sfS
           replace NB6 := (Blk.set (o := 1) (y := .slice ao102 n102 c102) (Blk.set (o := 0) (y := .bool b102) NB6))
           clear sfS st_c st_f st_l
           try simp only [sq]
           generalize ((wn6.setCell ⟨A6, 0, none⟩ (.bool b102)).setCell ⟨A6, 1, none⟩ (.slice ao102 n102 c102)) = wt8 at *
           simp only [List.setIfInBounds_toArray, List.set_cons_zero, List.set_cons_succ] at NB6
           have st_c := NB7.cell
           have st_f := NB7.frozen
           have st_l := NB7.lt
           refine wpAnyL_last (i := 9) rfl (by kernel_rfl) (by kernel_rfl) (by kernel_rfl) (fun K hK => ?_)
           go_simp
           refine hK.out _ _ ?_
           clear hK K
           go_wp2_with fail
           go_meet
           case rel => exact ⟨A6, _, _, _, _, rfl, (ot2 (A := A7) (.bool b102x) (.slice ao102x n102x c102x) NB6 (by omega)), hv102.soft (sf2 (.bool b102x) (.slice ao102x n102x c102x) NB7 (by decide)), (kp2 (A := A7) (.bool b102x) (.slice ao102x n102x c102x) hS5 ge7), ge6⟩
          refine AllReadyL.cons rfl (fun K hK => ?_) ?_
          ·go_simp
           refine hK.out _ _ (Kp.alloc' hS2 (.cells #[.bool false, .slice none 0 0] 46)) (fun hS3 => ?_)
           clear hK K
           have NB6 := Blk.new wn7 #[.bool false, .slice none 0 0] 46
           have ge6 : w6d.heap.size ≤ wn7.heap.size := hS2.size
           have ne7x6 : A7 ≠ wn7.heap.size := by have := NB7.lt; omega
           replace hv101 := hv101.keep (kp_alloc wn7 (.cells #[.bool false, .slice none 0 0] 46))
           replace NB7 := NB7.keep (kp_alloc wn7 (.cells #[.bool false, .slice none 0 0] 46))
           try simp only [sq]
           generalize hA6 : wn7.heap.size = A6 at *
           generalize wn7.alloc (.cells #[.bool false, .slice none 0 0] 46) = wn6 at *
           refine wpAnyL_on (i := 2) rfl (fun K hK => ?_)
           go_simp
           refine (rdiv_any D 2 (m + 2) _ _ _ (hD.keep hS3) hv101 hD0 (by decide) (by omega) fD f2t).mono ?_
           rintro e w102 ⟨v102, u102x, rfl, hv102, hu102, hk102⟩
           obtain ⟨b102, ao102, n102, c102, rfl⟩ := hv102.shape'
           obtain ⟨b102x, ao102x, n102x, c102x, rfl⟩ := hu102.shape'
           replace NB7 := NB7.keep hk102
           replace NB6 := NB6.keep hk102
           go_wp2_with fail
           refine hK.out _ _ (hS3.trans' hk102) (fun hS4 => ?_)
           clear hK K
           refine wpAnyL_tk (i := 3) (k := 4) (v := .tuple #[.agg #[.bool b102, .slice ao102 n102 c102], .agg #[.bool b102x, .slice ao102x n102x c102x]]) rfl ?_ hS4 ?_
           ·intro w' hw'; go_simp
           simp only [sq]
           refine wpAnyL_tk (i := 4) (k := 8) (v := .agg #[.bool b102, .slice ao102 n102 c102]) rfl ?_ hS4 ?_
           ·intro w' hw'; go_simp
           simp only [sq]
           refine wpAnyL_tk (i := 5) (k := 9) (v := .agg #[.bool b102x, .slice ao102x n102x c102x]) rfl ?_ hS4 ?_
           ·intro w' hw'; go_simp
           simp only [sq]
           refine wpAnyL_on (i := 8) rfl (fun K hK => ?_)
           have st_c := NB6.cell
           have st_f := NB6.frozen
           have st_l := NB6.lt
           go_simp
           refine hK.out _ _ (stK2 (A := A6) (.bool b102) (.slice ao102 n102 c102) hS4 ge6) (fun hS5 => ?_)
           clear hK K
           have sfS := (stS2 (E := 3) (.bool b102) (.slice ao102 n102 c102) NB6 (by decide))
           replace NB7 := (Blk.other (c := A6) (o := 1) (y := .slice ao102 n102 c102) (Blk.other (c := A6) (o := 0) (y := .bool b102) NB7 (by omega)) (by omega))
           replace hv102 := hv102.soft sfS
           replace hu102 := hu102.soft sfS
           replace NB6 := (Blk.set (o := 1) (y := .slice ao102 n102 c102) (Blk.set (o := 0) (y := .bool b102) NB6))
           clear sfS st_c st_f st_l
           try simp only [sq]
           generalize ((w102.setCell ⟨A6, 0, none⟩ (.bool b102)).setCell ⟨A6, 1, none⟩ (.slice ao102 n102 c102)) = wt8 at *
           simp only [List.setIfInBounds_toArray, List.set_cons_zero, List.set_cons_succ] at NB6
           have st_c := NB7.cell
           have st_f := NB7.frozen
           have st_l := NB7.lt
           refine wpAnyL_last (i := 9) rfl (by kernel_rfl) (by kernel_rfl) (by kernel_rfl) (fun K hK => ?_)
           go_simp
           refine hK.out _ _ ?_
           clear hK K
           go_wp2_with fail
           go_meet
           case rel => exact ⟨A6, _, _, _, _, rfl, (ot2 (A := A7) (.bool b102x) (.slice ao102x n102x c102x) NB6 (by omega)), hv102.soft (sf2 (.bool b102x) (.slice ao102x n102x c102x) NB7 (by decide)), (kp2 (A := A7) (.bool b102x) (.slice ao102x n102x c102x) hS5 ge7), ge6⟩
          exact AllReadyL.nil
         exact AllReadyL.nil
        refine AllReadyL.cons rfl (fun K hK => ?_) ?_
        ·go_simp
         refine hK.out _ _ (Kp.alloc' hS0 (.cells #[.bool false, .slice none 0 0] 46)) (fun hS1 => ?_)
         clear hK K
         have NB6 := Blk.new wd #[.bool false, .slice none 0 0] 46
         have ge6 : w6d.heap.size ≤ wd.heap.size := hS0.size
         try simp only [sq]
         generalize hA6 : wd.heap.size = A6 at *
         generalize wd.alloc (.cells #[.bool false, .slice none 0 0] 46) = wn6 at *
         refine wpAnyL_ready (rs := [1, 7]) (by kernel_rfl) (by simp) ?_
         refine AllReadyL.cons rfl (fun K hK => ?_) ?_
         ·go_simp
          refine (of_any 2 _ (by decide) (by decide)).mono ?_
          rintro e w101 ⟨v101, rfl, hv101, hk101⟩
          obtain ⟨b101, ao101, n101, c101, rfl⟩ := hv101.shape'
          replace NB6 := NB6.keep hk101
          go_wp2_with fail
          refine hK.out _ _ (hS1.trans' hk101) (fun hS2 => ?_)
          clear hK K
          refine wpAnyL_ready (rs := [2, 7]) (by kernel_rfl) (by simp) ?_
          refine AllReadyL.cons rfl (fun K hK => ?_) ?_
          ·go_simp
           refine (rdiv_any D 2 (m + 2) _ _ _ (hD.keep hS2) hv101 hD0 (by decide) (by omega) fD f2t).mono ?_
           rintro e w102 ⟨v102, u102x, rfl, hv102, hu102, hk102⟩
           obtain ⟨b102, ao102, n102, c102, rfl⟩ := hv102.shape'
           obtain ⟨b102x, ao102x, n102x, c102x, rfl⟩ := hu102.shape'
           replace NB6 := NB6.keep hk102
           go_wp2_with fail
           refine hK.out _ _ (hS2.trans' hk102) (fun hS3 => ?_)
           clear hK K
           refine wpAnyL_tk (i := 3) (k := 4) (v := .tuple #[.agg #[.bool b102, .slice ao102 n102 c102], .agg #[.bool b102x, .slice ao102x n102x c102x]]) rfl ?_ hS3 ?_
           ·intro w' hw'; go_simp
           simp only [sq]
           refine wpAnyL_tk (i := 4) (k := 8) (v := .agg #[.bool b102, .slice ao102 n102 c102]) rfl ?_ hS3 ?_
           ·intro w' hw'; go_simp
           simp only [sq]
           refine wpAnyL_tk (i := 5) (k := 9) (v := .agg #[.bool b102x, .slice ao102x n102x c102x]) rfl ?_ hS3 ?_
           ·intro w' hw'; go_simp
           simp only [sq]
           refine wpAnyL_on (i := 7) rfl (fun K hK => ?_)
           go_simp
           refine hK.out _ _ (Kp.alloc' hS3 (.cells #[.bool false, .slice none 0 0] 46)) (fun hS4 => ?_)
           clear hK K
           have NB7 := Blk.new w102 #[.bool false, .slice none 0 0] 46
           have ge7 : w6d.heap.size ≤ w102.heap.size := hS3.size
           have ne6x7 : A6 ≠ w102.heap.size := by have := NB6.lt; omega
           replace NB6 := NB6.keep (kp_alloc w102 (.cells #[.bool false, .slice none 0 0] 46))
           replace hv102 := hv102.keep (kp_alloc w102 (.cells #[.bool false, .slice none 0 0] 46))
           replace hu102 := hu102.keep (kp_alloc w102 (.cells #[.bool false, .slice none 0 0] 46))
           try simp only [sq]
           generalize hA7 : w102.heap.size = A7 at *
           generalize w102.alloc (.cells #[.bool false, .slice none 0 0] 46) = wn7 at *
           refine wpAnyL_on (i := 8) rfl (fun K hK => ?_)
           have st_c := NB6.cell
           have st_f := NB6.frozen
           have st_l := NB6.lt
           go_simp
           refine hK.out _ _ (stK2 (A := A6) (.bool b102) (.slice ao102 n102 c102) hS4 ge6) (fun hS5 => ?_)
           clear hK K
           have sfS := (stS2 (E := 3) (.bool b102) (.slice ao102 n102 c102) NB6 (by decide))
           replace hv102 := hv102.soft sfS
           replace hu102 := hu102.soft sfS
           replace NB7 := (Blk.other (c := A6) (o := 1) (y := .slice ao102 n102 c102) (Blk.other (c := A6) (o := 0) (y := .bool b102) NB7 (by omega)) (by omega))
           replace NB6 := (Blk.set (o := 1) (y := .slice ao102 n102 c102) (Blk.set (o := 0) (y := .bool b102) NB6))
           clear sfS st_c st_f st_l
           try simp only [sq]
           generalize ((wn7.setCell ⟨A6, 0, none⟩ (.bool b102)).setCell ⟨A6, 1, none⟩ (.slice ao102 n102 c102)) = wt8 at *
           simp only [List.setIfInBounds_toArray, List.set_cons_zero, List.set_cons_succ] at NB6
           have st_c := NB7.cell
           have st_f := NB7.frozen
           have st_l := NB7.lt
           refine wpAnyL_last (i := 9) rfl (by kernel_rfl) (by kernel_rfl) (by kernel_rfl) (fun K hK => ?_)
           go_simp
           refine hK.out _ _ ?_
           clear hK K
           go_wp2_with fail
           go_meet
           case rel => exact ⟨A6, _, _, _, _, rfl, (ot2 (A := A7) (.bool b102x) (.slice ao102x n102x c102x) NB6 (by omega)), hv102.soft (sf2 (.bool b102x) (.slice ao102x n102x c102x) NB7 (by decide)), (kp2 (A := A7) (.bool b102x) (.slice ao102x n102x c102x) hS5 ge7), ge6⟩
          refine AllReadyL.cons rfl (fun K hK => ?_) ?_
          ·go_simp
           refine hK.out _ _ (Kp.alloc' hS2 (.cells #[.bool false, .slice none 0 0] 46)) (fun hS3 => ?_)
           clear hK K
           have NB7 := Blk.new w101 #[.bool false, .slice none 0 0] 46
           have ge7 : w6d.heap.size ≤ w101.heap.size := hS2.size
           have ne6x7 : A6 ≠ w101.heap.size := by have := NB6.lt; omega
           replace NB6 := NB6.keep (kp_alloc w101 (.cells #[.bool false, .slice none 0 0] 46))
           replace hv101 := hv101.keep (kp_alloc w101 (.cells #[.bool false, .slice none 0 0] 46))
           try simp only [sq]
           generalize hA7 : w101.heap.size = A7 at *
           generalize w101.alloc (.cells #[.bool false, .slice none 0 0] 46) = wn7 at *
           refine wpAnyL_on (i := 2) rfl (fun K hK => ?_)
           go_simp
           refine (rdiv_any D 2 (m + 2) _ _ _ (hD.keep hS3) hv101 hD0 (by decide) (by omega) fD f2t).mono ?_
           rintro e w102 ⟨v102, u102x, rfl, hv102, hu102, hk102⟩
           obtain ⟨b102, ao102, n102, c102, rfl⟩ := hv102.shape'
           obtain ⟨b102x, ao102x, n102x, c102x, rfl⟩ := hu102.shape'
           replace NB6 := NB6.keep hk102
           replace NB7 := NB7.keep hk102
           go_wp2_with fail
           refine hK.out _ _ (hS3.trans' hk102) (fun hS4 => ?_)
           clear hK K
           refine wpAnyL_tk (i := 3) (k := 4) (v := .tuple #[.agg #[.bool b102, .slice ao102 n102 c102], .agg #[.bool b102x, .slice ao102x n102x c102x]]) rfl ?_ hS4 ?_
           ·intro w' hw'; go_simp
           simp only [sq]
           refine wpAnyL_tk (i := 4) (k := 8) (v := .agg #[.bool b102, .slice ao102 n102 c102]) rfl ?_ hS4 ?_
           ·intro w' hw'; go_simp
           simp only [sq]
           refine wpAnyL_tk (i := 5) (k := 9) (v := .agg #[.bool b102x, .slice ao102x n102x c102x]) rfl ?_ hS4 ?_
           ·intro w' hw'; go_simp
           simp only [sq]
           refine wpAnyL_on (i := 8) rfl (fun K hK => ?_)
           have st_c := NB6.cell
           have st_f := NB6.frozen
           have st_l := NB6.lt
           go_simp
           refine hK.out _ _ (stK2 (A := A6) (.bool b102) (.slice ao102 n102 c102) hS4 ge6) (fun hS5 => ?_)
           clear hK K
           have sfS := (stS2 (E := 3) (.bool b102) (.slice ao102 n102 c102) NB6 (by decide))
           replace NB7 := (Blk.other (c := A6) (o := 1) (y := .slice ao102 n102 c102) (Blk.other (c := A6) (o := 0) (y := .bool b102) NB7 (by omega)) (by omega))
           replace hv102 := hv102.soft sfS
           replace hu102 := hu102.soft sfS
           replace NB6 := (Blk.set (o := 1) (y := .slice ao102 n102 c102) (Blk.set (o := 0) (y := .bool b102) NB6))
           clear sfS st_c st_f st_l
           try simp only [sq]
           generalize ((w102.setCell ⟨A6, 0, none⟩ (.bool b102)).setCell ⟨A6, 1, none⟩ (.slice ao102 n102 c102)) = wt8 at *
           simp only [List.setIfInBounds_toArray, List.set_cons_zero, List.set_cons_succ] at NB6
           have st_c := NB7.cell
           have st_f := NB7.frozen
           have st_l := NB7.lt
           refine wpAnyL_last (i := 9) rfl (by kernel_rfl) (by kernel_rfl) (by kernel_rfl) (fun K hK => ?_)
           go_simp
           refine hK.out _ _ ?_
           clear hK K
           go_wp2_with fail
           go_meet
           case rel => exact ⟨A6, _, _, _, _, rfl, (ot2 (A := A7) (.bool b102x) (.slice ao102x n102x c102x) NB6 (by omega)), hv102.soft (sf2 (.bool b102x) (.slice ao102x n102x c102x) NB7 (by decide)), (kp2 (A := A7) (.bool b102x) (.slice ao102x n102x c102x) hS5 ge7), ge6⟩
          exact AllReadyL.nil
         refine AllReadyL.cons rfl (fun K hK => ?_) ?_
         ·go_simp
          refine hK.out _ _ (Kp.alloc' hS1 (.cells #[.bool false, .slice none 0 0] 46)) (fun hS2 => ?_)
          clear hK K
          have NB7 := Blk.new wn6 #[.bool false, .slice none 0 0] 46
          have ge7 : w6d.heap.size ≤ wn6.heap.size := hS1.size
          have ne6x7 : A6 ≠ wn6.heap.size := by have := NB6.lt; omega
          replace NB6 := NB6.keep (kp_alloc wn6 (.cells #[.bool false, .slice none 0 0] 46))
          try simp only [sq]
          generalize hA7 : wn6.heap.size = A7 at *
          generalize wn6.alloc (.cells #[.bool false, .slice none 0 0] 46) = wn7 at *
          refine wpAnyL_on (i := 1) rfl (fun K hK => ?_)
          go_simp
          refine (of_any 2 _ (by decide) (by decide)).mono ?_
          rintro e w101 ⟨v101, rfl, hv101, hk101⟩
          obtain ⟨b101, ao101, n101, c101, rfl⟩ := hv101.shape'
          replace NB6 := NB6.keep hk101
          replace NB7 := NB7.keep hk101
          go_wp2_with fail
          refine hK.out _ _ (hS2.trans' hk101) (fun hS3 => ?_)
          clear hK K
          refine wpAnyL_on (i := 2) rfl (fun K hK => ?_)
          go_simp
          refine (rdiv_any D 2 (m + 2) _ _ _ (hD.keep hS3) hv101 hD0 (by decide) (by omega) fD f2t).mono ?_
          rintro e w102 ⟨v102, u102x, rfl, hv102, hu102, hk102⟩
          obtain ⟨b102, ao102, n102, c102, rfl⟩ := hv102.shape'
          obtain ⟨b102x, ao102x, n102x, c102x, rfl⟩ := hu102.shape'
          replace NB6 := NB6.keep hk102
          replace NB7 := NB7.keep hk102
          go_wp2_with fail
          refine hK.out _ _ (hS3.trans' hk102) (fun hS4 => ?_)
          clear hK K
          refine wpAnyL_tk (i := 3) (k := 4) (v := .tuple #[.agg #[.bool b102, .slice ao102 n102 c102], .agg #[.bool b102x, .slice ao102x n102x c102x]]) rfl ?_ hS4 ?_
          ·intro w' hw'; go_simp
          simp only [sq]
          refine wpAnyL_tk (i := 4) (k := 8) (v := .agg #[.bool b102, .slice ao102 n102 c102]) rfl ?_ hS4 ?_
          ·intro w' hw'; go_simp
          simp only [sq]
          refine wpAnyL_tk (i := 5) (k := 9) (v := .agg #[.bool b102x, .slice ao102x n102x c102x]) rfl ?_ hS4 ?_
          ·intro w' hw'; go_simp
          simp only [sq]
          refine wpAnyL_on (i := 8) rfl (fun K hK => ?_)
          have st_c := NB6.cell
          have st_f := NB6.frozen
          have st_l := NB6.lt
          go_simp
          refine hK.out _ _ (stK2 (A := A6) (.bool b102) (.slice ao102 n102 c102) hS4 ge6) (fun hS5 => ?_)
          clear hK K
          have sfS := (stS2 (E := 3) (.bool b102) (.slice ao102 n102 c102) NB6 (by decide))
          replace NB7 := (Blk.other (c := A6) (o := 1) (y := .slice ao102 n102 c102) (Blk.other (c := A6) (o := 0) (y := .bool b102) NB7 (by omega)) (by omega))
          replace hv102 := hv102.soft sfS
          replace hu102 := hu102.soft sfS
          replace NB6 := (Blk.set (o := 1) (y := .slice ao102 n102 c102) (Blk.set (o := 0) (y := .bool b102) NB6))
          clear sfS st_c st_f st_l
          try simp only [sq]
          generalize ((w102.setCell ⟨A6, 0, none⟩ (.bool b102)).setCell ⟨A6, 1, none⟩ (.slice ao102 n102 c102)) = wt8 at *
          simp only [List.setIfInBounds_toArray, List.set_cons_zero, List.set_cons_succ] at NB6
          have st_c := NB7.cell
          have st_f := NB7.frozen
          have st_l := NB7.lt
          refine wpAnyL_last (i := 9) rfl (by kernel_rfl) (by kernel_rfl) (by kernel_rfl) (fun K hK => ?_)
          go_simp
          refine hK.out _ _ ?_
          clear hK K
          go_wp2_with fail
          go_meet
          case rel => exact ⟨A6, _, _, _, _, rfl, (ot2 (A := A7) (.bool b102x) (.slice ao102x n102x c102x) NB6 (by omega)), hv102.soft (sf2 (.bool b102x) (.slice ao102x n102x c102x) NB7 (by decide)), (kp2 (A := A7) (.bool b102x) (.slice ao102x n102x c102x) hS5 ge7), ge6⟩
         exact AllReadyL.nil
        refine AllReadyL.cons rfl (fun K hK => ?_) ?_
        ·go_simp
         refine hK.out _ _ (Kp.alloc' hS0 (.cells #[.bool false, .slice none 0 0] 46)) (fun hS1 => ?_)
         clear hK K
         have NB7 := Blk.new wd #[.bool false, .slice none 0 0] 46
         have ge7 : w6d.heap.size ≤ wd.heap.size := hS0.size
         try simp only [sq]
         generalize hA7 : wd.heap.size = A7 at *
         generalize wd.alloc (.cells #[.bool false, .slice none 0 0] 46) = wn7 at *
         refine wpAnyL_ready (rs := [1, 6]) (by kernel_rfl) (by simp) ?_
         refine AllReadyL.cons rfl (fun K hK => ?_) ?_
         ·go_simp
          refine (of_any 2 _ (by decide) (by decide)).mono ?_
          rintro e w101 ⟨v101, rfl, hv101, hk101⟩
          obtain ⟨b101, ao101, n101, c101, rfl⟩ := hv101.shape'
          replace NB7 := NB7.keep hk101
          go_wp2_with fail
          refine hK.out _ _ (hS1.trans' hk101) (fun hS2 => ?_)
          clear hK K
          refine wpAnyL_ready (rs := [2, 6]) (by kernel_rfl) (by simp) ?_
          refine AllReadyL.cons rfl (fun K hK => ?_) ?_
          ·go_simp
           refine (rdiv_any D 2 (m + 2) _ _ _ (hD.keep hS2) hv101 hD0 (by decide) (by omega) fD f2t).mono ?_
           rintro e w102 ⟨v102, u102x, rfl, hv102, hu102, hk102⟩
           obtain ⟨b102, ao102, n102, c102, rfl⟩ := hv102.shape'
           obtain ⟨b102x, ao102x, n102x, c102x, rfl⟩ := hu102.shape'
           replace NB7 := NB7.keep hk102
           go_wp2_with fail
           refine hK.out _ _ (hS2.trans' hk102) (fun hS3 => ?_)
           clear hK K
           refine wpAnyL_tk (i := 3) (k := 4) (v := .tuple #[.agg #[.bool b102, .slice ao102 n102 c102], .agg #[.bool b102x, .slice ao102x n102x c102x]]) rfl ?_ hS3 ?_
           ·intro w' hw'; go_simp
           simp only [sq]
           refine wpAnyL_tk (i := 4) (k := 8) (v := .agg #[.bool b102, .slice ao102 n102 c102]) rfl ?_ hS3 ?_
           ·intro w' hw'; go_simp
           simp only [sq]
           refine wpAnyL_tk (i := 5) (k := 9) (v := .agg #[.bool b102x, .slice ao102x n102x c102x]) rfl ?_ hS3 ?_
           ·intro w' hw'; go_simp
           simp only [sq]
           refine wpAnyL_on (i := 6) rfl (fun K hK => ?_)
           go_simp
           refine hK.out _ _ (Kp.alloc' hS3 (.cells #[.bool false, .slice none 0 0] 46)) (fun hS4 => ?_)
           clear hK K
           have NB6 := Blk.new w102 #[.bool false, .slice none 0 0] 46
           have ge6 : w6d.heap.size ≤ w102.heap.size := hS3.size
           have ne7x6 : A7 ≠ w102.heap.size := by have := NB7.lt; omega
           replace NB7 := NB7.keep (kp_alloc w102 (.cells #[.bool false, .slice none 0 0] 46))
           replace hv102 := hv102.keep (kp_alloc w102 (.cells #[.bool false, .slice none 0 0] 46))
           replace hu102 := hu102.keep (kp_alloc w102 (.cells #[.bool false, .slice none 0 0] 46))
           try simp only [sq]
           generalize hA6 : w102.heap.size = A6 at *
           generalize w102.alloc (.cells #[.bool false, .slice none 0 0] 46) = wn6 at *
           refine wpAnyL_on (i := 8) rfl (fun K hK => ?_)
           have st_c := NB6.cell
           have st_f := NB6.frozen
           have st_l := NB6.lt
           go_simp
           refine hK.out _ _ (stK2 (A := A6) (.bool b102) (.slice ao102 n102 c102) hS4 ge6) (fun hS5 => ?_)
           clear hK K
           have sfS := (stS2 (E := 3) (.bool b102) (.slice ao102 n102 c102) NB6 (by decide))
           replace NB7 := (Blk.other (c := A6) (o := 1) (y := .slice ao102 n102 c102) (Blk.other (c := A6) (o := 0) (y := .bool b102) NB7 (by omega)) (by omega))
           replace hv102 := hv102.soft sfS
           replace hu102 := hu102.soft sfS
           replace NB6 := (Blk.set (o := 1) (y := .slice ao102 n102 c102) (Blk.set (o := 0) (y := .bool b102) NB6))
           clear sfS st_c st_f st_l
           try simp only [sq]
           generalize ((wn6.setCell ⟨A6, 0, none⟩ (.bool b102)).setCell ⟨A6, 1, none⟩ (.slice ao102 n102 c102)) = wt8 at *
           simp only [List.setIfInBounds_toArray, List.set_cons_zero, List.set_cons_succ] at NB6
           have st_c := NB7.cell
           have st_f := NB7.frozen
           have st_l := NB7.lt
           refine wpAnyL_last (i := 9) rfl (by kernel_rfl) (by kernel_rfl) (by kernel_rfl) (fun K hK => ?_)
           go_simp
           refine hK.out _ _ ?_
           clear hK K
           go_wp2_with fail
           go_meet
           case rel => exact ⟨A6, _, _, _, _, rfl, (ot2 (A := A7) (.bool b102x) (.slice ao102x n102x c102x) NB6 (by omega)), hv102.soft (sf2 (.bool b102x) (.slice ao102x n102x c102x) NB7 (by decide)), (kp2 (A := A7) (.bool b102x) (.slice ao102x n102x c102x) hS5 ge7), ge6⟩
          refine AllReadyL.cons rfl (fun K hK => ?_) ?_
          ·go_simp
           refine hK.out _ _ (Kp.alloc' hS2 (.cells #[.bool false, .slice none 0 0] 46)) (fun hS3 => ?_)
           clear hK K
           have NB6 := Blk.new w101 #[.bool false, .slice none 0 0] 46
           have ge6 : w6d.heap.size ≤ w101.heap.size := hS2.size
           have ne7x6 : A7 ≠ w101.heap.size := by have := NB7.lt; omega
           replace NB7 := NB7.keep (kp_alloc w101 (.cells #[.bool false, .slice none 0 0] 46))
           replace hv101 := hv101.keep (kp_alloc w101 (.cells #[.bool false, .slice none 0 0] 46))
           try simp only [sq]
           generalize hA6 : w101.heap.size = A6 at *
           generalize w101.alloc (.cells #[.bool false, .slice none 0 0] 46) = wn6 at *
           refine wpAnyL_on (i := 2) rfl (fun K hK => ?_)
           go_simp
           refine (rdiv_any D 2 (m + 2) _ _ _ (hD.keep hS3) hv101 hD0 (by decide) (by omega) fD f2t).mono ?_
           rintro e w102 ⟨v102, u102x, rfl, hv102, hu102, hk102⟩
           obtain ⟨b102, ao102, n102, c102, rfl⟩ := hv102.shape'
           obtain ⟨b102x, ao102x, n102x, c102x, rfl⟩ := hu102.shape'
           replace NB7 := NB7.keep hk102
           replace NB6 := NB6.keep hk102
           go_wp2_with fail
           refine hK.out _ _ (hS3.trans' hk102) (fun hS4 => ?_)
           clear hK K
           refine wpAnyL_tk (i := 3) (k := 4) (v := .tuple #[.agg #[.bool b102, .slice ao102 n102 c102], .agg #[.bool b102x, .slice ao102x n102x c102x]]) rfl ?_ hS4 ?_
           ·intro w' hw'; go_simp
           simp only [sq]
           refine wpAnyL_tk (i := 4) (k := 8) (v := .agg #[.bool b102, .slice ao102 n102 c102]) rfl ?_ hS4 ?_
           ·intro w' hw'; go_simp
           simp only [sq]
           refine wpAnyL_tk (i := 5) (k := 9) (v := .agg #[.bool b102x, .slice ao102x n102x c102x]) rfl ?_ hS4 ?_
           ·intro w' hw'; go_simp
           simp only [sq]
           refine wpAnyL_on (i := 8) rfl (fun K hK => ?_)
           have st_c := NB6.cell
           have st_f := NB6.frozen
           have st_l := NB6.lt
           go_simp
           refine hK.out _ _ (stK2 (A := A6) (.bool b102) (.slice ao102 n102 c102) hS4 ge6) (fun hS5 => ?_)
           clear hK K
           have sfS := (stS2 (E := 3) (.bool b102) (.slice ao102 n102 c102) NB6 (by decide))
           replace NB7 := (Blk.other (c := A6) (o := 1) (y := .slice ao102 n102 c102) (Blk.other (c := A6) (o := 0) (y := .bool b102) NB7 (by omega)) (by omega))
           replace hv102 := hv102.soft sfS
           replace hu102 := hu102.soft sfS
           replace NB6 := (Blk.set (o := 1) (y := .slice ao102 n102 c102) (Blk.set (o := 0) (y := .bool b102) NB6))
           clear sfS st_c st_f st_l
           try simp only [sq]
           generalize ((w102.setCell ⟨A6, 0, none⟩ (.bool b102)).setCell ⟨A6, 1, none⟩ (.slice ao102 n102 c102)) = wt8 at *
           simp only [List.setIfInBounds_toArray, List.set_cons_zero, List.set_cons_succ] at NB6
           have st_c := NB7.cell
           have st_f := NB7.frozen
           have st_l := NB7.lt
           refine wpAnyL_last (i := 9) rfl (by kernel_rfl) (by kernel_rfl) (by kernel_rfl) (fun K hK => ?_)
           go_simp
           refine hK.out _ _ ?_
           clear hK K
           go_wp2_with fail
           go_meet
           case rel => exact ⟨A6, _, _, _, _, rfl, (ot2 (A := A7) (.bool b102x) (.slice ao102x n102x c102x) NB6 (by omega)), hv102.soft (sf2 (.bool b102x) (.slice ao102x n102x c102x) NB7 (by decide)), (kp2 (A := A7) (.bool b102x) (.slice ao102x n102x c102x) hS5 ge7), ge6⟩
          exact AllReadyL.nil
         refine AllReadyL.cons rfl (fun K hK => ?_) ?_
         ·go_simp
          refine hK.out _ _ (Kp.alloc' hS1 (.cells #[.bool false, .slice none 0 0] 46)) (fun hS2 => ?_)
          clear hK K
          have NB6 := Blk.new wn7 #[.bool false, .slice none 0 0] 46
          have ge6 : w6d.heap.size ≤ wn7.heap.size := hS1.size
          have ne7x6 : A7 ≠ wn7.heap.size := by have := NB7.lt; omega
          replace NB7 := NB7.keep (kp_alloc wn7 (.cells #[.bool false, .slice none 0 0] 46))
          try simp only [sq]
          generalize hA6 : wn7.heap.size = A6 at *
          generalize wn7.alloc (.cells #[.bool false, .slice none 0 0] 46) = wn6 at *
          refine wpAnyL_on (i := 1) rfl (fun K hK => ?_)
          go_simp
          refine (of_any 2 _ (by decide) (by decide)).mono ?_
          rintro e w101 ⟨v101, rfl, hv101, hk101⟩
          obtain ⟨b101, ao101, n101, c101, rfl⟩ := hv101.shape'
          replace NB7 := NB7.keep hk101
          replace NB6 := NB6.keep hk101
          go_wp2_with fail
          refine hK.out _ _ (hS2.trans' hk101) (fun hS3 => ?_)
          clear hK K
          refine wpAnyL_on (i := 2) rfl (fun K hK => ?_)
          go_simp
          refine (rdiv_any D 2 (m + 2) _ _ _ (hD.keep hS3) hv101 hD0 (by decide) (by omega) fD f2t).mono ?_
          rintro e w102 ⟨v102, u102x, rfl, hv102, hu102, hk102⟩
          obtain ⟨b102, ao102, n102, c102, rfl⟩ := hv102.shape'
          obtain ⟨b102x, ao102x, n102x, c102x, rfl⟩ := hu102.shape'
          replace NB7 := NB7.keep hk102
          replace NB6 := NB6.keep hk102
          go_wp2_with fail
          refine hK.out _ _ (hS3.trans' hk102) (fun hS4 => ?_)
          clear hK K
          refine wpAnyL_tk (i := 3) (k := 4) (v := .tuple #[.agg #[.bool b102, .slice ao102 n102 c102], .agg #[.bool b102x, .slice ao102x n102x c102x]]) rfl ?_ hS4 ?_
          ·intro w' hw'; go_simp
          simp only [sq]
          refine wpAnyL_tk (i := 4) (k := 8) (v := .agg #[.bool b102, .slice ao102 n102 c102]) rfl ?_ hS4 ?_
          ·intro w' hw'; go_simp
          simp only [sq]
          refine wpAnyL_tk (i := 5) (k := 9) (v := .agg #[.bool b102x, .slice ao102x n102x c102x]) rfl ?_ hS4 ?_
          ·intro w' hw'; go_simp
          simp only [sq]
          refine wpAnyL_on (i := 8) rfl (fun K hK => ?_)
          have st_c := NB6.cell
          have st_f := NB6.frozen
          have st_l := NB6.lt
          go_simp
          refine hK.out _ _ (stK2 (A := A6) (.bool b102) (.slice ao102 n102 c102) hS4 ge6) (fun hS5 => ?_)
          clear hK K
          have sfS := (stS2 (E := 3) (.bool b102) (.slice ao102 n102 c102) NB6 (by decide))
          replace NB7 := (Blk.other (c := A6) (o := 1) (y := .slice ao102 n102 c102) (Blk.other (c := A6) (o := 0) (y := .bool b102) NB7 (by omega)) (by omega))
          replace hv102 := hv102.soft sfS
          replace hu102 := hu102.soft sfS
          replace NB6 := (Blk.set (o := 1) (y := .slice ao102 n102 c102) (Blk.set (o := 0) (y := .bool b102) NB6))
          clear sfS st_c st_f st_l
          try simp only [sq]
          generalize ((w102.setCell ⟨A6, 0, none⟩ (.bool b102)).setCell ⟨A6, 1, none⟩ (.slice ao102 n102 c102)) = wt8 at *
          simp only [List.setIfInBounds_toArray, List.set_cons_zero, List.set_cons_succ] at NB6
          have st_c := NB7.cell
          have st_f := NB7.frozen
          have st_l := NB7.lt
          refine wpAnyL_last (i := 9) rfl (by kernel_rfl) (by kernel_rfl) (by kernel_rfl) (fun K hK => ?_)
          go_simp
          refine hK.out _ _ ?_
          clear hK K
          go_wp2_with fail
          go_meet
          case rel => exact ⟨A6, _, _, _, _, rfl, (ot2 (A := A7) (.bool b102x) (.slice ao102x n102x c102x) NB6 (by omega)), hv102.soft (sf2 (.bool b102x) (.slice ao102x n102x c102x) NB7 (by decide)), (kp2 (A := A7) (.bool b102x) (.slice ao102x n102x c102x) hS5 ge7), ge6⟩
         exact AllReadyL.nil
        exact AllReadyL.nil
       case rest =>
        obtain ⟨bp, b8, ao8, n8, c8, rfl, BP, hq, hkc, hge⟩ := hcut
        replace BL := BL.keep hkc
        replace BH := BH.keep hkc
        replace BX := BX.keep hkc
        replace BE := BE.keep hkc
        replace hL := hL.keep hkc
        replace hH := hH.keep hkc
        replace hk7w := hk7w.trans' hkc
        have bpc := BP.cell
        have blc := BL.cell
        have bpl := BP.lt
        have bll := BL.lt
        have hM1 : L < L + D / 2 := by have := hDE.out; omega
        have hM2 : L + D / 2 < H := by have := hDE.out; omega
        have fq : Fit (D / 2) := (Ft.le (y := D) fD (by omega)).fit (by omega)
        clear hDE fD hD BD hd
        go_wp2_with fail
        refine (rplus_any L (D / 2) _ _ _ hL hq fL fq).mono ?_
        rintro e w8 ⟨v9, rfl, hM, hk8⟩
        obtain ⟨b9, ao9, n9, c9, rfl⟩ := hM.shape'
        generalize L + D / 2 = M at *
        clear hq BP bpc bpl fq
        have hM3 : M.natAbs ≤ 2 * t.natAbs + 1 := by omega
        have neX8 : w.heap.size ≠ w8.heap.size := by have := (BX.keep hk8).lt; omega
        have neL8 : A3 ≠ w8.heap.size := by have := (BL.keep hk8).lt; omega
        have neH8 : A5 ≠ w8.heap.size := by have := (BH.keep hk8).lt; omega
        replace BL := (BL.keep hk8).alloc (.cells #[.bool b9, .slice ao9 n9 c9] 46)
        replace BH := (BH.keep hk8).alloc (.cells #[.bool b9, .slice ao9 n9 c9] 46)
        replace BX := (BX.keep hk8).alloc (.cells #[.bool b9, .slice ao9 n9 c9] 46)
        replace BE := (BE.keep hk8).alloc (.cells #[.bool b9, .slice ao9 n9 c9] 46)
        replace hL := (hL.keep hk8).keep (kp_alloc w8 (.cells #[.bool b9, .slice ao9 n9 c9] 46))
        replace hH := (hH.keep hk8).keep (kp_alloc w8 (.cells #[.bool b9, .slice ao9 n9 c9] 46))
        have BM := Blk.new w8 #[.bool b9, .slice ao9 n9 c9] 46
        replace hM := hM.keep (kp_alloc w8 (.cells #[.bool b9, .slice ao9 n9 c9] 46))
        replace hk7w := (hk7w.trans' hk8).alloc' (.cells #[.bool b9, .slice ao9 n9 c9] 46)
        have HC := HO.out M _ _ hk7w hM (HF.out M hM3)
        have hpm := HP.out M
        generalize ovr a M = o at HC hpm
        have bxc := BX.cell
        have bmc := BM.cell
        clear blc bll hkc hk8
        go_wp2_with fail
        refine HC.mono ?_
        rintro e w9 ⟨rfl, hk9⟩
        generalize w8.alloc (.cells #[.bool b9, .slice ao9 n9 c9] 46) = wm at *
        generalize w8.heap.size = A10 at *
        replace BL := BL.keep hk9
        replace BH := BH.keep hk9
        replace BX := BX.keep hk9
        replace BE := BE.keep hk9
        replace BM := BM.keep hk9
        replace hL := hL.keep hk9
        replace hH := hH.keep hk9
        replace hM := hM.keep hk9
        replace hk7w := hk7w.trans' hk9
        clear bxc bmc HC hk9
        have bmc := BM.cell
        have bml := BM.lt
        by_cases ho : 0 ≤ o
        ·have hMt := hpm.1 ho
         clear hpm
         have blc := BL.cell
         have blf := BL.frozen
         have bll := BL.lt
         go_wp2_with fail
         go_roundg ((H - M).toNat)
         case rel => exact ⟨M, H, _, _, _, _, _, _, _, _, (ot2 (A := A3) (.bool b9) (.slice ao9 n9 c9) BH (by omega)), hH.soft (sf2 (.bool b9) (.slice ao9 n9 c9) BL (by decide)), (ot2 (A := A3) (.bool b9) (.slice ao9 n9 c9) BX (by omega)), (ot2 (A := A3) (.bool b9) (.slice ao9 n9 c9) BE (by omega)), (bl2 (.bool b9) (.slice ao9 n9 c9) BL), hM.soft (sf2 (.bool b9) (.slice ao9 n9 c9) BL (by decide)), (kp2 (A := A3) (.bool b9) (.slice ao9 n9 c9) hk7w geA3), hMt, hHt, hM3, hb2, Nat.le_refl _⟩
         case measure => omega
        ·have hMt : t < M := by have := hpm.2; omega
         clear hpm
         have bhc := BH.cell
         have bhf := BH.frozen
         have bhl := BH.lt
         go_wp2_with fail
         go_roundg ((M - L).toNat)
         case rel => exact ⟨L, M, _, _, _, _, _, _, _, _, (bl2 (.bool b9) (.slice ao9 n9 c9) BH), hM.soft (sf2 (.bool b9) (.slice ao9 n9 c9) BH (by decide)), (ot2 (A := A5) (.bool b9) (.slice ao9 n9 c9) BX (by omega)), (ot2 (A := A5) (.bool b9) (.slice ao9 n9 c9) BE (by omega)), (ot2 (A := A5) (.bool b9) (.slice ao9 n9 c9) BL (by omega)), hL.soft (sf2 (.bool b9) (.slice ao9 n9 c9) BH (by decide)), (kp2 (A := A5) (.bool b9) (.slice ao9 n9 c9) hk7w geA5), hLt, hMt, hb1, hM3, Nat.le_refl _⟩
         case measure => omega
      ·have hLe : L = t := by omega
       have hs := Hid.mk (sign_le (x := H - L - 1) (by omega))
       have hsg : (H - L - 1).sign ≤ 0 := hs.out
       clear hs
       generalize (H - L - 1).sign = sg at *
       have blc := BL.cell
       have bll := BL.lt
       have bec := BE.cell
       have bef := BE.frozen
       have bel := BE.lt
       rw [hLe] at hL
       clear hLe hLt
       go_wp2_with fail
       refine bodyPost_ret (v := .agg #[.bool bL, .slice aoL nL cL]) (by simp [results, Try.results41, go_sem, bec]) rfl ?_
       exact retI_mk hL (sf2 (.bool bL) (.slice aoL nL cL) BE (by decide)) (kp2 (A := w.heap.size + 1) (.bool bL) (.slice aoL nL cL) hk7w (by omega))
    ·have hHt : H ≤ t := hph.1 (by omega)
     clear hph
     go_wp2_with fail
     refine HC.mono ?_
     rintro e w4 ⟨rfl, hk4⟩
     replace BL := BL.keep hk4
     replace BH := BH.keep hk4
     replace BX := BX.keep hk4
     replace BE := BE.keep hk4
     replace hL := hL.keep hk4
     replace hH := hH.keep hk4
     have hk4w := hkr.trans' hk4
     clear bxc bhc bxl bhl HC hk4 hkr
     go_wp2_with fail
     clear h
     refine wp_region_l (S := fun w' => Kp w4 w') (by kernel_rfl) (Kp.drew' (Below.refl _ _)) (fun hS0 => ?_)
     generalize w4.drew = wd at *
     refine wpAnyL_tk (i := 0) (k := 2) (v := .agg #[.bool b5, .slice ao5 n5 c5]) rfl ?_ hS0 ?_
     ·intro w' hw'; have hc := ((BH).keep hw').cell; go_simp
     simp only [sq]
     refine wpAnyL_on (i := 1) rfl (fun K hK => ?_)
     go_simp
     refine (of_any 2 _ (by decide) (by decide)).mono ?_
     rintro e w101 ⟨v101, rfl, hv101, hk101⟩
     obtain ⟨b101, ao101, n101, c101, rfl⟩ := hv101.shape'
     go_wp2_with fail
     refine hK.out _ _ (hS0.trans' hk101) (fun hS1 => ?_)
     clear hK K
     refine wpAnyL_on (i := 2) rfl (fun K hK => ?_)
     go_simp
     refine (rtimes_any H 2 _ _ _ (hH.keep hS1) hv101 fH f2).mono ?_
     rintro e w102 ⟨v102, rfl, hv102, hk102⟩
     obtain ⟨b102, ao102, n102, c102, rfl⟩ := hv102.shape'
     go_wp2_with fail
     refine hK.out _ _ (hS1.trans' hk102) (fun hS2 => ?_)
     clear hK K
     have TB := (BH).keep hS2
     have st_c := TB.cell
     have st_f := TB.frozen
     have st_l := TB.lt
     refine wpAnyL_last (i := 3) rfl (by kernel_rfl) (by kernel_rfl) (by kernel_rfl) (fun K hK => ?_)
     go_simp
     refine hK.out _ _ ?_
     clear hK K
     have sfS := (sf2 (E := 3) (.bool b102) (.slice ao102 n102 c102) TB (by decide))
     have BHn := (bl2 (.bool b102) (.slice ao102 n102 c102) TB)
     have BXn := (ot2 (A := A5) (.bool b102) (.slice ao102 n102 c102) (BX.keep hS2) (by omega))
     have BEn := (ot2 (A := A5) (.bool b102) (.slice ao102 n102 c102) (BE.keep hS2) (by omega))
     have BLn := (ot2 (A := A5) (.bool b102) (.slice ao102 n102 c102) (BL.keep hS2) (by omega))
     have hHn := hv102.soft sfS
     have hkn := (kp2 (A := A5) (.bool b102) (.slice ao102 n102 c102) (hk4w.trans' hS2) geA5)
     have hLn := (hL.keep hS2).soft sfS
     clear sfS
     clear st_c st_f st_l TB
     generalize ((w102.setCell ⟨A5, 0, none⟩ (.bool b102)).setCell ⟨A5, 1, none⟩ (.slice ao102 n102 c102)) = wk at *
     go_wp2_with fail
     go_roundg ((t + 1 - H * 2).toNat)
     case rel => exact ⟨H * 2, b102, ao102, n102, c102, BHn, hHn, BXn, BEn, BLn, hLn, hkn, by omega, by omega, by omega⟩
     case measure => omega
  ·have hLt : t < L := by have := hpl.2; omega
   clear hpl
   go_wp2_with fail
   refine HC.mono ?_
   rintro e w2 ⟨rfl, hk2⟩
   replace BL := BL.keep hk2
   replace BX := BX.keep hk2
   replace BE := BE.keep hk2
   replace hL := hL.keep hk2
   have hk2w := hkr.trans' hk2
   clear bxc blc bxl bll HC hk2 hkr
   go_wp2_with fail
   clear h
   refine wp_region_l (S := fun w' => Kp w2 w') (by kernel_rfl) (Kp.drew' (Below.refl _ _)) (fun hS0 => ?_)
   generalize w2.drew = wd at *
   refine wpAnyL_tk (i := 0) (k := 2) (v := .agg #[.bool bL, .slice aoL nL cL]) rfl ?_ hS0 ?_
   ·intro w' hw'; have hc := ((BL).keep hw').cell; go_simp
   simp only [sq]
   refine wpAnyL_on (i := 1) rfl (fun K hK => ?_)
   go_simp
   refine (of_any 2 _ (by decide) (by decide)).mono ?_
   rintro e w101 ⟨v101, rfl, hv101, hk101⟩
   obtain ⟨b101, ao101, n101, c101, rfl⟩ := hv101.shape'
   go_wp2_with fail
   refine hK.out _ _ (hS0.trans' hk101) (fun hS1 => ?_)
   clear hK K
   refine wpAnyL_on (i := 2) rfl (fun K hK => ?_)
   go_simp
   refine (rtimes_any L 2 _ _ _ (hL.keep hS1) hv101 fL f2).mono ?_
   rintro e w102 ⟨v102, rfl, hv102, hk102⟩
   obtain ⟨b102, ao102, n102, c102, rfl⟩ := hv102.shape'
   go_wp2_with fail
   refine hK.out _ _ (hS1.trans' hk102) (fun hS2 => ?_)
   clear hK K
   have TB := (BL).keep hS2
   have st_c := TB.cell
   have st_f := TB.frozen
   have st_l := TB.lt
   refine wpAnyL_last (i := 3) rfl (by kernel_rfl) (by kernel_rfl) (by kernel_rfl) (fun K hK => ?_)
   go_simp
   refine hK.out _ _ ?_
   clear hK K
   have sfS := (sf2 (E := 3) (.bool b102) (.slice ao102 n102 c102) TB (by decide))
   have BLn := (bl2 (.bool b102) (.slice ao102 n102 c102) TB)
   have BXn := (ot2 (A := A3) (.bool b102) (.slice ao102 n102 c102) (BX.keep hS2) (by omega))
   have BEn := (ot2 (A := A3) (.bool b102) (.slice ao102 n102 c102) (BE.keep hS2) (by omega))
   have hLn := hv102.soft sfS
   have hkn := (kp2 (A := A3) (.bool b102) (.slice ao102 n102 c102) (hk2w.trans' hS2) geA3)
   clear sfS st_c st_f st_l TB
   generalize ((w102.setCell ⟨A3, 0, none⟩ (.bool b102)).setCell ⟨A3, 1, none⟩ (.slice ao102 n102 c102)) = wk at *
   go_wp2_with fail
   go_roundg ((L * 2 - t).toNat)
   case rel => exact ⟨L * 2, b102, ao102, n102, c102, BLn, hLn, BXn, BEn, hkn, by omega, by omega, by omega⟩
   case measure => omega

end Go.Proofs.Ytjahbjjekednfaa
