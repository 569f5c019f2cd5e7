import Derived.Test.YtjahbjjekednfaaDoorBq
import Derived.Test.YtjahbjjekednfaaDoorC4
import Derived.Deep.DeepCutAuto
import Derived.Test.YtjahbjjekednfaaDoorK5
namespace Go.Proofs.YtjahbjjekednfaaDoor
open Go.RowKit

/-- The one of two fractions that is taken. -/
def nq (o : Int) (l g : Int × Int) : Int × Int := if 0 < (if o = 0 then (l.2 - g.2).sign else o) then g else l
/-- What lies in the middle. -/
def md (lp lq op oq : Int) : Qn := qreduce (lp * oq + op * lq) 0 (lq * oq + lq * oq) 1

set_option maxHeartbeats 6400000 in
set_option maxRecDepth 100000 in
theorem nearer_le (a : Qn) (lp lq op oq : Int) (m : Nat) (u v t : Value) (w : World) (hx : XN w u a) (ha : FR w v lp lq) (hb : FR w t op oq) (hm : m ≤ 3000000) (fx : QF 9000000 a) (dx : QD a) (f1 : Ft m lp) (f2 : Ft m lq) (f3 : Ft m op) (f4 : Ft m oq) (hsg : (lp * oq - op * lq).sign = -1) :
 Calls Tryd.prog 62 #[u, v, t] w (RetFR w (nq (qcmp a (md lp lq op oq)) (lp, lq) (op, oq)).1 (nq (qcmp a (md lp lq op oq)) (lp, lq) (op, oq)).2) := by
 have fsu : Ft (m + m + 1) (lp * oq + op * lq) := Ft.add (f1.mul f4) (f3.mul f2)
 have ftw : Ft (m + m + 1) (lq * oq + lq * oq) := Ft.add (f2.mul f4) (f2.mul f4)
 have fmd : QF 9000000 (md lp lq op oq) := (QF.reduce fsu (Ft.zero _) ftw).mono (by omega)
 have dmd : QD (md lp lq op oq) := QD.red ⟨by decide, by decide⟩
 obtain ⟨b1, ao1, n1, c1, b2, ao2, n2, c2, b3, ao3, n3, c3, rfl, _, _, _⟩ := id hx
 obtain ⟨b4, ao4, n4, c4, b5, ao5, n5, c5, rfl, hlp, hlq⟩ := ha
 obtain ⟨b6, ao6, n6, c6, b7, ao7, n7, c7, rfl, hop, hoq⟩ := hb
 have hkw : Kp w ((((w.alloc (.cells #[.bool b1, .slice ao1 n1 c1, .bool b2, .slice ao2 n2 c2, .bool b3, .slice ao3 n3 c3, .int .i64 a.d] 58)).alloc (.cells #[.bool b4, .slice ao4 n4 c4, .bool b5, .slice ao5 n5 c5] 78)).alloc (.cells #[.bool b6, .slice ao6 n6 c6, .bool b7, .slice ao7 n7 c7] 78)).alloc (.cells #[.bool false, .slice none 0 0, .bool false, .slice none 0 0] 78)) := (Kp.alloc' (Kp.alloc' (Kp.alloc' (kp_alloc w _) _) _) _)
 have Bx : Blk ((((w.alloc (.cells #[.bool b1, .slice ao1 n1 c1, .bool b2, .slice ao2 n2 c2, .bool b3, .slice ao3 n3 c3, .int .i64 a.d] 58)).alloc (.cells #[.bool b4, .slice ao4 n4 c4, .bool b5, .slice ao5 n5 c5] 78)).alloc (.cells #[.bool b6, .slice ao6 n6 c6, .bool b7, .slice ao7 n7 c7] 78)).alloc (.cells #[.bool false, .slice none 0 0, .bool false, .slice none 0 0] 78)) (w.heap.size) #[.bool b1, .slice ao1 n1 c1, .bool b2, .slice ao2 n2 c2, .bool b3, .slice ao3 n3 c3, .int .i64 a.d] 58 := (Blk.alloc (Blk.alloc (Blk.alloc (Blk.new w _ _) _) _) _)
 have Ba : Blk ((((w.alloc (.cells #[.bool b1, .slice ao1 n1 c1, .bool b2, .slice ao2 n2 c2, .bool b3, .slice ao3 n3 c3, .int .i64 a.d] 58)).alloc (.cells #[.bool b4, .slice ao4 n4 c4, .bool b5, .slice ao5 n5 c5] 78)).alloc (.cells #[.bool b6, .slice ao6 n6 c6, .bool b7, .slice ao7 n7 c7] 78)).alloc (.cells #[.bool false, .slice none 0 0, .bool false, .slice none 0 0] 78)) (w.heap.size + 1) #[.bool b4, .slice ao4 n4 c4, .bool b5, .slice ao5 n5 c5] 78 := (Blk.alloc (Blk.alloc (Blk.at (Blk.new (w.alloc (.cells #[.bool b1, .slice ao1 n1 c1, .bool b2, .slice ao2 n2 c2, .bool b3, .slice ao3 n3 c3, .int .i64 a.d] 58)) _ _) (by simp)) _) _)
 have Bb : Blk ((((w.alloc (.cells #[.bool b1, .slice ao1 n1 c1, .bool b2, .slice ao2 n2 c2, .bool b3, .slice ao3 n3 c3, .int .i64 a.d] 58)).alloc (.cells #[.bool b4, .slice ao4 n4 c4, .bool b5, .slice ao5 n5 c5] 78)).alloc (.cells #[.bool b6, .slice ao6 n6 c6, .bool b7, .slice ao7 n7 c7] 78)).alloc (.cells #[.bool false, .slice none 0 0, .bool false, .slice none 0 0] 78)) (w.heap.size + 1 + 1) #[.bool b6, .slice ao6 n6 c6, .bool b7, .slice ao7 n7 c7] 78 := (Blk.alloc (Blk.at (Blk.new ((w.alloc (.cells #[.bool b1, .slice ao1 n1 c1, .bool b2, .slice ao2 n2 c2, .bool b3, .slice ao3 n3 c3, .int .i64 a.d] 58)).alloc (.cells #[.bool b4, .slice ao4 n4 c4, .bool b5, .slice ao5 n5 c5] 78)) _ _) (by simp)) _)
 have Br : Blk ((((w.alloc (.cells #[.bool b1, .slice ao1 n1 c1, .bool b2, .slice ao2 n2 c2, .bool b3, .slice ao3 n3 c3, .int .i64 a.d] 58)).alloc (.cells #[.bool b4, .slice ao4 n4 c4, .bool b5, .slice ao5 n5 c5] 78)).alloc (.cells #[.bool b6, .slice ao6 n6 c6, .bool b7, .slice ao7 n7 c7] 78)).alloc (.cells #[.bool false, .slice none 0 0, .bool false, .slice none 0 0] 78)) (w.heap.size + 1 + 1 + 1) #[.bool false, .slice none 0 0, .bool false, .slice none 0 0] 78 := (Blk.at (Blk.new (((w.alloc (.cells #[.bool b1, .slice ao1 n1 c1, .bool b2, .slice ao2 n2 c2, .bool b3, .slice ao3 n3 c3, .int .i64 a.d] 58)).alloc (.cells #[.bool b4, .slice ao4 n4 c4, .bool b5, .slice ao5 n5 c5] 78)).alloc (.cells #[.bool b6, .slice ao6 n6 c6, .bool b7, .slice ao7 n7 c7] 78)) _ _) (by simp))
 replace hx := hx.keep hkw
 replace hlp := hlp.keep hkw
 replace hlq := hlq.keep hkw
 replace hop := hop.keep hkw
 replace hoq := hoq.keep hkw
 go_enter Tryd.func62, Tryd.ntmps62
 go_wp2_with fail
 generalize ((((w.alloc (.cells #[.bool b1, .slice ao1 n1 c1, .bool b2, .slice ao2 n2 c2, .bool b3, .slice ao3 n3 c3, .int .i64 a.d] 58)).alloc (.cells #[.bool b4, .slice ao4 n4 c4, .bool b5, .slice ao5 n5 c5] 78)).alloc (.cells #[.bool b6, .slice ao6 n6 c6, .bool b7, .slice ao7 n7 c7] 78)).alloc (.cells #[.bool false, .slice none 0 0, .bool false, .slice none 0 0] 78)) = x0 at *
 go_cut [7, 8] (fun p7 p8 wx => ∃ A7 A8 : Nat, p7 = .pointer (some ⟨A7, 0, none⟩) ∧ p8 = .pointer (some ⟨A8, 0, none⟩) ∧ A7 ≠ A8 ∧ x0.heap.size ≤ A7 ∧ x0.heap.size ≤ A8 ∧ Blk wx A7 #[.bool b4, .slice ao4 n4 c4, .bool b5, .slice ao5 n5 c5] 78 ∧ Blk wx A8 #[.bool b6, .slice ao6 n6 c6, .bool b7, .slice ao7 n7 c7] 78 ∧ Kp x0 wx)
 case first =>
  refine wp_region_l (S := fun w' => Kp x0 w') (by kernel_rfl) (Kp.drew' (Below.refl _ _)) (fun hS0 => ?_)
  generalize x0.drew = wd at *
  refine wpAnyL_tk (i := 0) (k := 4) (v := .agg #[.bool b4, .slice ao4 n4 c4, .bool b5, .slice ao5 n5 c5]) rfl ?_ hS0 ?_
  ·intro w' hw'; have hc := (Ba.keep hw').cell; go_simp
  simp only [sq]
  refine wpAnyL_tk (i := 1) (k := 5) (v := .agg #[.bool b6, .slice ao6 n6 c6, .bool b7, .slice ao7 n7 c7]) rfl ?_ hS0 ?_
  ·intro w' hw'; have hc := (Bb.keep hw').cell; go_simp
  simp only [sq]
  refine wpAnyL_ready (rs := [2, 3]) (by kernel_rfl) (by simp) ?_
  refine AllReadyL.cons rfl (fun K hK => ?_) ?_
  ·go_simp
   refine hK.out _ _ (Kp.alloc' hS0 (.cells #[.bool false, .slice none 0 0, .bool false, .slice none 0 0] 78)) (fun hS1 => ?_)
   clear hK K
   have NB7 := Blk.new wd #[.bool false, .slice none 0 0, .bool false, .slice none 0 0] 78
   have ge7 : x0.heap.size ≤ wd.heap.size := hS0.size
   try simp only [sq]
   generalize wd.heap.size = A7 at *
   generalize wd.alloc (.cells #[.bool false, .slice none 0 0, .bool false, .slice none 0 0] 78) = wd1 at *
   refine wpAnyL_on (i := 3) rfl (fun K hK => ?_)
   go_simp
   refine hK.out _ _ (Kp.alloc' hS1 (.cells #[.bool false, .slice none 0 0, .bool false, .slice none 0 0] 78)) (fun hS2 => ?_)
   clear hK K
   have NB8 := Blk.new wd1 #[.bool false, .slice none 0 0, .bool false, .slice none 0 0] 78
   have ge8 : x0.heap.size ≤ wd1.heap.size := hS1.size
   have lt7 : A7 < wd1.heap.size := NB7.lt
   replace NB7 := NB7.alloc (.cells #[.bool false, .slice none 0 0, .bool false, .slice none 0 0] 78)
   try simp only [sq]
   generalize wd1.heap.size = A8 at *
   generalize wd1.alloc (.cells #[.bool false, .slice none 0 0, .bool false, .slice none 0 0] 78) = wd2 at *
   have st_c := NB7.cell
   have st_f := NB7.frozen
   have st_l := NB7.lt
   refine wpAnyL_on (i := 4) rfl (fun K hK => ?_)
   go_simp
   refine hK.out _ _ (kp4 (A := A7) (.bool b4) (.slice ao4 n4 c4) (.bool b5) (.slice ao5 n5 c5) hS2 (by omega)) (fun hS3 => ?_)
   clear hK K st_c st_f st_l
   replace NB8 := ot4 (A := A7) (.bool b4) (.slice ao4 n4 c4) (.bool b5) (.slice ao5 n5 c5) NB8 (by omega)
   replace NB7 := bl4 (.bool b4) (.slice ao4 n4 c4) (.bool b5) (.slice ao5 n5 c5) NB7
   generalize ((((wd2.setCell ⟨A7, 0, none⟩ (.bool b4)).setCell ⟨A7, 1, none⟩ (.slice ao4 n4 c4)).setCell ⟨A7, 2, none⟩ (.bool b5)).setCell ⟨A7, 3, none⟩ (.slice ao5 n5 c5)) = wd3 at *
   have st_c := NB8.cell
   have st_f := NB8.frozen
   have st_l := NB8.lt
   refine wpAnyL_last (i := 5) rfl (by kernel_rfl) (by kernel_rfl) (by kernel_rfl) (fun K hK => ?_)
   go_simp
   refine hK.out _ _ ?_
   clear hK K
   go_wp2_with fail
   go_meet
   case rel => exact ⟨A7, A8, rfl, rfl, by omega, by omega, by omega, ot4 (A := A8) (.bool b6) (.slice ao6 n6 c6) (.bool b7) (.slice ao7 n7 c7) NB7 (by omega), bl4 (.bool b6) (.slice ao6 n6 c6) (.bool b7) (.slice ao7 n7 c7) NB8, kp4 (A := A8) (.bool b6) (.slice ao6 n6 c6) (.bool b7) (.slice ao7 n7 c7) hS3 (by omega)⟩
  refine AllReadyL.cons rfl (fun K hK => ?_) ?_
  ·go_simp
   refine hK.out _ _ (Kp.alloc' hS0 (.cells #[.bool false, .slice none 0 0, .bool false, .slice none 0 0] 78)) (fun hS1 => ?_)
   clear hK K
   have NB8 := Blk.new wd #[.bool false, .slice none 0 0, .bool false, .slice none 0 0] 78
   have ge8 : x0.heap.size ≤ wd.heap.size := hS0.size
   try simp only [sq]
   generalize wd.heap.size = A8 at *
   generalize wd.alloc (.cells #[.bool false, .slice none 0 0, .bool false, .slice none 0 0] 78) = wd1 at *
   refine wpAnyL_on (i := 2) rfl (fun K hK => ?_)
   go_simp
   refine hK.out _ _ (Kp.alloc' hS1 (.cells #[.bool false, .slice none 0 0, .bool false, .slice none 0 0] 78)) (fun hS2 => ?_)
   clear hK K
   have NB7 := Blk.new wd1 #[.bool false, .slice none 0 0, .bool false, .slice none 0 0] 78
   have ge7 : x0.heap.size ≤ wd1.heap.size := hS1.size
   have lt8 : A8 < wd1.heap.size := NB8.lt
   replace NB8 := NB8.alloc (.cells #[.bool false, .slice none 0 0, .bool false, .slice none 0 0] 78)
   try simp only [sq]
   generalize wd1.heap.size = A7 at *
   generalize wd1.alloc (.cells #[.bool false, .slice none 0 0, .bool false, .slice none 0 0] 78) = wd2 at *
   have st_c := NB7.cell
   have st_f := NB7.frozen
   have st_l := NB7.lt
   refine wpAnyL_on (i := 4) rfl (fun K hK => ?_)
   go_simp
   refine hK.out _ _ (kp4 (A := A7) (.bool b4) (.slice ao4 n4 c4) (.bool b5) (.slice ao5 n5 c5) hS2 (by omega)) (fun hS3 => ?_)
   clear hK K st_c st_f st_l
   replace NB8 := ot4 (A := A7) (.bool b4) (.slice ao4 n4 c4) (.bool b5) (.slice ao5 n5 c5) NB8 (by omega)
   replace NB7 := bl4 (.bool b4) (.slice ao4 n4 c4) (.bool b5) (.slice ao5 n5 c5) NB7
   generalize ((((wd2.setCell ⟨A7, 0, none⟩ (.bool b4)).setCell ⟨A7, 1, none⟩ (.slice ao4 n4 c4)).setCell ⟨A7, 2, none⟩ (.bool b5)).setCell ⟨A7, 3, none⟩ (.slice ao5 n5 c5)) = wd3 at *
   have st_c := NB8.cell
   have st_f := NB8.frozen
   have st_l := NB8.lt
   refine wpAnyL_last (i := 5) rfl (by kernel_rfl) (by kernel_rfl) (by kernel_rfl) (fun K hK => ?_)
   go_simp
   refine hK.out _ _ ?_
   clear hK K
   go_wp2_with fail
   go_meet
   case rel => exact ⟨A7, A8, rfl, rfl, by omega, by omega, by omega, ot4 (A := A8) (.bool b6) (.slice ao6 n6 c6) (.bool b7) (.slice ao7 n7 c7) NB7 (by omega), bl4 (.bool b6) (.slice ao6 n6 c6) (.bool b7) (.slice ao7 n7 c7) NB8, kp4 (A := A8) (.bool b6) (.slice ao6 n6 c6) (.bool b7) (.slice ao7 n7 c7) hS3 (by omega)⟩
  exact AllReadyL.nil
 case rest =>
  obtain ⟨A7, A8, rfl, rfl, hA78, hgA7, hgA8, BL, BG, hkc⟩ := hcut
  have lxr := Br.lt
  replace Bx := Bx.keep hkc
  replace Ba := Ba.keep hkc
  replace Bb := Bb.keep hkc
  replace Br := Br.keep hkc
  replace hx := hx.keep hkc
  replace hlp := hlp.keep hkc
  replace hlq := hlq.keep hkc
  replace hop := hop.keep hkc
  replace hoq := hoq.keep hkc
  replace hkw := hkw.trans' hkc
  have hw7 : w.heap.size + 4 ≤ x0.heap.size := by omega
  clear hkc
  have ac := Ba.cell
  have al := Ba.lt
  have bc := Bb.cell
  have bl := Bb.lt
  go_wp2_with fail
  refine (multiply_any lp oq _ _ _ hlp hoq (f1.fit (by omega)) (f4.fit (by omega))).mono ?_
  rintro e w21 ⟨v8, rfl, hfi, hk21⟩
  obtain ⟨b8, ao8, n8, c8, rfl⟩ := hfi.shape'
  clear ac bc al bl
  have ka21 : Kp w21 (w21.alloc (.cells #[.bool b8, .slice ao8 n8 c8] 56)) := kp_alloc w21 _
  have kk21 := hk21.trans' ka21
  have ltx21 := (Bx.keep hk21).lt
  have lta21 := (Ba.keep hk21).lt
  have ltb21 := (Bb.keep hk21).lt
  have ltr21 := (Br.keep hk21).lt
  have ltL21 := (BL.keep hk21).lt
  have ltG21 := (BG.keep hk21).lt
  replace Bx := Bx.keep kk21
  replace Ba := Ba.keep kk21
  replace Bb := Bb.keep kk21
  replace Br := Br.keep kk21
  replace BL := BL.keep kk21
  replace BG := BG.keep kk21
  replace hx := hx.keep kk21
  replace hlp := hlp.keep kk21
  replace hlq := hlq.keep kk21
  replace hop := hop.keep kk21
  replace hoq := hoq.keep kk21
  replace hkw := hkw.trans' kk21
  replace hfi := hfi.keep ka21
  have Bf : Blk (w21.alloc (.cells #[.bool b8, .slice ao8 n8 c8] 56)) w21.heap.size #[.bool b8, .slice ao8 n8 c8] 56 := Blk.new w21 _ _
  have gef : w.heap.size ≤ w21.heap.size := by have := (hkw.size); simp only [World.size_alloc] at this; omega
  clear hk21 ka21 kk21
  have ac := Ba.cell
  have al := Ba.lt
  have bc := Bb.cell
  have bl := Bb.lt
  go_wp2_with fail
  generalize (w21.alloc (.cells #[.bool b8, .slice ao8 n8 c8] 56)) = x21 at *
  generalize w21.heap.size = Af at *
  refine (multiply_any op lq _ _ _ hop hlq (f3.fit (by omega)) (f2.fit (by omega))).mono ?_
  rintro e w22 ⟨v9, rfl, hse, hk22⟩
  obtain ⟨b9, ao9, n9, c9, rfl⟩ := hse.shape'
  clear ac bc al bl
  have ka22 : Kp w22 (w22.alloc (.cells #[.bool b9, .slice ao9 n9 c9] 56)) := kp_alloc w22 _
  have kk22 := hk22.trans' ka22
  have ltx22 := (Bx.keep hk22).lt
  have lta22 := (Ba.keep hk22).lt
  have ltb22 := (Bb.keep hk22).lt
  have ltr22 := (Br.keep hk22).lt
  have ltL22 := (BL.keep hk22).lt
  have ltG22 := (BG.keep hk22).lt
  have ltf22 := (Bf.keep hk22).lt
  replace Bx := Bx.keep kk22
  replace Ba := Ba.keep kk22
  replace Bb := Bb.keep kk22
  replace Br := Br.keep kk22
  replace BL := BL.keep kk22
  replace BG := BG.keep kk22
  replace Bf := Bf.keep kk22
  replace hx := hx.keep kk22
  replace hlp := hlp.keep kk22
  replace hlq := hlq.keep kk22
  replace hop := hop.keep kk22
  replace hoq := hoq.keep kk22
  replace hfi := hfi.keep kk22
  replace hkw := hkw.trans' kk22
  replace hse := hse.keep ka22
  have Bs : Blk (w22.alloc (.cells #[.bool b9, .slice ao9 n9 c9] 56)) w22.heap.size #[.bool b9, .slice ao9 n9 c9] 56 := Blk.new w22 _ _
  have ges : w.heap.size ≤ w22.heap.size := by have := (hkw.size); simp only [World.size_alloc] at this; omega
  clear hk22 ka22 kk22
  have fc := Bf.cell
  have fl := Bf.lt
  have sc := Bs.cell
  have sl := Bs.lt
  go_wp2_with fail
  generalize (w22.alloc (.cells #[.bool b9, .slice ao9 n9 c9] 56)) = x22 at *
  generalize w22.heap.size = As at *
  refine (wcompare_any (lp * oq) (op * lq) _ _ _ hfi hse).mono ?_
  rintro e w23 ⟨rfl, hk23⟩
  clear fc sc fl sl
  replace Bx := Bx.keep hk23
  replace Ba := Ba.keep hk23
  replace Bb := Bb.keep hk23
  replace Br := Br.keep hk23
  replace BL := BL.keep hk23
  replace BG := BG.keep hk23
  replace Bf := Bf.keep hk23
  replace Bs := Bs.keep hk23
  replace hx := hx.keep hk23
  replace hlp := hlp.keep hk23
  replace hlq := hlq.keep hk23
  replace hop := hop.keep hk23
  replace hoq := hoq.keep hk23
  replace hfi := hfi.keep hk23
  replace hse := hse.keep hk23
  replace hkw := hkw.trans' hk23
  clear hk23
  rw [hsg]
  have fc := Bf.cell
  have fl := Bf.lt
  have sc := Bs.cell
  have sl := Bs.lt
  go_wp2_with fail
  refine (add_any (lp * oq) (op * lq) _ _ _ hfi hse ((f1.mul f4).fit (by omega)) ((f3.mul f2).fit (by omega))).mono ?_
  rintro e w24 ⟨v10, rfl, hsu, hk24⟩
  obtain ⟨b10, ao10, n10, c10, rfl⟩ := hsu.shape'
  clear fc sc fl sl
  have ka24 : Kp w24 (w24.alloc (.cells #[.bool b10, .slice ao10 n10 c10] 56)) := kp_alloc w24 _
  have kk24 := hk24.trans' ka24
  have ltx24 := (Bx.keep hk24).lt
  have lta24 := (Ba.keep hk24).lt
  have ltb24 := (Bb.keep hk24).lt
  have ltr24 := (Br.keep hk24).lt
  have ltL24 := (BL.keep hk24).lt
  have ltG24 := (BG.keep hk24).lt
  have ltf24 := (Bf.keep hk24).lt
  have lts24 := (Bs.keep hk24).lt
  replace Bx := Bx.keep kk24
  replace Ba := Ba.keep kk24
  replace Bb := Bb.keep kk24
  replace Br := Br.keep kk24
  replace BL := BL.keep kk24
  replace BG := BG.keep kk24
  replace Bf := Bf.keep kk24
  replace Bs := Bs.keep kk24
  replace hx := hx.keep kk24
  replace hlp := hlp.keep kk24
  replace hlq := hlq.keep kk24
  replace hop := hop.keep kk24
  replace hoq := hoq.keep kk24
  replace hkw := hkw.trans' kk24
  replace hsu := hsu.keep ka24
  have Bu : Blk (w24.alloc (.cells #[.bool b10, .slice ao10 n10 c10] 56)) w24.heap.size #[.bool b10, .slice ao10 n10 c10] 56 := Blk.new w24 _ _
  have geu : w.heap.size ≤ w24.heap.size := by have := (hkw.size); simp only [World.size_alloc] at this; omega
  clear hk24 ka24 kk24
  have ac := Ba.cell
  have al := Ba.lt
  have bc := Bb.cell
  have bl := Bb.lt
  go_wp2_with fail
  generalize (w24.alloc (.cells #[.bool b10, .slice ao10 n10 c10] 56)) = x24 at *
  generalize w24.heap.size = Au at *
  refine (multiply_any lq oq _ _ _ hlq hoq (f2.fit (by omega)) (f4.fit (by omega))).mono ?_
  rintro e w25 ⟨v11, rfl, hbe, hk25⟩
  obtain ⟨b11, ao11, n11, c11, rfl⟩ := hbe.shape'
  clear ac bc al bl
  have ka25 : Kp w25 (w25.alloc (.cells #[.bool b11, .slice ao11 n11 c11] 56)) := kp_alloc w25 _
  have kk25 := hk25.trans' ka25
  have ltx25 := (Bx.keep hk25).lt
  have lta25 := (Ba.keep hk25).lt
  have ltb25 := (Bb.keep hk25).lt
  have ltr25 := (Br.keep hk25).lt
  have ltL25 := (BL.keep hk25).lt
  have ltG25 := (BG.keep hk25).lt
  have ltf25 := (Bf.keep hk25).lt
  have lts25 := (Bs.keep hk25).lt
  have ltu25 := (Bu.keep hk25).lt
  replace Bx := Bx.keep kk25
  replace Ba := Ba.keep kk25
  replace Bb := Bb.keep kk25
  replace Br := Br.keep kk25
  replace BL := BL.keep kk25
  replace BG := BG.keep kk25
  replace Bf := Bf.keep kk25
  replace Bs := Bs.keep kk25
  replace Bu := Bu.keep kk25
  replace hx := hx.keep kk25
  replace hlp := hlp.keep kk25
  replace hlq := hlq.keep kk25
  replace hop := hop.keep kk25
  replace hoq := hoq.keep kk25
  replace hsu := hsu.keep kk25
  replace hkw := hkw.trans' kk25
  replace hbe := hbe.keep ka25
  have Be : Blk (w25.alloc (.cells #[.bool b11, .slice ao11 n11 c11] 56)) w25.heap.size #[.bool b11, .slice ao11 n11 c11] 56 := Blk.new w25 _ _
  have gee : w.heap.size ≤ w25.heap.size := by have := (hkw.size); simp only [World.size_alloc] at this; omega
  clear hk25 ka25 kk25
  have ec := Be.cell
  have el := Be.lt
  go_wp2_with fail
  generalize (w25.alloc (.cells #[.bool b11, .slice ao11 n11 c11] 56)) = x25 at *
  generalize w25.heap.size = Ae at *
  refine (add_any (lq * oq) (lq * oq) _ _ _ hbe hbe ((f2.mul f4).fit (by omega)) ((f2.mul f4).fit (by omega))).mono ?_
  rintro e w26 ⟨v12, rfl, htw, hk26⟩
  obtain ⟨b12, ao12, n12, c12, rfl⟩ := htw.shape'
  clear ec el
  have ka26 : Kp w26 (w26.alloc (.cells #[.bool b12, .slice ao12 n12 c12] 56)) := kp_alloc w26 _
  have kk26 := hk26.trans' ka26
  have ltx26 := (Bx.keep hk26).lt
  have lta26 := (Ba.keep hk26).lt
  have ltb26 := (Bb.keep hk26).lt
  have ltr26 := (Br.keep hk26).lt
  have ltL26 := (BL.keep hk26).lt
  have ltG26 := (BG.keep hk26).lt
  have ltf26 := (Bf.keep hk26).lt
  have lts26 := (Bs.keep hk26).lt
  have ltu26 := (Bu.keep hk26).lt
  have lte26 := (Be.keep hk26).lt
  replace Bx := Bx.keep kk26
  replace Ba := Ba.keep kk26
  replace Bb := Bb.keep kk26
  replace Br := Br.keep kk26
  replace BL := BL.keep kk26
  replace BG := BG.keep kk26
  replace Bf := Bf.keep kk26
  replace Bs := Bs.keep kk26
  replace Bu := Bu.keep kk26
  replace Be := Be.keep kk26
  replace hx := hx.keep kk26
  replace hlp := hlp.keep kk26
  replace hlq := hlq.keep kk26
  replace hop := hop.keep kk26
  replace hoq := hoq.keep kk26
  replace hsu := hsu.keep kk26
  replace hkw := hkw.trans' kk26
  replace htw := htw.keep ka26
  have Bt : Blk (w26.alloc (.cells #[.bool b12, .slice ao12 n12 c12] 56)) w26.heap.size #[.bool b12, .slice ao12 n12 c12] 56 := Blk.new w26 _ _
  have get : w.heap.size ≤ w26.heap.size := by have := (hkw.size); simp only [World.size_alloc] at this; omega
  clear hk26 ka26 kk26
  have uc := Bu.cell
  have ul := Bu.lt
  have tc := Bt.cell
  have tl := Bt.lt
  go_wp2_with fail
  generalize (w26.alloc (.cells #[.bool b12, .slice ao12 n12 c12] 56)) = x26 at *
  generalize w26.heap.size = At at *
  refine (quotient_any (lp * oq + op * lq) (lq * oq + lq * oq) (m + m + 1) _ _ _ hsu htw (by omega) fsu ftw).mono ?_
  rintro e w27 ⟨v13, rfl, hmd, hk27⟩
  obtain ⟨b13, ao13, n13, c13, b14, ao14, n14, c14, b15, ao15, n15, c15, rfl, _, _, _⟩ := id hmd
  clear uc tc ul tl
  have ka27 : Kp w27 (w27.alloc (.cells #[.bool b13, .slice ao13 n13 c13, .bool b14, .slice ao14 n14 c14, .bool b15, .slice ao15 n15 c15, .int .i64 (qreduce (lp * oq + op * lq) 0 (lq * oq + lq * oq) 1).d] 58)) := kp_alloc w27 _
  have kk27 := hk27.trans' ka27
  have ltx27 := (Bx.keep hk27).lt
  have lta27 := (Ba.keep hk27).lt
  have ltb27 := (Bb.keep hk27).lt
  have ltr27 := (Br.keep hk27).lt
  have ltL27 := (BL.keep hk27).lt
  have ltG27 := (BG.keep hk27).lt
  have ltf27 := (Bf.keep hk27).lt
  have lts27 := (Bs.keep hk27).lt
  have ltu27 := (Bu.keep hk27).lt
  have lte27 := (Be.keep hk27).lt
  have ltt27 := (Bt.keep hk27).lt
  replace Bx := Bx.keep kk27
  replace Ba := Ba.keep kk27
  replace Bb := Bb.keep kk27
  replace Br := Br.keep kk27
  replace BL := BL.keep kk27
  replace BG := BG.keep kk27
  replace Bf := Bf.keep kk27
  replace Bs := Bs.keep kk27
  replace Bu := Bu.keep kk27
  replace Be := Be.keep kk27
  replace Bt := Bt.keep kk27
  replace hx := hx.keep kk27
  replace hlp := hlp.keep kk27
  replace hlq := hlq.keep kk27
  replace hop := hop.keep kk27
  replace hoq := hoq.keep kk27
  replace hkw := hkw.trans' kk27
  replace hmd := hmd.keep ka27
  have Bd : Blk (w27.alloc (.cells #[.bool b13, .slice ao13 n13 c13, .bool b14, .slice ao14 n14 c14, .bool b15, .slice ao15 n15 c15, .int .i64 (qreduce (lp * oq + op * lq) 0 (lq * oq + lq * oq) 1).d] 58)) w27.heap.size #[.bool b13, .slice ao13 n13 c13, .bool b14, .slice ao14 n14 c14, .bool b15, .slice ao15 n15 c15, .int .i64 (qreduce (lp * oq + op * lq) 0 (lq * oq + lq * oq) 1).d] 58 := Blk.new w27 _ _
  have ged : w.heap.size ≤ w27.heap.size := by have := (hkw.size); simp only [World.size_alloc] at this; omega
  clear hk27 ka27 kk27
  have xc := Bx.cell
  have xl := Bx.lt
  have dc := Bd.cell
  have dl := Bd.lt
  go_wp2_with fail
  generalize (w27.alloc (.cells #[.bool b13, .slice ao13 n13 c13, .bool b14, .slice ao14 n14 c14, .bool b15, .slice ao15 n15 c15, .int .i64 (qreduce (lp * oq + op * lq) 0 (lq * oq + lq * oq) 1).d] 58)) = x27 at *
  generalize w27.heap.size = Ad at *
  refine (xcompare_any a (md lp lq op oq) 9000000 _ _ _ hx hmd (by decide) fx fmd dx dmd).mono ?_
  rintro e w28 ⟨rfl, hk28⟩
  clear xc dc xl dl
  replace Bx := Bx.keep hk28
  replace Ba := Ba.keep hk28
  replace Bb := Bb.keep hk28
  replace Br := Br.keep hk28
  replace BL := BL.keep hk28
  replace BG := BG.keep hk28
  replace Bf := Bf.keep hk28
  replace Bs := Bs.keep hk28
  replace Bu := Bu.keep hk28
  replace Be := Be.keep hk28
  replace Bt := Bt.keep hk28
  replace Bd := Bd.keep hk28
  replace hlp := hlp.keep hk28
  replace hlq := hlq.keep hk28
  replace hop := hop.keep hk28
  replace hoq := hoq.keep hk28
  replace hkw := hkw.trans' hk28
  clear hk28
  generalize qcmp a (md lp lq op oq) = o at *
  by_cases ho : o = 0
  ·subst ho
   by_cases hs : 0 < (lq - oq).sign
   ·have HNQ : Hid (nq 0 (lp, lq) (op, oq) = (op, oq)) := by unfold Hid nq; rw [if_pos rfl, if_pos hs]
    have Lc := BL.cell
    have Ll := BL.lt
    have Gc := BG.cell
    have Gl := BG.lt
    go_wp2_with fail
    refine (wcompare_any lq oq _ _ _ hlq hoq).mono ?_
    rintro e w40 ⟨rfl, hk40⟩
    clear Lc Ll Gc Gl
    replace Br := Br.keep hk40
    replace BL := BL.keep hk40
    replace BG := BG.keep hk40
    replace hlp := hlp.keep hk40
    replace hlq := hlq.keep hk40
    replace hop := hop.keep hk40
    replace hoq := hoq.keep hk40
    replace hkw := hkw.trans' hk40
    clear hk40
    generalize (lq - oq).sign = S at *
    have rc := Br.cell
    have rl := Br.lt
    have rf := Br.frozen
    have kc := BG.cell
    have kl := BG.lt
    go_wp2_with fail
    refine bodyPost_ret (v := .agg #[.bool b6, .slice ao6 n6 c6, .bool b7, .slice ao7 n7 c7]) (by simp [results, Tryd.results62, go_sem, rc]) rfl ?_
    rw [HNQ.out]
    exact ⟨_, rfl, FR.soft (sf4 (E := 2) (.bool b6) (.slice ao6 n6 c6) (.bool b7) (.slice ao7 n7 c7) Br (by decide)) ⟨_, _, _, _, _, _, _, _, rfl, hop, hoq⟩, kp4 (A := w.heap.size + 1 + 1 + 1) (.bool b6) (.slice ao6 n6 c6) (.bool b7) (.slice ao7 n7 c7) hkw (by omega)⟩
   ·have HNQ : Hid (nq 0 (lp, lq) (op, oq) = (lp, lq)) := by unfold Hid nq; rw [if_pos rfl, if_neg hs]
    have Lc := BL.cell
    have Ll := BL.lt
    have Gc := BG.cell
    have Gl := BG.lt
    go_wp2_with fail
    refine (wcompare_any lq oq _ _ _ hlq hoq).mono ?_
    rintro e w40 ⟨rfl, hk40⟩
    clear Lc Ll Gc Gl
    replace Br := Br.keep hk40
    replace BL := BL.keep hk40
    replace BG := BG.keep hk40
    replace hlp := hlp.keep hk40
    replace hlq := hlq.keep hk40
    replace hop := hop.keep hk40
    replace hoq := hoq.keep hk40
    replace hkw := hkw.trans' hk40
    clear hk40
    generalize (lq - oq).sign = S at *
    have rc := Br.cell
    have rl := Br.lt
    have rf := Br.frozen
    have kc := BL.cell
    have kl := BL.lt
    go_wp2_with fail
    refine bodyPost_ret (v := .agg #[.bool b4, .slice ao4 n4 c4, .bool b5, .slice ao5 n5 c5]) (by simp [results, Tryd.results62, go_sem, rc]) rfl ?_
    rw [HNQ.out]
    exact ⟨_, rfl, FR.soft (sf4 (E := 2) (.bool b4) (.slice ao4 n4 c4) (.bool b5) (.slice ao5 n5 c5) Br (by decide)) ⟨_, _, _, _, _, _, _, _, rfl, hlp, hlq⟩, kp4 (A := w.heap.size + 1 + 1 + 1) (.bool b4) (.slice ao4 n4 c4) (.bool b5) (.slice ao5 n5 c5) hkw (by omega)⟩
  ·have hob : (o == 0) = false := by simp [ho]
   by_cases hs : 0 < o
   ·have HNQ : Hid (nq o (lp, lq) (op, oq) = (op, oq)) := by unfold Hid nq; rw [if_neg ho, if_pos hs]
    clear ho
    have rc := Br.cell
    have rl := Br.lt
    have rf := Br.frozen
    have kc := BG.cell
    have kl := BG.lt
    go_wp2_with fail
    refine bodyPost_ret (v := .agg #[.bool b6, .slice ao6 n6 c6, .bool b7, .slice ao7 n7 c7]) (by simp [results, Tryd.results62, go_sem, rc]) rfl ?_
    rw [HNQ.out]
    exact ⟨_, rfl, FR.soft (sf4 (E := 2) (.bool b6) (.slice ao6 n6 c6) (.bool b7) (.slice ao7 n7 c7) Br (by decide)) ⟨_, _, _, _, _, _, _, _, rfl, hop, hoq⟩, kp4 (A := w.heap.size + 1 + 1 + 1) (.bool b6) (.slice ao6 n6 c6) (.bool b7) (.slice ao7 n7 c7) hkw (by omega)⟩
   ·have HNQ : Hid (nq o (lp, lq) (op, oq) = (lp, lq)) := by unfold Hid nq; rw [if_neg ho, if_neg hs]
    clear ho
    have rc := Br.cell
    have rl := Br.lt
    have rf := Br.frozen
    have kc := BL.cell
    have kl := BL.lt
    go_wp2_with fail
    refine bodyPost_ret (v := .agg #[.bool b4, .slice ao4 n4 c4, .bool b5, .slice ao5 n5 c5]) (by simp [results, Tryd.results62, go_sem, rc]) rfl ?_
    rw [HNQ.out]
    exact ⟨_, rfl, FR.soft (sf4 (E := 2) (.bool b4) (.slice ao4 n4 c4) (.bool b5) (.slice ao5 n5 c5) Br (by decide)) ⟨_, _, _, _, _, _, _, _, rfl, hlp, hlq⟩, kp4 (A := w.heap.size + 1 + 1 + 1) (.bool b4) (.slice ao4 n4 c4) (.bool b5) (.slice ao5 n5 c5) hkw (by omega)⟩

set_option maxHeartbeats 6400000 in
set_option maxRecDepth 100000 in
theorem nearer_gt (a : Qn) (lp lq op oq : Int) (m : Nat) (u v t : Value) (w : World) (hx : XN w u a) (ha : FR w v lp lq) (hb : FR w t op oq) (hm : m ≤ 3000000) (fx : QF 9000000 a) (dx : QD a) (f1 : Ft m lp) (f2 : Ft m lq) (f3 : Ft m op) (f4 : Ft m oq) (hsg : (lp * oq - op * lq).sign = 1) :
 Calls Tryd.prog 62 #[u, v, t] w (RetFR w (nq (qcmp a (md lp lq op oq)) (op, oq) (lp, lq)).1 (nq (qcmp a (md lp lq op oq)) (op, oq) (lp, lq)).2) := by
 have fsu : Ft (m + m + 1) (lp * oq + op * lq) := Ft.add (f1.mul f4) (f3.mul f2)
 have ftw : Ft (m + m + 1) (lq * oq + lq * oq) := Ft.add (f2.mul f4) (f2.mul f4)
 have fmd : QF 9000000 (md lp lq op oq) := (QF.reduce fsu (Ft.zero _) ftw).mono (by omega)
 have dmd : QD (md lp lq op oq) := QD.red ⟨by decide, by decide⟩
 obtain ⟨b1, ao1, n1, c1, b2, ao2, n2, c2, b3, ao3, n3, c3, rfl, _, _, _⟩ := id hx
 obtain ⟨b4, ao4, n4, c4, b5, ao5, n5, c5, rfl, hlp, hlq⟩ := ha
 obtain ⟨b6, ao6, n6, c6, b7, ao7, n7, c7, rfl, hop, hoq⟩ := hb
 have hkw : Kp w ((((w.alloc (.cells #[.bool b1, .slice ao1 n1 c1, .bool b2, .slice ao2 n2 c2, .bool b3, .slice ao3 n3 c3, .int .i64 a.d] 58)).alloc (.cells #[.bool b4, .slice ao4 n4 c4, .bool b5, .slice ao5 n5 c5] 78)).alloc (.cells #[.bool b6, .slice ao6 n6 c6, .bool b7, .slice ao7 n7 c7] 78)).alloc (.cells #[.bool false, .slice none 0 0, .bool false, .slice none 0 0] 78)) := (Kp.alloc' (Kp.alloc' (Kp.alloc' (kp_alloc w _) _) _) _)
 have Bx : Blk ((((w.alloc (.cells #[.bool b1, .slice ao1 n1 c1, .bool b2, .slice ao2 n2 c2, .bool b3, .slice ao3 n3 c3, .int .i64 a.d] 58)).alloc (.cells #[.bool b4, .slice ao4 n4 c4, .bool b5, .slice ao5 n5 c5] 78)).alloc (.cells #[.bool b6, .slice ao6 n6 c6, .bool b7, .slice ao7 n7 c7] 78)).alloc (.cells #[.bool false, .slice none 0 0, .bool false, .slice none 0 0] 78)) (w.heap.size) #[.bool b1, .slice ao1 n1 c1, .bool b2, .slice ao2 n2 c2, .bool b3, .slice ao3 n3 c3, .int .i64 a.d] 58 := (Blk.alloc (Blk.alloc (Blk.alloc (Blk.new w _ _) _) _) _)
 have Ba : Blk ((((w.alloc (.cells #[.bool b1, .slice ao1 n1 c1, .bool b2, .slice ao2 n2 c2, .bool b3, .slice ao3 n3 c3, .int .i64 a.d] 58)).alloc (.cells #[.bool b4, .slice ao4 n4 c4, .bool b5, .slice ao5 n5 c5] 78)).alloc (.cells #[.bool b6, .slice ao6 n6 c6, .bool b7, .slice ao7 n7 c7] 78)).alloc (.cells #[.bool false, .slice none 0 0, .bool false, .slice none 0 0] 78)) (w.heap.size + 1) #[.bool b4, .slice ao4 n4 c4, .bool b5, .slice ao5 n5 c5] 78 := (Blk.alloc (Blk.alloc (Blk.at (Blk.new (w.alloc (.cells #[.bool b1, .slice ao1 n1 c1, .bool b2, .slice ao2 n2 c2, .bool b3, .slice ao3 n3 c3, .int .i64 a.d] 58)) _ _) (by simp)) _) _)
 have Bb : Blk ((((w.alloc (.cells #[.bool b1, .slice ao1 n1 c1, .bool b2, .slice ao2 n2 c2, .bool b3, .slice ao3 n3 c3, .int .i64 a.d] 58)).alloc (.cells #[.bool b4, .slice ao4 n4 c4, .bool b5, .slice ao5 n5 c5] 78)).alloc (.cells #[.bool b6, .slice ao6 n6 c6, .bool b7, .slice ao7 n7 c7] 78)).alloc (.cells #[.bool false, .slice none 0 0, .bool false, .slice none 0 0] 78)) (w.heap.size + 1 + 1) #[.bool b6, .slice ao6 n6 c6, .bool b7, .slice ao7 n7 c7] 78 := (Blk.alloc (Blk.at (Blk.new ((w.alloc (.cells #[.bool b1, .slice ao1 n1 c1, .bool b2, .slice ao2 n2 c2, .bool b3, .slice ao3 n3 c3, .int .i64 a.d] 58)).alloc (.cells #[.bool b4, .slice ao4 n4 c4, .bool b5, .slice ao5 n5 c5] 78)) _ _) (by simp)) _)
 have Br : Blk ((((w.alloc (.cells #[.bool b1, .slice ao1 n1 c1, .bool b2, .slice ao2 n2 c2, .bool b3, .slice ao3 n3 c3, .int .i64 a.d] 58)).alloc (.cells #[.bool b4, .slice ao4 n4 c4, .bool b5, .slice ao5 n5 c5] 78)).alloc (.cells #[.bool b6, .slice ao6 n6 c6, .bool b7, .slice ao7 n7 c7] 78)).alloc (.cells #[.bool false, .slice none 0 0, .bool false, .slice none 0 0] 78)) (w.heap.size + 1 + 1 + 1) #[.bool false, .slice none 0 0, .bool false, .slice none 0 0] 78 := (Blk.at (Blk.new (((w.alloc (.cells #[.bool b1, .slice ao1 n1 c1, .bool b2, .slice ao2 n2 c2, .bool b3, .slice ao3 n3 c3, .int .i64 a.d] 58)).alloc (.cells #[.bool b4, .slice ao4 n4 c4, .bool b5, .slice ao5 n5 c5] 78)).alloc (.cells #[.bool b6, .slice ao6 n6 c6, .bool b7, .slice ao7 n7 c7] 78)) _ _) (by simp))
 replace hx := hx.keep hkw
 replace hlp := hlp.keep hkw
 replace hlq := hlq.keep hkw
 replace hop := hop.keep hkw
 replace hoq := hoq.keep hkw
 go_enter Tryd.func62, Tryd.ntmps62
 go_wp2_with fail
 generalize ((((w.alloc (.cells #[.bool b1, .slice ao1 n1 c1, .bool b2, .slice ao2 n2 c2, .bool b3, .slice ao3 n3 c3, .int .i64 a.d] 58)).alloc (.cells #[.bool b4, .slice ao4 n4 c4, .bool b5, .slice ao5 n5 c5] 78)).alloc (.cells #[.bool b6, .slice ao6 n6 c6, .bool b7, .slice ao7 n7 c7] 78)).alloc (.cells #[.bool false, .slice none 0 0, .bool false, .slice none 0 0] 78)) = x0 at *
 go_cut [7, 8] (fun p7 p8 wx => ∃ A7 A8 : Nat, p7 = .pointer (some ⟨A7, 0, none⟩) ∧ p8 = .pointer (some ⟨A8, 0, none⟩) ∧ A7 ≠ A8 ∧ x0.heap.size ≤ A7 ∧ x0.heap.size ≤ A8 ∧ Blk wx A7 #[.bool b4, .slice ao4 n4 c4, .bool b5, .slice ao5 n5 c5] 78 ∧ Blk wx A8 #[.bool b6, .slice ao6 n6 c6, .bool b7, .slice ao7 n7 c7] 78 ∧ Kp x0 wx)
 case first =>
  refine wp_region_l (S := fun w' => Kp x0 w') (by kernel_rfl) (Kp.drew' (Below.refl _ _)) (fun hS0 => ?_)
  generalize x0.drew = wd at *
  refine wpAnyL_tk (i := 0) (k := 4) (v := .agg #[.bool b4, .slice ao4 n4 c4, .bool b5, .slice ao5 n5 c5]) rfl ?_ hS0 ?_
  ·intro w' hw'; have hc := (Ba.keep hw').cell; go_simp
  simp only [sq]
  refine wpAnyL_tk (i := 1) (k := 5) (v := .agg #[.bool b6, .slice ao6 n6 c6, .bool b7, .slice ao7 n7 c7]) rfl ?_ hS0 ?_
  ·intro w' hw'; have hc := (Bb.keep hw').cell; go_simp
  simp only [sq]
  refine wpAnyL_ready (rs := [2, 3]) (by kernel_rfl) (by simp) ?_
  refine AllReadyL.cons rfl (fun K hK => ?_) ?_
  ·go_simp
   refine hK.out _ _ (Kp.alloc' hS0 (.cells #[.bool false, .slice none 0 0, .bool false, .slice none 0 0] 78)) (fun hS1 => ?_)
   clear hK K
   have NB7 := Blk.new wd #[.bool false, .slice none 0 0, .bool false, .slice none 0 0] 78
   have ge7 : x0.heap.size ≤ wd.heap.size := hS0.size
   try simp only [sq]
   generalize wd.heap.size = A7 at *
   generalize wd.alloc (.cells #[.bool false, .slice none 0 0, .bool false, .slice none 0 0] 78) = wd1 at *
   refine wpAnyL_on (i := 3) rfl (fun K hK => ?_)
   go_simp
   refine hK.out _ _ (Kp.alloc' hS1 (.cells #[.bool false, .slice none 0 0, .bool false, .slice none 0 0] 78)) (fun hS2 => ?_)
   clear hK K
   have NB8 := Blk.new wd1 #[.bool false, .slice none 0 0, .bool false, .slice none 0 0] 78
   have ge8 : x0.heap.size ≤ wd1.heap.size := hS1.size
   have lt7 : A7 < wd1.heap.size := NB7.lt
   replace NB7 := NB7.alloc (.cells #[.bool false, .slice none 0 0, .bool false, .slice none 0 0] 78)
   try simp only [sq]
   generalize wd1.heap.size = A8 at *
   generalize wd1.alloc (.cells #[.bool false, .slice none 0 0, .bool false, .slice none 0 0] 78) = wd2 at *
   have st_c := NB7.cell
   have st_f := NB7.frozen
   have st_l := NB7.lt
   refine wpAnyL_on (i := 4) rfl (fun K hK => ?_)
   go_simp
   refine hK.out _ _ (kp4 (A := A7) (.bool b4) (.slice ao4 n4 c4) (.bool b5) (.slice ao5 n5 c5) hS2 (by omega)) (fun hS3 => ?_)
   clear hK K st_c st_f st_l
   replace NB8 := ot4 (A := A7) (.bool b4) (.slice ao4 n4 c4) (.bool b5) (.slice ao5 n5 c5) NB8 (by omega)
   replace NB7 := bl4 (.bool b4) (.slice ao4 n4 c4) (.bool b5) (.slice ao5 n5 c5) NB7
   generalize ((((wd2.setCell ⟨A7, 0, none⟩ (.bool b4)).setCell ⟨A7, 1, none⟩ (.slice ao4 n4 c4)).setCell ⟨A7, 2, none⟩ (.bool b5)).setCell ⟨A7, 3, none⟩ (.slice ao5 n5 c5)) = wd3 at *
   have st_c := NB8.cell
   have st_f := NB8.frozen
   have st_l := NB8.lt
   refine wpAnyL_last (i := 5) rfl (by kernel_rfl) (by kernel_rfl) (by kernel_rfl) (fun K hK => ?_)
   go_simp
   refine hK.out _ _ ?_
   clear hK K
   go_wp2_with fail
   go_meet
   case rel => exact ⟨A7, A8, rfl, rfl, by omega, by omega, by omega, ot4 (A := A8) (.bool b6) (.slice ao6 n6 c6) (.bool b7) (.slice ao7 n7 c7) NB7 (by omega), bl4 (.bool b6) (.slice ao6 n6 c6) (.bool b7) (.slice ao7 n7 c7) NB8, kp4 (A := A8) (.bool b6) (.slice ao6 n6 c6) (.bool b7) (.slice ao7 n7 c7) hS3 (by omega)⟩
  refine AllReadyL.cons rfl (fun K hK => ?_) ?_
  ·go_simp
   refine hK.out _ _ (Kp.alloc' hS0 (.cells #[.bool false, .slice none 0 0, .bool false, .slice none 0 0] 78)) (fun hS1 => ?_)
   clear hK K
   have NB8 := Blk.new wd #[.bool false, .slice none 0 0, .bool false, .slice none 0 0] 78
   have ge8 : x0.heap.size ≤ wd.heap.size := hS0.size
   try simp only [sq]
   generalize wd.heap.size = A8 at *
   generalize wd.alloc (.cells #[.bool false, .slice none 0 0, .bool false, .slice none 0 0] 78) = wd1 at *
   refine wpAnyL_on (i := 2) rfl (fun K hK => ?_)
   go_simp
   refine hK.out _ _ (Kp.alloc' hS1 (.cells #[.bool false, .slice none 0 0, .bool false, .slice none 0 0] 78)) (fun hS2 => ?_)
   clear hK K
   have NB7 := Blk.new wd1 #[.bool false, .slice none 0 0, .bool false, .slice none 0 0] 78
   have ge7 : x0.heap.size ≤ wd1.heap.size := hS1.size
   have lt8 : A8 < wd1.heap.size := NB8.lt
   replace NB8 := NB8.alloc (.cells #[.bool false, .slice none 0 0, .bool false, .slice none 0 0] 78)
   try simp only [sq]
   generalize wd1.heap.size = A7 at *
   generalize wd1.alloc (.cells #[.bool false, .slice none 0 0, .bool false, .slice none 0 0] 78) = wd2 at *
   have st_c := NB7.cell
   have st_f := NB7.frozen
   have st_l := NB7.lt
   refine wpAnyL_on (i := 4) rfl (fun K hK => ?_)
   go_simp
   refine hK.out _ _ (kp4 (A := A7) (.bool b4) (.slice ao4 n4 c4) (.bool b5) (.slice ao5 n5 c5) hS2 (by omega)) (fun hS3 => ?_)
   clear hK K st_c st_f st_l
   replace NB8 := ot4 (A := A7) (.bool b4) (.slice ao4 n4 c4) (.bool b5) (.slice ao5 n5 c5) NB8 (by omega)
   replace NB7 := bl4 (.bool b4) (.slice ao4 n4 c4) (.bool b5) (.slice ao5 n5 c5) NB7
   generalize ((((wd2.setCell ⟨A7, 0, none⟩ (.bool b4)).setCell ⟨A7, 1, none⟩ (.slice ao4 n4 c4)).setCell ⟨A7, 2, none⟩ (.bool b5)).setCell ⟨A7, 3, none⟩ (.slice ao5 n5 c5)) = wd3 at *
   have st_c := NB8.cell
   have st_f := NB8.frozen
   have st_l := NB8.lt
   refine wpAnyL_last (i := 5) rfl (by kernel_rfl) (by kernel_rfl) (by kernel_rfl) (fun K hK => ?_)
   go_simp
   refine hK.out _ _ ?_
   clear hK K
   go_wp2_with fail
   go_meet
   case rel => exact ⟨A7, A8, rfl, rfl, by omega, by omega, by omega, ot4 (A := A8) (.bool b6) (.slice ao6 n6 c6) (.bool b7) (.slice ao7 n7 c7) NB7 (by omega), bl4 (.bool b6) (.slice ao6 n6 c6) (.bool b7) (.slice ao7 n7 c7) NB8, kp4 (A := A8) (.bool b6) (.slice ao6 n6 c6) (.bool b7) (.slice ao7 n7 c7) hS3 (by omega)⟩
  exact AllReadyL.nil
 case rest =>
  obtain ⟨A7, A8, rfl, rfl, hA78, hgA7, hgA8, BL, BG, hkc⟩ := hcut
  have lxr := Br.lt
  replace Bx := Bx.keep hkc
  replace Ba := Ba.keep hkc
  replace Bb := Bb.keep hkc
  replace Br := Br.keep hkc
  replace hx := hx.keep hkc
  replace hlp := hlp.keep hkc
  replace hlq := hlq.keep hkc
  replace hop := hop.keep hkc
  replace hoq := hoq.keep hkc
  replace hkw := hkw.trans' hkc
  have hw7 : w.heap.size + 4 ≤ x0.heap.size := by omega
  clear hkc
  have ac := Ba.cell
  have al := Ba.lt
  have bc := Bb.cell
  have bl := Bb.lt
  go_wp2_with fail
  refine (multiply_any lp oq _ _ _ hlp hoq (f1.fit (by omega)) (f4.fit (by omega))).mono ?_
  rintro e w21 ⟨v8, rfl, hfi, hk21⟩
  obtain ⟨b8, ao8, n8, c8, rfl⟩ := hfi.shape'
  clear ac bc al bl
  have ka21 : Kp w21 (w21.alloc (.cells #[.bool b8, .slice ao8 n8 c8] 56)) := kp_alloc w21 _
  have kk21 := hk21.trans' ka21
  have ltx21 := (Bx.keep hk21).lt
  have lta21 := (Ba.keep hk21).lt
  have ltb21 := (Bb.keep hk21).lt
  have ltr21 := (Br.keep hk21).lt
  have ltL21 := (BL.keep hk21).lt
  have ltG21 := (BG.keep hk21).lt
  replace Bx := Bx.keep kk21
  replace Ba := Ba.keep kk21
  replace Bb := Bb.keep kk21
  replace Br := Br.keep kk21
  replace BL := BL.keep kk21
  replace BG := BG.keep kk21
  replace hx := hx.keep kk21
  replace hlp := hlp.keep kk21
  replace hlq := hlq.keep kk21
  replace hop := hop.keep kk21
  replace hoq := hoq.keep kk21
  replace hkw := hkw.trans' kk21
  replace hfi := hfi.keep ka21
  have Bf : Blk (w21.alloc (.cells #[.bool b8, .slice ao8 n8 c8] 56)) w21.heap.size #[.bool b8, .slice ao8 n8 c8] 56 := Blk.new w21 _ _
  have gef : w.heap.size ≤ w21.heap.size := by have := (hkw.size); simp only [World.size_alloc] at this; omega
  clear hk21 ka21 kk21
  have ac := Ba.cell
  have al := Ba.lt
  have bc := Bb.cell
  have bl := Bb.lt
  go_wp2_with fail
  generalize (w21.alloc (.cells #[.bool b8, .slice ao8 n8 c8] 56)) = x21 at *
  generalize w21.heap.size = Af at *
  refine (multiply_any op lq _ _ _ hop hlq (f3.fit (by omega)) (f2.fit (by omega))).mono ?_
  rintro e w22 ⟨v9, rfl, hse, hk22⟩
  obtain ⟨b9, ao9, n9, c9, rfl⟩ := hse.shape'
  clear ac bc al bl
  have ka22 : Kp w22 (w22.alloc (.cells #[.bool b9, .slice ao9 n9 c9] 56)) := kp_alloc w22 _
  have kk22 := hk22.trans' ka22
  have ltx22 := (Bx.keep hk22).lt
  have lta22 := (Ba.keep hk22).lt
  have ltb22 := (Bb.keep hk22).lt
  have ltr22 := (Br.keep hk22).lt
  have ltL22 := (BL.keep hk22).lt
  have ltG22 := (BG.keep hk22).lt
  have ltf22 := (Bf.keep hk22).lt
  replace Bx := Bx.keep kk22
  replace Ba := Ba.keep kk22
  replace Bb := Bb.keep kk22
  replace Br := Br.keep kk22
  replace BL := BL.keep kk22
  replace BG := BG.keep kk22
  replace Bf := Bf.keep kk22
  replace hx := hx.keep kk22
  replace hlp := hlp.keep kk22
  replace hlq := hlq.keep kk22
  replace hop := hop.keep kk22
  replace hoq := hoq.keep kk22
  replace hfi := hfi.keep kk22
  replace hkw := hkw.trans' kk22
  replace hse := hse.keep ka22
  have Bs : Blk (w22.alloc (.cells #[.bool b9, .slice ao9 n9 c9] 56)) w22.heap.size #[.bool b9, .slice ao9 n9 c9] 56 := Blk.new w22 _ _
  have ges : w.heap.size ≤ w22.heap.size := by have := (hkw.size); simp only [World.size_alloc] at this; omega
  clear hk22 ka22 kk22
  have fc := Bf.cell
  have fl := Bf.lt
  have sc := Bs.cell
  have sl := Bs.lt
  go_wp2_with fail
  generalize (w22.alloc (.cells #[.bool b9, .slice ao9 n9 c9] 56)) = x22 at *
  generalize w22.heap.size = As at *
  refine (wcompare_any (lp * oq) (op * lq) _ _ _ hfi hse).mono ?_
  rintro e w23 ⟨rfl, hk23⟩
  clear fc sc fl sl
  replace Bx := Bx.keep hk23
  replace Ba := Ba.keep hk23
  replace Bb := Bb.keep hk23
  replace Br := Br.keep hk23
  replace BL := BL.keep hk23
  replace BG := BG.keep hk23
  replace Bf := Bf.keep hk23
  replace Bs := Bs.keep hk23
  replace hx := hx.keep hk23
  replace hlp := hlp.keep hk23
  replace hlq := hlq.keep hk23
  replace hop := hop.keep hk23
  replace hoq := hoq.keep hk23
  replace hfi := hfi.keep hk23
  replace hse := hse.keep hk23
  replace hkw := hkw.trans' hk23
  clear hk23
  rw [hsg]
  go_wp2_with fail
  have kd : Kp w23 w23.drew := Kp.drew' (Below.refl _ _)
  replace Bx := Bx.keep kd
  replace Ba := Ba.keep kd
  replace Bb := Bb.keep kd
  replace Br := Br.keep kd
  replace BL := BL.keep kd
  replace BG := BG.keep kd
  replace Bf := Bf.keep kd
  replace Bs := Bs.keep kd
  replace hx := hx.keep kd
  replace hlp := hlp.keep kd
  replace hlq := hlq.keep kd
  replace hop := hop.keep kd
  replace hoq := hoq.keep kd
  replace hfi := hfi.keep kd
  replace hse := hse.keep kd
  replace hkw := hkw.trans' kd
  clear kd
  refine wp_region_l (S := fun w' => Blk w' (w.heap.size + 1) #[.bool b4, .slice ao4 n4 c4, .bool b5, .slice ao5 n5 c5] 78 ∧ Blk w' (w.heap.size + 1 + 1) #[.bool b6, .slice ao6 n6 c6, .bool b7, .slice ao7 n7 c7] 78 ∧ Kp w w') (by kernel_rfl) ⟨Ba, Bb, hkw⟩ (fun hS0 => ?_)
  generalize w23.drew = wd at *
  refine wpAnyL_tk (i := 0) (k := 2) (v := .agg #[.bool b6, .slice ao6 n6 c6, .bool b7, .slice ao7 n7 c7]) rfl ?_ hS0 ?_
  ·intro w' hw'; have hc := hw'.2.1.cell; go_simp
  simp only [sq]
  refine wpAnyL_tk (i := 1) (k := 3) (v := .agg #[.bool b4, .slice ao4 n4 c4, .bool b5, .slice ao5 n5 c5]) rfl ?_ hS0 ?_
  ·intro w' hw'; have hc := hw'.1.cell; go_simp
  simp only [sq]
  have st_c := BL.cell
  have st_f := BL.frozen
  have st_l := BL.lt
  refine wpAnyL_on (i := 2) rfl (fun K hK => ?_)
  go_simp
  refine hK.out _ _ ⟨ot4 (A := A7) (.bool b6) (.slice ao6 n6 c6) (.bool b7) (.slice ao7 n7 c7) Ba (by omega), ot4 (A := A7) (.bool b6) (.slice ao6 n6 c6) (.bool b7) (.slice ao7 n7 c7) Bb (by omega), kp4 (A := A7) (.bool b6) (.slice ao6 n6 c6) (.bool b7) (.slice ao7 n7 c7) hkw (by omega)⟩ (fun hS1 => ?_)
  clear hK K st_c st_f st_l
  have sfx := sf4 (E := 2) (.bool b6) (.slice ao6 n6 c6) (.bool b7) (.slice ao7 n7 c7) BL (by decide)
  replace hkw := kp4 (A := A7) (.bool b6) (.slice ao6 n6 c6) (.bool b7) (.slice ao7 n7 c7) hkw (by omega)
  replace Bx := ot4 (A := A7) (.bool b6) (.slice ao6 n6 c6) (.bool b7) (.slice ao7 n7 c7) Bx (by omega)
  replace Ba := ot4 (A := A7) (.bool b6) (.slice ao6 n6 c6) (.bool b7) (.slice ao7 n7 c7) Ba (by omega)
  replace Bb := ot4 (A := A7) (.bool b6) (.slice ao6 n6 c6) (.bool b7) (.slice ao7 n7 c7) Bb (by omega)
  replace Br := ot4 (A := A7) (.bool b6) (.slice ao6 n6 c6) (.bool b7) (.slice ao7 n7 c7) Br (by omega)
  replace BG := ot4 (A := A7) (.bool b6) (.slice ao6 n6 c6) (.bool b7) (.slice ao7 n7 c7) BG (by omega)
  replace Bf := ot4 (A := A7) (.bool b6) (.slice ao6 n6 c6) (.bool b7) (.slice ao7 n7 c7) Bf (by omega)
  replace Bs := ot4 (A := A7) (.bool b6) (.slice ao6 n6 c6) (.bool b7) (.slice ao7 n7 c7) Bs (by omega)
  replace BL := bl4 (.bool b6) (.slice ao6 n6 c6) (.bool b7) (.slice ao7 n7 c7) BL
  replace hx := hx.soft sfx
  replace hlp := hlp.soft sfx
  replace hlq := hlq.soft sfx
  replace hop := hop.soft sfx
  replace hoq := hoq.soft sfx
  replace hfi := hfi.soft sfx
  replace hse := hse.soft sfx
  clear sfx
  generalize ((((wd.setCell ⟨A7, 0, none⟩ (.bool b6)).setCell ⟨A7, 1, none⟩ (.slice ao6 n6 c6)).setCell ⟨A7, 2, none⟩ (.bool b7)).setCell ⟨A7, 3, none⟩ (.slice ao7 n7 c7)) = wd1 at *
  have st_c := BG.cell
  have st_f := BG.frozen
  have st_l := BG.lt
  refine wpAnyL_last (i := 3) rfl (by kernel_rfl) (by kernel_rfl) (by kernel_rfl) (fun K hK => ?_)
  go_simp
  refine hK.out _ _ ?_
  clear hK K st_c st_f st_l
  have sfx := sf4 (E := 2) (.bool b4) (.slice ao4 n4 c4) (.bool b5) (.slice ao5 n5 c5) BG (by decide)
  replace hkw := kp4 (A := A8) (.bool b4) (.slice ao4 n4 c4) (.bool b5) (.slice ao5 n5 c5) hkw (by omega)
  replace Bx := ot4 (A := A8) (.bool b4) (.slice ao4 n4 c4) (.bool b5) (.slice ao5 n5 c5) Bx (by omega)
  replace Ba := ot4 (A := A8) (.bool b4) (.slice ao4 n4 c4) (.bool b5) (.slice ao5 n5 c5) Ba (by omega)
  replace Bb := ot4 (A := A8) (.bool b4) (.slice ao4 n4 c4) (.bool b5) (.slice ao5 n5 c5) Bb (by omega)
  replace Br := ot4 (A := A8) (.bool b4) (.slice ao4 n4 c4) (.bool b5) (.slice ao5 n5 c5) Br (by omega)
  replace BL := ot4 (A := A8) (.bool b4) (.slice ao4 n4 c4) (.bool b5) (.slice ao5 n5 c5) BL (by omega)
  replace Bf := ot4 (A := A8) (.bool b4) (.slice ao4 n4 c4) (.bool b5) (.slice ao5 n5 c5) Bf (by omega)
  replace Bs := ot4 (A := A8) (.bool b4) (.slice ao4 n4 c4) (.bool b5) (.slice ao5 n5 c5) Bs (by omega)
  replace BG := bl4 (.bool b4) (.slice ao4 n4 c4) (.bool b5) (.slice ao5 n5 c5) BG
  replace hx := hx.soft sfx
  replace hlp := hlp.soft sfx
  replace hlq := hlq.soft sfx
  replace hop := hop.soft sfx
  replace hoq := hoq.soft sfx
  replace hfi := hfi.soft sfx
  replace hse := hse.soft sfx
  clear sfx
  generalize ((((wd1.setCell ⟨A8, 0, none⟩ (.bool b4)).setCell ⟨A8, 1, none⟩ (.slice ao4 n4 c4)).setCell ⟨A8, 2, none⟩ (.bool b5)).setCell ⟨A8, 3, none⟩ (.slice ao5 n5 c5)) = wd2 at *
  have fc := Bf.cell
  have fl := Bf.lt
  have sc := Bs.cell
  have sl := Bs.lt
  go_wp2_with fail
  refine (add_any (lp * oq) (op * lq) _ _ _ hfi hse ((f1.mul f4).fit (by omega)) ((f3.mul f2).fit (by omega))).mono ?_
  rintro e w24 ⟨v10, rfl, hsu, hk24⟩
  obtain ⟨b10, ao10, n10, c10, rfl⟩ := hsu.shape'
  clear fc sc fl sl
  have ka24 : Kp w24 (w24.alloc (.cells #[.bool b10, .slice ao10 n10 c10] 56)) := kp_alloc w24 _
  have kk24 := hk24.trans' ka24
  have ltx24 := (Bx.keep hk24).lt
  have lta24 := (Ba.keep hk24).lt
  have ltb24 := (Bb.keep hk24).lt
  have ltr24 := (Br.keep hk24).lt
  have ltL24 := (BL.keep hk24).lt
  have ltG24 := (BG.keep hk24).lt
  have ltf24 := (Bf.keep hk24).lt
  have lts24 := (Bs.keep hk24).lt
  replace Bx := Bx.keep kk24
  replace Ba := Ba.keep kk24
  replace Bb := Bb.keep kk24
  replace Br := Br.keep kk24
  replace BL := BL.keep kk24
  replace BG := BG.keep kk24
  replace Bf := Bf.keep kk24
  replace Bs := Bs.keep kk24
  replace hx := hx.keep kk24
  replace hlp := hlp.keep kk24
  replace hlq := hlq.keep kk24
  replace hop := hop.keep kk24
  replace hoq := hoq.keep kk24
  replace hkw := hkw.trans' kk24
  replace hsu := hsu.keep ka24
  have Bu : Blk (w24.alloc (.cells #[.bool b10, .slice ao10 n10 c10] 56)) w24.heap.size #[.bool b10, .slice ao10 n10 c10] 56 := Blk.new w24 _ _
  have geu : w.heap.size ≤ w24.heap.size := by have := (hkw.size); simp only [World.size_alloc] at this; omega
  clear hk24 ka24 kk24
  have ac := Ba.cell
  have al := Ba.lt
  have bc := Bb.cell
  have bl := Bb.lt
  go_wp2_with fail
  generalize (w24.alloc (.cells #[.bool b10, .slice ao10 n10 c10] 56)) = x24 at *
  generalize w24.heap.size = Au at *
  refine (multiply_any lq oq _ _ _ hlq hoq (f2.fit (by omega)) (f4.fit (by omega))).mono ?_
  rintro e w25 ⟨v11, rfl, hbe, hk25⟩
  obtain ⟨b11, ao11, n11, c11, rfl⟩ := hbe.shape'
  clear ac bc al bl
  have ka25 : Kp w25 (w25.alloc (.cells #[.bool b11, .slice ao11 n11 c11] 56)) := kp_alloc w25 _
  have kk25 := hk25.trans' ka25
  have ltx25 := (Bx.keep hk25).lt
  have lta25 := (Ba.keep hk25).lt
  have ltb25 := (Bb.keep hk25).lt
  have ltr25 := (Br.keep hk25).lt
  have ltL25 := (BL.keep hk25).lt
  have ltG25 := (BG.keep hk25).lt
  have ltf25 := (Bf.keep hk25).lt
  have lts25 := (Bs.keep hk25).lt
  have ltu25 := (Bu.keep hk25).lt
  replace Bx := Bx.keep kk25
  replace Ba := Ba.keep kk25
  replace Bb := Bb.keep kk25
  replace Br := Br.keep kk25
  replace BL := BL.keep kk25
  replace BG := BG.keep kk25
  replace Bf := Bf.keep kk25
  replace Bs := Bs.keep kk25
  replace Bu := Bu.keep kk25
  replace hx := hx.keep kk25
  replace hlp := hlp.keep kk25
  replace hlq := hlq.keep kk25
  replace hop := hop.keep kk25
  replace hoq := hoq.keep kk25
  replace hsu := hsu.keep kk25
  replace hkw := hkw.trans' kk25
  replace hbe := hbe.keep ka25
  have Be : Blk (w25.alloc (.cells #[.bool b11, .slice ao11 n11 c11] 56)) w25.heap.size #[.bool b11, .slice ao11 n11 c11] 56 := Blk.new w25 _ _
  have gee : w.heap.size ≤ w25.heap.size := by have := (hkw.size); simp only [World.size_alloc] at this; omega
  clear hk25 ka25 kk25
  have ec := Be.cell
  have el := Be.lt
  go_wp2_with fail
  generalize (w25.alloc (.cells #[.bool b11, .slice ao11 n11 c11] 56)) = x25 at *
  generalize w25.heap.size = Ae at *
  refine (add_any (lq * oq) (lq * oq) _ _ _ hbe hbe ((f2.mul f4).fit (by omega)) ((f2.mul f4).fit (by omega))).mono ?_
  rintro e w26 ⟨v12, rfl, htw, hk26⟩
  obtain ⟨b12, ao12, n12, c12, rfl⟩ := htw.shape'
  clear ec el
  have ka26 : Kp w26 (w26.alloc (.cells #[.bool b12, .slice ao12 n12 c12] 56)) := kp_alloc w26 _
  have kk26 := hk26.trans' ka26
  have ltx26 := (Bx.keep hk26).lt
  have lta26 := (Ba.keep hk26).lt
  have ltb26 := (Bb.keep hk26).lt
  have ltr26 := (Br.keep hk26).lt
  have ltL26 := (BL.keep hk26).lt
  have ltG26 := (BG.keep hk26).lt
  have ltf26 := (Bf.keep hk26).lt
  have lts26 := (Bs.keep hk26).lt
  have ltu26 := (Bu.keep hk26).lt
  have lte26 := (Be.keep hk26).lt
  replace Bx := Bx.keep kk26
  replace Ba := Ba.keep kk26
  replace Bb := Bb.keep kk26
  replace Br := Br.keep kk26
  replace BL := BL.keep kk26
  replace BG := BG.keep kk26
  replace Bf := Bf.keep kk26
  replace Bs := Bs.keep kk26
  replace Bu := Bu.keep kk26
  replace Be := Be.keep kk26
  replace hx := hx.keep kk26
  replace hlp := hlp.keep kk26
  replace hlq := hlq.keep kk26
  replace hop := hop.keep kk26
  replace hoq := hoq.keep kk26
  replace hsu := hsu.keep kk26
  replace hkw := hkw.trans' kk26
  replace htw := htw.keep ka26
  have Bt : Blk (w26.alloc (.cells #[.bool b12, .slice ao12 n12 c12] 56)) w26.heap.size #[.bool b12, .slice ao12 n12 c12] 56 := Blk.new w26 _ _
  have get : w.heap.size ≤ w26.heap.size := by have := (hkw.size); simp only [World.size_alloc] at this; omega
  clear hk26 ka26 kk26
  have uc := Bu.cell
  have ul := Bu.lt
  have tc := Bt.cell
  have tl := Bt.lt
  go_wp2_with fail
  generalize (w26.alloc (.cells #[.bool b12, .slice ao12 n12 c12] 56)) = x26 at *
  generalize w26.heap.size = At at *
  refine (quotient_any (lp * oq + op * lq) (lq * oq + lq * oq) (m + m + 1) _ _ _ hsu htw (by omega) fsu ftw).mono ?_
  rintro e w27 ⟨v13, rfl, hmd, hk27⟩
  obtain ⟨b13, ao13, n13, c13, b14, ao14, n14, c14, b15, ao15, n15, c15, rfl, _, _, _⟩ := id hmd
  clear uc tc ul tl
  have ka27 : Kp w27 (w27.alloc (.cells #[.bool b13, .slice ao13 n13 c13, .bool b14, .slice ao14 n14 c14, .bool b15, .slice ao15 n15 c15, .int .i64 (qreduce (lp * oq + op * lq) 0 (lq * oq + lq * oq) 1).d] 58)) := kp_alloc w27 _
  have kk27 := hk27.trans' ka27
  have ltx27 := (Bx.keep hk27).lt
  have lta27 := (Ba.keep hk27).lt
  have ltb27 := (Bb.keep hk27).lt
  have ltr27 := (Br.keep hk27).lt
  have ltL27 := (BL.keep hk27).lt
  have ltG27 := (BG.keep hk27).lt
  have ltf27 := (Bf.keep hk27).lt
  have lts27 := (Bs.keep hk27).lt
  have ltu27 := (Bu.keep hk27).lt
  have lte27 := (Be.keep hk27).lt
  have ltt27 := (Bt.keep hk27).lt
  replace Bx := Bx.keep kk27
  replace Ba := Ba.keep kk27
  replace Bb := Bb.keep kk27
  replace Br := Br.keep kk27
  replace BL := BL.keep kk27
  replace BG := BG.keep kk27
  replace Bf := Bf.keep kk27
  replace Bs := Bs.keep kk27
  replace Bu := Bu.keep kk27
  replace Be := Be.keep kk27
  replace Bt := Bt.keep kk27
  replace hx := hx.keep kk27
  replace hlp := hlp.keep kk27
  replace hlq := hlq.keep kk27
  replace hop := hop.keep kk27
  replace hoq := hoq.keep kk27
  replace hkw := hkw.trans' kk27
  replace hmd := hmd.keep ka27
  have Bd : Blk (w27.alloc (.cells #[.bool b13, .slice ao13 n13 c13, .bool b14, .slice ao14 n14 c14, .bool b15, .slice ao15 n15 c15, .int .i64 (qreduce (lp * oq + op * lq) 0 (lq * oq + lq * oq) 1).d] 58)) w27.heap.size #[.bool b13, .slice ao13 n13 c13, .bool b14, .slice ao14 n14 c14, .bool b15, .slice ao15 n15 c15, .int .i64 (qreduce (lp * oq + op * lq) 0 (lq * oq + lq * oq) 1).d] 58 := Blk.new w27 _ _
  have ged : w.heap.size ≤ w27.heap.size := by have := (hkw.size); simp only [World.size_alloc] at this; omega
  clear hk27 ka27 kk27
  have xc := Bx.cell
  have xl := Bx.lt
  have dc := Bd.cell
  have dl := Bd.lt
  go_wp2_with fail
  generalize (w27.alloc (.cells #[.bool b13, .slice ao13 n13 c13, .bool b14, .slice ao14 n14 c14, .bool b15, .slice ao15 n15 c15, .int .i64 (qreduce (lp * oq + op * lq) 0 (lq * oq + lq * oq) 1).d] 58)) = x27 at *
  generalize w27.heap.size = Ad at *
  refine (xcompare_any a (md lp lq op oq) 9000000 _ _ _ hx hmd (by decide) fx fmd dx dmd).mono ?_
  rintro e w28 ⟨rfl, hk28⟩
  clear xc dc xl dl
  replace Bx := Bx.keep hk28
  replace Ba := Ba.keep hk28
  replace Bb := Bb.keep hk28
  replace Br := Br.keep hk28
  replace BL := BL.keep hk28
  replace BG := BG.keep hk28
  replace Bf := Bf.keep hk28
  replace Bs := Bs.keep hk28
  replace Bu := Bu.keep hk28
  replace Be := Be.keep hk28
  replace Bt := Bt.keep hk28
  replace Bd := Bd.keep hk28
  replace hlp := hlp.keep hk28
  replace hlq := hlq.keep hk28
  replace hop := hop.keep hk28
  replace hoq := hoq.keep hk28
  replace hkw := hkw.trans' hk28
  clear hk28
  generalize qcmp a (md lp lq op oq) = o at *
  by_cases ho : o = 0
  ·subst ho
   by_cases hs : 0 < (oq - lq).sign
   ·have HNQ : Hid (nq 0 (op, oq) (lp, lq) = (lp, lq)) := by unfold Hid nq; rw [if_pos rfl, if_pos hs]
    have Lc := BL.cell
    have Ll := BL.lt
    have Gc := BG.cell
    have Gl := BG.lt
    go_wp2_with fail
    refine (wcompare_any oq lq _ _ _ hoq hlq).mono ?_
    rintro e w40 ⟨rfl, hk40⟩
    clear Lc Ll Gc Gl
    replace Br := Br.keep hk40
    replace BL := BL.keep hk40
    replace BG := BG.keep hk40
    replace hlp := hlp.keep hk40
    replace hlq := hlq.keep hk40
    replace hop := hop.keep hk40
    replace hoq := hoq.keep hk40
    replace hkw := hkw.trans' hk40
    clear hk40
    generalize (oq - lq).sign = S at *
    have rc := Br.cell
    have rl := Br.lt
    have rf := Br.frozen
    have kc := BG.cell
    have kl := BG.lt
    go_wp2_with fail
    refine bodyPost_ret (v := .agg #[.bool b4, .slice ao4 n4 c4, .bool b5, .slice ao5 n5 c5]) (by simp [results, Tryd.results62, go_sem, rc]) rfl ?_
    rw [HNQ.out]
    exact ⟨_, rfl, FR.soft (sf4 (E := 2) (.bool b4) (.slice ao4 n4 c4) (.bool b5) (.slice ao5 n5 c5) Br (by decide)) ⟨_, _, _, _, _, _, _, _, rfl, hlp, hlq⟩, kp4 (A := w.heap.size + 1 + 1 + 1) (.bool b4) (.slice ao4 n4 c4) (.bool b5) (.slice ao5 n5 c5) hkw (by omega)⟩
   ·have HNQ : Hid (nq 0 (op, oq) (lp, lq) = (op, oq)) := by unfold Hid nq; rw [if_pos rfl, if_neg hs]
    have Lc := BL.cell
    have Ll := BL.lt
    have Gc := BG.cell
    have Gl := BG.lt
    go_wp2_with fail
    refine (wcompare_any oq lq _ _ _ hoq hlq).mono ?_
    rintro e w40 ⟨rfl, hk40⟩
    clear Lc Ll Gc Gl
    replace Br := Br.keep hk40
    replace BL := BL.keep hk40
    replace BG := BG.keep hk40
    replace hlp := hlp.keep hk40
    replace hlq := hlq.keep hk40
    replace hop := hop.keep hk40
    replace hoq := hoq.keep hk40
    replace hkw := hkw.trans' hk40
    clear hk40
    generalize (oq - lq).sign = S at *
    have rc := Br.cell
    have rl := Br.lt
    have rf := Br.frozen
    have kc := BL.cell
    have kl := BL.lt
    go_wp2_with fail
    refine bodyPost_ret (v := .agg #[.bool b6, .slice ao6 n6 c6, .bool b7, .slice ao7 n7 c7]) (by simp [results, Tryd.results62, go_sem, rc]) rfl ?_
    rw [HNQ.out]
    exact ⟨_, rfl, FR.soft (sf4 (E := 2) (.bool b6) (.slice ao6 n6 c6) (.bool b7) (.slice ao7 n7 c7) Br (by decide)) ⟨_, _, _, _, _, _, _, _, rfl, hop, hoq⟩, kp4 (A := w.heap.size + 1 + 1 + 1) (.bool b6) (.slice ao6 n6 c6) (.bool b7) (.slice ao7 n7 c7) hkw (by omega)⟩
  ·have hob : (o == 0) = false := by simp [ho]
   by_cases hs : 0 < o
   ·have HNQ : Hid (nq o (op, oq) (lp, lq) = (lp, lq)) := by unfold Hid nq; rw [if_neg ho, if_pos hs]
    clear ho
    have rc := Br.cell
    have rl := Br.lt
    have rf := Br.frozen
    have kc := BG.cell
    have kl := BG.lt
    go_wp2_with fail
    refine bodyPost_ret (v := .agg #[.bool b4, .slice ao4 n4 c4, .bool b5, .slice ao5 n5 c5]) (by simp [results, Tryd.results62, go_sem, rc]) rfl ?_
    rw [HNQ.out]
    exact ⟨_, rfl, FR.soft (sf4 (E := 2) (.bool b4) (.slice ao4 n4 c4) (.bool b5) (.slice ao5 n5 c5) Br (by decide)) ⟨_, _, _, _, _, _, _, _, rfl, hlp, hlq⟩, kp4 (A := w.heap.size + 1 + 1 + 1) (.bool b4) (.slice ao4 n4 c4) (.bool b5) (.slice ao5 n5 c5) hkw (by omega)⟩
   ·have HNQ : Hid (nq o (op, oq) (lp, lq) = (op, oq)) := by unfold Hid nq; rw [if_neg ho, if_neg hs]
    clear ho
    have rc := Br.cell
    have rl := Br.lt
    have rf := Br.frozen
    have kc := BL.cell
    have kl := BL.lt
    go_wp2_with fail
    refine bodyPost_ret (v := .agg #[.bool b6, .slice ao6 n6 c6, .bool b7, .slice ao7 n7 c7]) (by simp [results, Tryd.results62, go_sem, rc]) rfl ?_
    rw [HNQ.out]
    exact ⟨_, rfl, FR.soft (sf4 (E := 2) (.bool b6) (.slice ao6 n6 c6) (.bool b7) (.slice ao7 n7 c7) Br (by decide)) ⟨_, _, _, _, _, _, _, _, rfl, hop, hoq⟩, kp4 (A := w.heap.size + 1 + 1 + 1) (.bool b6) (.slice ao6 n6 c6) (.bool b7) (.slice ao7 n7 c7) hkw (by omega)⟩

end Go.Proofs.YtjahbjjekednfaaDoor

namespace Go.Proofs.YtjahbjjekednfaaDoor
open Go.RowKit

theorem lp_bd {p q n : Int} {k : Nat} (h : ∀ j, j + 1 < k → 1 ≤ tm p q n (j + 1)) : ∀ i, i + 1 ≤ k → tm p q n 0 * (cv p q n (i + 1)).lq ≤ (cv p q n (i + 1)).lp ∧ (cv p q n (i + 1)).lp ≤ (tm p q n 0 + 1) * (cv p q n (i + 1)).lq
 | 0, _ => by simp [cv]; omega
 | 1, hi => by
  have h1 := h 0 (by omega)
  simp only [cv, Int.mul_one, Int.mul_zero, Int.add_zero, Int.zero_add, Nat.zero_add] at *
  rw [Int.add_mul, Int.one_mul, Int.mul_comm (tm p q n 0)]
  omega
 | i + 2, hi => by
  obtain ⟨a1, a2⟩ := lp_bd h (i + 1) (by omega)
  obtain ⟨b1, b2⟩ := lp_bd h i (by omega)
  have ht := h (i + 1) (by omega)
  have e1 : (cv p q n (i + 2 + 1)).lp = tm p q n (i + 2) * (cv p q n (i + 2)).lp + (cv p q n (i + 1)).lp := rfl
  have e2 : (cv p q n (i + 2 + 1)).lq = tm p q n (i + 2) * (cv p q n (i + 2)).lq + (cv p q n (i + 1)).lq := rfl
  rw [e1, e2]
  have c1 := Int.mul_le_mul_of_nonneg_left a1 (show 0 ≤ tm p q n (i + 2) from Int.le_trans (by decide) ht)
  have c2 := Int.mul_le_mul_of_nonneg_left a2 (show 0 ≤ tm p q n (i + 2) from Int.le_trans (by decide) ht)
  generalize tm p q n 0 = c at *
  generalize tm p q n (i + 2) = t at *
  generalize (cv p q n (i + 2)).lp = A at *
  generalize (cv p q n (i + 2)).lq = B at *
  generalize (cv p q n (i + 1)).lp = C at *
  generalize (cv p q n (i + 1)).lq = D at *
  constructor
  ·rw [show c * (t * B + D) = t * (c * B) + c * D by grind]
   omega
  ·rw [show (c + 1) * (t * B + D) = t * ((c + 1) * B) + (c + 1) * D by grind]
   omega
theorem lq_lin {p q n : Int} {k : Nat} (h : ∀ j, j + 1 < k → 1 ≤ tm p q n (j + 1)) : ∀ i, i + 1 ≤ k → (i : Int) ≤ (cv p q n (i + 1)).lq
 | 0, hi => by have := (cvq_pos h 0 hi).1; omega
 | 1, hi => by have := (cvq_pos h 1 hi).1; omega
 | i + 2, hi => by
  have h1 := lq_lin h (i + 1) (by omega)
  have h2 := lq_step h (i + 1) (by omega)
  rw [show i + 1 + 2 = i + 2 + 1 by omega] at h2
  have h3 := (cvq_pos h i (by omega)).1
  omega
theorem fst_not (P : Nat → Prop) : ∀ N, (∀ j, j < N → P j) ∨ ∃ j, ¬ P j ∧ ∀ i, i < j → P i
 | 0 => Or.inl fun j hj => absurd hj (by omega)
 | N + 1 => by
  rcases fst_not P N with h | h
  ·by_cases e : P N
   ·refine Or.inl fun j hj => ?_
    by_cases c : j < N
    ·exact h j c
    ·rw [show j = N by omega]; exact e
   ·exact Or.inr ⟨N, e, h⟩
  ·exact Or.inr h
/-- Where Best stops. -/
structure BAt (a : Qn) (n : Int) (J : Nat) : Prop where
 on : ∀ j, j < J → (rs a j).2 ≠ 0 ∧ (cv (p0 a) (q0 a) (n0 a) (j + 1)).lq ≤ n
 stop : ¬ ((rs a J).2 ≠ 0 ∧ (cv (p0 a) (q0 a) (n0 a) (J + 1)).lq ≤ n)
theorem bat_ex {a : Qn} (h : Cn a) (n : Int) : ∃ J, BAt a n J := by
 rcases fst_not (fun j => (rs a j).2 ≠ 0 ∧ (cv (p0 a) (q0 a) (n0 a) (j + 1)).lq ≤ n) (n.toNat + 2) with h1 | ⟨J, h1, h2⟩
 ·exfalso
  have h2 := lq_lin (k := n.toNat + 2) (rl_tms (rl_start h) (fun j hj => (h1 j hj).1)) (n.toNat + 1) (by omega)
  have h3 := (h1 (n.toNat + 1) (by omega)).2
  omega
 ·exact ⟨J, h2, h1⟩
theorem BAt.tms {a : Qn} {n : Int} {J : Nat} (h : Cn a) (hJ : BAt a n J) : ∀ j, j + 1 < J → 1 ≤ tm (p0 a) (q0 a) (n0 a) (j + 1) := rl_tms (rl_start h) (fun j hj => (hJ.on j hj).1)
theorem BAt.pos {a : Qn} {n : Int} {J : Nat} (h : Cn a) (hn : 1 ≤ n) (hJ : BAt a n J) : 1 ≤ J := by
 refine Nat.not_lt.1 fun hc => hJ.stop ?_
 have e : J = 0 := by omega
 subst e
 exact ⟨(rl_start h).q0, by simp [cv]; omega⟩
theorem BAt.le {a : Qn} {n : Int} {J : Nat} (h : Cn a) (hn : 1 ≤ n) (hJ : BAt a n J) : (J : Int) ≤ n + 1 := by
 have hp := hJ.pos h hn
 obtain ⟨i, rfl⟩ : ∃ i, J = i + 1 := ⟨J - 1, by omega⟩
 have h1 := lq_lin (hJ.tms h) i (by omega)
 have h2 := (hJ.on i (by omega)).2
 omega
theorem BAt.lq {a : Qn} {n : Int} {J : Nat} (h : Cn a) (hn : 1 ≤ n) (hJ : BAt a n J) : ∀ j, j ≤ J → 0 ≤ (cv (p0 a) (q0 a) (n0 a) j).lq ∧ (cv (p0 a) (q0 a) (n0 a) j).lq ≤ n
 | 0, _ => by simp [cv]; omega
 | j + 1, hj => ⟨by have := (cvq_pos (hJ.tms h) j hj).1; omega, (hJ.on j (by omega)).2⟩
theorem abs_bd {c L x n : Int} (h0 : 0 ≤ L) (hL : L ≤ n) (h1 : c * L ≤ x) (h2 : x ≤ (c + 1) * L) : x.natAbs ≤ (((c.natAbs : Int) + 1) * n).natAbs := by
 have k0 : (0 : Int) ≤ (c.natAbs : Int) + 1 := by omega
 have k1 : ((c.natAbs : Int) + 1) * L ≤ ((c.natAbs : Int) + 1) * n := Int.mul_le_mul_of_nonneg_left hL k0
 have k2 : (c + 1) * L ≤ ((c.natAbs : Int) + 1) * L := Int.mul_le_mul_of_nonneg_right (by omega) h0
 have k3 : (-((c.natAbs : Int) + 1)) * L ≤ c * L := Int.mul_le_mul_of_nonneg_right (by omega) h0
 rw [Int.neg_mul] at k3
 omega
/-- How great all that is. -/
theorem BAt.ft {a : Qn} {n : Int} {J : Nat} (h : Cn a) (f : QF 1100000 a) (hn : 1 ≤ n) (hn1 : n ≤ 1000) (hJ : BAt a n J) : ∀ j, j ≤ J → Ft 2400005 (cv (p0 a) (q0 a) (n0 a) j).lp ∧ Ft 2400005 (cv (p0 a) (q0 a) (n0 a) j).lq
 | 0, _ => by
  have : Ft 1 (1 : Int) := by unfold Ft; decide
  exact ⟨this.mono (by decide), Ft.zero _⟩
 | j + 1, hj => by
  obtain ⟨l1, l2⟩ := hJ.lq h hn (j + 1) hj
  obtain ⟨b1, b2⟩ := lp_bd (hJ.tms h) j hj
  have hq0 : (rs a 0).2 ≠ 0 := (rl_start h).q0
  have ft := (sz_num h f (i := 0) (by decide) (fun k hk => by rw [show k = 0 by omega]; exact hq0)).2
  have f1 : Ft 4 n := by unfold Ft; omega
  have fo : Ft 2400000 (1 : Int) := Ft.mono (m := 1) (by unfold Ft; decide) (by decide)
  have fb : Ft (2400000 + 1 + 4) (((tm (p0 a) (q0 a) (n0 a) 0).natAbs + 1 : Int) * n) := Ft.mul (Ft.add ft.abs fo) f1
  refine ⟨fb.le (abs_bd l1 l2 b1 b2), ?_⟩
  have : Ft 4 (cv (p0 a) (q0 a) (n0 a) (j + 1)).lq := by unfold Ft; omega
  exact this.mono (by decide)
theorem BAt.ft' {a : Qn} {n : Int} {J : Nat} (h : Cn a) (f : QF 1100000 a) (hn : 1 ≤ n) (hn1 : n ≤ 1000) (hJ : BAt a n J) : ∀ j, j ≤ J → Ft 2400005 (cv (p0 a) (q0 a) (n0 a) j).ap ∧ Ft 2400005 (cv (p0 a) (q0 a) (n0 a) j).aq
 | 0, _ => by
  have : Ft 1 (1 : Int) := by unfold Ft; decide
  exact ⟨Ft.zero _, this.mono (by decide)⟩
 | j + 1, hj => hJ.ft h f hn hn1 j (by omega)
/-- The fraction on the other side. -/
def oth (a : Qn) (n : Int) (J : Nat) : Int × Int := (fl (n - (cv (p0 a) (q0 a) (n0 a) J).aq) (cv (p0 a) (q0 a) (n0 a) J).lq * (cv (p0 a) (q0 a) (n0 a) J).lp + (cv (p0 a) (q0 a) (n0 a) J).ap, fl (n - (cv (p0 a) (q0 a) (n0 a) J).aq) (cv (p0 a) (q0 a) (n0 a) J).lq * (cv (p0 a) (q0 a) (n0 a) J).lq + (cv (p0 a) (q0 a) (n0 a) J).aq)
def lst' (a : Qn) (J : Nat) : Int × Int := ((cv (p0 a) (q0 a) (n0 a) J).lp, (cv (p0 a) (q0 a) (n0 a) J).lq)
/-- What Best finds. -/
def bst (a : Qn) (n : Int) (J : Nat) : Int × Int :=
 if (rs a J).2 = 0 then lst' a J else if alt J = 1 then nq (qcmp a (md (lst' a J).1 (lst' a J).2 (oth a n J).1 (oth a n J).2)) (oth a n J) (lst' a J) else nq (qcmp a (md (lst' a J).1 (lst' a J).2 (oth a n J).1 (oth a n J).2)) (lst' a J) (oth a n J)
theorem oth_det (a : Qn) (n : Int) (J : Nat) : (lst' a J).1 * (oth a n J).2 - (oth a n J).1 * (lst' a J).2 = alt J := by
 rw [← cv_det (p0 a) (q0 a) (n0 a) J]
 unfold lst' oth
 grind
theorem oth_ft {a : Qn} {n : Int} {J : Nat} (h : Cn a) (f : QF 1100000 a) (hn : 1 ≤ n) (hn1 : n ≤ 1000) (hJ : BAt a n J) : Ft 2400010 (oth a n J).1 ∧ Ft 2400010 (oth a n J).2 := by
 obtain ⟨f1, f2⟩ := hJ.ft h f hn hn1 J (Nat.le_refl _)
 obtain ⟨f3, f4⟩ := hJ.ft' h f hn hn1 J (Nat.le_refl _)
 have hp := hJ.pos h hn
 obtain ⟨i, rfl⟩ : ∃ i, J = i + 1 := ⟨J - 1, by omega⟩
 obtain ⟨l1, l2⟩ := hJ.lq h hn i (by omega)
 have e : (cv (p0 a) (q0 a) (n0 a) (i + 1)).aq = (cv (p0 a) (q0 a) (n0 a) i).lq := rfl
 have ft : Ft 4 (fl (n - (cv (p0 a) (q0 a) (n0 a) (i + 1)).aq) (cv (p0 a) (q0 a) (n0 a) (i + 1)).lq) := by
  have h1 : Ft 4 (n - (cv (p0 a) (q0 a) (n0 a) (i + 1)).aq) := by unfold Ft; omega
  exact h1.le (fl_abs _ _)
 have := Ft.add ((ft.mul f1)) (f3.mono (show 2400005 ≤ 4 + 2400005 by decide))
 have k2 := Ft.add ((ft.mul f2)) (f4.mono (show 2400005 ≤ 4 + 2400005 by decide))
 exact ⟨this.mono (by decide), k2.mono (by decide)⟩

end Go.Proofs.YtjahbjjekednfaaDoor
