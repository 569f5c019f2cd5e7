import Derived.Test.YtjahbjjekednfaaU1
import Derived.Test.YtjahbjjekednfaaJ4
import Derived.Test.YtjahbjjekednfaaR19
import Derived.Deep.DeepCutAuto
import Derived.Laws.OwnMore
namespace Go.Proofs.Ytjahbjjekednfaa
open Go.RowKit

theorem nm_step {a : Qn} (h : Cn a) (hd : a.d ≠ 1) (f : QF 1100000 a) (i : Nat) (hi : i ≤ 1000) (u : Value) (w : World) (hu : NN w u (nm a i)) : Calls Try.prog 19 #[u] w (RetSt w (tm (p0 a) (q0 a) (n0 a) i) (nm a (i + 1)) true) := by
 have hR := rl_num (rl_start h) i (fun k _ => rs_irr h hd k)
 obtain ⟨s1, s2⟩ := sz_num h f (i := i) (by omega) (fun k _ => rs_irr h hd k)
 have hS := step_ref (nm a i) (tm (p0 a) (q0 a) (n0 a) i) 2400000 u w hu (by decide) s1 s2 hR.cn (fun x => rl_iff hR x)
 have hz : ¬ ((nm a i).p - tm (p0 a) (q0 a) (n0 a) i * (nm a i).r = 0 ∧ (nm a i).q = 0) := fun k => rs_irr h hd (i + 1) ((nxq_zero hR).2 k)
 rw [if_neg hz] at hS
 exact hS

set_option maxHeartbeats 6400000 in
set_option maxRecDepth 100000 in
/-- surdref.Period, of an irrational number: J is the first number that was there before, at i; or J is 201. -/
theorem rperiod_at (s : ByteArray) (r : Rs) (J i : Nat) (x y er : Int) (w : World) (h : Rk s r) (he : r.e = 0) (hd : r.v.d ≠ 1) (hJ0 : 1 ≤ J) (hJ : J ≤ 201) (hno : ∀ j, j < J → ∀ i, i < j → nm r.v i ≠ nm r.v j) (hyes : J ≤ 200 → i < J ∧ nm r.v i = nm r.v J)
 (ho : (J ≤ 200 ∧ x = i ∧ y = (J : Int) - i ∧ er = 0) ∨ (¬ J ≤ 200 ∧ x = 0 ∧ y = 0 ∧ er = 7)) :
 Calls Try.prog 12 #[.string s] w (RetV w (.tuple #[.int .i64 x, .int .i64 y, .int .i64 er])) := by
 obtain ⟨i0, hi, hz0, hz1, hz2⟩ := info_parts Try.infoRN
 have HR := Hid.mk (rread_any s r w h)
 have hcn := rk_cn h he
 have hsz := rk_size h he
 have HST := Hid.mk (fun (j : Nat) (hj : j ≤ 1000) (u : Value) (W : World) (hu : NN W u (nm r.v j)) => nm_step hcn hd hsz j hj u W hu)
 have HSM := Hid.mk (fun (a b : Qn) (u v : Value) (W : World) (hu : NN W u a) (hv : NN W v b) => rsame_any a b u v W hu hv)
 have hb : (r.e != 0) = false := by simp [he]
 have hdb : (r.v.d == 1) = false := by simp [hd]
 have Hh := Hid.mk he
 have HNO := Hid.mk hno
 have HYE := Hid.mk hyes
 have HO := Hid.mk ho
 have HN0 : Hid (nm r.v 0 = r.v) := rfl
 clear he hd hno hyes ho hcn hsz h
 go_enter Try.func12, Try.ntmps12
 go_wp2_with fail
 refine HR.out.mono ?_
 rintro e w1 ⟨v1, a1, rfl, hv, hav, hk1⟩
 obtain rfl := hav Hh.out
 obtain ⟨b1, ao1, n1, c1, b2, ao2, n2, c2, b3, ao3, n3, c3, rfl, _, _, _⟩ := id hv
 have BX := Blk.new w1 #[.bool b1, .slice ao1 n1 c1, .bool b2, .slice ao2 n2 c2, .bool b3, .slice ao3 n3 c3, .int .i64 r.v.d] 48
 have bxc := BX.cell
 have bxl := BX.lt
 clear hav
 go_wp2_with fail
 have hkw := (hk1.alloc' (.cells #[.bool b1, .slice ao1 n1 c1, .bool b2, .slice ao2 n2 c2, .bool b3, .slice ao3 n3 c3, .int .i64 r.v.d] 48)).alloc' (.cells #[.bool b1, .slice ao1 n1 c1, .bool b2, .slice ao2 n2 c2, .bool b3, .slice ao3 n3 c3, .int .i64 r.v.d] 48)
 have hOW := World.ownsRow_lit (base := w.heap.size) (e := 48) (size := 7) (w1.alloc (.cells #[.bool b1, .slice ao1 n1 c1, .bool b2, .slice ao2 n2 c2, .bool b3, .slice ao3 n3 c3, .int .i64 r.v.d] 48)) #[.bool b1, .slice ao1 n1 c1, .bool b2, .slice ao2 n2 c2, .bool b3, .slice ao3 n3 c3, .int .i64 r.v.d] 1 (hk1.alloc' (.cells #[.bool b1, .slice ao1 n1 c1, .bool b2, .slice ao2 n2 c2, .bool b3, .slice ao3 n3 c3, .int .i64 r.v.d] 48)).size (by decide) rfl
 have hIS : IsN ((w1.alloc (.cells #[.bool b1, .slice ao1 n1 c1, .bool b2, .slice ao2 n2 c2, .bool b3, .slice ao3 n3 c3, .int .i64 r.v.d] 48)).alloc (.cells #[.bool b1, .slice ao1 n1 c1, .bool b2, .slice ao2 n2 c2, .bool b3, .slice ao3 n3 c3, .int .i64 r.v.d] 48)) (#[.bool b1, .slice ao1 n1 c1, .bool b2, .slice ao2 n2 c2, .bool b3, .slice ao3 n3 c3, .int .i64 r.v.d] : Array Value).toList (nm r.v) 1 := IsN.snoc (f := nm r.v) (k := 0) (xs := []) (fun i hi => absurd hi (by omega)) rfl (b1 := b1) (ao1 := ao1) (n1 := n1) (c1 := c1) (b2 := b2) (ao2 := ao2) (n2 := n2) (c2 := c2) (b3 := b3) (ao3 := ao3) (n3 := n3) (c3 := c3) ((hv.keep (kp_alloc w1 (.cells #[.bool b1, .slice ao1 n1 c1, .bool b2, .slice ao2 n2 c2, .bool b3, .slice ao3 n3 c3, .int .i64 r.v.d] 48))).keep (kp_alloc _ (.cells #[.bool b1, .slice ao1 n1 c1, .bool b2, .slice ao2 n2 c2, .bool b3, .slice ao3 n3 c3, .int .i64 r.v.d] 48)))
 clear hv BX bxc bxl hk1
 have hsl : w1.heap.size + 1 = (w1.alloc (.cells #[.bool b1, .slice ao1 n1 c1, .bool b2, .slice ao2 n2 c2, .bool b3, .slice ao3 n3 c3, .int .i64 r.v.d] 48)).heap.size := by simp
 try rw [hsl]
 generalize (w1.alloc (.cells #[.bool b1, .slice ao1 n1 c1, .bool b2, .slice ao2 n2 c2, .bool b3, .slice ao3 n3 c3, .int .i64 r.v.d] 48)).alloc (.cells #[.bool b1, .slice ao1 n1 c1, .bool b2, .slice ao2 n2 c2, .bool b3, .slice ao3 n3 c3, .int .i64 r.v.d] 48) = wa at *
 generalize (w1.alloc (.cells #[.bool b1, .slice ao1 n1 c1, .bool b2, .slice ao2 n2 c2, .bool b3, .slice ao3 n3 c3, .int .i64 r.v.d] 48)).heap.size = ga at *
 clear hsl
 go_loopg [8, 9] 201 (fun g s x wr => ∃ (m : Nat) (xs : List Value), x = .int .i64 ((m : Int) + 1) ∧ m + 1 ≤ J ∧ m + g = 201 ∧ wr.ownsRow w.heap.size 48 7 s (m + 1) xs ∧ Hid (IsN wr xs (nm r.v) (m + 1)) ∧ Kp w wr)
 case atStart => exact ⟨0, _, rfl, by omega, by omega, hOW, hIS, hkw⟩
 case round =>
  clear hOW hIS hkw
  obtain ⟨m, xs, rfl, hjJ, hjg, hown, hI, hkr⟩ := hrel
  obtain ⟨ao, cap, b, hsh, hc1, hc2, hc3, hc4⟩ := RowN.of_owns hown hI.out
  subst hsh
  obtain ⟨hao, hbl⟩ := hc3 (by omega)
  subst hao
  clear hc3
  by_cases h200 : m + 1 ≤ 200
  ·have hji : (m : Int) + 1 ≤ 200 := by omega
   have hm0 : (m : Int) + 1 - 1 = (m : Int) := by omega
   have hm1 : (m : Int) < (m : Int) + 1 := by omega
   obtain ⟨b61, ao61, n61, c61, b62, ao62, n62, c62, b63, ao63, n63, c63, d0, d1, d2, d3, d4, d5, d6, hel⟩ := hc4 m (by omega)
   have hS := HST.out m (by omega) _ wr hel
   have HC4 := Hid.mk hc4
   clear hc4 hel
   generalize hDD : (nm r.v m).d = DD at *
   generalize hYY : nm r.v (m + 1) = Y at *
   replace hYY := Hid.mk hYY
   replace hDD := Hid.mk hDD
   have dz : wr.cell? ⟨b, 7 * m, none⟩ = some (.bool b61) := d0
   clear d0
   rw [Nat.mul_comm] at dz d1 d2 d3 d4 d5 d6
   go_wp2_with fail
   refine hS.mono ?_
   rintro e w2 ⟨vt, vy, rfl, hT, hY, hk2⟩
   obtain ⟨bt, aot, nt, ct, rfl⟩ := hT.shape'
   obtain ⟨b51, ao51, n51, c51, b52, ao52, n52, c52, b53, ao53, n53, c53, rfl, _, _, _⟩ := id hY
   have ka : Kp w2 ((w2.alloc (.cells #[.bool bt, .slice aot nt ct] 46)).alloc (.cells #[.bool b51, .slice ao51 n51 c51, .bool b52, .slice ao52 n52 c52, .bool b53, .slice ao53 n53 c53, .int .i64 Y.d] 48)) := Kp.alloc' (kp_alloc w2 _) _
   have BY : Blk ((w2.alloc (.cells #[.bool bt, .slice aot nt ct] 46)).alloc (.cells #[.bool b51, .slice ao51 n51 c51, .bool b52, .slice ao52 n52 c52, .bool b53, .slice ao53 n53 c53, .int .i64 Y.d] 48)) (w2.heap.size + 1) #[.bool b51, .slice ao51 n51 c51, .bool b52, .slice ao52 n52 c52, .bool b53, .slice ao53 n53 c53, .int .i64 Y.d] 48 := Blk.at (Blk.new (w2.alloc (.cells #[.bool bt, .slice aot nt ct] 46)) _ _) (by simp)
   replace hY := hY.keep ka
   have hbw : b < ((w2.alloc (.cells #[.bool bt, .slice aot nt ct] 46)).alloc (.cells #[.bool b51, .slice ao51 n51 c51, .bool b52, .slice ao52 n52 c52, .bool b53, .slice ao53 n53 c53, .int .i64 Y.d] 48)).heap.size := Nat.lt_of_lt_of_le hbl (hk2.trans' ka).size
   have HEL : Hid (∀ k, k < m + 1 → ElN ((w2.alloc (.cells #[.bool bt, .slice aot nt ct] 46)).alloc (.cells #[.bool b51, .slice ao51 n51 c51, .bool b52, .slice ao52 n52 c52, .bool b53, .slice ao53 n53 c53, .int .i64 Y.d] 48)) b k (nm r.v k)) := fun k hk => (HC4.out k hk).keep hbl (hk2.trans' ka)
   replace hown := owns_keep (hk2.trans' ka) hown
   replace hI := Hid.mk (IsN.soft (Sf.keep (hk2.trans' ka)) hI.out)
   replace hkr := hkr.trans' (hk2.trans' ka)
   clear hk2 ka hS hT HC4 dz d1 d2 d3 d4 d5 d6 hbl
   go_wp2_with fail
   generalize ((w2.alloc (.cells #[.bool bt, .slice aot nt ct] 46)).alloc (.cells #[.bool b51, .slice ao51 n51 c51, .bool b52, .slice ao52 n52 c52, .bool b53, .slice ao53 n53 c53, .int .i64 Y.d] 48)) = ww at *
   generalize w2.heap.size + 1 = AY at *
   go_loopg [13] (m + 2) (fun g x wr' => ∃ k : Nat, x = .int .i64 k ∧ k ≤ m + 1 ∧ (J = m + 1 → k ≤ i) ∧ k + g = m + 2 ∧ Kp ww wr')
   case atStart => exact ⟨0, rfl, by omega, fun _ => by omega, by omega, Below.refl _ _⟩
   case round =>
    obtain ⟨k, rfl, hk1, hkJ, hkg, hkk⟩ := hrel
    replace BY := BY.keep hkk
    by_cases hkm : k < m + 1
    ·have hki : (k : Int) < (m : Int) + 1 := by omega
     obtain ⟨b71, ao71, n71, c71, b72, ao72, n72, c72, b73, ao73, n73, c73, d0, d1, d2, d3, d4, d5, d6, hel⟩ := (HEL.out k hkm).keep hbw hkk
     have hbr : b < wr.heap.size := Nat.lt_of_lt_of_le hbw hkk.size
     have HS := Hid.mk (fun W (hK : Kp wr W) => HSM.out (nm r.v k) Y _ _ W (hel.keep hK) ((hY.keep hkk).keep hK))
     clear hel
     have HKJ := Hid.mk hkJ
     clear hkJ
     go_wp2_with fail
     go_cut [14] (fun c wx => c = .bool (qsame (nm r.v k) Y) ∧ Kp wr wx)
     case first =>
      refine wp_region_l (S := fun w' => Kp wr w') (by kernel_rfl) (Kp.drew' (Below.refl _ _)) (fun hS0 => ?_)
      generalize wr.drew = wd at *
      refine wpAnyL_tk (i := 0) (k := 2) (v := .slice (some ⟨b, 0, none⟩) (m + 1) cap) rfl ?_ hS0 ?_
      ·intro w' hw'; go_simp
      simp only [sq]
      refine wpAnyL_tk (i := 1) (k := 2) (v := .int .i64 k) rfl ?_ hS0 ?_
      ·intro w' hw'; go_simp
      simp only [sq]
      refine wpAnyL_tk (i := 2) (k := 3) (v := .pointer (some ⟨b, 7 * k, none⟩)) rfl ?_ hS0 ?_
      ·intro w' hw'; go_simp
      simp only [sq]
      refine wpAnyL_tk (i := 3) (k := 5) (v := .agg #[.bool b71, .slice ao71 n71 c71, .bool b72, .slice ao72 n72 c72, .bool b73, .slice ao73 n73 c73, .int .i64 (nm r.v k).d]) rfl ?_ hS0 ?_
      ·intro w' hw'
       have hB := hw'.block b hbr
       have cz : w'.cell? ⟨b, 7 * k, none⟩ = some (.bool b71) := (World.cell?_of_block (w := wr) (a := ⟨b, 7 * k + 0, none⟩) hB).trans d0
       have e1 := (World.cell?_of_block (w := wr) (a := ⟨b, 7 * k + 1, none⟩) hB).trans d1
       have e2 := (World.cell?_of_block (w := wr) (a := ⟨b, 7 * k + 2, none⟩) hB).trans d2
       have e3 := (World.cell?_of_block (w := wr) (a := ⟨b, 7 * k + 3, none⟩) hB).trans d3
       have e4 := (World.cell?_of_block (w := wr) (a := ⟨b, 7 * k + 4, none⟩) hB).trans d4
       have e5 := (World.cell?_of_block (w := wr) (a := ⟨b, 7 * k + 5, none⟩) hB).trans d5
       have e6 := (World.cell?_of_block (w := wr) (a := ⟨b, 7 * k + 6, none⟩) hB).trans d6
       go_simp
      simp only [sq]
      refine wpAnyL_tk (i := 4) (k := 5) (v := .agg #[.bool b51, .slice ao51 n51 c51, .bool b52, .slice ao52 n52 c52, .bool b53, .slice ao53 n53 c53, .int .i64 Y.d]) rfl ?_ hS0 ?_
      ·intro w' hw'; have hc := (BY.keep hw').cell; go_simp
      simp only [sq]
      refine wpAnyL_on (i := 5) rfl (fun K hK => ?_)
      go_simp
      refine (HS.out _ hS0).mono ?_
      rintro e w3 ⟨rfl, hk3⟩
      go_wp2_with fail
      refine hK.out _ _ (hS0.trans' hk3) (fun hS1 => ?_)
      clear hK K
      refine wpAnyL_last (i := 6) rfl (by kernel_rfl) (by kernel_rfl) (by kernel_rfl) (fun K hK => ?_)
      go_simp
      refine hK.out _ _ ?_
      clear hK K
      go_wp2_with fail
      go_meet
      case rel => exact ⟨by first | rfl | simp, hS1⟩
     case rest =>
      obtain ⟨rfl, hkc⟩ := hcut
      by_cases hf : J = m + 1 ∧ k = i
      ·obtain ⟨hJm, hki'⟩ := hf
       have hd : qsame (nm r.v k) Y = true := qsame_iff.2 (by rw [← hYY.out, hki', ← hJm]; exact (HYE.out (by omega)).2)
       have HOX : Hid (x = (k : Int) ∧ y = (m : Int) + 1 - k ∧ er = 0) := by
        rcases HO.out with ⟨_, h1, h2, h3⟩ | ⟨h1, _⟩
        ·exact ⟨by omega, by omega, h3⟩
        ·omega
       rw [hd]
       clear hd hJm hki'
       go_wp2_with fail
       refine bodyPost_ret (v := .tuple #[.int .i64 k, .int .i64 ((m : Int) + 1 - k), .int .i64 0]) (by simp [results, Try.results12, go_sem]) rfl ?_
       obtain ⟨rfl, rfl, rfl⟩ := HOX.out
       exact ⟨rfl, (hkr.trans' hkk).trans' hkc⟩
      ·have hd : qsame (nm r.v k) Y = false := Bool.eq_false_iff.2 fun e0 => by
        have e := qsame_iff.1 e0
        rw [← hYY.out] at e
        by_cases hJm : J = m + 1
        ·have h1 := HKJ.out hJm
         have h2 := HYE.out (by omega)
         have h3 : k < i := by
          rcases Nat.lt_or_ge k i with h | h
          ·exact h
          ·exact absurd ⟨hJm, by omega⟩ hf
         exact HNO.out i h2.1 k h3 (by rw [e, h2.2, hJm])
        ·exact HNO.out (m + 1) (by omega) k hkm e
       have HKJ2 : Hid (J = m + 1 → k + 1 ≤ i) := fun hJm => by
        have h1 := HKJ.out hJm
        rcases Nat.lt_or_ge k i with h | h
        ·exact h
        ·exact absurd ⟨hJm, by omega⟩ hf
       rw [hd]
       clear hd hf
       go_wp2_with fail
       go_roundg (m + 2 - (k + 1))
       case rel => exact ⟨k + 1, by go_num, by omega, HKJ2.out, by omega, hkk.trans' hkc⟩
       case measure => omega
    ·have hJm : m + 2 ≤ J := by
      rcases Nat.lt_or_ge (m + 1) J with h | h
      ·exact h
      ·have h1 := hkJ (by omega)
       have h2 := HYE.out (by omega)
       omega
     have hki : ¬ (k : Int) < (m : Int) + 1 := by omega
     clear hkJ
     replace hown := owns_keep hkk hown
     replace hI := Hid.mk (IsN.soft (Sf.keep hkk) hI.out)
     replace hkr := hkr.trans' hkk
     replace hY := hY.keep hkk
     have byc := BY.cell
     have byl := BY.lt
     go_wp2_with (at_builtin; (refine wpList_append_el wr rfl _ _ 56 rfl w 48 i0 (.agg #[.bool false, .slice none 0 0, .bool false, .slice none 0 0, .bool false, .slice none 0 0, .int .i64 0]) 7 104 Try.underlying56 hi hz0 hz1 hz2 rfl (by decide) (.slice (some ⟨b, 0, none⟩) (m + 1) cap) (m + 1) xs #[.bool b51, .slice ao51 n51 c51, .bool b52, .slice ao52 n52 c52, .bool b53, .slice ao53 n53 c53, .int .i64 Y.d] rfl (by simp [Value.oneCell']) rfl hown hkr rfl (by unfold maxLen; omega) (by omega) ?_))
     intro l' w4 hown' hkr' hsf
     have hs1 := hsf 3 (by decide)
     have hI' := IsN.snoc (f := nm r.v) (k := m + 1) (IsN.soft hs1 hI.out) (by rw [hown.1, Nat.mul_comm]) (b1 := b51) (ao1 := ao51) (n1 := n51) (c1 := c51) (b2 := b52) (ao2 := ao52) (n2 := n52) (c2 := c52) (b3 := b53) (ao3 := ao53) (n3 := n53) (c3 := c53) (by rw [hYY.out]; exact hY.soft hs1)
     rw [hYY.out] at hI'
     replace hI' := Hid.mk hI'
     clear hown hkr hI hsf hs1 hY BY byc byl
     go_wp2_with fail
     go_roundg (201 - (m + 1))
     case rel => exact ⟨m + 1, _, by go_num, by omega, by omega, hown', hI', hkr'⟩
     case measure => omega
  ·have hji : ¬ (m : Int) + 1 ≤ 200 := by omega
   have HOX : x = 0 ∧ y = 0 ∧ er = 7 := by
    rcases HO.out with ⟨h, _⟩ | ⟨_, h⟩
    ·omega
    ·exact h
   obtain ⟨rfl, rfl, rfl⟩ := HOX
   go_wp2_with fail
   refine bodyPost_ret (v := .tuple #[.int .i64 0, .int .i64 0, .int .i64 7]) (by simp [results, Try.results12, go_sem]) rfl ?_
   exact ⟨rfl, hkr⟩

set_option maxHeartbeats 3200000 in
set_option maxRecDepth 100000 in
/-- surdref.Period. -/
theorem rperiod_any (s : ByteArray) (r : Rs) (x y er : Int) (w : World) (h : Rk s r) (ho : OutD r x y er) :
 Calls Try.prog 12 #[.string s] w (RetV w (.tuple #[.int .i64 x, .int .i64 y, .int .i64 er])) := by
 have HR := Hid.mk (rread_any s r w h)
 rcases ho with ⟨he, rfl, rfl, rfl⟩ | ⟨he, hd, rfl, rfl, rfl⟩ | ⟨he, hd, hF, rfl, rfl, rfl⟩ | ⟨he, hd, i, J, hJ, hP, rfl, rfl, rfl⟩
 ·have hb : (r.e != 0) = true := by simp [he]
  clear he
  go_enter Try.func12, Try.ntmps12
  go_wp2_with fail
  refine HR.out.mono ?_
  rintro e w1 ⟨v1, a1, rfl, hv, hav, hk1⟩
  obtain ⟨b1, ao1, n1, c1, b2, ao2, n2, c2, b3, ao3, n3, c3, rfl, _, _, _⟩ := id hv
  go_wp2_with fail
  refine bodyPost_ret (v := .tuple #[.int .i64 0, .int .i64 0, .int .i64 r.e]) (by simp [results, Try.results12, go_sem]) rfl ?_
  exact ⟨rfl, hk1.alloc' _⟩
 ·have hb : (r.e != 0) = false := by simp [he]
  have hdb : (r.v.d == 1) = true := by simp [hd]
  have Hh := Hid.mk he
  clear he hd
  go_enter Try.func12, Try.ntmps12
  go_wp2_with fail
  refine HR.out.mono ?_
  rintro e w1 ⟨v1, a1, rfl, hv, hav, hk1⟩
  obtain rfl := hav Hh.out
  obtain ⟨b1, ao1, n1, c1, b2, ao2, n2, c2, b3, ao3, n3, c3, rfl, _, _, _⟩ := id hv
  clear hav
  go_wp2_with fail
  refine bodyPost_ret (v := .tuple #[.int .i64 0, .int .i64 0, .int .i64 6]) (by simp [results, Try.results12, go_sem]) rfl ?_
  exact ⟨rfl, hk1.alloc' _⟩
 ·exact rperiod_at s r 201 0 0 0 7 w h he hd (by decide) (by decide) (fun j hj i hi e => hF j hj i hi ((nm_iff (rk_cn h he) hd i j).1 e)) (fun k => absurd k (by decide)) (Or.inr ⟨by decide, rfl, rfl, rfl⟩)
 ·exact rperiod_at s r J i _ _ 0 w h he hd (by have := hP.lt; omega) (by omega) (fun j hj i hi e => hP.fst j hj i hi ((nm_iff (rk_cn h he) hd i j).1 e)) (fun _ => ⟨hP.lt, (nm_iff (rk_cn h he) hd i J).2 hP.eq⟩) (Or.inl ⟨hJ, rfl, rfl, rfl⟩)

end Go.Proofs.Ytjahbjjekednfaa
