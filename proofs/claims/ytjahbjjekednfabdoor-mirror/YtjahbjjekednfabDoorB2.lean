import Derived.Test.YtjahbjjekednfabDoorF1
import Derived.Test.YtjahbjjekednfabDoorC3a
import Derived.Test.YtjahbjjekednfabDoorRwe
import Derived.Test.YtjahbjjekednfabDoorSt
import Derived.Deep.DeepCutAuto
import Derived.Deep.LoopGhost
namespace Go.Proofs.YtjahbjjekednfabDoor
open Go.RowKit

theorem sgn0 (x y : Int) : ((x - y).sign == 0) = decide (x = y) := by
 by_cases h : x = y
 ·rw [h, Int.sub_self]; simp
 ·rw [decide_eq_false h, beq_eq_false_iff_ne]
  intro e
  exact h (by have := Int.sign_eq_zero_iff_zero.1 e; omega)

set_option maxHeartbeats 1600000 in
set_option maxRecDepth 100000 in
/-- expansion.same. -/
theorem qsame_any (p q n p' q' n' : Int) (u v : Value) (w : World) (hu : RR w u p q n) (hv : RR w v p' q' n') : Calls Tryd.prog 90 #[u, v] w (RetV w (.bool (decide (p = p' ∧ q = q')))) := by
 obtain ⟨b1, ao1, n1, c1, b2, ao2, n2, c2, b3, ao3, n3, c3, b4, ao4, n4, c4, rfl, g1, g2, _, _⟩ := hu
 obtain ⟨b5, ao5, n5, c5, b6, ao6, n6, c6, b7, ao7, n7, c7, b8, ao8, n8, c8, rfl, k1, k2, _, _⟩ := hv
 have kp0 : Kp w ((w.alloc (.cells #[.bool b1, .slice ao1 n1 c1, .bool b2, .slice ao2 n2 c2, .bool b3, .slice ao3 n3 c3, .bool b4, .slice ao4 n4 c4] 69)).alloc (.cells #[.bool b5, .slice ao5 n5 c5, .bool b6, .slice ao6 n6 c6, .bool b7, .slice ao7 n7 c7, .bool b8, .slice ao8 n8 c8] 69)) := Kp.alloc' (kp_alloc w _) _
 have BX : Blk ((w.alloc (.cells #[.bool b1, .slice ao1 n1 c1, .bool b2, .slice ao2 n2 c2, .bool b3, .slice ao3 n3 c3, .bool b4, .slice ao4 n4 c4] 69)).alloc (.cells #[.bool b5, .slice ao5 n5 c5, .bool b6, .slice ao6 n6 c6, .bool b7, .slice ao7 n7 c7, .bool b8, .slice ao8 n8 c8] 69)) w.heap.size #[.bool b1, .slice ao1 n1 c1, .bool b2, .slice ao2 n2 c2, .bool b3, .slice ao3 n3 c3, .bool b4, .slice ao4 n4 c4] 69 := Blk.alloc (Blk.new w _ _) _
 have BY : Blk ((w.alloc (.cells #[.bool b1, .slice ao1 n1 c1, .bool b2, .slice ao2 n2 c2, .bool b3, .slice ao3 n3 c3, .bool b4, .slice ao4 n4 c4] 69)).alloc (.cells #[.bool b5, .slice ao5 n5 c5, .bool b6, .slice ao6 n6 c6, .bool b7, .slice ao7 n7 c7, .bool b8, .slice ao8 n8 c8] 69)) (w.heap.size + 1) #[.bool b5, .slice ao5 n5 c5, .bool b6, .slice ao6 n6 c6, .bool b7, .slice ao7 n7 c7, .bool b8, .slice ao8 n8 c8] 69 := Blk.at (Blk.new (w.alloc (.cells #[.bool b1, .slice ao1 n1 c1, .bool b2, .slice ao2 n2 c2, .bool b3, .slice ao3 n3 c3, .bool b4, .slice ao4 n4 c4] 69)) _ _) (by simp)
 replace g1 := g1.keep kp0
 replace g2 := g2.keep kp0
 replace k1 := k1.keep kp0
 replace k2 := k2.keep kp0
 have e1 := sgn0 p p'
 have e2 := sgn0 q q'
 have xc := BX.cell
 have xl := BX.lt
 have yc := BY.cell
 have yl := BY.lt
 have HC1 := wcompare_any p p' _ _ _ g1 k1
 have HC2 := Hid.mk (fun W (a : WN W (.agg #[.bool b2, .slice ao2 n2 c2]) q) (b : WN W (.agg #[.bool b6, .slice ao6 n6 c6]) q') => wcompare_any q q' _ _ W a b)
 generalize (p - p').sign = S1 at *
 generalize (q - q').sign = S2 at *
 by_cases h1 : p = p'
 ·have f1 : (S1 == 0) = true := by rw [e1]; exact decide_eq_true h1
  have f1' : (S1 != 0) = false := by simp only [bne, f1]; rfl
  have ED : Hid (decide (p = p' ∧ q = q') = (S2 == 0)) := by
   unfold Hid
   rw [e2]
   simp [h1]
  clear e1 e2 h1
  go_enter Tryd.func90, Tryd.ntmps90
  go_wp2_with fail
  refine HC1.mono ?_
  rintro e w1 ⟨rfl, hk1⟩
  replace BX := BX.keep hk1
  replace BY := BY.keep hk1
  have xc1 := BX.cell
  have xl1 := BX.lt
  have yc1 := BY.cell
  have yl1 := BY.lt
  clear xc xl yc yl HC1
  go_wp2_with fail
  refine (HC2.out _ (g2.keep hk1) (k2.keep hk1)).mono ?_
  rintro e w2 ⟨rfl, hk2⟩
  go_wp2_with fail
  go_ret
  exact ⟨by rw [ED.out]; rfl, (kp0.trans' hk1).trans' hk2⟩
 ·have f1 : (S1 == 0) = false := by rw [e1]; exact decide_eq_false h1
  have f1' : (S1 != 0) = true := by simp only [bne, f1]; rfl
  have ED : Hid (decide (p = p' ∧ q = q') = false) := decide_eq_false (fun k => h1 k.1)
  clear e1 e2 h1
  go_enter Tryd.func90, Tryd.ntmps90
  go_wp2_with fail
  refine HC1.mono ?_
  rintro e w1 ⟨rfl, hk1⟩
  go_wp2_with fail
  go_ret
  exact ⟨by rw [ED.out]; rfl, kp0.trans' hk1⟩
/-- The element at place i of a row of rests. -/
def ElQ (w : World) (b i : Nat) (p q n : Int) : Prop := ∃ (b1 : Bool) (ao1 : Option Addr) (n1 c1 : Nat) (b2 : Bool) (ao2 : Option Addr) (n2 c2 : Nat) (b3 : Bool) (ao3 : Option Addr) (n3 c3 : Nat) (b4 : Bool) (ao4 : Option Addr) (n4 c4 : Nat), w.cell? ⟨b, 8 * i + 0, none⟩ = some (.bool b1) ∧ w.cell? ⟨b, 8 * i + 1, none⟩ = some (.slice ao1 n1 c1) ∧ w.cell? ⟨b, 8 * i + 2, none⟩ = some (.bool b2) ∧ w.cell? ⟨b, 8 * i + 3, none⟩ = some (.slice ao2 n2 c2) ∧ w.cell? ⟨b, 8 * i + 4, none⟩ = some (.bool b3) ∧ w.cell? ⟨b, 8 * i + 5, none⟩ = some (.slice ao3 n3 c3) ∧ w.cell? ⟨b, 8 * i + 6, none⟩ = some (.bool b4) ∧ w.cell? ⟨b, 8 * i + 7, none⟩ = some (.slice ao4 n4 c4) ∧ RR w (.agg #[.bool b1, .slice ao1 n1 c1, .bool b2, .slice ao2 n2 c2, .bool b3, .slice ao3 n3 c3, .bool b4, .slice ao4 n4 c4]) p q n
/-- The slice v holds the first k rests of f. -/
def RowQ (w : World) (v : Value) (f : Nat → Int × Int) (n : Int) (k : Nat) : Prop := ∃ (ao : Option Addr) (cap b : Nat), v = .slice ao k cap ∧ k ≤ cap ∧ cap ≤ 9223372036854775807 ∧ (0 < k → ao = some ⟨b, 0, none⟩ ∧ b < w.heap.size) ∧
 (∀ i, i < k → ElQ w b i (f i).1 (f i).2 n)
theorem ElQ.keep {w W : World} {b i : Nat} {p q n : Int} (hb : b < w.heap.size) (hk : Kp w W) (h : ElQ w b i p q n) : ElQ W b i p q n := by
 obtain ⟨b1, ao1, n1, c1, b2, ao2, n2, c2, b3, ao3, n3, c3, b4, ao4, n4, c4, h0, h1, h2, h3, h4, h5, h6, h7, hr⟩ := h
 have hB := hk.block b hb
 refine ⟨b1, ao1, n1, c1, b2, ao2, n2, c2, b3, ao3, n3, c3, b4, ao4, n4, c4, (World.cell?_of_block (w := w) (a := ⟨b, 8 * i + 0, none⟩) hB).trans h0, (World.cell?_of_block (w := w) (a := ⟨b, 8 * i + 1, none⟩) hB).trans h1, (World.cell?_of_block (w := w) (a := ⟨b, 8 * i + 2, none⟩) hB).trans h2, (World.cell?_of_block (w := w) (a := ⟨b, 8 * i + 3, none⟩) hB).trans h3, (World.cell?_of_block (w := w) (a := ⟨b, 8 * i + 4, none⟩) hB).trans h4, (World.cell?_of_block (w := w) (a := ⟨b, 8 * i + 5, none⟩) hB).trans h5, (World.cell?_of_block (w := w) (a := ⟨b, 8 * i + 6, none⟩) hB).trans h6, (World.cell?_of_block (w := w) (a := ⟨b, 8 * i + 7, none⟩) hB).trans h7, hr.keep hk⟩
theorem RowQ.keep {w W : World} {v : Value} {f : Nat → Int × Int} {n : Int} {k : Nat} (hk : Kp w W) (h : RowQ w v f n k) : RowQ W v f n k := by
 obtain ⟨ao, cap, b, h1, h2, h3, h4, h5⟩ := h
 exact ⟨ao, cap, b, h1, h2, h3, fun hp => ⟨(h4 hp).1, Nat.lt_of_lt_of_le (h4 hp).2 hk.size⟩, fun i hi => (h5 i hi).keep (h4 (by omega)).2 hk⟩

set_option maxHeartbeats 3200000 in
set_option maxRecDepth 100000 in
/-- expansion.place: j is the first place where the rest stands, or the length. -/
theorem place_any (u v : Value) (f : Nat → Int × Int) (n p q : Int) (k j : Nat) (w : World) (hu : RowQ w u f n k) (hv : RR w v p q n) (hk : k ≤ 1000) (hj : j ≤ k) (hno : ∀ i, i < j → ¬ ((f i).1 = p ∧ (f i).2 = q)) (hyes : j < k → (f j).1 = p ∧ (f j).2 = q) :
 Calls Tryd.prog 60 #[u, v] w (RetV w (.int .i64 j)) := by
 obtain ⟨ao, cap, b, rfl, hc1, hc2, hc3, hc4⟩ := hu
 have HV := Hid.mk hv
 obtain ⟨b5, ao5, n5, c5, b6, ao6, n6, c6, b7, ao7, n7, c7, b8, ao8, n8, c8, rfl, _, _, _, _⟩ := id hv
 have HNO := Hid.mk hno
 have HYE := Hid.mk hyes
 have HC3 := Hid.mk hc3
 have HC4 := Hid.mk hc4
 clear hno hyes hc3 hc4 hv
 have kp0 : Kp w (w.alloc (.cells #[.bool b5, .slice ao5 n5 c5, .bool b6, .slice ao6 n6 c6, .bool b7, .slice ao7 n7 c7, .bool b8, .slice ao8 n8 c8] 69)) := kp_alloc w _
 have BY : Blk (w.alloc (.cells #[.bool b5, .slice ao5 n5 c5, .bool b6, .slice ao6 n6 c6, .bool b7, .slice ao7 n7 c7, .bool b8, .slice ao8 n8 c8] 69)) w.heap.size #[.bool b5, .slice ao5 n5 c5, .bool b6, .slice ao6 n6 c6, .bool b7, .slice ao7 n7 c7, .bool b8, .slice ao8 n8 c8] 69 := Blk.new w _ _
 go_enter Tryd.func60, Tryd.ntmps60
 go_wp2_with fail
 go_loopg [5, 8] (k + 1) (fun g _ x wr => ∃ i : Nat, x = .int .i64 i ∧ i ≤ j ∧ i + g = k + 1 ∧ Kp w wr ∧ Blk wr w.heap.size #[.bool b5, .slice ao5 n5 c5, .bool b6, .slice ao6 n6 c6, .bool b7, .slice ao7 n7 c7, .bool b8, .slice ao8 n8 c8] 69)
 case atStart => exact ⟨0, rfl, by omega, by omega, kp0, BY⟩
 case round =>
  clear BY kp0
  obtain ⟨i, rfl, hij, hig, hkr, BY⟩ := hrel
  by_cases h1 : i < k
  ·obtain ⟨rfl, hbl⟩ := HC3.out (by omega)
   obtain ⟨b1, ao1, n1, c1, b2, ao2, n2, c2, b3, ao3, n3, c3, b4, ao4, n4, c4, d0, d1, d2, d3, d4, d5, d6, d7, hr⟩ := (HC4.out i h1).keep hbl hkr
   have h1i : (i : Int) < (k : Int) := by omega
   have HS := Hid.mk (fun W (hK : Kp wr W) => qsame_any _ _ _ _ _ _ _ _ W (hr.keep hK) (HV.out.keep (hkr.trans' hK)))
   have hDB := hkr.size
   go_wp2_with fail
   go_cut [16] (fun c wx => c = .bool (decide ((f i).1 = p ∧ (f i).2 = q)) ∧ Kp wr wx)
   case first =>
    refine wp_region_l (S := fun w' => Kp wr w') (by kernel_rfl) (Kp.drew' (Below.refl _ _)) (fun hS0 => ?_)
    generalize wr.drew = wd at *
    refine wpAnyL_tk (i := 0) (k := 2) (v := .slice (some ⟨b, 0, none⟩) k cap) rfl ?_ hS0 ?_
    ·intro w' hw'; go_simp
    simp only [sq]
    refine wpAnyL_tk (i := 1) (k := 2) (v := .int .i64 i) rfl ?_ hS0 ?_
    ·intro w' hw'; go_simp
    simp only [sq]
    refine wpAnyL_tk (i := 2) (k := 3) (v := .pointer (some ⟨b, 8 * i, none⟩)) rfl ?_ hS0 ?_
    ·intro w' hw'; go_simp
    simp only [sq]
    refine wpAnyL_tk (i := 3) (k := 5) (v := .agg #[.bool b1, .slice ao1 n1 c1, .bool b2, .slice ao2 n2 c2, .bool b3, .slice ao3 n3 c3, .bool b4, .slice ao4 n4 c4]) rfl ?_ hS0 ?_
    ·intro w' hw'
     have hB := hw'.block b (by omega)
     have cz : w'.cell? ⟨b, 8 * i, none⟩ = some (.bool b1) := (World.cell?_of_block (w := wr) (a := ⟨b, 8 * i + 0, none⟩) hB).trans d0
     have c0 := (World.cell?_of_block (w := wr) (a := ⟨b, 8 * i + 0, none⟩) hB).trans d0
     have c1 := (World.cell?_of_block (w := wr) (a := ⟨b, 8 * i + 1, none⟩) hB).trans d1
     have c2 := (World.cell?_of_block (w := wr) (a := ⟨b, 8 * i + 2, none⟩) hB).trans d2
     have c3 := (World.cell?_of_block (w := wr) (a := ⟨b, 8 * i + 3, none⟩) hB).trans d3
     have c4 := (World.cell?_of_block (w := wr) (a := ⟨b, 8 * i + 4, none⟩) hB).trans d4
     have c5 := (World.cell?_of_block (w := wr) (a := ⟨b, 8 * i + 5, none⟩) hB).trans d5
     have c6 := (World.cell?_of_block (w := wr) (a := ⟨b, 8 * i + 6, none⟩) hB).trans d6
     have c7 := (World.cell?_of_block (w := wr) (a := ⟨b, 8 * i + 7, none⟩) hB).trans d7
     go_simp
    simp only [sq]
    refine wpAnyL_tk (i := 4) (k := 5) (v := .agg #[.bool b5, .slice ao5 n5 c5, .bool b6, .slice ao6 n6 c6, .bool b7, .slice ao7 n7 c7, .bool b8, .slice ao8 n8 c8]) rfl ?_ hS0 ?_
    ·intro w' hw'; have hc := (BY.keep hw').cell; go_simp
    simp only [sq]
    refine wpAnyL_last (i := 5) rfl (by kernel_rfl) (by kernel_rfl) (by kernel_rfl) (fun K hK => ?_)
    go_simp
    refine (HS.out _ hS0).mono ?_
    rintro e w1 ⟨rfl, hk1⟩
    go_wp2_with fail
    refine hK.out _ _ ?_
    clear hK K
    go_wp2_with fail
    go_meet
    case rel => exact ⟨by first | rfl | simp, hS0.trans' hk1⟩
   case rest =>
    obtain ⟨rfl, hkc⟩ := hcut
    replace BY := BY.keep hkc
    replace hkr := hkr.trans' hkc
    clear HS hkc
    by_cases h2 : i = j
    ·have hd : decide ((f i).1 = p ∧ (f i).2 = q) = true := decide_eq_true (by rw [h2]; exact HYE.out (by omega))
     rw [hd]
     subst h2
     clear hd
     go_wp2_with fail
     go_ret
     exact ⟨rfl, hkr⟩
    ·have hd : decide ((f i).1 = p ∧ (f i).2 = q) = false := decide_eq_false (HNO.out i (by omega))
     rw [hd]
     clear hd
     go_wp2_with fail
     go_roundg (k + 1 - (i + 1))
     case rel => exact ⟨i + 1, by go_num, by omega, by omega, hkr, BY⟩
     case measure => omega
  ·have h1i : ¬ (i : Int) < (k : Int) := by omega
   have hjk : j = k := by omega
   subst hjk
   have hie : i = j := by omega
   subst hie
   go_wp2_with fail
   go_ret
   exact ⟨rfl, hkr⟩

end Go.Proofs.YtjahbjjekednfabDoor
