import Derived.Test.YtjahbjjekednfabDoorX1
import Derived.Test.YtjahbjjekednfabDoorF1
import Derived.Test.YtjahbjjekednfabDoorC3a
import Derived.Test.YtjahbjjekednfabDoorRwe
import Derived.Test.YtjahbjjekednfabDoorSt
import Derived.Deep.DeepCutAuto
import Derived.Deep.LoopGhost
import Derived.Test.YtjahbjjekednfabDoorSt8
import Derived.Test.YtjahbjjekednfabDoorF8
import Derived.ArgAppend
import Derived.Test.YtjahbjjekednfabDoorQ2
namespace Go.Proofs.YtjahbjjekednfabDoor
open Go.RowKit

set_option maxHeartbeats 800000 in
theorem rational_any (a : Qn) (v : Value) (w : World) (hv : XN w v a) : Calls Tryd.prog 30 #[v] w (RetV w (.bool (decide (a.d = 1)))) := by
 obtain ⟨b1, ao1, n1, c1, b2, ao2, n2, c2, b3, ao3, n3, c3, rfl, _, _, _⟩ := hv
 have hb : (a.d == 1) = decide (a.d = 1) := rfl
 generalize decide (a.d = 1) = b at *
 go_enter Tryd.func30, Tryd.ntmps30
 go_wp2_with fail
 go_ret
 exact ⟨by rw [← hb]; rfl, kp_alloc _ _⟩

end Go.Proofs.YtjahbjjekednfabDoor

namespace Go.Proofs.YtjahbjjekednfabDoor
open Go.RowKit

theorem sgn0 (x y : Int) : ((x - y).sign == 0) = decide (x = y) := by
 by_cases h : x = y
 ·rw [h, Int.sub_self]; simp
 ·rw [decide_eq_false h, beq_eq_false_iff_ne]
  intro e
  exact h (by have := Int.sign_eq_zero_iff_zero.1 e; omega)

set_option maxHeartbeats 1600000 in
set_option maxRecDepth 100000 in
/-- expansion.same. -/
theorem qsame_any (p q n p' q' n' : Int) (u v : Value) (w : World) (hu : RR w u p q n) (hv : RR w v p' q' n') : Calls Tryd.prog 90 #[u, v] w (RetV w (.bool (decide (p = p' ∧ q = q')))) := by
 obtain ⟨b1, ao1, n1, c1, b2, ao2, n2, c2, b3, ao3, n3, c3, b4, ao4, n4, c4, rfl, g1, g2, _, _⟩ := hu
 obtain ⟨b5, ao5, n5, c5, b6, ao6, n6, c6, b7, ao7, n7, c7, b8, ao8, n8, c8, rfl, k1, k2, _, _⟩ := hv
 have kp0 : Kp w ((w.alloc (.cells #[.bool b1, .slice ao1 n1 c1, .bool b2, .slice ao2 n2 c2, .bool b3, .slice ao3 n3 c3, .bool b4, .slice ao4 n4 c4] 69)).alloc (.cells #[.bool b5, .slice ao5 n5 c5, .bool b6, .slice ao6 n6 c6, .bool b7, .slice ao7 n7 c7, .bool b8, .slice ao8 n8 c8] 69)) := Kp.alloc' (kp_alloc w _) _
 have BX : Blk ((w.alloc (.cells #[.bool b1, .slice ao1 n1 c1, .bool b2, .slice ao2 n2 c2, .bool b3, .slice ao3 n3 c3, .bool b4, .slice ao4 n4 c4] 69)).alloc (.cells #[.bool b5, .slice ao5 n5 c5, .bool b6, .slice ao6 n6 c6, .bool b7, .slice ao7 n7 c7, .bool b8, .slice ao8 n8 c8] 69)) w.heap.size #[.bool b1, .slice ao1 n1 c1, .bool b2, .slice ao2 n2 c2, .bool b3, .slice ao3 n3 c3, .bool b4, .slice ao4 n4 c4] 69 := Blk.alloc (Blk.new w _ _) _
 have BY : Blk ((w.alloc (.cells #[.bool b1, .slice ao1 n1 c1, .bool b2, .slice ao2 n2 c2, .bool b3, .slice ao3 n3 c3, .bool b4, .slice ao4 n4 c4] 69)).alloc (.cells #[.bool b5, .slice ao5 n5 c5, .bool b6, .slice ao6 n6 c6, .bool b7, .slice ao7 n7 c7, .bool b8, .slice ao8 n8 c8] 69)) (w.heap.size + 1) #[.bool b5, .slice ao5 n5 c5, .bool b6, .slice ao6 n6 c6, .bool b7, .slice ao7 n7 c7, .bool b8, .slice ao8 n8 c8] 69 := Blk.at (Blk.new (w.alloc (.cells #[.bool b1, .slice ao1 n1 c1, .bool b2, .slice ao2 n2 c2, .bool b3, .slice ao3 n3 c3, .bool b4, .slice ao4 n4 c4] 69)) _ _) (by simp)
 replace g1 := g1.keep kp0
 replace g2 := g2.keep kp0
 replace k1 := k1.keep kp0
 replace k2 := k2.keep kp0
 have e1 := sgn0 p p'
 have e2 := sgn0 q q'
 have xc := BX.cell
 have xl := BX.lt
 have yc := BY.cell
 have yl := BY.lt
 have HC1 := wcompare_any p p' _ _ _ g1 k1
 have HC2 := Hid.mk (fun W (a : WN W (.agg #[.bool b2, .slice ao2 n2 c2]) q) (b : WN W (.agg #[.bool b6, .slice ao6 n6 c6]) q') => wcompare_any q q' _ _ W a b)
 generalize (p - p').sign = S1 at *
 generalize (q - q').sign = S2 at *
 by_cases h1 : p = p'
 ·have f1 : (S1 == 0) = true := by rw [e1]; exact decide_eq_true h1
  have f1' : (S1 != 0) = false := by simp only [bne, f1]; rfl
  have ED : Hid (decide (p = p' ∧ q = q') = (S2 == 0)) := by
   unfold Hid
   rw [e2]
   simp [h1]
  clear e1 e2 h1
  go_enter Tryd.func90, Tryd.ntmps90
  go_wp2_with fail
  refine HC1.mono ?_
  rintro e w1 ⟨rfl, hk1⟩
  replace BX := BX.keep hk1
  replace BY := BY.keep hk1
  have xc1 := BX.cell
  have xl1 := BX.lt
  have yc1 := BY.cell
  have yl1 := BY.lt
  clear xc xl yc yl HC1
  go_wp2_with fail
  refine (HC2.out _ (g2.keep hk1) (k2.keep hk1)).mono ?_
  rintro e w2 ⟨rfl, hk2⟩
  go_wp2_with fail
  go_ret
  exact ⟨by rw [ED.out]; rfl, (kp0.trans' hk1).trans' hk2⟩
 ·have f1 : (S1 == 0) = false := by rw [e1]; exact decide_eq_false h1
  have f1' : (S1 != 0) = true := by simp only [bne, f1]; rfl
  have ED : Hid (decide (p = p' ∧ q = q') = false) := decide_eq_false (fun k => h1 k.1)
  clear e1 e2 h1
  go_enter Tryd.func90, Tryd.ntmps90
  go_wp2_with fail
  refine HC1.mono ?_
  rintro e w1 ⟨rfl, hk1⟩
  go_wp2_with fail
  go_ret
  exact ⟨by rw [ED.out]; rfl, kp0.trans' hk1⟩
/-- The element at place i of a row of rests. -/
def ElQ (w : World) (b i : Nat) (p q n : Int) : Prop := ∃ (b1 : Bool) (ao1 : Option Addr) (n1 c1 : Nat) (b2 : Bool) (ao2 : Option Addr) (n2 c2 : Nat) (b3 : Bool) (ao3 : Option Addr) (n3 c3 : Nat) (b4 : Bool) (ao4 : Option Addr) (n4 c4 : Nat), w.cell? ⟨b, 8 * i + 0, none⟩ = some (.bool b1) ∧ w.cell? ⟨b, 8 * i + 1, none⟩ = some (.slice ao1 n1 c1) ∧ w.cell? ⟨b, 8 * i + 2, none⟩ = some (.bool b2) ∧ w.cell? ⟨b, 8 * i + 3, none⟩ = some (.slice ao2 n2 c2) ∧ w.cell? ⟨b, 8 * i + 4, none⟩ = some (.bool b3) ∧ w.cell? ⟨b, 8 * i + 5, none⟩ = some (.slice ao3 n3 c3) ∧ w.cell? ⟨b, 8 * i + 6, none⟩ = some (.bool b4) ∧ w.cell? ⟨b, 8 * i + 7, none⟩ = some (.slice ao4 n4 c4) ∧ RR w (.agg #[.bool b1, .slice ao1 n1 c1, .bool b2, .slice ao2 n2 c2, .bool b3, .slice ao3 n3 c3, .bool b4, .slice ao4 n4 c4]) p q n
/-- The slice v holds the first k rests of f. -/
def RowQ (w : World) (v : Value) (f : Nat → Int × Int) (n : Int) (k : Nat) : Prop := ∃ (ao : Option Addr) (cap b : Nat), v = .slice ao k cap ∧ k ≤ cap ∧ cap ≤ 9223372036854775807 ∧ (0 < k → ao = some ⟨b, 0, none⟩ ∧ b < w.heap.size) ∧
 (∀ i, i < k → ElQ w b i (f i).1 (f i).2 n)
theorem ElQ.keep {w W : World} {b i : Nat} {p q n : Int} (hb : b < w.heap.size) (hk : Kp w W) (h : ElQ w b i p q n) : ElQ W b i p q n := by
 obtain ⟨b1, ao1, n1, c1, b2, ao2, n2, c2, b3, ao3, n3, c3, b4, ao4, n4, c4, h0, h1, h2, h3, h4, h5, h6, h7, hr⟩ := h
 have hB := hk.block b hb
 refine ⟨b1, ao1, n1, c1, b2, ao2, n2, c2, b3, ao3, n3, c3, b4, ao4, n4, c4, (World.cell?_of_block (w := w) (a := ⟨b, 8 * i + 0, none⟩) hB).trans h0, (World.cell?_of_block (w := w) (a := ⟨b, 8 * i + 1, none⟩) hB).trans h1, (World.cell?_of_block (w := w) (a := ⟨b, 8 * i + 2, none⟩) hB).trans h2, (World.cell?_of_block (w := w) (a := ⟨b, 8 * i + 3, none⟩) hB).trans h3, (World.cell?_of_block (w := w) (a := ⟨b, 8 * i + 4, none⟩) hB).trans h4, (World.cell?_of_block (w := w) (a := ⟨b, 8 * i + 5, none⟩) hB).trans h5, (World.cell?_of_block (w := w) (a := ⟨b, 8 * i + 6, none⟩) hB).trans h6, (World.cell?_of_block (w := w) (a := ⟨b, 8 * i + 7, none⟩) hB).trans h7, hr.keep hk⟩
theorem RowQ.keep {w W : World} {v : Value} {f : Nat → Int × Int} {n : Int} {k : Nat} (hk : Kp w W) (h : RowQ w v f n k) : RowQ W v f n k := by
 obtain ⟨ao, cap, b, h1, h2, h3, h4, h5⟩ := h
 exact ⟨ao, cap, b, h1, h2, h3, fun hp => ⟨(h4 hp).1, Nat.lt_of_lt_of_le (h4 hp).2 hk.size⟩, fun i hi => (h5 i hi).keep (h4 (by omega)).2 hk⟩

set_option maxHeartbeats 3200000 in
set_option maxRecDepth 100000 in
/-- expansion.place: j is the first place where the rest stands, or the length. -/
theorem place_any (u v : Value) (f : Nat → Int × Int) (n p q : Int) (k j : Nat) (w : World) (hu : RowQ w u f n k) (hv : RR w v p q n) (hk : k ≤ 1000) (hj : j ≤ k) (hno : ∀ i, i < j → ¬ ((f i).1 = p ∧ (f i).2 = q)) (hyes : j < k → (f j).1 = p ∧ (f j).2 = q) :
 Calls Tryd.prog 60 #[u, v] w (RetV w (.int .i64 j)) := by
 obtain ⟨ao, cap, b, rfl, hc1, hc2, hc3, hc4⟩ := hu
 have HV := Hid.mk hv
 obtain ⟨b5, ao5, n5, c5, b6, ao6, n6, c6, b7, ao7, n7, c7, b8, ao8, n8, c8, rfl, _, _, _, _⟩ := id hv
 have HNO := Hid.mk hno
 have HYE := Hid.mk hyes
 have HC3 := Hid.mk hc3
 have HC4 := Hid.mk hc4
 clear hno hyes hc3 hc4 hv
 have kp0 : Kp w (w.alloc (.cells #[.bool b5, .slice ao5 n5 c5, .bool b6, .slice ao6 n6 c6, .bool b7, .slice ao7 n7 c7, .bool b8, .slice ao8 n8 c8] 69)) := kp_alloc w _
 have BY : Blk (w.alloc (.cells #[.bool b5, .slice ao5 n5 c5, .bool b6, .slice ao6 n6 c6, .bool b7, .slice ao7 n7 c7, .bool b8, .slice ao8 n8 c8] 69)) w.heap.size #[.bool b5, .slice ao5 n5 c5, .bool b6, .slice ao6 n6 c6, .bool b7, .slice ao7 n7 c7, .bool b8, .slice ao8 n8 c8] 69 := Blk.new w _ _
 go_enter Tryd.func60, Tryd.ntmps60
 go_wp2_with fail
 go_loopg [5, 8] (k + 1) (fun g _ x wr => ∃ i : Nat, x = .int .i64 i ∧ i ≤ j ∧ i + g = k + 1 ∧ Kp w wr ∧ Blk wr w.heap.size #[.bool b5, .slice ao5 n5 c5, .bool b6, .slice ao6 n6 c6, .bool b7, .slice ao7 n7 c7, .bool b8, .slice ao8 n8 c8] 69)
 case atStart => exact ⟨0, rfl, by omega, by omega, kp0, BY⟩
 case round =>
  clear BY kp0
  obtain ⟨i, rfl, hij, hig, hkr, BY⟩ := hrel
  by_cases h1 : i < k
  ·obtain ⟨rfl, hbl⟩ := HC3.out (by omega)
   obtain ⟨b1, ao1, n1, c1, b2, ao2, n2, c2, b3, ao3, n3, c3, b4, ao4, n4, c4, d0, d1, d2, d3, d4, d5, d6, d7, hr⟩ := (HC4.out i h1).keep hbl hkr
   have h1i : (i : Int) < (k : Int) := by omega
   have HS := Hid.mk (fun W (hK : Kp wr W) => qsame_any _ _ _ _ _ _ _ _ W (hr.keep hK) (HV.out.keep (hkr.trans' hK)))
   have hDB := hkr.size
   go_wp2_with fail
   go_cut [16] (fun c wx => c = .bool (decide ((f i).1 = p ∧ (f i).2 = q)) ∧ Kp wr wx)
   case first =>
    refine wp_region_l (S := fun w' => Kp wr w') (by kernel_rfl) (Kp.drew' (Below.refl _ _)) (fun hS0 => ?_)
    generalize wr.drew = wd at *
    refine wpAnyL_tk (i := 0) (k := 2) (v := .slice (some ⟨b, 0, none⟩) k cap) rfl ?_ hS0 ?_
    ·intro w' hw'; go_simp
    simp only [sq]
    refine wpAnyL_tk (i := 1) (k := 2) (v := .int .i64 i) rfl ?_ hS0 ?_
    ·intro w' hw'; go_simp
    simp only [sq]
    refine wpAnyL_tk (i := 2) (k := 3) (v := .pointer (some ⟨b, 8 * i, none⟩)) rfl ?_ hS0 ?_
    ·intro w' hw'; go_simp
    simp only [sq]
    refine wpAnyL_tk (i := 3) (k := 5) (v := .agg #[.bool b1, .slice ao1 n1 c1, .bool b2, .slice ao2 n2 c2, .bool b3, .slice ao3 n3 c3, .bool b4, .slice ao4 n4 c4]) rfl ?_ hS0 ?_
    ·intro w' hw'
     have hB := hw'.block b (by omega)
     have cz : w'.cell? ⟨b, 8 * i, none⟩ = some (.bool b1) := (World.cell?_of_block (w := wr) (a := ⟨b, 8 * i + 0, none⟩) hB).trans d0
     have c0 := (World.cell?_of_block (w := wr) (a := ⟨b, 8 * i + 0, none⟩) hB).trans d0
     have c1 := (World.cell?_of_block (w := wr) (a := ⟨b, 8 * i + 1, none⟩) hB).trans d1
     have c2 := (World.cell?_of_block (w := wr) (a := ⟨b, 8 * i + 2, none⟩) hB).trans d2
     have c3 := (World.cell?_of_block (w := wr) (a := ⟨b, 8 * i + 3, none⟩) hB).trans d3
     have c4 := (World.cell?_of_block (w := wr) (a := ⟨b, 8 * i + 4, none⟩) hB).trans d4
     have c5 := (World.cell?_of_block (w := wr) (a := ⟨b, 8 * i + 5, none⟩) hB).trans d5
     have c6 := (World.cell?_of_block (w := wr) (a := ⟨b, 8 * i + 6, none⟩) hB).trans d6
     have c7 := (World.cell?_of_block (w := wr) (a := ⟨b, 8 * i + 7, none⟩) hB).trans d7
     go_simp
    simp only [sq]
    refine wpAnyL_tk (i := 4) (k := 5) (v := .agg #[.bool b5, .slice ao5 n5 c5, .bool b6, .slice ao6 n6 c6, .bool b7, .slice ao7 n7 c7, .bool b8, .slice ao8 n8 c8]) rfl ?_ hS0 ?_
    ·intro w' hw'; have hc := (BY.keep hw').cell; go_simp
    simp only [sq]
    refine wpAnyL_last (i := 5) rfl (by kernel_rfl) (by kernel_rfl) (by kernel_rfl) (fun K hK => ?_)
    go_simp
    refine (HS.out _ hS0).mono ?_
    rintro e w1 ⟨rfl, hk1⟩
    go_wp2_with fail
    refine hK.out _ _ ?_
    clear hK K
    go_wp2_with fail
    go_meet
    case rel => exact ⟨by first | rfl | simp, hS0.trans' hk1⟩
   case rest =>
    obtain ⟨rfl, hkc⟩ := hcut
    replace BY := BY.keep hkc
    replace hkr := hkr.trans' hkc
    clear HS hkc
    by_cases h2 : i = j
    ·have hd : decide ((f i).1 = p ∧ (f i).2 = q) = true := decide_eq_true (by rw [h2]; exact HYE.out (by omega))
     rw [hd]
     subst h2
     clear hd
     go_wp2_with fail
     go_ret
     exact ⟨rfl, hkr⟩
    ·have hd : decide ((f i).1 = p ∧ (f i).2 = q) = false := decide_eq_false (HNO.out i (by omega))
     rw [hd]
     clear hd
     go_wp2_with fail
     go_roundg (k + 1 - (i + 1))
     case rel => exact ⟨i + 1, by go_num, by omega, by omega, hkr, BY⟩
     case measure => omega
  ·have h1i : ¬ (i : Int) < (k : Int) := by omega
   have hjk : j = k := by omega
   subst hjk
   have hie : i = j := by omega
   subst hie
   go_wp2_with fail
   go_ret
   exact ⟨rfl, hkr⟩

end Go.Proofs.YtjahbjjekednfabDoor

namespace Go.Proofs.YtjahbjjekednfabDoor
open Go.RowKit

theorem Tryd.infoRest : (Tryd.prog.info? 69).map (fun i => (i.zero, i.size, i.bytes)) = some (some (.agg #[.bool false, .slice none 0 0, .bool false, .slice none 0 0, .bool false, .slice none 0 0, .bool false, .slice none 0 0]), 8, 128) := by kernel_rfl
theorem qof_any (a : Qn) (m : Nat) (v : Value) (w : World) (hv : XN w v a) (hm : m ≤ 40000000) (f : QF m a) (hd : QD a) : Calls Tryd.prog 32 #[v] w (RetRR w (p0 a) (q0 a) (n0 a)) := by
 unfold p0 q0 n0
 by_cases h : a.q < 0
 ·rw [if_pos h, if_pos h]
  exact of_neg a m v w hv hm f hd (Int.sign_eq_neg_one_of_neg h)
 ·rw [if_neg h, if_neg h]
  refine of_pos a m v w hv hm f hd ?_
  rcases sign3 a.q with ⟨s1, h1⟩ | ⟨s1, h1⟩ | ⟨s1, h1⟩ <;> omega
/-- Rests of eight cells, one behind the other. -/
def IsQ (w : World) (xs : List Value) (f : Nat → Int × Int) (n : Int) (k : Nat) : Prop := ∀ i, i < k → ∃ (b1 : Bool) (ao1 : Option Addr) (n1 c1 : Nat) (b2 : Bool) (ao2 : Option Addr) (n2 c2 : Nat) (b3 : Bool) (ao3 : Option Addr) (n3 c3 : Nat) (b4 : Bool) (ao4 : Option Addr) (n4 c4 : Nat), xs[8 * i + 0]? = some (.bool b1) ∧ xs[8 * i + 1]? = some (.slice ao1 n1 c1) ∧ xs[8 * i + 2]? = some (.bool b2) ∧ xs[8 * i + 3]? = some (.slice ao2 n2 c2) ∧ xs[8 * i + 4]? = some (.bool b3) ∧ xs[8 * i + 5]? = some (.slice ao3 n3 c3) ∧ xs[8 * i + 6]? = some (.bool b4) ∧ xs[8 * i + 7]? = some (.slice ao4 n4 c4) ∧ RR w (.agg #[.bool b1, .slice ao1 n1 c1, .bool b2, .slice ao2 n2 c2, .bool b3, .slice ao3 n3 c3, .bool b4, .slice ao4 n4 c4]) (f i).1 (f i).2 n
theorem IsQ.soft {w W : World} {xs : List Value} {f : Nat → Int × Int} {n : Int} {k : Nat} (hs : Sf 2 w W) (h : IsQ w xs f n k) : IsQ W xs f n k := fun i hi => by
 obtain ⟨b1, ao1, n1, c1, b2, ao2, n2, c2, b3, ao3, n3, c3, b4, ao4, n4, c4, h0, h1, h2, h3, h4, h5, h6, h7, hr⟩ := h i hi
 exact ⟨b1, ao1, n1, c1, b2, ao2, n2, c2, b3, ao3, n3, c3, b4, ao4, n4, c4, h0, h1, h2, h3, h4, h5, h6, h7, hr.soft hs⟩
theorem IsQ.snoc {w : World} {xs : List Value} {f : Nat → Int × Int} {n : Int} {k : Nat} (h : IsQ w xs f n k) (hl : xs.length = 8 * k) {b1 : Bool} {ao1 : Option Addr} {n1 c1 : Nat} {b2 : Bool} {ao2 : Option Addr} {n2 c2 : Nat} {b3 : Bool} {ao3 : Option Addr} {n3 c3 : Nat} {b4 : Bool} {ao4 : Option Addr} {n4 c4 : Nat} (hr : RR w (.agg #[.bool b1, .slice ao1 n1 c1, .bool b2, .slice ao2 n2 c2, .bool b3, .slice ao3 n3 c3, .bool b4, .slice ao4 n4 c4]) (f k).1 (f k).2 n) : IsQ w (xs ++ [.bool b1, .slice ao1 n1 c1, .bool b2, .slice ao2 n2 c2, .bool b3, .slice ao3 n3 c3, .bool b4, .slice ao4 n4 c4]) f n (k + 1) := by
 intro i hi
 by_cases h1 : i < k
 ·obtain ⟨b11, ao11, n11, c11, b12, ao12, n12, c12, b13, ao13, n13, c13, b14, ao14, n14, c14, h0, h1, h2, h3, h4, h5, h6, h7, hq⟩ := h i h1
  exact ⟨b11, ao11, n11, c11, b12, ao12, n12, c12, b13, ao13, n13, c13, b14, ao14, n14, c14, by rw [List.getElem?_append_left (by omega)]; exact h0, by rw [List.getElem?_append_left (by omega)]; exact h1, by rw [List.getElem?_append_left (by omega)]; exact h2, by rw [List.getElem?_append_left (by omega)]; exact h3, by rw [List.getElem?_append_left (by omega)]; exact h4, by rw [List.getElem?_append_left (by omega)]; exact h5, by rw [List.getElem?_append_left (by omega)]; exact h6, by rw [List.getElem?_append_left (by omega)]; exact h7, hq⟩
 ·have e : i = k := by omega
  subst e
  refine ⟨b1, ao1, n1, c1, b2, ao2, n2, c2, b3, ao3, n3, c3, b4, ao4, n4, c4, ?_, ?_, ?_, ?_, ?_, ?_, ?_, ?_, hr⟩
  all_goals rw [List.getElem?_append_right (by omega), hl]
  ·simp
  ·rw [show 8 * i + 1 - 8 * i = 1 by omega]; rfl
  ·rw [show 8 * i + 2 - 8 * i = 2 by omega]; rfl
  ·rw [show 8 * i + 3 - 8 * i = 3 by omega]; rfl
  ·rw [show 8 * i + 4 - 8 * i = 4 by omega]; rfl
  ·rw [show 8 * i + 5 - 8 * i = 5 by omega]; rfl
  ·rw [show 8 * i + 6 - 8 * i = 6 by omega]; rfl
  ·rw [show 8 * i + 7 - 8 * i = 7 by omega]; rfl
theorem RowQ.of_owns {w : World} {base : Nat} {v : Value} {f : Nat → Int × Int} {n : Int} {k : Nat} {xs : List Value} (h : w.ownsRow base 69 8 v k xs) (hi : IsQ w xs f n k) : RowQ w v f n k := by
 obtain ⟨hl, h2⟩ := h
 rcases h2 with ⟨rfl, hz⟩ | ⟨g, cap, cur, rfl, hb, hg, hc, hm, hs, ht⟩
 ·exact ⟨none, 0, 0, by rw [hz], by omega, by omega, fun hp => absurd hp (by omega), fun i hi => absurd hi (by omega)⟩
 ·refine ⟨some ⟨g, 0, none⟩, cap, g, rfl, by omega, by unfold maxLen at hm; omega, fun _ => ⟨rfl, ?_⟩, fun i hii => ?_⟩
  ·by_cases hlt : g < w.heap.size
   ·exact hlt
   ·rw [Array.getElem?_eq_none (by omega)] at hg
    exact absurd hg (by simp)
  ·obtain ⟨b1, ao1, n1, c1, b2, ao2, n2, c2, b3, ao3, n3, c3, b4, ao4, n4, c4, h0, h1, h2, h3, h4, h5, h6, h7, hq⟩ := hi i hii
   have cell : ∀ j u, xs[j]? = some u → w.cell? ⟨g, j, none⟩ = some u := by
    intro j u hj
    rw [← ht, List.getElem?_take] at hj
    split at hj
    ·simp only [World.cell?, hg]
     rw [Array.getElem?_toList] at hj
     simpa using hj
    ·exact absurd hj (by simp)
   exact ⟨b1, ao1, n1, c1, b2, ao2, n2, c2, b3, ao3, n3, c3, b4, ao4, n4, c4, cell _ _ h0, cell _ _ h1, cell _ _ h2, cell _ _ h3, cell _ _ h4, cell _ _ h5, cell _ _ h6, cell _ _ h7, hq⟩
/-- The list of the rests so far: empty yet, or a row of its own that lies behind block AR. -/
def Seen (w : World) (AR g0 : Nat) (s : Value) (f : Nat → Int × Int) (n : Int) (j : Nat) : Prop :=
 (j = 0 ∧ s = .slice (some ⟨g0, 0, none⟩) 0 0) ∨ ∃ base xs, AR < base ∧ base ≤ w.heap.size ∧ w.ownsRow base 69 8 s j xs ∧ IsQ w xs f n j
theorem Seen.keep {w W : World} {AR g0 : Nat} {s : Value} {f : Nat → Int × Int} {n : Int} {j : Nat} (hk : Kp w W) (h : Seen w AR g0 s f n j) : Seen W AR g0 s f n j := by
 rcases h with h | ⟨base, xs, h1, h2, h3, h4⟩
 ·exact Or.inl h
 ·exact Or.inr ⟨base, xs, h1, Nat.le_trans h2 hk.size, owns_keep hk h3, h4.soft (Sf.keep hk)⟩
theorem Seen.row {w : World} {AR g0 : Nat} {s : Value} {f : Nat → Int × Int} {n : Int} {j : Nat} (h : Seen w AR g0 s f n j) : RowQ w s f n j := by
 rcases h with ⟨rfl, rfl⟩ | ⟨base, xs, _, _, h3, h4⟩
 ·exact ⟨_, 0, 0, rfl, by omega, by omega, fun hp => absurd hp (by omega), fun i hi => absurd hi (by omega)⟩
 ·exact RowQ.of_owns h3 h4
theorem Seen.shape {w : World} {AR g0 : Nat} {s : Value} {f : Nat → Int × Int} {n : Int} {j : Nat} (h : Seen w AR g0 s f n j) : ∃ ao cap, s = .slice ao j cap := by
 obtain ⟨ao, cap, _, h1, _⟩ := h.row
 exact ⟨ao, cap, h1⟩
theorem owns_set {w : World} {base : Nat} {e : TypeId} {size : Nat} {v : Value} {n : Nat} {xs : List Value} {A o : Nat} {y : Value} (hA : A < base) (h : w.ownsRow base e size v n xs) : (w.setCell ⟨A, o, none⟩ y).ownsRow base e size v n xs := by
 obtain ⟨hl, h2⟩ := h
 refine ⟨hl, ?_⟩
 rcases h2 with h2 | ⟨g, cap, cur, h3, hb, hg, hr⟩
 ·exact Or.inl h2
 ·refine Or.inr ⟨g, cap, cur, h3, hb, ?_, hr⟩
  rw [Below.heap_setCell w ⟨A, o, none⟩ y g (by simp; omega)]
  exact hg
theorem Seen.stored {w : World} {AR g0 : Nat} {s : Value} {f : Nat → Int × Int} {n : Int} {j : Nat} {cs : Array Value} (hB : Blk w AR cs 69) (h : Seen w AR g0 s f n j) (x0 x1 x2 x3 x4 x5 x6 x7 : Value) : Seen ((((((((w.setCell ⟨AR, 0, none⟩ (x0)).setCell ⟨AR, 1, none⟩ (x1)).setCell ⟨AR, 2, none⟩ (x2)).setCell ⟨AR, 3, none⟩ (x3)).setCell ⟨AR, 4, none⟩ (x4)).setCell ⟨AR, 5, none⟩ (x5)).setCell ⟨AR, 6, none⟩ (x6)).setCell ⟨AR, 7, none⟩ (x7)) AR g0 s f n j := by
 have hs := sf8 (E := 2) x0 x1 x2 x3 x4 x5 x6 x7 hB (by decide)
 rcases h with h | ⟨base, xs, h1, h2, h3, h4⟩
 ·exact Or.inl h
 ·exact Or.inr ⟨base, xs, h1, by simp only [size_setCell']; exact h2, owns_set h1 (owns_set h1 (owns_set h1 (owns_set h1 (owns_set h1 (owns_set h1 (owns_set h1 (owns_set h1 h3))))))), h4.soft hs⟩
def perV (J i : Nat) : Value := if J ≤ 200 then .tuple #[.int .i64 i, .int .i64 ((J : Int) - i), .bool true] else .tuple #[.int .i64 0, .int .i64 0, .bool false]

set_option maxHeartbeats 6400000 in
set_option maxRecDepth 100000 in
/-- expansion.Period: the rest J is the first that was there before, at i; or J is 201. -/
theorem period_any (a : Qn) (J i : Nat) (v : Value) (w : World) (hv : XN w v a) (hc : Cn a) (f : QF 1100000 a) (hd : QD a) (hq : ∀ j, j ≤ 201 → (rs a j).2 ≠ 0) (hJ : J ≤ 201)
 (hno : ∀ j, j < J → ∀ i, i < j → ¬ ((rs a i).1 = (rs a j).1 ∧ (rs a i).2 = (rs a j).2)) (hyes : J ≤ 200 → i < J ∧ (rs a i).1 = (rs a J).1 ∧ (rs a i).2 = (rs a J).2) :
 Calls Tryd.prog 31 #[v, .int .i64 200] w (RetV w (perV J i)) := by
 obtain ⟨i0, hi, hz0, hz1, hz2⟩ := info_parts Tryd.infoRest
 have HSZ : Hid (∀ j, j ≤ 201 → Sz a j) := fun j hj => sz_all hc f (by omega) (fun k hk => hq k (by omega))
 have HNN := Hid.mk (n0_nn hc)
 have HOF := Hid.mk (fun (W : World) (hW : XN W v a) => qof_any a 1100000 v W hW (by decide) f hd)
 have HQ := Hid.mk hq
 have HNO := Hid.mk hno
 have HYE := Hid.mk hyes
 obtain ⟨b21, ao21, n21, c21, b22, ao22, n22, c22, b23, ao23, n23, c23, rfl, _, _, _⟩ := id hv
 clear hc f hd hq hno hyes
 generalize a.d = D at *
 have kp0 : Kp w ((w.alloc (.cells #[.bool b21, .slice ao21 n21 c21, .bool b22, .slice ao22 n22 c22, .bool b23, .slice ao23 n23 c23, .int .i64 D] 62)).alloc (.cells #[] 69)) := Kp.alloc' (kp_alloc w _) _
 have BX : Blk ((w.alloc (.cells #[.bool b21, .slice ao21 n21 c21, .bool b22, .slice ao22 n22 c22, .bool b23, .slice ao23 n23 c23, .int .i64 D] 62)).alloc (.cells #[] 69)) w.heap.size #[.bool b21, .slice ao21 n21 c21, .bool b22, .slice ao22 n22 c22, .bool b23, .slice ao23 n23 c23, .int .i64 D] 62 := Blk.alloc (Blk.new w _ _) _
 have hO := HOF.out _ (hv.keep kp0)
 have bxc := BX.cell
 have bxl := BX.lt
 go_enter Tryd.func31, Tryd.ntmps31
 go_wp2_with fail
 refine hO.mono ?_
 rintro e w3 ⟨v3, rfl, hR0, hk3⟩
 obtain ⟨b1, ao1, n1, c1, b2, ao2, n2, c2, b3, ao3, n3, c3, b4, ao4, n4, c4, rfl, _, _, _, _⟩ := id hR0
 have BR0 := Blk.new w3 #[.bool b1, .slice ao1 n1 c1, .bool b2, .slice ao2 n2 c2, .bool b3, .slice ao3 n3 c3, .bool b4, .slice ao4 n4 c4] 69
 have hkw0 := (kp0.trans' hk3).alloc' (.cells #[.bool b1, .slice ao1 n1 c1, .bool b2, .slice ao2 n2 c2, .bool b3, .slice ao3 n3 c3, .bool b4, .slice ao4 n4 c4] 69)
 replace hR0 := hR0.keep (kp_alloc w3 (.cells #[.bool b1, .slice ao1 n1 c1, .bool b2, .slice ao2 n2 c2, .bool b3, .slice ao3 n3 c3, .bool b4, .slice ao4 n4 c4] 69))
 have hAR : w.heap.size ≤ w3.heap.size := (kp0.trans' hk3).size
 clear kp0 BX hO bxc bxl hk3 HOF hv
 go_wp2_with fail
 generalize w3.alloc (.cells #[.bool b1, .slice ao1 n1 c1, .bool b2, .slice ao2 n2 c2, .bool b3, .slice ao3 n3 c3, .bool b4, .slice ao4 n4 c4] 69) = wa at *
 generalize w3.heap.size = AR at *
 go_loopg [7, 9, 10, 11] 202 (fun g s _ _ _ wr => ∃ (j : Nat) (b1 : Bool) (ao1 : Option Addr) (n1 c1 : Nat) (b2 : Bool) (ao2 : Option Addr) (n2 c2 : Nat) (b3 : Bool) (ao3 : Option Addr) (n3 c3 : Nat) (b4 : Bool) (ao4 : Option Addr) (n4 c4 : Nat), j + g = 202 ∧ j ≤ J ∧ Blk wr AR #[.bool b1, .slice ao1 n1 c1, .bool b2, .slice ao2 n2 c2, .bool b3, .slice ao3 n3 c3, .bool b4, .slice ao4 n4 c4] 69 ∧ RR wr (.agg #[.bool b1, .slice ao1 n1 c1, .bool b2, .slice ao2 n2 c2, .bool b3, .slice ao3 n3 c3, .bool b4, .slice ao4 n4 c4]) (rs a j).1 (rs a j).2 (n0 a) ∧ Hid (Seen wr AR (w.heap.size + 1) s (rs a) (n0 a) j) ∧ Kp w wr)
 case atStart => exact ⟨0, _, _, _, _, _, _, _, _, _, _, _, _, _, _, _, _, rfl, by omega, BR0, hR0, Or.inl ⟨rfl, rfl⟩, hkw0⟩
 case round =>
  clear BR0 hR0 hkw0
  obtain ⟨j, b1, ao1, n1, c1, b2, ao2, n2, c2, b3, ao3, n3, c3, b4, ao4, n4, c4, hjg, hjJ, BR, hR, hSEEN, hkr⟩ := hrel
  obtain ⟨sao, scap, hsh⟩ := hSEEN.out.shape
  subst hsh
  by_cases hj2 : j ≤ 200
  ·have hji : (j : Int) ≤ 200 := by omega
   have hEn := ended_any _ _ _ _ wr hR
   rw [decide_eq_false (HQ.out j (by omega))] at hEn
   have brc := BR.cell
   have brl := BR.lt
   go_wp2_with fail
   refine hEn.mono ?_
   rintro e w4 ⟨rfl, hk4⟩
   replace BR := BR.keep hk4
   replace hR := hR.keep hk4
   replace hkr := hkr.trans' hk4
   replace hSEEN := Hid.mk (hSEEN.out.keep hk4)
   clear brc brl hEn hk4
   have brc := BR.cell
   have brl := BR.lt
   by_cases hjE : j = J
   ·obtain ⟨y1, y2, y3⟩ := HYE.out (by omega)
    have hPl := place_any _ _ (rs a) (n0 a) _ _ j i w4 hSEEN.out.row hR (by omega) (by omega) (fun i' hi' k => HNO.out i (by omega) i' hi' ⟨by rw [k.1, y2, hjE], by rw [k.2, y3, hjE]⟩) (fun _ => ⟨by rw [y2, hjE], by rw [y3, hjE]⟩)
    have HPV : Hid (perV J i = .tuple #[.int .i64 i, .int .i64 ((j : Int) - i), .bool true]) := by
     unfold Hid perV
     rw [if_pos (by omega), hjE]
    have hij : (i : Int) < (j : Int) := by omega
    clear y1 y2 y3 hjE
    go_wp2_with fail
    refine hPl.mono ?_
    rintro e w5 ⟨rfl, hk5⟩
    go_wp2_with fail
    refine bodyPost_ret (v := .tuple #[.int .i64 i, .int .i64 ((j : Int) - i), .bool true]) (by simp [results, Tryd.results31, go_sem]) rfl ?_
    exact ⟨by rw [HPV.out], hkr.trans' hk5⟩
   ·have hPl := place_any _ _ (rs a) (n0 a) _ _ j j w4 hSEEN.out.row hR (by omega) (by omega) (fun i' hi' => HNO.out j (by omega) i' hi') (fun h => absurd h (by omega))
    have hjJ2 : j + 1 ≤ J := by omega
    clear hjE
    go_wp2_with fail
    refine hPl.mono ?_
    rintro e w5 ⟨rfl, hk5⟩
    replace BR := BR.keep hk5
    replace hR := hR.keep hk5
    replace hkr := hkr.trans' hk5
    replace hSEEN := Hid.mk (hSEEN.out.keep hk5)
    clear brc brl hPl hk5
    have brc := BR.cell
    have brl := BR.lt
    rcases hSEEN.out with ⟨hj0, hs0⟩ | ⟨base, xs, hb1, hb2, hown, hIQ⟩
    ·simp only [Value.slice.injEq] at hs0
     obtain ⟨rfl, _, rfl⟩ := hs0
     subst hj0
     go_wp2_with (at_builtin; (refine wpList_append_grows _ rfl _ _ 101 rfl 69 i0 _ 8 128 Tryd.underlying101 hi hz0 hz1 hz2 rfl (by decide) (some ⟨w.heap.size + 1, 0, none⟩) 0 0 [] rfl (fun h => by cases h) rfl (fun b hb k u hu => by simp at hu) ⟨w5.heap.size, 0, none⟩ 1 1 [.bool b1, .slice ao1 n1 c1, .bool b2, .slice ao2 n2 c2, .bool b3, .slice ao3 n3 c3, .bool b4, .slice ao4 n4 c4] rfl rfl (cells_new w5 #[.bool b1, .slice ao1 n1 c1, .bool b2, .slice ao2 n2 c2, .bool b3, .slice ao3 n3 c3, .bool b4, .slice ao4 n4 c4] 69) (by simp [Value.oneCell']) (by decide) (by unfold maxLen; omega) (by decide) ?_))
     intro s' w7 hown' hgr
     have hsf : Sf 2 w5 w7 := (Sf.keep (kp_alloc w5 _)).trans ⟨fun k hk => hgr.block k (elemOf_lt hk) (by simp)⟩
     replace BR := Blk.grown hgr (by simp) (BR.alloc _)
     replace hkr := (hkr.alloc' _).grown' hgr (fun k h => by cases h)
     have hIS : IsQ w7 ([] ++ [.bool b1, .slice ao1 n1 c1, .bool b2, .slice ao2 n2 c2, .bool b3, .slice ao3 n3 c3, .bool b4, .slice ao4 n4 c4]) (rs a) (n0 a) (0 + 1) := IsQ.snoc (fun i hi => absurd hi (by omega)) rfl (hR.soft hsf)
     replace hR := hR.soft hsf
     have hAR5 : AR < w5.heap.size := brl
     replace hSEEN : Hid (Seen w7 AR (w.heap.size + 1) s' (rs a) (n0 a) (0 + 1)) := Or.inr ⟨w5.heap.size + 1, _, by omega, by have := hgr.size; simpa using this, hown', hIS⟩
     obtain ⟨sao2, scap2, hsh⟩ := hSEEN.out.shape
     subst hsh
     clear hown' hgr hsf hIS brc brl hAR5
     have hq := HQ.out 0 (by omega)
     have hs := HSZ.out 0 (by omega)
     have hNx := next_any _ _ _ 4500000 _ _ hR (by decide) (hs.p.mono (by decide)) (hs.q.mono (by decide)) hs.n (hs.r.mono (by decide)) hq HNN.out
     clear hq hs
     have brc := BR.cell
     have brl := BR.lt
     go_wp2_with fail
     refine hNx.mono ?_
     rintro e w6 ⟨ut, uy, rfl, hT, hY, hk6⟩
     obtain ⟨b9, ao9, n9, c9, rfl⟩ := hT.shape'
     obtain ⟨b5, ao5, n5, c5, b6, ao6, n6, c6, b7, ao7, n7, c7, b8, ao8, n8, c8, rfl, _, _, _, _⟩ := id hY
     have BY : Blk ((w6.alloc (.cells #[.bool b9, .slice ao9 n9 c9] 60)).alloc (.cells #[.bool b5, .slice ao5 n5 c5, .bool b6, .slice ao6 n6 c6, .bool b7, .slice ao7 n7 c7, .bool b8, .slice ao8 n8 c8] 69)) (w6.heap.size + 1) #[.bool b5, .slice ao5 n5 c5, .bool b6, .slice ao6 n6 c6, .bool b7, .slice ao7 n7 c7, .bool b8, .slice ao8 n8 c8] 69 := Blk.at (Blk.new (w6.alloc (.cells #[.bool b9, .slice ao9 n9 c9] 60)) _ _) (by simp)
     replace BR := BR.keep hk6
     replace hkr := hkr.trans' hk6
     replace hSEEN := Hid.mk (hSEEN.out.keep hk6)
     clear brc brl hNx hk6 hT hR
     have brc := BR.cell
     have brf := BR.frozen
     have brl := BR.lt
     have byc := BY.cell
     have byl := BY.lt
     go_wp2_with fail
     have sfR := (sf8 (E := 2) (.bool b5) (.slice ao5 n5 c5) (.bool b6) (.slice ao6 n6 c6) (.bool b7) (.slice ao7 n7 c7) (.bool b8) (.slice ao8 n8 c8) BR (by decide))
     replace hY := hY.soft sfR
     replace hkr := (kp8 (A := AR) (.bool b5) (.slice ao5 n5 c5) (.bool b6) (.slice ao6 n6 c6) (.bool b7) (.slice ao7 n7 c7) (.bool b8) (.slice ao8 n8 c8) hkr (by omega))
     replace hSEEN := Hid.mk (Seen.stored BR hSEEN.out (.bool b5) (.slice ao5 n5 c5) (.bool b6) (.slice ao6 n6 c6) (.bool b7) (.slice ao7 n7 c7) (.bool b8) (.slice ao8 n8 c8))
     replace BR := (bl8 (.bool b5) (.slice ao5 n5 c5) (.bool b6) (.slice ao6 n6 c6) (.bool b7) (.slice ao7 n7 c7) (.bool b8) (.slice ao8 n8 c8) BR)
     clear brc brf brl byc byl sfR BY
     have ka := fun (x : World) => Kp.alloc' (kp_alloc x (.cells #[.bool b9, .slice ao9 n9 c9] 60)) (.cells #[.bool b5, .slice ao5 n5 c5, .bool b6, .slice ao6 n6 c6, .bool b7, .slice ao7 n7 c7, .bool b8, .slice ao8 n8 c8] 69)
     replace BR := BR.keep (ka _)
     replace hY := hY.keep (ka _)
     replace hkr := hkr.trans' (ka _)
     replace hSEEN := Hid.mk (hSEEN.out.keep (ka _))
     clear ka
     go_roundg (202 - (0 + 1))
     case rel => exact ⟨0 + 1, _, _, _, _, _, _, _, _, _, _, _, _, _, _, _, _, by omega, by omega, BR, hY, hSEEN, hkr⟩
     case measure => omega
    ·have hob : ∀ k, (Value.slice sao j scap).ownBlock = some k → base ≤ k := fun k hk => (hown.lt k hk).1
     go_wp2_with (at_builtin; (refine wpList_append_own _ rfl _ _ 101 rfl base 69 i0 _ 8 128 Tryd.underlying101 hi hz0 hz1 hz2 rfl (by decide) (.slice sao j scap) j xs rfl (hown.alloc _) ⟨w5.heap.size, 0, none⟩ 1 1 [.bool b1, .slice ao1 n1 c1, .bool b2, .slice ao2 n2 c2, .bool b3, .slice ao3 n3 c3, .bool b4, .slice ao4 n4 c4] rfl rfl (cells_new w5 #[.bool b1, .slice ao1 n1 c1, .bool b2, .slice ao2 n2 c2, .bool b3, .slice ao3 n3 c3, .bool b4, .slice ao4 n4 c4] 69) (by simp [Value.oneCell']) (by unfold maxLen; omega) (by omega) (by simp; omega) ?_))
     intro s' w7 hown' hgr _
     have hsf : Sf 2 w5 w7 := (Sf.keep (kp_alloc w5 (.cells #[.bool b1, .slice ao1 n1 c1, .bool b2, .slice ao2 n2 c2, .bool b3, .slice ao3 n3 c3, .bool b4, .slice ao4 n4 c4] 69))).trans (sf_grown hgr (by decide) (owns_elem (hown.alloc _)))
     replace BR := Blk.grown hgr (fun h => by have := hob _ h.symm; omega) (BR.alloc _)
     replace hkr := (hkr.alloc' _).grown' hgr (fun k h => by have := hob _ h; omega)
     have hIS := IsQ.snoc (IsQ.soft hsf hIQ) (by rw [hown.1, Nat.mul_comm]) (hR.soft hsf)
     replace hR := hR.soft hsf
     replace hSEEN : Hid (Seen w7 AR (w.heap.size + 1) s' (rs a) (n0 a) (j + 1)) := Or.inr ⟨base, _, hb1, Nat.le_trans hb2 (Nat.le_trans (kp_alloc w5 (.cells #[.bool b1, .slice ao1 n1 c1, .bool b2, .slice ao2 n2 c2, .bool b3, .slice ao3 n3 c3, .bool b4, .slice ao4 n4 c4] 69)).size hgr.size), hown', hIS⟩
     obtain ⟨sao2, scap2, hsh⟩ := hSEEN.out.shape
     subst hsh
     clear hown' hgr hsf hIS brc brl hown hIQ hob
     have hq := HQ.out j (by omega)
     have hs := HSZ.out j (by omega)
     have hNx := next_any _ _ _ 4500000 _ _ hR (by decide) (hs.p.mono (by decide)) (hs.q.mono (by decide)) hs.n (hs.r.mono (by decide)) hq HNN.out
     clear hq hs
     have brc := BR.cell
     have brl := BR.lt
     go_wp2_with fail
     refine hNx.mono ?_
     rintro e w6 ⟨ut, uy, rfl, hT, hY, hk6⟩
     obtain ⟨b9, ao9, n9, c9, rfl⟩ := hT.shape'
     obtain ⟨b5, ao5, n5, c5, b6, ao6, n6, c6, b7, ao7, n7, c7, b8, ao8, n8, c8, rfl, _, _, _, _⟩ := id hY
     have BY : Blk ((w6.alloc (.cells #[.bool b9, .slice ao9 n9 c9] 60)).alloc (.cells #[.bool b5, .slice ao5 n5 c5, .bool b6, .slice ao6 n6 c6, .bool b7, .slice ao7 n7 c7, .bool b8, .slice ao8 n8 c8] 69)) (w6.heap.size + 1) #[.bool b5, .slice ao5 n5 c5, .bool b6, .slice ao6 n6 c6, .bool b7, .slice ao7 n7 c7, .bool b8, .slice ao8 n8 c8] 69 := Blk.at (Blk.new (w6.alloc (.cells #[.bool b9, .slice ao9 n9 c9] 60)) _ _) (by simp)
     replace BR := BR.keep hk6
     replace hkr := hkr.trans' hk6
     replace hSEEN := Hid.mk (hSEEN.out.keep hk6)
     clear brc brl hNx hk6 hT hR
     have brc := BR.cell
     have brf := BR.frozen
     have brl := BR.lt
     have byc := BY.cell
     have byl := BY.lt
     go_wp2_with fail
     have sfR := (sf8 (E := 2) (.bool b5) (.slice ao5 n5 c5) (.bool b6) (.slice ao6 n6 c6) (.bool b7) (.slice ao7 n7 c7) (.bool b8) (.slice ao8 n8 c8) BR (by decide))
     replace hY := hY.soft sfR
     replace hkr := (kp8 (A := AR) (.bool b5) (.slice ao5 n5 c5) (.bool b6) (.slice ao6 n6 c6) (.bool b7) (.slice ao7 n7 c7) (.bool b8) (.slice ao8 n8 c8) hkr (by omega))
     replace hSEEN := Hid.mk (Seen.stored BR hSEEN.out (.bool b5) (.slice ao5 n5 c5) (.bool b6) (.slice ao6 n6 c6) (.bool b7) (.slice ao7 n7 c7) (.bool b8) (.slice ao8 n8 c8))
     replace BR := (bl8 (.bool b5) (.slice ao5 n5 c5) (.bool b6) (.slice ao6 n6 c6) (.bool b7) (.slice ao7 n7 c7) (.bool b8) (.slice ao8 n8 c8) BR)
     clear brc brf brl byc byl sfR BY
     have ka := fun (x : World) => Kp.alloc' (kp_alloc x (.cells #[.bool b9, .slice ao9 n9 c9] 60)) (.cells #[.bool b5, .slice ao5 n5 c5, .bool b6, .slice ao6 n6 c6, .bool b7, .slice ao7 n7 c7, .bool b8, .slice ao8 n8 c8] 69)
     replace BR := BR.keep (ka _)
     replace hY := hY.keep (ka _)
     replace hkr := hkr.trans' (ka _)
     replace hSEEN := Hid.mk (hSEEN.out.keep (ka _))
     clear ka
     go_roundg (202 - (j + 1))
     case rel => exact ⟨j + 1, _, _, _, _, _, _, _, _, _, _, _, _, _, _, _, _, by omega, by omega, BR, hY, hSEEN, hkr⟩
     case measure => omega
  ·have hJ2 : J = 201 := by omega
   have hji : ¬ (j : Int) ≤ 200 := by omega
   have HPV : Hid (perV J i = .tuple #[.int .i64 0, .int .i64 0, .bool false]) := by
    unfold Hid perV
    rw [if_neg (by omega)]
   clear hJ2
   go_wp2_with fail
   refine bodyPost_ret (v := .tuple #[.int .i64 0, .int .i64 0, .bool false]) (by simp [results, Tryd.results31, go_sem]) rfl ?_
   exact ⟨by rw [HPV.out], hkr⟩

end Go.Proofs.YtjahbjjekednfabDoor

namespace Go.Proofs.YtjahbjjekednfabDoor
open Go.RowKit

/-- No rest ahead of J was there before. -/
def Fst (a : Qn) (J : Nat) : Prop := ∀ j, j < J → ∀ i, i < j → rs a i ≠ rs a j
/-- J is the first rest that was there before, at i. -/
structure Rep (a : Qn) (i J : Nat) : Prop where
 fst : Fst a J
 lt : i < J
 eq : rs a i = rs a J
theorem fst_or (a : Qn) : ∀ N, Fst a N ∨ ∃ J i, J < N ∧ Rep a i J
 | 0 => Or.inl fun j hj => absurd hj (by omega)
 | N + 1 => by
  rcases fst_or a N with h | ⟨J, i, h1, h2⟩
  ·by_cases e : ∃ i, i < N ∧ rs a i = rs a N
   ·obtain ⟨i, h1, h2⟩ := e
    exact Or.inr ⟨N, i, by omega, h, h1, h2⟩
   ·refine Or.inl fun j hj i hi k => ?_
    by_cases e2 : j < N
    ·exact h j e2 i hi k
    ·have e3 : j = N := by omega
     subst e3
     exact e ⟨i, hi, k⟩
  ·exact Or.inr ⟨J, i, by omega, h2⟩
theorem Rep.uni {a : Qn} {i J i' J' : Nat} (h : Rep a i J) (h' : Rep a i' J') : i = i' ∧ J = J' := by
 have e : J = J' := by
  rcases Nat.lt_trichotomy J J' with k | k | k
  ·exact absurd h.eq (h'.fst J k i h.lt)
  ·exact k
  ·exact absurd h'.eq (h.fst J' k i' h'.lt)
 subst e
 refine ⟨?_, rfl⟩
 rcases Nat.lt_trichotomy i i' with k | k | k
 ·exact absurd (h.eq.trans h'.eq.symm) (h.fst i' h'.lt i k)
 ·exact k
 ·exact absurd (h'.eq.trans h.eq.symm) (h.fst i h.lt i' k)
/-- What Period tells. -/
def OutD (r : Rs) (x y er : Int) : Prop :=
 (r.e ≠ 0 ∧ x = 0 ∧ y = 0 ∧ er = r.e) ∨ (r.e = 0 ∧ r.v.d = 1 ∧ x = 0 ∧ y = 0 ∧ er = 6) ∨ (r.e = 0 ∧ r.v.d ≠ 1 ∧ Fst r.v 201 ∧ x = 0 ∧ y = 0 ∧ er = 7) ∨
 (r.e = 0 ∧ r.v.d ≠ 1 ∧ ∃ i J : Nat, J ≤ 200 ∧ Rep r.v i J ∧ x = i ∧ y = (J : Int) - i ∧ er = 0)
theorem outD_ex (r : Rs) : ∃ x y er, OutD r x y er := by
 by_cases he : r.e = 0
 ·by_cases hd : r.v.d = 1
  ·exact ⟨_, _, _, Or.inr (Or.inl ⟨he, hd, rfl, rfl, rfl⟩)⟩
  ·rcases fst_or r.v 201 with h | ⟨J, i, h1, h2⟩
   ·exact ⟨_, _, _, Or.inr (Or.inr (Or.inl ⟨he, hd, h, rfl, rfl, rfl⟩))⟩
   ·exact ⟨_, _, _, Or.inr (Or.inr (Or.inr ⟨he, hd, i, J, by omega, h2, rfl, rfl, rfl⟩))⟩
 ·exact ⟨_, _, _, Or.inl ⟨he, rfl, rfl, rfl⟩⟩
theorem rep_per {a : Qn} {J i : Nat} (hc : Cn a) (hd : a.d ≠ 1) (f : QF 1100000 a) (hJ : J ≤ 201) (hF : Fst a J) (hy : J ≤ 200 → Rep a i J) (v : Value) (w : World) (hv : XN w v a) :
 Calls Tryd.prog 31 #[v, .int .i64 200] w (RetV w (perV J i)) :=
 period_any a J i v w hv hc f ⟨by have := hc.ok.d0; omega, by have := hc.ok.d1; omega⟩ (fun j _ => rs_irr hc hd j) hJ (fun j hj k hk e => hF j hj k hk (Prod.ext e.1 e.2))
  (fun h => ⟨(hy h).lt, congrArg Prod.fst (hy h).eq, congrArg Prod.snd (hy h).eq⟩)

set_option maxHeartbeats 3200000 in
set_option maxRecDepth 100000 in
/-- surd.Period. -/
theorem speriod_any (s : ByteArray) (r : Rs) (x y er : Int) (w : World) (h : Rk s r) (ho : OutD r x y er) :
 Calls Tryd.prog 11 #[.string s] w (RetV w (.tuple #[.int .i64 x, .int .i64 y, .int .i64 er])) := by
 have HR := Hid.mk (reckon_any s r w h)
 by_cases he : r.e = 0
 ·have hb : (r.e != 0) = false := by simp [he]
  have Hcn := Hid.mk (rk_cn h he)
  have Hsz := Hid.mk (rk_size h he)
  have HRT := Hid.mk (fun (v : Value) (W : World) (hv : XN W v r.v) => rational_any r.v v W hv)
  by_cases hd : r.v.d = 1
  ·obtain ⟨rfl, rfl, rfl⟩ : x = 0 ∧ y = 0 ∧ er = 6 := by
    rcases ho with ⟨k, _⟩ | ⟨_, _, h⟩ | ⟨_, k, _⟩ | ⟨_, k, _⟩
    ·exact absurd he k
    ·exact h
    ·exact absurd hd k
    ·exact absurd hd k
   rw [decide_eq_true hd] at HRT
   clear he hd ho
   go_enter Tryd.func11, Tryd.ntmps11
   go_wp2_with fail
   refine HR.out.mono ?_
   rintro e w1 ⟨v1, rfl, hv, hk1⟩
   obtain ⟨b1, ao1, n1, c1, b2, ao2, n2, c2, b3, ao3, n3, c3, rfl, _, _, _⟩ := id hv
   go_wp2_with fail
   refine (HRT.out _ _ (hv.keep (kp_alloc w1 _))).mono ?_
   rintro e w2 ⟨rfl, hk2⟩
   go_wp2_with fail
   refine bodyPost_ret (v := .tuple #[.int .i64 0, .int .i64 0, .int .i64 6]) (by simp [results, Tryd.results11, go_sem]) rfl ?_
   exact ⟨rfl, (hk1.alloc' _).trans' hk2⟩
  ·have hp : ∃ J i : Nat, (∀ (v : Value) (w : World), XN w v r.v → Calls Tryd.prog 31 #[v, .int .i64 200] w (RetV w (perV J i))) ∧ ((J ≤ 200 ∧ x = i ∧ y = (J : Int) - i ∧ er = 0) ∨ (¬ J ≤ 200 ∧ x = 0 ∧ y = 0 ∧ er = 7)) := by
    rcases ho with ⟨k, _⟩ | ⟨_, k, _⟩ | ⟨_, _, hF, h⟩ | ⟨_, _, i, J, hJ, hP, h⟩
    ·exact absurd he k
    ·exact absurd k hd
    ·exact ⟨201, 0, rep_per Hcn.out hd Hsz.out (by decide) hF (fun k => absurd k (by decide)), Or.inr ⟨by decide, h⟩⟩
    ·exact ⟨J, i, rep_per Hcn.out hd Hsz.out (by omega) hP.fst (fun _ => hP), Or.inl ⟨hJ, h⟩⟩
   obtain ⟨J, i, HP, hor⟩ := hp
   replace HP := Hid.mk HP
   rw [decide_eq_false hd] at HRT
   clear he hd ho Hcn Hsz
   rcases hor with ⟨hJ, rfl, rfl, rfl⟩ | ⟨hJ, rfl, rfl, rfl⟩
   ·have HE : perV J i = .tuple #[.int .i64 i, .int .i64 ((J : Int) - i), .bool true] := if_pos hJ
    rw [HE] at HP
    clear HE hJ
    generalize (J : Int) - i = L at *
    go_enter Tryd.func11, Tryd.ntmps11
    go_wp2_with fail
    refine HR.out.mono ?_
    rintro e w1 ⟨v1, rfl, hv, hk1⟩
    obtain ⟨b1, ao1, n1, c1, b2, ao2, n2, c2, b3, ao3, n3, c3, rfl, _, _, _⟩ := id hv
    have BX := Blk.new w1 #[.bool b1, .slice ao1 n1 c1, .bool b2, .slice ao2 n2 c2, .bool b3, .slice ao3 n3 c3, .int .i64 r.v.d] 62
    replace hv := hv.keep (kp_alloc w1 (.cells #[.bool b1, .slice ao1 n1 c1, .bool b2, .slice ao2 n2 c2, .bool b3, .slice ao3 n3 c3, .int .i64 r.v.d] 62))
    go_wp2_with fail
    refine (HRT.out _ _ hv).mono ?_
    rintro e w2 ⟨rfl, hk2⟩
    replace BX := BX.keep hk2
    have bxc := BX.cell
    have bxl := BX.lt
    go_wp2_with fail
    refine (HP.out _ _ (hv.keep hk2)).mono ?_
    rintro e w3 ⟨rfl, hk3⟩
    go_wp2_with fail
    refine bodyPost_ret (v := .tuple #[.int .i64 i, .int .i64 L, .int .i64 0]) (by simp [results, Tryd.results11, go_sem]) rfl ?_
    exact ⟨rfl, ((hk1.alloc' _).trans' hk2).trans' hk3⟩
   ·have HE : perV J i = .tuple #[.int .i64 0, .int .i64 0, .bool false] := if_neg hJ
    rw [HE] at HP
    clear HE hJ
    go_enter Tryd.func11, Tryd.ntmps11
    go_wp2_with fail
    refine HR.out.mono ?_
    rintro e w1 ⟨v1, rfl, hv, hk1⟩
    obtain ⟨b1, ao1, n1, c1, b2, ao2, n2, c2, b3, ao3, n3, c3, rfl, _, _, _⟩ := id hv
    have BX := Blk.new w1 #[.bool b1, .slice ao1 n1 c1, .bool b2, .slice ao2 n2 c2, .bool b3, .slice ao3 n3 c3, .int .i64 r.v.d] 62
    replace hv := hv.keep (kp_alloc w1 (.cells #[.bool b1, .slice ao1 n1 c1, .bool b2, .slice ao2 n2 c2, .bool b3, .slice ao3 n3 c3, .int .i64 r.v.d] 62))
    go_wp2_with fail
    refine (HRT.out _ _ hv).mono ?_
    rintro e w2 ⟨rfl, hk2⟩
    replace BX := BX.keep hk2
    have bxc := BX.cell
    have bxl := BX.lt
    go_wp2_with fail
    refine (HP.out _ _ (hv.keep hk2)).mono ?_
    rintro e w3 ⟨rfl, hk3⟩
    go_wp2_with fail
    refine bodyPost_ret (v := .tuple #[.int .i64 0, .int .i64 0, .int .i64 7]) (by simp [results, Tryd.results11, go_sem]) rfl ?_
    exact ⟨rfl, ((hk1.alloc' _).trans' hk2).trans' hk3⟩
 ·obtain ⟨rfl, rfl, rfl⟩ : x = 0 ∧ y = 0 ∧ er = r.e := by
   rcases ho with ⟨_, h⟩ | ⟨k, _⟩ | ⟨k, _⟩ | ⟨k, _⟩
   ·exact h
   ·exact absurd k he
   ·exact absurd k he
   ·exact absurd k he
  have hb : (r.e != 0) = true := by simp [he]
  clear he ho
  go_enter Tryd.func11, Tryd.ntmps11
  go_wp2_with fail
  refine HR.out.mono ?_
  rintro e w1 ⟨v1, rfl, hv, hk1⟩
  obtain ⟨b1, ao1, n1, c1, b2, ao2, n2, c2, b3, ao3, n3, c3, rfl, _, _, _⟩ := id hv
  go_wp2_with fail
  refine bodyPost_ret (v := .tuple #[.int .i64 0, .int .i64 0, .int .i64 r.e]) (by simp [results, Tryd.results11, go_sem]) rfl ?_
  exact ⟨rfl, hk1.alloc' _⟩

end Go.Proofs.YtjahbjjekednfabDoor
