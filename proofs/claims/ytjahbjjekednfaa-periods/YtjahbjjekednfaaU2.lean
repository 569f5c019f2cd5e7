import Derived.Test.YtjahbjjekednfaaU0
import Derived.Test.YtjahbjjekednfaaQ1
import Derived.Deep.QuietTactic
import Derived.Deep.LoopGhost
namespace Go.Proofs.Ytjahbjjekednfaa
open Go.RowKit

theorem in_ne {x y : Int} {mx my : List Int} (kx : Canon 10000 mx) (ky : Canon 10000 my) (vx : val 10000 mx = x.natAbs) (vy : val 10000 my = y.natAbs) (h : mx.length ≠ my.length ∨ ∃ i, at0 mx.reverse i ≠ at0 my.reverse i) : x ≠ y := by
 intro e
 subst e
 have hv : val 10000 mx = val 10000 my := vx.trans vy.symm
 have hl := canon_len (by decide) kx ky hv
 rcases h with h | ⟨i, h⟩
 ·exact h hl
 ·apply h
  by_cases hi : i < mx.length
  ·rw [at0_reverse hi, at0_reverse (by omega), hl]
   exact dig_uni (by decide) kx.1 ky.1 hv _ _ (Nat.le_add_left _ _)
  ·rw [at0_ge (by rw [List.length_reverse]; omega), at0_ge (by rw [List.length_reverse]; omega)]
theorem in_eq {x y : Int} {mx my : List Int} (vx : val 10000 mx = x.natAbs) (vy : val 10000 my = y.natAbs) (hs : decide (x < 0) = decide (y < 0)) (hl : mx.length = my.length) (h : ∀ i, i < mx.length → at0 mx.reverse i = at0 my.reverse i) : x = y := by
 have hv : val 10000 mx = val 10000 my := val_eq_of (rev_same hl h)
 rw [decide_eq_decide] at hs
 omega

set_option maxHeartbeats 3200000 in
set_option maxRecDepth 100000 in
/-- surdref.equal. -/
theorem requal_any (x y : Int) (u v : Value) (w : World) (hx : IN w u x) (hy : IN w v y) : Calls Try.prog 43 #[u, v] w (RetV w (.bool (decide (x = y)))) := by
 obtain ⟨aox, nx, cx, rfl, mx, rx, kx, vx⟩ := hx
 obtain ⟨aoy, ny, cy, rfl, my, ry, ky, vy⟩ := hy
 obtain ⟨_, _, bx, ox, ex, hx1, hx2, hx3, hx4, hx5⟩ := rx
 obtain ⟨_, _, bY, oy, ey, hy1, hy2, hy3, hy4, hy5⟩ := ry
 simp only [Value.slice.injEq] at ex ey
 obtain ⟨rfl, rfl, rfl⟩ := ex
 obtain ⟨rfl, rfl, rfl⟩ := ey
 have HNE := Hid.mk (in_ne kx ky vx vy)
 have HEQ := Hid.mk (in_eq (x := x) (y := y) vx vy)
 rw [List.length_reverse] at *
 rw [List.length_reverse] at *
 clear kx ky vx vy hx3 hy3
 have HSG : Hid (decide (x < 0) ≠ decide (y < 0) → x ≠ y) := fun h e => h (by rw [e])
 generalize decide (x < 0) = sx at *
 generalize decide (y < 0) = sy at *
 have kp0 : Kp w ((w.alloc (.cells #[.bool sx, .slice aox mx.length cx] 46)).alloc (.cells #[.bool sy, .slice aoy my.length cy] 46)) := Kp.alloc' (kp_alloc w _) _
 have BX : Blk ((w.alloc (.cells #[.bool sx, .slice aox mx.length cx] 46)).alloc (.cells #[.bool sy, .slice aoy my.length cy] 46)) w.heap.size #[.bool sx, .slice aox mx.length cx] 46 := Blk.alloc (Blk.new w _ _) _
 have BY : Blk ((w.alloc (.cells #[.bool sx, .slice aox mx.length cx] 46)).alloc (.cells #[.bool sy, .slice aoy my.length cy] 46)) (w.heap.size + 1) #[.bool sy, .slice aoy my.length cy] 46 := Blk.at (Blk.new (w.alloc (.cells #[.bool sx, .slice aox mx.length cx] 46)) _ _) (by simp)
 generalize hL2 : my.length = L2 at *
 clear hL2
 by_cases hs : sx = sy
 ·subst hs
  by_cases hl : mx.length = L2
  ·subst hl
   have HE2 := Hid.mk (HEQ.out rfl rfl)
   have HX4 := Hid.mk hx4
   have HY4 := Hid.mk hy4
   have HX5 := Hid.mk hx5
   have HY5 := Hid.mk hy5
   clear hx4 hy4 hx5 hy5 HSG HEQ
   go_enter Try.func43, Try.ntmps43
   go_wp2_with fail
   generalize (w.alloc (.cells #[.bool sx, .slice aox mx.length cx] 46)).alloc (.cells #[.bool sx, .slice aoy mx.length cy] 46) = w0 at *
   go_loopg [5] (mx.length + 1) (fun g i wr => ∃ j : Nat, i = .int .i64 j ∧ j ≤ mx.length ∧ j + g = mx.length + 1 ∧ Kp w wr ∧ Blk wr w.heap.size #[.bool sx, .slice aox mx.length cx] 46 ∧ Blk wr (w.heap.size + 1) #[.bool sx, .slice aoy mx.length cy] 46 ∧ Hid (∀ i, i < j → at0 mx.reverse i = at0 my.reverse i))
   case atStart => exact ⟨0, rfl, by omega, by omega, kp0, BX, BY, fun i hi => absurd hi (by omega)⟩
   case round =>
    clear BX BY kp0
    obtain ⟨j, rfl, hj1, hj2, hkr, BX, BY, HAG⟩ := hrel
    have bxc := BX.cell
    have bxl := BX.lt
    have byc := BY.cell
    have byl := BY.lt
    by_cases hjl : j < mx.length
    ·have hji : (j : Int) < (mx.length : Int) := by omega
     obtain ⟨rfl, hbx⟩ := HX4.out (by omega)
     obtain ⟨rfl, hby⟩ := HY4.out (by omega)
     have d1 := (World.cell?_of_block (w := w) (a := ⟨bx, ox + j, none⟩) (hkr.block bx (elemOf_lt hbx))).trans (HX5.out j (by omega))
     have d2 := (World.cell?_of_block (w := w) (a := ⟨bY, oy + j, none⟩) (hkr.block bY (elemOf_lt hby))).trans (HY5.out j (by omega))
     by_cases he : at0 mx.reverse j = at0 my.reverse j
     ·have heb : (at0 mx.reverse j != at0 my.reverse j) = false := by simp [he]
      have HAG' : Hid (∀ i, i < j + 1 → at0 mx.reverse i = at0 my.reverse i) := fun i hi => by
       by_cases e : i < j
       ·exact HAG.out i e
       ·rw [show i = j by omega]; exact he
      clear he
      generalize at0 mx.reverse j = p at *
      generalize at0 my.reverse j = q at *
      go_wp2_with fail
      go_quiet (fail)
      go_wp2_with fail
      go_roundg (mx.length + 1 - (j + 1))
      case rel => exact ⟨j + 1, by go_num, by omega, by omega, hkr.drewN _, BX.drewN _, BY.drewN _, HAG'⟩
      case measure => omega
     ·have heb : (at0 mx.reverse j != at0 my.reverse j) = true := by simp [he]
      have HD : Hid (decide (x = y) = false) := decide_eq_false (HNE.out (Or.inr ⟨j, he⟩))
      clear he
      generalize at0 mx.reverse j = p at *
      generalize at0 my.reverse j = q at *
      go_wp2_with fail
      go_quiet (fail)
      go_wp2_with fail
      go_ret
      exact ⟨by rw [HD.out]; rfl, hkr.drewN _⟩
    ·have hji : ¬ (j : Int) < (mx.length : Int) := by omega
     have HD : Hid (decide (x = y) = true) := decide_eq_true (HE2.out (fun i hi => HAG.out i (by omega)))
     go_wp2_with fail
     go_ret
     exact ⟨by rw [HD.out]; rfl, hkr⟩
  ·have hlb : ((mx.length : Int) != (L2 : Int)) = true := by simp; omega
   have HD : Hid (decide (x = y) = false) := decide_eq_false (HNE.out (Or.inl hl))
   clear hl
   go_enter Try.func43, Try.ntmps43
   go_wp2_with fail
   go_ret
   exact ⟨by rw [HD.out]; rfl, kp0⟩
 ·have HD : Hid (decide (x = y) = false) := decide_eq_false (HSG.out hs)
  have hor : (sx = true ∧ sy = false) ∨ (sx = false ∧ sy = true) := by
   cases sx <;> cases sy <;> simp_all
  clear hs
  rcases hor with ⟨rfl, rfl⟩ | ⟨rfl, rfl⟩
  ·go_enter Try.func43, Try.ntmps43
   go_wp2_with fail
   go_ret
   exact ⟨by rw [HD.out]; rfl, kp0⟩
  ·go_enter Try.func43, Try.ntmps43
   go_wp2_with fail
   go_ret
   exact ⟨by rw [HD.out]; rfl, kp0⟩

/-- Are two numbers in their forms the same? -/
def qsame (a b : Qn) : Bool := decide (a.p = b.p) && decide (a.q = b.q) && decide (a.r = b.r) && (a.d == b.d)
theorem qsame_iff {a b : Qn} : qsame a b = true ↔ a = b := by
 cases a
 cases b
 simp [qsame, Bool.and_assoc]
theorem qn_dec (a b : Qn) (p q r : Bool) (hp : decide (a.p = b.p) = p) (hq : decide (a.q = b.q) = q) (hr : decide (a.r = b.r) = r) : qsame a b = (p && q && r && (a.d == b.d)) := by
 subst hp hq hr
 rfl

set_option maxHeartbeats 3200000 in
set_option maxRecDepth 100000 in
/-- surdref.same. -/
theorem rsame_any (a b : Qn) (u v : Value) (w : World) (ha : NN w u a) (hb : NN w v b) : Calls Try.prog 20 #[u, v] w (RetV w (.bool (qsame a b))) := by
 obtain ⟨b1, ao1, n1, c1, b2, ao2, n2, c2, b3, ao3, n3, c3, rfl, hp1, hq1, hr1⟩ := ha
 obtain ⟨b51, ao51, n51, c51, b52, ao52, n52, c52, b53, ao53, n53, c53, rfl, hp2, hq2, hr2⟩ := hb
 have kp0 : Kp w ((w.alloc (.cells #[.bool b1, .slice ao1 n1 c1, .bool b2, .slice ao2 n2 c2, .bool b3, .slice ao3 n3 c3, .int .i64 a.d] 48)).alloc (.cells #[.bool b51, .slice ao51 n51 c51, .bool b52, .slice ao52 n52 c52, .bool b53, .slice ao53 n53 c53, .int .i64 b.d] 48)) := Kp.alloc' (kp_alloc w _) _
 have BX : Blk ((w.alloc (.cells #[.bool b1, .slice ao1 n1 c1, .bool b2, .slice ao2 n2 c2, .bool b3, .slice ao3 n3 c3, .int .i64 a.d] 48)).alloc (.cells #[.bool b51, .slice ao51 n51 c51, .bool b52, .slice ao52 n52 c52, .bool b53, .slice ao53 n53 c53, .int .i64 b.d] 48)) w.heap.size #[.bool b1, .slice ao1 n1 c1, .bool b2, .slice ao2 n2 c2, .bool b3, .slice ao3 n3 c3, .int .i64 a.d] 48 := Blk.alloc (Blk.new w _ _) _
 have BY : Blk ((w.alloc (.cells #[.bool b1, .slice ao1 n1 c1, .bool b2, .slice ao2 n2 c2, .bool b3, .slice ao3 n3 c3, .int .i64 a.d] 48)).alloc (.cells #[.bool b51, .slice ao51 n51 c51, .bool b52, .slice ao52 n52 c52, .bool b53, .slice ao53 n53 c53, .int .i64 b.d] 48)) (w.heap.size + 1) #[.bool b51, .slice ao51 n51 c51, .bool b52, .slice ao52 n52 c52, .bool b53, .slice ao53 n53 c53, .int .i64 b.d] 48 := Blk.at (Blk.new (w.alloc (.cells #[.bool b1, .slice ao1 n1 c1, .bool b2, .slice ao2 n2 c2, .bool b3, .slice ao3 n3 c3, .int .i64 a.d] 48)) _ _) (by simp)
 replace hp1 := hp1.keep kp0
 replace hq1 := hq1.keep kp0
 replace hr1 := hr1.keep kp0
 replace hp2 := hp2.keep kp0
 replace hq2 := hq2.keep kp0
 replace hr2 := hr2.keep kp0
 have xc := BX.cell
 have xl := BX.lt
 have yc := BY.cell
 have yl := BY.lt
 generalize hgp : decide (a.p = b.p) = p
 generalize hgq : decide (a.q = b.q) = q
 generalize hgr : decide (a.r = b.r) = r
 have HD0 := qn_dec a b p q r hgp hgq hgr
 have HP := Hid.mk hgp
 have HQ := Hid.mk hgq
 have HW := Hid.mk hgr
 clear hgp hgq hgr
 have hor : p = false ∨ (p = true ∧ q = false) ∨ (p = true ∧ q = true ∧ r = false) ∨ (p = true ∧ q = true ∧ r = true) := by
  cases p <;> cases q <;> cases r <;> simp
 rcases hor with rfl | ⟨rfl, rfl⟩ | ⟨rfl, rfl, rfl⟩ | ⟨rfl, rfl, rfl⟩
 ·have HD : Hid (qsame a b = false) := by unfold Hid; rw [HD0]; simp
  clear HD0
  go_enter Try.func20, Try.ntmps20
  go_wp2_with fail
  refine (requal_any _ _ _ _ _ hp1 hp2).mono ?_
  rintro e w1 ⟨rfl, hk1⟩
  replace BX := BX.keep hk1
  replace BY := BY.keep hk1
  have xc1 := BX.cell
  have xl1 := BX.lt
  have yc1 := BY.cell
  have yl1 := BY.lt
  clear xc xl yc yl
  rw [HP.out]
  go_wp2_with fail
  refine (requal_any _ _ _ _ _ (hq1.keep hk1) (hq2.keep hk1)).mono ?_
  rintro e w2 ⟨rfl, hk2⟩
  replace BX := BX.keep hk2
  replace BY := BY.keep hk2
  have xc2 := BX.cell
  have xl2 := BX.lt
  have yc2 := BY.cell
  have yl2 := BY.lt
  clear xc1 xl1 yc1 yl1
  rw [HQ.out]
  go_wp2_with fail
  refine (requal_any _ _ _ _ _ ((hr1.keep hk1).keep hk2) ((hr2.keep hk1).keep hk2)).mono ?_
  rintro e w3 ⟨rfl, hk3⟩
  replace BX := BX.keep hk3
  replace BY := BY.keep hk3
  have xc3 := BX.cell
  have xl3 := BX.lt
  have yc3 := BY.cell
  have yl3 := BY.lt
  clear xc2 xl2 yc2 yl2
  rw [HW.out]
  have hkw := ((kp0.trans' hk1).trans' hk2).trans' hk3
  clear hk1 hk2 hk3 kp0
  go_wp2_with fail
  go_ret
  exact ⟨by rw [HD.out]; rfl, hkw⟩
 ·have HD : Hid (qsame a b = false) := by unfold Hid; rw [HD0]; simp
  clear HD0
  go_enter Try.func20, Try.ntmps20
  go_wp2_with fail
  refine (requal_any _ _ _ _ _ hp1 hp2).mono ?_
  rintro e w1 ⟨rfl, hk1⟩
  replace BX := BX.keep hk1
  replace BY := BY.keep hk1
  have xc1 := BX.cell
  have xl1 := BX.lt
  have yc1 := BY.cell
  have yl1 := BY.lt
  clear xc xl yc yl
  rw [HP.out]
  go_wp2_with fail
  refine (requal_any _ _ _ _ _ (hq1.keep hk1) (hq2.keep hk1)).mono ?_
  rintro e w2 ⟨rfl, hk2⟩
  replace BX := BX.keep hk2
  replace BY := BY.keep hk2
  have xc2 := BX.cell
  have xl2 := BX.lt
  have yc2 := BY.cell
  have yl2 := BY.lt
  clear xc1 xl1 yc1 yl1
  rw [HQ.out]
  go_wp2_with fail
  refine (requal_any _ _ _ _ _ ((hr1.keep hk1).keep hk2) ((hr2.keep hk1).keep hk2)).mono ?_
  rintro e w3 ⟨rfl, hk3⟩
  replace BX := BX.keep hk3
  replace BY := BY.keep hk3
  have xc3 := BX.cell
  have xl3 := BX.lt
  have yc3 := BY.cell
  have yl3 := BY.lt
  clear xc2 xl2 yc2 yl2
  rw [HW.out]
  have hkw := ((kp0.trans' hk1).trans' hk2).trans' hk3
  clear hk1 hk2 hk3 kp0
  go_wp2_with fail
  go_ret
  exact ⟨by rw [HD.out]; rfl, hkw⟩
 ·have HD : Hid (qsame a b = false) := by unfold Hid; rw [HD0]; simp
  clear HD0
  go_enter Try.func20, Try.ntmps20
  go_wp2_with fail
  refine (requal_any _ _ _ _ _ hp1 hp2).mono ?_
  rintro e w1 ⟨rfl, hk1⟩
  replace BX := BX.keep hk1
  replace BY := BY.keep hk1
  have xc1 := BX.cell
  have xl1 := BX.lt
  have yc1 := BY.cell
  have yl1 := BY.lt
  clear xc xl yc yl
  rw [HP.out]
  go_wp2_with fail
  refine (requal_any _ _ _ _ _ (hq1.keep hk1) (hq2.keep hk1)).mono ?_
  rintro e w2 ⟨rfl, hk2⟩
  replace BX := BX.keep hk2
  replace BY := BY.keep hk2
  have xc2 := BX.cell
  have xl2 := BX.lt
  have yc2 := BY.cell
  have yl2 := BY.lt
  clear xc1 xl1 yc1 yl1
  rw [HQ.out]
  go_wp2_with fail
  refine (requal_any _ _ _ _ _ ((hr1.keep hk1).keep hk2) ((hr2.keep hk1).keep hk2)).mono ?_
  rintro e w3 ⟨rfl, hk3⟩
  replace BX := BX.keep hk3
  replace BY := BY.keep hk3
  have xc3 := BX.cell
  have xl3 := BX.lt
  have yc3 := BY.cell
  have yl3 := BY.lt
  clear xc2 xl2 yc2 yl2
  rw [HW.out]
  have hkw := ((kp0.trans' hk1).trans' hk2).trans' hk3
  clear hk1 hk2 hk3 kp0
  go_wp2_with fail
  go_ret
  exact ⟨by rw [HD.out]; rfl, hkw⟩
 ·have HD : Hid (qsame a b = (a.d == b.d)) := by unfold Hid; rw [HD0]; simp
  clear HD0
  go_enter Try.func20, Try.ntmps20
  go_wp2_with fail
  refine (requal_any _ _ _ _ _ hp1 hp2).mono ?_
  rintro e w1 ⟨rfl, hk1⟩
  replace BX := BX.keep hk1
  replace BY := BY.keep hk1
  have xc1 := BX.cell
  have xl1 := BX.lt
  have yc1 := BY.cell
  have yl1 := BY.lt
  clear xc xl yc yl
  rw [HP.out]
  go_wp2_with fail
  refine (requal_any _ _ _ _ _ (hq1.keep hk1) (hq2.keep hk1)).mono ?_
  rintro e w2 ⟨rfl, hk2⟩
  replace BX := BX.keep hk2
  replace BY := BY.keep hk2
  have xc2 := BX.cell
  have xl2 := BX.lt
  have yc2 := BY.cell
  have yl2 := BY.lt
  clear xc1 xl1 yc1 yl1
  rw [HQ.out]
  go_wp2_with fail
  refine (requal_any _ _ _ _ _ ((hr1.keep hk1).keep hk2) ((hr2.keep hk1).keep hk2)).mono ?_
  rintro e w3 ⟨rfl, hk3⟩
  replace BX := BX.keep hk3
  replace BY := BY.keep hk3
  have xc3 := BX.cell
  have xl3 := BX.lt
  have yc3 := BY.cell
  have yl3 := BY.lt
  clear xc2 xl2 yc2 yl2
  rw [HW.out]
  have hkw := ((kp0.trans' hk1).trans' hk2).trans' hk3
  clear hk1 hk2 hk3 kp0
  go_wp2_with fail
  go_ret
  exact ⟨by rw [HD.out]; rfl, hkw⟩

end Go.Proofs.Ytjahbjjekednfaa
