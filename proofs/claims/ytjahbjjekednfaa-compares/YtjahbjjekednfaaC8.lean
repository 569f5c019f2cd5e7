import Derived.Test.YtjahbjjekednfaaR19
import Derived.Test.YtjahbjjekednfaaC6
import Derived.Test.YtjahbjjekednfaaC9
import Derived.Test.YtjahbjjekednfaaR22
import Derived.Test.YtjahbjjekednfaaRows
import Derived.WalkKit
import Derived.ProofKit
import Derived.OpenShut
import Derived.ShutString
import Derived.ChangeOld
import Derived.Below
namespace Go.Proofs.Ytjahbjjekednfaa
open Go.RowKit

set_option maxHeartbeats 3200000 in
theorem order_one (a b : Qn) (u v : Value) (w : World) (ha : NN w u a) (hb : NN w v b) (oa : Qok a) (ob : Qok b) (fa : QF 9000000 a) (fb : QF 9000000 b) (h : a.d = 1 ∨ b.d = 1 ∨ a.d = b.d) :
  Calls Try.prog 16 #[u, v] w (RetV w (.int .i64 (rord a b))) := by
 have HR : Hid (rord a b = rsg (comb 45 a b).1.p (comb 45 a b).1.q (comb 45 a b).1.d) := by unfold Hid rord; rw [if_pos h]
 have hroot : qroot a.d b.d ≠ 0 := by
  intro hz
  have := (qroot_zero oa ob).mp hz
  omega
 have hcb : (comb 45 a b).2 = 0 := by
  unfold comb qsub qadd
  have : qroot a.d (qneg b).d ≠ 0 := hroot
  rw [if_neg (by decide), if_pos rfl, if_neg this]
 have oz := comb_ok oa ob hcb
 have fz := comb_sz1 (c := 45) (Or.inr rfl) fa fb
 have z0 : 0 ≤ (comb 45 a b).1.d := by have := oz.d0; omega
 have z1 : (comb 45 a b).1.d ≤ 1000000 := by have := oz.d1; omega
 have HW := Hid.mk (fun w' (h1 : NN w' u a) (h2 : NN w' v b) => worked_any 45 a b 9000000 u v w' h1 h2 oa ob (by decide) fa fb (by decide) hcb)
 obtain ⟨b1, ao1, n1, c1, b2, ao2, n2, c2, b3, ao3, n3, c3, rfl, _, _, _⟩ := id ha
 obtain ⟨b4, ao4, n4, c4, b5, ao5, n5, c5, b6, ao6, n6, c6, rfl, _, _, _⟩ := id hb
 have hkb : Kp w ((w.alloc (.cells #[.bool b1, .slice ao1 n1 c1, .bool b2, .slice ao2 n2 c2, .bool b3, .slice ao3 n3 c3, .int .i64 a.d] 48)).alloc (.cells #[.bool b4, .slice ao4 n4 c4, .bool b5, .slice ao5 n5 c5, .bool b6, .slice ao6 n6 c6, .int .i64 b.d] 48)) := (Kp.alloc' (Kp.alloc' (Below.refl w.heap.size w) (.cells #[.bool b1, .slice ao1 n1 c1, .bool b2, .slice ao2 n2 c2, .bool b3, .slice ao3 n3 c3, .int .i64 a.d] 48)) (.cells #[.bool b4, .slice ao4 n4 c4, .bool b5, .slice ao5 n5 c5, .bool b6, .slice ao6 n6 c6, .int .i64 b.d] 48))
 have BA : Blk ((w.alloc (.cells #[.bool b1, .slice ao1 n1 c1, .bool b2, .slice ao2 n2 c2, .bool b3, .slice ao3 n3 c3, .int .i64 a.d] 48)).alloc (.cells #[.bool b4, .slice ao4 n4 c4, .bool b5, .slice ao5 n5 c5, .bool b6, .slice ao6 n6 c6, .int .i64 b.d] 48)) (w.heap.size) #[.bool b1, .slice ao1 n1 c1, .bool b2, .slice ao2 n2 c2, .bool b3, .slice ao3 n3 c3, .int .i64 a.d] 48 := (Blk.alloc (Blk.new w _ _) (.cells #[.bool b4, .slice ao4 n4 c4, .bool b5, .slice ao5 n5 c5, .bool b6, .slice ao6 n6 c6, .int .i64 b.d] 48))
 have BB : Blk ((w.alloc (.cells #[.bool b1, .slice ao1 n1 c1, .bool b2, .slice ao2 n2 c2, .bool b3, .slice ao3 n3 c3, .int .i64 a.d] 48)).alloc (.cells #[.bool b4, .slice ao4 n4 c4, .bool b5, .slice ao5 n5 c5, .bool b6, .slice ao6 n6 c6, .int .i64 b.d] 48)) (w.heap.size + 1) #[.bool b4, .slice ao4 n4 c4, .bool b5, .slice ao5 n5 c5, .bool b6, .slice ao6 n6 c6, .int .i64 b.d] 48 := (Blk.at (Blk.new (w.alloc (.cells #[.bool b1, .slice ao1 n1 c1, .bool b2, .slice ao2 n2 c2, .bool b3, .slice ao3 n3 c3, .int .i64 a.d] 48)) _ _) (by simp))
 
 replace ha := ha.keep hkb
 replace hb := hb.keep hkb
 generalize hzz : (comb 45 a b).1 = zz at *
 clear oa ob fa fb hroot hcb oz hzz
 by_cases h1 : a.d = 1
 ·have x1 : (a.d == 1) = true := by simp [h1]
  clear h h1
  go_enter Try.func16, Try.ntmps16
  go_wp2_with fail
  refine (HW.out _ ha hb).mono ?_
  rintro e w5 ⟨v5, rfl, hv5, hk5⟩
  obtain ⟨b31, ao31, n31, c31, b32, ao32, n32, c32, b33, ao33, n33, c33, rfl, y1, y2, _⟩ := id hv5
  have kp5 := kp_alloc w5 (.cells #[.bool b31, .slice ao31 n31 c31, .bool b32, .slice ao32 n32 c32, .bool b33, .slice ao33 n33 c33, .int .i64 zz.d] 48)
  go_wp2_with fail
  refine (sign_ref zz.p zz.q zz.d 18000020 _ _ _ (y1.keep kp5) (y2.keep kp5) (by decide) fz.1 fz.2.1 z0 z1).mono ?_
  rintro e w6 ⟨rfl, hk6⟩
  rw [← HR.out]
  generalize rord a b = q at *
  go_wp2_with fail
  go_ret
  exact ⟨rfl, hkb.trans' (hk5.trans' (kp5.trans' hk6))⟩
 ·have x1 : (a.d == 1) = false := by simp [h1]
  by_cases h2 : b.d = 1
  ·have x2 : (b.d == 1) = true := by simp [h2]
   clear h h1 h2
   go_enter Try.func16, Try.ntmps16
   go_wp2_with fail
   refine (HW.out _ ha hb).mono ?_
   rintro e w5 ⟨v5, rfl, hv5, hk5⟩
   obtain ⟨b31, ao31, n31, c31, b32, ao32, n32, c32, b33, ao33, n33, c33, rfl, y1, y2, _⟩ := id hv5
   have kp5 := kp_alloc w5 (.cells #[.bool b31, .slice ao31 n31 c31, .bool b32, .slice ao32 n32 c32, .bool b33, .slice ao33 n33 c33, .int .i64 zz.d] 48)
   go_wp2_with fail
   refine (sign_ref zz.p zz.q zz.d 18000020 _ _ _ (y1.keep kp5) (y2.keep kp5) (by decide) fz.1 fz.2.1 z0 z1).mono ?_
   rintro e w6 ⟨rfl, hk6⟩
   rw [← HR.out]
   generalize rord a b = q at *
   go_wp2_with fail
   go_ret
   exact ⟨rfl, hkb.trans' (hk5.trans' (kp5.trans' hk6))⟩
  ·have x2 : (b.d == 1) = false := by simp [h2]
   have h3 : a.d = b.d := by omega
   have x3 : (a.d == b.d) = true := by simp [h3]
   clear h h1 h2 h3
   go_enter Try.func16, Try.ntmps16
   go_wp2_with fail
   refine (HW.out _ ha hb).mono ?_
   rintro e w5 ⟨v5, rfl, hv5, hk5⟩
   obtain ⟨b31, ao31, n31, c31, b32, ao32, n32, c32, b33, ao33, n33, c33, rfl, y1, y2, _⟩ := id hv5
   have kp5 := kp_alloc w5 (.cells #[.bool b31, .slice ao31 n31 c31, .bool b32, .slice ao32 n32 c32, .bool b33, .slice ao33 n33 c33, .int .i64 zz.d] 48)
   go_wp2_with fail
   refine (sign_ref zz.p zz.q zz.d 18000020 _ _ _ (y1.keep kp5) (y2.keep kp5) (by decide) fz.1 fz.2.1 z0 z1).mono ?_
   rintro e w6 ⟨rfl, hk6⟩
   rw [← HR.out]
   generalize rord a b = q at *
   go_wp2_with fail
   go_ret
   exact ⟨rfl, hkb.trans' (hk5.trans' (kp5.trans' hk6))⟩

theorem ordnum_any (a b : Qn) (u v : Value) (w : World) (ha : NN w u a) (hb : NN w v b) (oa : Qok a) (ob : Qok b) (fa : QF 9000000 a) (fb : QF 9000000 b) : Calls Try.prog 16 #[u, v] w (RetV w (.int .i64 (rord a b))) := by
 by_cases h : a.d = 1 ∨ b.d = 1 ∨ a.d = b.d
 ·exact order_one a b u v w ha hb oa ob fa fb h
 ·exact order_two a b u v w 9000000 (Nat.le_refl _) ha hb oa ob fa fb h

end Go.Proofs.Ytjahbjjekednfaa

namespace Go.Proofs.Ytjahbjjekednfaa
open Go.RowKit

set_option maxHeartbeats 1600000 in
theorem rcompare_any (s t : ByteArray) (r1 r2 : Rs) (w : World) (h1 : Rk s r1) (h2 : Rk t r2) : Calls Try.prog 10 #[.string s, .string t] w (RetV w (.tuple #[.int .i64 (cmpOut (rord r1.v r2.v) r1 r2).1, .int .i64 (cmpOut (rord r1.v r2.v) r1 r2).2])) := by
 have q1 := rk_ok h1
 have q2 := rk_ok h2
 by_cases he1 : r1.e = 0
 ·by_cases he2 : r2.e = 0
  ·have HO : cmpOut (rord r1.v r2.v) r1 r2 = (rord r1.v r2.v, 0) := by unfold cmpOut; rw [if_neg (by omega), if_neg (by omega)]
   rw [HO]
   have x1 : (r1.e != 0) = false := by simp [he1]
   have x2 : (r2.e != 0) = false := by simp [he2]
   have o1 := q1 he1
   have o2 := q2 he2
   go_enter Try.func10, Try.ntmps10
   go_wp2_with fail
   refine (rread_any s r1 _ h1).mono ?_
   rintro e w1 ⟨v1, a1, rfl, hv1, ha1, hk1⟩
   obtain ⟨b1, ao1, n1, c1, b2, ao2, n2, c2, b3, ao3, n3, c3, rfl, _, _, _⟩ := id hv1
   have e1 := ha1 he1
   subst e1
   clear ha1
   go_wp2_with fail
   have kp1 := kp_alloc w1 (.cells #[.bool b1, .slice ao1 n1 c1, .bool b2, .slice ao2 n2 c2, .bool b3, .slice ao3 n3 c3, .int .i64 r1.v.d] 48)
   refine (rread_any t r2 _ h2).mono ?_
   rintro e w2 ⟨v2, a2, rfl, hv2, ha2, hk2⟩
   obtain ⟨b4, ao4, n4, c4, b5, ao5, n5, c5, b6, ao6, n6, c6, rfl, _, _, _⟩ := id hv2
   have e2 := ha2 he2
   subst e2
   clear ha2
   have B1 : Blk w2 w1.heap.size #[.bool b1, .slice ao1 n1 c1, .bool b2, .slice ao2 n2 c2, .bool b3, .slice ao3 n3 c3, .int .i64 r1.v.d] 48 := Blk.keep hk2 (Blk.new w1 _ _)
   have b1c := B1.cell
   have b1l := B1.lt
   have kp2 := kp_alloc w2 (.cells #[.bool b4, .slice ao4 n4 c4, .bool b5, .slice ao5 n5 c5, .bool b6, .slice ao6 n6 c6, .int .i64 r2.v.d] 48)
   go_wp2_with fail
   refine (ordnum_any r1.v r2.v _ _ _ (((hv1.keep kp1).keep hk2).keep kp2) (hv2.keep kp2) (o1.q he1) (o2.q he2) o1.f o2.f).mono ?_
   rintro e w3 ⟨rfl, hk3⟩
   generalize rord r1.v r2.v = q at *
   go_wp2_with fail
   refine bodyPost_ret (v := .tuple #[.int .i64 q, .int .i64 0]) (by simp [results, Try.results10, go_sem]) rfl ?_
   exact ⟨rfl, ((hk1.trans' (kp1.trans' hk2)).trans' kp2).trans' hk3⟩
  ·have HO : cmpOut (rord r1.v r2.v) r1 r2 = (0, r2.e) := by unfold cmpOut; rw [if_neg (by omega), if_pos he2]
   rw [HO]
   have x1 : (r1.e != 0) = false := by simp [he1]
   have x2 : (r2.e != 0) = true := by simp [he2]
   go_enter Try.func10, Try.ntmps10
   go_wp2_with fail
   refine (rread_any s r1 _ h1).mono ?_
   rintro e w1 ⟨v1, a1, rfl, hv1, _, hk1⟩
   obtain ⟨b1, ao1, n1, c1, b2, ao2, n2, c2, b3, ao3, n3, c3, rfl, _, _, _⟩ := id hv1
   go_wp2_with fail
   refine (rread_any t r2 _ h2).mono ?_
   rintro e w2 ⟨v2, a2, rfl, hv2, _, hk2⟩
   obtain ⟨b4, ao4, n4, c4, b5, ao5, n5, c5, b6, ao6, n6, c6, rfl, _, _, _⟩ := id hv2
   go_wp2_with fail
   refine bodyPost_ret (v := .tuple #[.int .i64 0, .int .i64 r2.e]) (by simp [results, Try.results10, go_sem]) rfl ?_
   exact ⟨rfl, Kp.alloc' ((Kp.alloc' hk1 _).trans' hk2) _⟩
 ·have HO : cmpOut (rord r1.v r2.v) r1 r2 = (0, r1.e) := by unfold cmpOut; rw [if_pos he1]
  rw [HO]
  have x1 : (r1.e != 0) = true := by simp [he1]
  go_enter Try.func10, Try.ntmps10
  go_wp2_with fail
  refine (rread_any s r1 _ h1).mono ?_
  rintro e w1 ⟨v1, a1, rfl, hv1, _, hk1⟩
  obtain ⟨b1, ao1, n1, c1, b2, ao2, n2, c2, b3, ao3, n3, c3, rfl, _, _, _⟩ := id hv1
  go_wp2_with fail
  refine bodyPost_ret (v := .tuple #[.int .i64 0, .int .i64 r1.e]) (by simp [results, Try.results10, go_sem]) rfl ?_
  exact ⟨rfl, Kp.alloc' hk1 _⟩

theorem cmp_same {s t : ByteArray} {r1 r2 : Rs} (h1 : Rk s r1) (h2 : Rk t r2) : cmpOut (qcmp r1.v r2.v) r1 r2 = cmpOut (rord r1.v r2.v) r1 r2 := by
 unfold cmpOut
 by_cases he1 : r1.e = 0
 ·by_cases he2 : r2.e = 0
  ·rw [qcmp_rord ((rk_ok h1 he1).q he1) ((rk_ok h2 he2).q he2)]
  ·rw [if_neg (by omega), if_pos he2, if_neg (by omega), if_pos he2]
 ·rw [if_pos he1, if_pos he1]

set_option maxHeartbeats 1600000 in
theorem compares_any (s t : ByteArray) (w : World) : Calls Try.prog 4 #[.string s, .string t] w (RetV w (.bool true)) := by
 obtain ⟨r1, h1⟩ := rk_all s
 obtain ⟨r2, h2⟩ := rk_all t
 have HC := Hid.mk (fun w' => rcompare_any s t r1 r2 w' h1 h2)
 have HP := Hid.mk (fun w' => scompare_any s t r1 r2 w' h1 h2)
 rw [cmp_same h1 h2] at HP
 generalize cmpOut (rord r1.v r2.v) r1 r2 = q at *
 obtain ⟨q1, q2⟩ := q
 go_enter Try.func4, Try.ntmps4
 go_wp2_with fail
 refine (HP.out _).mono ?_
 rintro e w1 ⟨rfl, hk1⟩
 go_wp2_with fail
 refine (HC.out _).mono ?_
 rintro e w2 ⟨rfl, hk2⟩
 go_wp2_with fail
 refine (num_any q2 _).mono ?_
 rintro e w3 ⟨rfl, hk3⟩
 go_wp2_with fail
 go_ret
 exact ⟨rfl, (hk1.trans' hk2).trans' hk3⟩

end Go.Proofs.Ytjahbjjekednfaa

namespace Go.Proofs.Ytjahbjjekednfaa.compares
open Go.ChangeShapes Go.WideShapes Go.ChangeAt Go.RowKit
open Go.ChangeMaps (open_string shut_string)

theorem own : ownKnob Try.prog.godebug = none := by kernel_rfl

theorem walk (a0 a1 : ByteArray) (w : World) :
  Calls Try.prog 4 #[.string a0, .string a1] w fun e w' => e = .returned (.bool true) ∧ Below w.heap.size w w' := compares_any a0 a1 w

set_option maxRecDepth 100000 in
theorem lifted (os : Os) (started : os.Started) (H : Type) (enc : TypeId × Value → H) :
  ReturnsInHanded {} Try.checked os 4 .any (Rows.comparesSpec.pre6 enc Try.prog Try.f4 Rows.comparesRow.domain false) (Rows.comparesSpec.post enc Try.prog Try.f4 false true false false) := by
 refine returnsInHanded_of_change (C := Try.checked) own started (by kernel_rfl) Try.func4
  (ChangeSpec.witness6 (enc := enc) (C := Try.checked) false ⟨#[], #[.string ByteArray.empty, .string ByteArray.empty], []⟩ 8 (by kernel_rfl) (by kernel_rfl) (by kernel_rfl) (by kernel_rfl)) ?_
 intro W base args ds gs before hval0 hW hcnd _
 have hval : ∀ (j : Nat) t v, Try.f4.params[j]? = some t → args[j]? = some v → Value.okWide Try.prog W .any base t v := hval0
 have hW' := hW
 obtain ⟨p, q, hA0, hV, rfl, hfz, hnd⟩ := hW
 have hA : DataW.TrodAll enc Try.prog W 0 (fun _ => true) true Try.f4.params.toList args.toList ds p := hA0
 rw [Try.params4] at hA hval
 obtain ⟨v0, vs0, d0, ds0, p0, q0, hargs, rfl, rfl, h0, r0⟩ := trodAll_cons hA
 obtain ⟨v1, vs1, d1, ds1, p1, q1, rfl, rfl, rfl, h1, r1⟩ := trodAll_cons r0
 obtain ⟨rfl, rfl, rfl⟩ := trodAll_nil r1
 obtain rfl : args = #[v0, v1] := by cases args; simp_all
 obtain ⟨rfl, rfl⟩ := trodVars_none hV
 obtain ⟨a0, rfl, rfl, rfl, w0⟩ := open_string Try.underlying9 (hval 0 9 v0 rfl rfl) h0
 obtain ⟨a1, rfl, rfl, rfl, w1⟩ := open_string Try.underlying9 (hval 1 9 v1 rfl rfl) h1
 clear hA0 hval0
 refine (walk a0 a1 W).mono fun e W' ⟨he, bel⟩ => ?_
 subst he
 exact ⟨_, rfl, _, _, _, [], _, [], hW', trodAll_mk1 (shut_bool Try.underlying4 _), trodAll_cons_mk (shut_string Try.underlying9 w0) (trodAll_cons_mk (shut_string Try.underlying9 w1) trodAll_mk0), rfl, bel.frame _, fun h => by cases h⟩

theorem over : Rows.comparesRow.holds Try.pinned (OpenSpec.ofChange Rows.comparesSpec) :=
 OpenClaim.holds_of_wide 4 Try.f4 rfl rfl rfl rfl rfl rfl rfl ⟨rfl, rfl, rfl, rfl, rfl⟩ rfl rfl rfl rfl rfl (by kernel_rfl) Try.func4 (by kernel_rfl)
  (of_decide_eq_true (by kernel_rfl)) (by unfold Func.isWrapper; first | (rw [if_pos (by decide +kernel)]; kernel_rfl) | (rw [if_neg (by decide +kernel)]; exact ⟨rfl, rfl⟩))
  (fun os started H enc _ => lifted os started H enc)

end Go.Proofs.Ytjahbjjekednfaa.compares

namespace Go.Proofs.Ytjahbjjekednfaa
theorem compares_holds : Rows.ComparesSaid := compares.over
#print axioms compares_holds
end Go.Proofs.Ytjahbjjekednfaa
