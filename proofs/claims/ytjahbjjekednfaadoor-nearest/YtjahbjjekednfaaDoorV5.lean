import Derived.Test.YtjahbjjekednfaaDoorV1
import Derived.Test.YtjahbjjekednfaaDoorQ2
namespace Go.Proofs.YtjahbjjekednfaaDoor
open Go.RowKit

/-- The form of a number, as it is told. -/
def formV (a : Qn) : Value := .agg #[.string (strOf (Go.Lib.itoa a.p)), .string (strOf (Go.Lib.itoa a.q)), .string (strOf (Go.Lib.itoa a.r)), .int .i64 a.d]
def noV : Value := .agg #[.string ⟨#[]⟩, .string ⟨#[]⟩, .string ⟨#[]⟩, .int .i64 0]
def valV (r : Rs) : Value := if r.e = 0 then formV r.v else noV

set_option maxHeartbeats 1600000 in
set_option maxRecDepth 100000 in
theorem nform_any (a : Qn) (v : Value) (w : World) (hv : XN w v a) (fp : Fit a.p) (fq : Fit a.q) (fr : Fit a.r) (ht : Tens w) : Calls Tryd.prog 29 #[v] w (RetV w (formV a)) := by
 obtain ⟨b1, ao1, n1, c1, b2, ao2, n2, c2, b3, ao3, n3, c3, rfl, g1, g2, g3⟩ := hv
 have kpx := kp_alloc w (.cells #[.bool b1, .slice ao1 n1 c1, .bool b2, .slice ao2 n2 c2, .bool b3, .slice ao3 n3 c3, .int .i64 a.d] 58)
 have kp0 := Kp.alloc' kpx (.cells #[.string ⟨#[]⟩, .string ⟨#[]⟩, .string ⟨#[]⟩, .int .i64 0] 23)
 have B0 : Blk ((w.alloc (.cells #[.bool b1, .slice ao1 n1 c1, .bool b2, .slice ao2 n2 c2, .bool b3, .slice ao3 n3 c3, .int .i64 a.d] 58)).alloc (.cells #[.string ⟨#[]⟩, .string ⟨#[]⟩, .string ⟨#[]⟩, .int .i64 0] 23)) w.heap.size #[.bool b1, .slice ao1 n1 c1, .bool b2, .slice ao2 n2 c2, .bool b3, .slice ao3 n3 c3, .int .i64 a.d] 58 := Blk.alloc (Blk.new w _ _) _
 have C0 : Blk ((w.alloc (.cells #[.bool b1, .slice ao1 n1 c1, .bool b2, .slice ao2 n2 c2, .bool b3, .slice ao3 n3 c3, .int .i64 a.d] 58)).alloc (.cells #[.string ⟨#[]⟩, .string ⟨#[]⟩, .string ⟨#[]⟩, .int .i64 0] 23)) (w.heap.size + 1) #[.string ⟨#[]⟩, .string ⟨#[]⟩, .string ⟨#[]⟩, .int .i64 0] 23 := Blk.at (Blk.new (w.alloc (.cells #[.bool b1, .slice ao1 n1 c1, .bool b2, .slice ao2 n2 c2, .bool b3, .slice ao3 n3 c3, .int .i64 a.d] 58)) _ _) (by simp)
 unfold formV
 have T1 := fun (u : Value) (W : World) (hu : WN W u a.p) (hT : Tens W) => text_any a.p u W hu fp hT
 have T2 := fun (u : Value) (W : World) (hu : WN W u a.q) (hT : Tens W) => text_any a.q u W hu fq hT
 have T3 := fun (u : Value) (W : World) (hu : WN W u a.r) (hT : Tens W) => text_any a.r u W hu fr hT
 generalize strOf (Go.Lib.itoa a.p) = s1 at T1 ⊢
 generalize strOf (Go.Lib.itoa a.q) = s2 at T2 ⊢
 generalize strOf (Go.Lib.itoa a.r) = s3 at T3 ⊢
 go_enter Tryd.func29, Tryd.ntmps29
 go_wp2_with fail
 refine (T1 _ _ (g1.keep kp0) (ht.keep kp0)).mono ?_
 rintro e w1 ⟨rfl, hk1⟩
 have k1 := kp0.trans' hk1
 have B1 := B0.keep hk1
 have b1c := B1.cell
 have b1l := B1.lt
 go_wp2_with fail
 refine (T2 _ _ (g2.keep k1) (ht.keep k1)).mono ?_
 rintro e w2 ⟨rfl, hk2⟩
 have k2 := k1.trans' hk2
 have B2 := B1.keep hk2
 clear b1c b1l
 have b2c := B2.cell
 have b2l := B2.lt
 go_wp2_with fail
 refine (T3 _ _ (g3.keep k2) (ht.keep k2)).mono ?_
 rintro e w3 ⟨rfl, hk3⟩
 have k3 := k2.trans' hk3
 have B3 := B2.keep hk3
 have C3 := ((C0.keep hk1).keep hk2).keep hk3
 clear b2c b2l
 have b3c := B3.cell
 have b3l := B3.lt
 have c3c := C3.cell
 have c3f := C3.frozen
 have c3l := C3.lt
 go_wp2_with fail
 refine bodyPost_ret (v := .agg #[.string s1, .string s2, .string s3, .int .i64 a.d]) (by simp [results, Tryd.results29, go_sem, c3c]) rfl ?_
 exact ⟨rfl, (Below.setCell (Below.setCell (stK2 (A := w.heap.size + 1) (_) (_) k3 (Nat.le_succ _)) (p := ⟨w.heap.size + 1, 2, none⟩) (Nat.le_succ _) _) (p := ⟨w.heap.size + 1, 3, none⟩) (Nat.le_succ _) _)⟩

end Go.Proofs.YtjahbjjekednfaaDoor

namespace Go.Proofs.YtjahbjjekednfaaDoor
open Go.RowKit

theorem rk_sound {s : ByteArray} {r : Rs} (h : Rk s r) (he : r.e = 0) : RsOk 9000000 r := by
 rcases h with ⟨_, rfl⟩ | ⟨_, _, rfl⟩ | ⟨h1, _, r0, h3, rfl⟩
 ·exact absurd he (by simp)
 ·exact absurd he (by simp)
 ·have h1 : 0 < 2 ^ 8 := by decide
  have hk := (ch_ok (k := 1) (C := 2 * (20 * 2 ^ 8)) (by decide) (by decide) (pd_ok 8) add_cost h3).mono (n := 9000000) (by rw [bl_len]; omega)
  by_cases h5 : r0.e = 0
  ·rw [if_pos h5]
   exact ⟨hk.f, hk.d, fun _ => hk.q h5, fun _ => rfl⟩
  ·rw [if_neg h5] at he
   exact absurd he h5
set_option maxHeartbeats 1600000 in
theorem sval_any (s : ByteArray) (r : Rs) (w : World) (h : Rk s r) (ht : Tens w) : Calls Tryd.prog 9 #[.string s] w (RetV w (.tuple #[valV r, .int .i64 r.e])) := by
 have kp0 := kp_alloc w (.cells #[.string ⟨#[]⟩, .string ⟨#[]⟩, .string ⟨#[]⟩, .int .i64 0] 23)
 have BR0 := Blk.new w #[.string ⟨#[]⟩, .string ⟨#[]⟩, .string ⟨#[]⟩, .int .i64 0] 23
 by_cases he : r.e = 0
 ·have o := rk_sound h he
  have HO : valV r = formV r.v := if_pos he
  have x1 : (r.e != 0) = false := by simp [he]
  rw [HO]
  have F := fun (u : Value) (W : World) (hu : XN W u r.v) (hT : Tens W) => nform_any r.v u W hu (o.f.1.fit (by decide)) (o.f.2.1.fit (by decide)) (o.f.2.2.fit (by decide)) hT
  unfold formV at F ⊢
  generalize strOf (Go.Lib.itoa r.v.p) = s1 at F ⊢
  generalize strOf (Go.Lib.itoa r.v.q) = s2 at F ⊢
  generalize strOf (Go.Lib.itoa r.v.r) = s3 at F ⊢
  go_enter Tryd.func9, Tryd.ntmps9
  go_wp2_with fail
  refine (reckon_any s r _ h).mono ?_
  rintro e w1 ⟨v1, rfl, hv1, hk1⟩
  obtain ⟨b1, ao1, n1, c1, b2, ao2, n2, c2, b3, ao3, n3, c3, rfl, g1, g2, g3⟩ := id hv1
  clear g1 g2 g3
  have kp1 := kp_alloc w1 (.cells #[.bool b1, .slice ao1 n1 c1, .bool b2, .slice ao2 n2 c2, .bool b3, .slice ao3 n3 c3, .int .i64 r.v.d] 58)
  go_wp2_with fail
  refine (F _ _ (hv1.keep kp1) (ht.keep ((kp0.trans' hk1).trans' kp1))).mono ?_
  rintro e w2 ⟨rfl, hk2⟩
  have BR := ((BR0.keep hk1).keep kp1).keep hk2
  have bec := BR.cell
  have bef := BR.frozen
  have bel := BR.lt
  go_wp2_with fail
  refine bodyPost_ret (v := .tuple #[.agg #[.string s1, .string s2, .string s3, .int .i64 r.v.d], .int .i64 0]) (by simp [results, Tryd.results9, go_sem, bec]) rfl ?_
  exact ⟨by rw [he], (Below.setCell (Below.setCell (stK2 (A := w.heap.size) (_) (_) (((kp0.trans' hk1).trans' kp1).trans' hk2) (Nat.le_refl _)) (p := ⟨w.heap.size, 2, none⟩) (Nat.le_refl _) _) (p := ⟨w.heap.size, 3, none⟩) (Nat.le_refl _) _)⟩
 ·have HO : valV r = noV := if_neg he
  have x1 : (r.e != 0) = true := by simp [he]
  rw [HO]
  unfold noV
  go_enter Tryd.func9, Tryd.ntmps9
  go_wp2_with fail
  refine (reckon_any s r _ h).mono ?_
  rintro e w1 ⟨v1, rfl, hv1, hk1⟩
  obtain ⟨b1, ao1, n1, c1, b2, ao2, n2, c2, b3, ao3, n3, c3, rfl, g1, g2, g3⟩ := id hv1
  clear g1 g2 g3
  have BR := Blk.alloc (BR0.keep hk1) (.cells #[.bool b1, .slice ao1 n1 c1, .bool b2, .slice ao2 n2 c2, .bool b3, .slice ao3 n3 c3, .int .i64 r.v.d] 58)
  have bec := BR.cell
  have bef := BR.frozen
  have bel := BR.lt
  go_wp2_with fail
  refine bodyPost_ret (v := .tuple #[.agg #[.string ⟨#[]⟩, .string ⟨#[]⟩, .string ⟨#[]⟩, .int .i64 0], .int .i64 r.e]) (by simp [results, Tryd.results9, go_sem, bec]) rfl ?_
  exact ⟨rfl, (Below.setCell (Below.setCell (stK2 (A := w.heap.size) (_) (_) (Kp.alloc' (kp0.trans' hk1) _) (Nat.le_refl _)) (p := ⟨w.heap.size, 2, none⟩) (Nat.le_refl _) _) (p := ⟨w.heap.size, 3, none⟩) (Nat.le_refl _) _)⟩

end Go.Proofs.YtjahbjjekednfaaDoor
