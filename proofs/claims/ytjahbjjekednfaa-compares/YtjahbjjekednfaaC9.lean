import Derived.Test.YtjahbjjekednfaaC4
import Derived.Test.YtjahbjjekednfaaQ2
namespace Go.Proofs.Ytjahbjjekednfaa
open Go.RowKit

theorem rk_ok {s : ByteArray} {r : Rs} (h : Rk s r) (he : r.e = 0) : RsOk 9000000 r := by
 rcases h with ⟨_, rfl⟩ | ⟨_, _, rfl⟩ | ⟨h1, _, r0, h3, rfl⟩
 ·exact absurd he (by simp)
 ·exact absurd he (by simp)
 ·have h1 : 0 < 2 ^ 8 := by decide
  have hk := (ch_ok (k := 1) (C := 2 * (20 * 2 ^ 8)) (by decide) (by decide) (pd_ok 8) add_cost h3).mono (n := 9000000) (by rw [bl_len]; omega)
  by_cases h5 : r0.e = 0
  ·rw [if_pos h5]
   exact ⟨hk.f, hk.d, fun _ => hk.q h5, fun _ => rfl⟩
  ·rw [if_neg h5] at he
   exact absurd he h5
/-- What comparing comes to, once the two texts have been read. -/
def cmpOut (o : Int) (r1 r2 : Rs) : Int × Int := if r1.e ≠ 0 then (0, r1.e) else if r2.e ≠ 0 then (0, r2.e) else (o, 0)

set_option maxHeartbeats 1600000 in
theorem scompare_any (s t : ByteArray) (r1 r2 : Rs) (w : World) (h1 : Rk s r1) (h2 : Rk t r2) : Calls Try.prog 9 #[.string s, .string t] w (RetV w (.tuple #[.int .i64 (cmpOut (qcmp r1.v r2.v) r1 r2).1, .int .i64 (cmpOut (qcmp r1.v r2.v) r1 r2).2])) := by
 have q1 := rk_ok h1
 have q2 := rk_ok h2
 by_cases he1 : r1.e = 0
 ·by_cases he2 : r2.e = 0
  ·have HO : cmpOut (qcmp r1.v r2.v) r1 r2 = (qcmp r1.v r2.v, 0) := by unfold cmpOut; rw [if_neg (by omega), if_neg (by omega)]
   rw [HO]
   have x1 : (r1.e != 0) = false := by simp [he1]
   have x2 : (r2.e != 0) = false := by simp [he2]
   have o1 := q1 he1
   have o2 := q2 he2
   go_enter Try.func9, Try.ntmps9
   go_wp2_with fail
   refine (reckon_any s r1 _ h1).mono ?_
   rintro e w1 ⟨v1, rfl, hv1, hk1⟩
   obtain ⟨b1, ao1, n1, c1, b2, ao2, n2, c2, b3, ao3, n3, c3, rfl, g1, g2, g3⟩ := id hv1
   clear g1 g2 g3
   go_wp2_with fail
   have kp1 := kp_alloc w1 (.cells #[.bool b1, .slice ao1 n1 c1, .bool b2, .slice ao2 n2 c2, .bool b3, .slice ao3 n3 c3, .int .i64 r1.v.d] 41)
   refine (reckon_any t r2 _ h2).mono ?_
   rintro e w2 ⟨v2, rfl, hv2, hk2⟩
   obtain ⟨b4, ao4, n4, c4, b5, ao5, n5, c5, b6, ao6, n6, c6, rfl, g1, g2, g3⟩ := id hv2
   clear g1 g2 g3
   have B1 : Blk w2 w1.heap.size #[.bool b1, .slice ao1 n1 c1, .bool b2, .slice ao2 n2 c2, .bool b3, .slice ao3 n3 c3, .int .i64 r1.v.d] 41 := Blk.keep hk2 (Blk.new w1 _ _)
   have b1c := B1.cell
   have b1l := B1.lt
   have kp2 := kp_alloc w2 (.cells #[.bool b4, .slice ao4 n4 c4, .bool b5, .slice ao5 n5 c5, .bool b6, .slice ao6 n6 c6, .int .i64 r2.v.d] 41)
   go_wp2_with fail
   refine (xcompare_any r1.v r2.v 9000000 _ _ _ (((hv1.keep kp1).keep hk2).keep kp2) (hv2.keep kp2) (by decide) o1.f o2.f o1.d o2.d).mono ?_
   rintro e w3 ⟨rfl, hk3⟩
   generalize qcmp r1.v r2.v = q at *
   go_wp2_with fail
   refine bodyPost_ret (v := .tuple #[.int .i64 q, .int .i64 0]) (by simp [results, Try.results9, go_sem]) rfl ?_
   exact ⟨rfl, ((hk1.trans' (kp1.trans' hk2)).trans' kp2).trans' hk3⟩
  ·have HO : cmpOut (qcmp r1.v r2.v) r1 r2 = (0, r2.e) := by unfold cmpOut; rw [if_neg (by omega), if_pos he2]
   rw [HO]
   have x1 : (r1.e != 0) = false := by simp [he1]
   have x2 : (r2.e != 0) = true := by simp [he2]
   go_enter Try.func9, Try.ntmps9
   go_wp2_with fail
   refine (reckon_any s r1 _ h1).mono ?_
   rintro e w1 ⟨v1, rfl, hv1, hk1⟩
   obtain ⟨b1, ao1, n1, c1, b2, ao2, n2, c2, b3, ao3, n3, c3, rfl, g1, g2, g3⟩ := id hv1
   clear g1 g2 g3
   go_wp2_with fail
   refine (reckon_any t r2 _ h2).mono ?_
   rintro e w2 ⟨v2, rfl, hv2, hk2⟩
   obtain ⟨b4, ao4, n4, c4, b5, ao5, n5, c5, b6, ao6, n6, c6, rfl, g1, g2, g3⟩ := id hv2
   clear g1 g2 g3
   go_wp2_with fail
   refine bodyPost_ret (v := .tuple #[.int .i64 0, .int .i64 r2.e]) (by simp [results, Try.results9, go_sem]) rfl ?_
   exact ⟨rfl, Kp.alloc' ((Kp.alloc' hk1 _).trans' hk2) _⟩
 ·have HO : cmpOut (qcmp r1.v r2.v) r1 r2 = (0, r1.e) := by unfold cmpOut; rw [if_pos he1]
  rw [HO]
  have x1 : (r1.e != 0) = true := by simp [he1]
  go_enter Try.func9, Try.ntmps9
  go_wp2_with fail
  refine (reckon_any s r1 _ h1).mono ?_
  rintro e w1 ⟨v1, rfl, hv1, hk1⟩
  obtain ⟨b1, ao1, n1, c1, b2, ao2, n2, c2, b3, ao3, n3, c3, rfl, g1, g2, g3⟩ := id hv1
  clear g1 g2 g3
  go_wp2_with fail
  refine bodyPost_ret (v := .tuple #[.int .i64 0, .int .i64 r1.e]) (by simp [results, Try.results9, go_sem]) rfl ?_
  exact ⟨rfl, Kp.alloc' hk1 _⟩

end Go.Proofs.Ytjahbjjekednfaa
