import Derived.Test.YtjahbjjekednfaaC1u
import Derived.Test.YtjahbjjekednfaaC1
namespace Go.Proofs.Ytjahbjjekednfaa
open Go.RowKit

theorem cmp3_sign (x y : Int) : cmp3 x y = (x - y).sign := by
 unfold cmp3
 rcases sign3 (x - y) with ⟨h1, h2⟩ | ⟨h1, h2⟩ | ⟨h1, h2⟩ <;> rw [h1] <;> (repeat (split <;> try omega))
set_option maxHeartbeats 1600000 in
theorem subtract_any (x y : Int) (u v : Value) (w : World) (hx : WN w u x) (hy : WN w v y) (fx : Fit x) (fy : Fit y) : Calls Try.prog 55 #[u, v] w (RetW w (x - y)) := by
 have fy' : Fit (-y) := by obtain ⟨n, h1, h2⟩ := fy; exact ⟨n, h1, by rwa [Int.natAbs_neg]⟩
 obtain ⟨b1, ao1, n1, c1, rfl⟩ := hx.shape'
 obtain ⟨b2, ao2, n2, c2, rfl⟩ := hy.shape'
 go_enter Try.func55, Try.ntmps55
 go_wp2_with fail
 have kp0 : Kp w _ := (Kp.alloc' (Kp.alloc' (Kp.alloc' (Below.refl w.heap.size w) (.cells #[.bool b1, .slice ao1 n1 c1] 39)) (.cells #[.bool b2, .slice ao2 n2 c2] 39)) (.cells #[.bool false, .slice none 0 0] 39))
 have sf0 : Sf 2 w _ := (Sf.alloc (Sf.alloc (Sf.alloc (Sf.refl 2 w) (.cells #[.bool b1, .slice ao1 n1 c1] 39)) (.cells #[.bool b2, .slice ao2 n2 c2] 39)) (.cells #[.bool false, .slice none 0 0] 39))
 refine (negate_any y _ _ (hy.soft sf0) fy).mono ?_
 rintro e w1 ⟨v1, rfl, hv1, hk1⟩
 obtain ⟨b3, ao3, n3, c3, rfl⟩ := hv1.shape'
 have kq0 := kp0.trans' hk1
 have sq0 := sf0.trans (Sf.keep hk1)
 have B1x : Blk w1 (w.heap.size) #[.bool b1, .slice ao1 n1 c1] 39 := Blk.keep hk1 (Blk.at (Blk.alloc (Blk.alloc (Blk.new _ _ _) _) _) (by simp))
 have B1res : Blk w1 (w.heap.size + 1 + 1) #[.bool false, .slice none 0 0] 39 := Blk.keep hk1 (Blk.at (Blk.new _ _ _) (by simp))
 obtain ⟨B1xc, B1xf, B1xl⟩ := B1x.all
 obtain ⟨B1resc, B1resf, B1resl⟩ := B1res.all
 replace hx := hx.soft sq0
 go_wp2_with fail
 have kp1 : Kp w _ := (Kp.alloc' kq0 (.cells #[.bool b3, .slice ao3 n3 c3] 39))
 have sf1 : Sf 2 w1 _ := (Sf.alloc (Sf.refl 2 w1) (.cells #[.bool b3, .slice ao3 n3 c3] 39))
 refine (add_any x (-y) _ _ _ (hx.soft sf1) (hv1.soft sf1) fx fy').mono ?_
 rintro e w2 ⟨v2, rfl, hv2, hk2⟩
 obtain ⟨b4, ao4, n4, c4, rfl⟩ := hv2.shape'
 have kq1 := kp1.trans' hk2
 have sq1 := sf1.trans (Sf.keep hk2)
 have B2res := Blk.keep hk2 (Blk.alloc B1res _)
 obtain ⟨B2resc, B2resf, B2resl⟩ := B2res.all
 have ge2res : w.heap.size ≤ w.heap.size + 1 + 1 := by (first | omega | (have := kp1.size; simp only [World.size_alloc, size_setCell', size_drew'] at this; omega))
 clear B1x B1xc B1xf B1res B1resc B1resf
 rw [← Int.sub_eq_add_neg] at hv2
 go_wp2_with fail
 refine bodyPost_ret (v := .agg #[.bool b4, .slice ao4 n4 c4]) (by simp [results, Try.results55, go_sem, B2resc]) rfl ?_
 have kpE : Kp w _ := (stK2 (A := w.heap.size + 1 + 1) (.bool b4) (.slice ao4 n4 c4) kq1 (by have := ge2res; omega))
 have sfE : Sf 2 w2 _ := (stS2 (E := 2) (.bool b4) (.slice ao4 n4 c4) B2res (by decide))
 exact retW_mk hv2 sfE kpE
set_option maxHeartbeats 1600000 in
theorem wcompare_any (x y : Int) (u v : Value) (w : World) (hx : WN w u x) (hy : WN w v y) : Calls Try.prog 84 #[u, v] w (RetV w (.int .i64 (x - y).sign)) := by
 obtain ⟨b1, ao1, n1, c1, rfl⟩ := hx.shape'
 obtain ⟨b2, ao2, n2, c2, rfl⟩ := hy.shape'
 obtain ⟨e1, r1⟩ := hx.rp
 obtain ⟨e2, r2⟩ := hy.rp
 have kp0 : Kp w _ := Kp.alloc' (kp_alloc w (.cells #[.bool b1, .slice ao1 n1 c1] 39)) (.cells #[.bool b2, .slice ao2 n2 c2] 39)
 replace r1 := r1.keep kp0
 replace r2 := r2.keep kp0
 clear hx hy
 by_cases hx : x < 0
 ·rw [decide_eq_true hx] at e1
  subst e1
  by_cases hy : y < 0
  ·rw [decide_eq_true hy] at e2
   subst e2
   have E : (x - y).sign = cmp3 (y.natAbs : Int) (x.natAbs : Int) := by rw [cmp3_sign]; congr 1; omega
   rw [E]
   go_enter Try.func84, Try.ntmps84
   go_wp2_with fail
   refine (compareLimbs_any _ _ _ _ _ r2 r1).mono ?_
   rintro e w1 ⟨rfl, hk1⟩
   generalize cmp3 (y.natAbs : Int) (x.natAbs : Int) = q at *
   go_wp2_with fail
   go_ret
   exact ⟨rfl, kp0.trans' hk1⟩
  ·rw [decide_eq_false hy] at e2
   subst e2
   have E : (x - y).sign = -1 := Int.sign_eq_neg_one_of_neg (by omega)
   rw [E]
   go_enter Try.func84, Try.ntmps84
   go_wp2_with fail
   go_ret
   exact ⟨rfl, kp0⟩
 ·rw [decide_eq_false hx] at e1
  subst e1
  by_cases hy : y < 0
  ·rw [decide_eq_true hy] at e2
   subst e2
   have E : (x - y).sign = 1 := Int.sign_eq_one_of_pos (by omega)
   rw [E]
   go_enter Try.func84, Try.ntmps84
   go_wp2_with fail
   go_ret
   exact ⟨rfl, kp0⟩
  ·rw [decide_eq_false hy] at e2
   subst e2
   have E : (x - y).sign = cmp3 (x.natAbs : Int) (y.natAbs : Int) := by rw [cmp3_sign]; congr 1; omega
   rw [E]
   go_enter Try.func84, Try.ntmps84
   go_wp2_with fail
   refine (compareLimbs_any _ _ _ _ _ r1 r2).mono ?_
   rintro e w1 ⟨rfl, hk1⟩
   generalize cmp3 (x.natAbs : Int) (y.natAbs : Int) = q at *
   go_wp2_with fail
   go_ret
   exact ⟨rfl, kp0.trans' hk1⟩

end Go.Proofs.Ytjahbjjekednfaa
