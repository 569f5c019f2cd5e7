import Derived.Test.YtjahbjjekednfaaR19
import Derived.Test.YtjahbjjekednfaaQ8
namespace Go.Proofs.Ytjahbjjekednfaa
open Go.RowKit

set_option maxHeartbeats 1600000 in
theorem rcheck_any (s : ByteArray) (r : Rs) (w : World) (h : Rk s r) : Calls Try.prog 7 #[.string s] w (RetV w (.tuple #[.int .i64 r.e, .int .i64 r.k])) := by
 go_enter Try.func7, Try.ntmps7
 go_wp2_with fail
 refine (rread_any s r _ h).mono ?_
 rintro e w1 ⟨v1, a1, rfl, hv1, _, hk1⟩
 obtain ⟨b1, ao1, n1, c1, b2, ao2, n2, c2, b3, ao3, n3, c3, rfl, g1, g2, g3⟩ := id hv1
 clear g1 g2 g3
 go_wp2_with fail
 refine bodyPost_ret (v := .tuple #[.int .i64 r.e, .int .i64 r.k]) (by simp [results, Try.results7, go_sem]) rfl ?_
 exact ⟨rfl, Kp.alloc' hk1 _⟩

set_option maxHeartbeats 800000 in
theorem num_any (n : Int) (w : World) : Calls Try.prog 8 #[.int .i64 n] w (RetV w (.int .i64 n)) := by
 go_enter Try.func8, Try.ntmps8
 go_wp2_with fail
 go_ret
 exact ⟨rfl, Below.refl _ _⟩

set_option maxHeartbeats 1600000 in
theorem checks_any (s : ByteArray) (w : World) : Calls Try.prog 3 #[.string s] w (RetV w (.bool true)) := by
 obtain ⟨r, hr⟩ := rk_all s
 go_enter Try.func3, Try.ntmps3
 go_wp2_with fail
 refine (check_any s r _ hr).mono ?_
 rintro e w1 ⟨rfl, hk1⟩
 go_wp2_with fail
 refine (rcheck_any s r _ hr).mono ?_
 rintro e w2 ⟨rfl, hk2⟩
 go_wp2_with fail
 refine (num_any r.e _).mono ?_
 rintro e w3 ⟨rfl, hk3⟩
 go_wp2_with fail
 go_ret
 exact ⟨rfl, (hk1.trans' hk2).trans' hk3⟩

end Go.Proofs.Ytjahbjjekednfaa
