import Derived.Test.YtjahbjjekednfaaQ2
namespace Go.Proofs.Ytjahbjjekednfaa
open Go.RowKit

set_option maxHeartbeats 1600000 in
theorem check_any (s : ByteArray) (r : Rs) (w : World) (h : Rk s r) : Calls Try.prog 6 #[.string s] w (RetV w (.tuple #[.int .i64 r.e, .int .i64 r.k])) := by
 go_enter Try.func6, Try.ntmps6
 go_wp2_with fail
 refine (reckon_any s r _ h).mono ?_
 rintro e w1 ⟨v1, rfl, hv1, hk1⟩
 obtain ⟨b1, ao1, n1, c1, b2, ao2, n2, c2, b3, ao3, n3, c3, rfl, g1, g2, g3⟩ := id hv1
 clear g1 g2 g3
 go_wp2_with fail
 refine bodyPost_ret (v := .tuple #[.int .i64 r.e, .int .i64 r.k]) (by simp [results, Try.results6, go_sem]) rfl ?_
 exact ⟨rfl, Kp.alloc' hk1 _⟩

end Go.Proofs.Ytjahbjjekednfaa
