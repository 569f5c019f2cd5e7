import Derived.Test.YtjahbjjekednfaaU4
namespace Go.Proofs.Ytjahbjjekednfaa
open Go.RowKit

set_option maxHeartbeats 1600000 in
theorem numd_any (n : Int) (w : World) : Calls Try.prog 8 #[.int .i64 n] w (RetV w (.int .i64 n)) := by
 go_enter Try.func8, Try.ntmps8
 go_wp2_with fail
 go_ret
 exact ⟨rfl, Below.refl _ _⟩

set_option maxHeartbeats 1600000 in
/-- Periods. -/
theorem periods_any (s : ByteArray) (w : World) : Calls Try.prog 5 #[.string s] w (RetV w (.bool true)) := by
 obtain ⟨r, hr⟩ := rk_all s
 obtain ⟨x, y, er, ho⟩ := outD_ex r
 go_enter Try.func5, Try.ntmps5
 go_wp2_with fail
 refine (speriod_any s r x y er _ hr ho).mono ?_
 rintro e w1 ⟨rfl, h1⟩
 go_wp2_with fail
 refine (rperiod_any s r x y er _ hr ho).mono ?_
 rintro e w2 ⟨rfl, h2⟩
 go_wp2_with fail
 refine (numd_any er _).mono ?_
 rintro e w3 ⟨rfl, h3⟩
 go_wp2_with fail
 go_ret
 exact ⟨rfl, (h1.trans' h2).trans' h3⟩

end Go.Proofs.Ytjahbjjekednfaa
