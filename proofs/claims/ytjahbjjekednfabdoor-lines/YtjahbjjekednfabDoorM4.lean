import Derived.Test.YtjahbjjekednfabDoorM3
namespace Go.Proofs.YtjahbjjekednfabDoor
open Go.RowKit

set_option maxHeartbeats 800000 in
theorem numl_any (n : Int) (w : World) : Calls Tryd.prog 19 #[.int .i64 n] w (RetV w (.int .i64 n)) := by
 go_enter Tryd.func19, Tryd.ntmps19
 go_wp2_with fail
 go_ret
 exact ⟨rfl, Below.refl _ _⟩

set_option maxHeartbeats 1600000 in
set_option maxRecDepth 100000 in
/-- surdlaw.Lines. -/
theorem lines_any (sa sb sc : ByteArray) (w : World) (ht : Tens w) : Calls Tryd.prog 6 #[.string sa, .string sb, .string sc] w (RetV w (.bool true)) := by
 have H1 := fun W (hT : Tens W) => sline_any sa sb sc W hT
 have H2 := fun W => rline_any sa sb sc W
 have H3 := fun (n : Int) (W : World) => numl_any n W
 go_enter Tryd.func6, Tryd.ntmps6
 go_wp2_with fail
 refine (H1 _ ht).mono ?_
 rintro e w1 ⟨s1, s2, er, rfl, HO1, hk1⟩
 go_wp2_with fail
 refine (H2 _).mono ?_
 rintro e w2 ⟨t1, t2, fr, rfl, HO2, hk2⟩
 obtain ⟨rfl, rfl, rfl⟩ := outL_uni HO1.out HO2.out
 have e1 : (s1.toList == s1.toList) = true := by simp
 have e2 : (s2.toList == s2.toList) = true := by simp
 have e3 : (er == er) = true := by simp
 clear HO1 HO2
 go_wp2_with fail
 refine (H3 er _).mono ?_
 rintro e w3 ⟨rfl, hk3⟩
 go_wp2_with fail
 go_ret
 exact ⟨rfl, (hk1.trans' hk2).trans' hk3⟩

end Go.Proofs.YtjahbjjekednfabDoor
