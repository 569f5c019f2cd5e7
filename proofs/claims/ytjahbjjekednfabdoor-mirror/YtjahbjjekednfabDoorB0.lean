import Derived.Test.YtjahbjjekednfabDoorX1
namespace Go.Proofs.YtjahbjjekednfabDoor
open Go.RowKit

set_option maxHeartbeats 800000 in
theorem rational_any (a : Qn) (v : Value) (w : World) (hv : XN w v a) : Calls Tryd.prog 30 #[v] w (RetV w (.bool (decide (a.d = 1)))) := by
 obtain ⟨b1, ao1, n1, c1, b2, ao2, n2, c2, b3, ao3, n3, c3, rfl, _, _, _⟩ := hv
 have hb : (a.d == 1) = decide (a.d = 1) := rfl
 generalize decide (a.d = 1) = b at *
 go_enter Tryd.func30, Tryd.ntmps30
 go_wp2_with fail
 go_ret
 exact ⟨by rw [← hb]; rfl, kp_alloc _ _⟩

end Go.Proofs.YtjahbjjekednfabDoor
