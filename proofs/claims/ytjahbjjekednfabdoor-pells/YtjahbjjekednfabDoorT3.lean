import Derived.Test.YtjahbjjekednfabDoorD0
namespace Go.Proofs.YtjahbjjekednfabDoor

/-- Both ways of solving Pell's equation come to the same: reckoned by the kernel, for 400 numbers from 1300 on. -/
theorem tab3 : chkAll 400 1300 = true := by decide +kernel

end Go.Proofs.YtjahbjjekednfabDoor
