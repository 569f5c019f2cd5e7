import Derived.Test.YtjahbjjekednfabDoorD0
namespace Go.Proofs.YtjahbjjekednfabDoor

/-- Both ways of solving Pell's equation come to the same: reckoned by the kernel, for 500 numbers from 800 on. -/
theorem tab2 : chkAll 500 800 = true := by decide +kernel

end Go.Proofs.YtjahbjjekednfabDoor
