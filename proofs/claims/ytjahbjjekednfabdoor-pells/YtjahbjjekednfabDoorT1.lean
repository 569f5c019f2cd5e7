import Derived.Test.YtjahbjjekednfabDoorD0
namespace Go.Proofs.YtjahbjjekednfabDoor

/-- Both ways of solving Pell's equation come to the same: reckoned by the kernel, for 800 numbers from 0 on. -/
theorem tab1 : chkAll 800 0 = true := by decide +kernel

end Go.Proofs.YtjahbjjekednfabDoor
