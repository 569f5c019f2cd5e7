import Derived.Test.YtjahbjjekednfabDoorD0
namespace Go.Proofs.YtjahbjjekednfabDoor

/-- Both ways of solving Pell's equation come to the same: reckoned by the kernel, for 301 numbers from 1700 on. -/
theorem tab4 : chkAll 301 1700 = true := by decide +kernel

end Go.Proofs.YtjahbjjekednfabDoor
