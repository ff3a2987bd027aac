import Derived.Test.YtchekcabddjdiaaGreatDoorCtK
namespace Go.Proofs.YtchekcabddjdiaaGreatDoor
set_option maxRecDepth 1000000
theorem kf53 : kr 53 false = true := by kernel_rfl
theorem kf19 : kr 19 false = true := by kernel_rfl
theorem kf14 : kr 14 false = true := by kernel_rfl
end Go.Proofs.YtchekcabddjdiaaGreatDoor
