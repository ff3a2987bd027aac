import Derived.Test.YtchekcabddjdiaaGreatDoorCtK
namespace Go.Proofs.YtchekcabddjdiaaGreatDoor
set_option maxRecDepth 1000000
theorem kf45 : kr 45 false = true := by kernel_rfl
theorem kf22 : kr 22 false = true := by kernel_rfl
theorem kf11 : kr 11 false = true := by kernel_rfl
end Go.Proofs.YtchekcabddjdiaaGreatDoor
