import Derived.Test.YtchekcabddjdiaaGreatDoorCtK
namespace Go.Proofs.YtchekcabddjdiaaGreatDoor
set_option maxRecDepth 1000000
theorem kf48 : kr 48 false = true := by kernel_rfl
theorem kt34 : kr 34 true = true := by kernel_rfl
theorem kf12 : kr 12 false = true := by kernel_rfl
end Go.Proofs.YtchekcabddjdiaaGreatDoor
