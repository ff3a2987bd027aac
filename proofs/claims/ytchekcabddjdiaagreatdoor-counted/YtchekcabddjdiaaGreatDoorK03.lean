import Derived.Test.YtchekcabddjdiaaGreatDoorCtK
namespace Go.Proofs.YtchekcabddjdiaaGreatDoor
set_option maxRecDepth 1000000
theorem kf56 : kr 56 false = true := by kernel_rfl
theorem kt29 : kr 29 true = true := by kernel_rfl
theorem kf15 : kr 15 false = true := by kernel_rfl
end Go.Proofs.YtchekcabddjdiaaGreatDoor
