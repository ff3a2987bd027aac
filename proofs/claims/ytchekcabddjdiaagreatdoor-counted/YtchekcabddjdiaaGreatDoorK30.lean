import Derived.Test.YtchekcabddjdiaaGreatDoorCtK
namespace Go.Proofs.YtchekcabddjdiaaGreatDoor
set_option maxRecDepth 1000000
theorem kt55 : kr 55 true = true := by kernel_rfl
theorem kf28 : kr 28 false = true := by kernel_rfl
theorem kt8 : kr 8 true = true := by kernel_rfl
end Go.Proofs.YtchekcabddjdiaaGreatDoor
