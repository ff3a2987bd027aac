import Derived.Test.YtchekcabddjdiaaGreatDoorCtK
namespace Go.Proofs.YtchekcabddjdiaaGreatDoor
set_option maxRecDepth 1000000
theorem kt52 : kr 52 true = true := by kernel_rfl
theorem kt49 : kr 49 true = true := by kernel_rfl
theorem kf3 : kr 3 false = true := by kernel_rfl
theorem kf1 : kr 1 false = true := by kernel_rfl
end Go.Proofs.YtchekcabddjdiaaGreatDoor
