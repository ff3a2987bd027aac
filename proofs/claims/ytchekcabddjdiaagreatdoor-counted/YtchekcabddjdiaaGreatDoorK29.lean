import Derived.Test.YtchekcabddjdiaaGreatDoorCtK
namespace Go.Proofs.YtchekcabddjdiaaGreatDoor
set_option maxRecDepth 1000000
theorem kf34 : kr 34 false = true := by kernel_rfl
theorem kt45 : kr 45 true = true := by kernel_rfl
theorem kf5 : kr 5 false = true := by kernel_rfl
end Go.Proofs.YtchekcabddjdiaaGreatDoor
