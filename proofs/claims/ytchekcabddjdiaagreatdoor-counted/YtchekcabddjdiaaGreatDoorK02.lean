import Derived.Test.YtchekcabddjdiaaGreatDoorCtK
namespace Go.Proofs.YtchekcabddjdiaaGreatDoor
set_option maxRecDepth 1000000
theorem kf57 : kr 57 false = true := by kernel_rfl
theorem kt28 : kr 28 true = true := by kernel_rfl
theorem kt25 : kr 25 true = true := by kernel_rfl
end Go.Proofs.YtchekcabddjdiaaGreatDoor
