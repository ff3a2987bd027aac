import Derived.Test.YtchekcabddjdiaaGreatDoorCtK
namespace Go.Proofs.YtchekcabddjdiaaGreatDoor
set_option maxRecDepth 1000000
theorem kf38 : kr 38 false = true := by kernel_rfl
theorem kt40 : kr 40 true = true := by kernel_rfl
theorem kt13 : kr 13 true = true := by kernel_rfl
end Go.Proofs.YtchekcabddjdiaaGreatDoor
