import Derived.Test.YtchekcabddjdiaaGreatDoorCtK
namespace Go.Proofs.YtchekcabddjdiaaGreatDoor
set_option maxRecDepth 1000000
theorem kf44 : kr 44 false = true := by kernel_rfl
theorem kt36 : kr 36 true = true := by kernel_rfl
theorem kt17 : kr 17 true = true := by kernel_rfl
end Go.Proofs.YtchekcabddjdiaaGreatDoor
