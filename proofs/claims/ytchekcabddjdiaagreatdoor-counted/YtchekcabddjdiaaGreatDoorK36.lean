import Derived.Test.YtchekcabddjdiaaGreatDoorCtK
namespace Go.Proofs.YtchekcabddjdiaaGreatDoor
set_option maxRecDepth 1000000
theorem kf31 : kr 31 false = true := by kernel_rfl
theorem kf30 : kr 30 false = true := by kernel_rfl
theorem kt4 : kr 4 true = true := by kernel_rfl
theorem kt2 : kr 2 true = true := by kernel_rfl
end Go.Proofs.YtchekcabddjdiaaGreatDoor
