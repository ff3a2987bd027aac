import Derived.Test.YtchekcabddjdiaaGreatDoorCtK
namespace Go.Proofs.YtchekcabddjdiaaGreatDoor
set_option maxRecDepth 1000000
theorem kf58 : kr 58 false = true := by kernel_rfl
theorem kf17 : kr 17 false = true := by kernel_rfl
theorem kf16 : kr 16 false = true := by kernel_rfl
end Go.Proofs.YtchekcabddjdiaaGreatDoor
