import Derived.Test.YtchekcabddjdiaaGreatDoorCtK
namespace Go.Proofs.YtchekcabddjdiaaGreatDoor
set_option maxRecDepth 1000000
theorem kf37 : kr 37 false = true := by kernel_rfl
theorem kt41 : kr 41 true = true := by kernel_rfl
theorem kt12 : kr 12 true = true := by kernel_rfl
end Go.Proofs.YtchekcabddjdiaaGreatDoor
