import Derived.Test.YtchekcabddjdiaaGreatDoorCtK
namespace Go.Proofs.YtchekcabddjdiaaGreatDoor
set_option maxRecDepth 1000000
theorem kf55 : kr 55 false = true := by kernel_rfl
theorem kf18 : kr 18 false = true := by kernel_rfl
theorem kt24 : kr 24 true = true := by kernel_rfl
end Go.Proofs.YtchekcabddjdiaaGreatDoor
