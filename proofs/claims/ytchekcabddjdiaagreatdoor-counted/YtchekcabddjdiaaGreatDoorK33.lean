import Derived.Test.YtchekcabddjdiaaGreatDoorCtK
namespace Go.Proofs.YtchekcabddjdiaaGreatDoor
set_option maxRecDepth 1000000
theorem kt53 : kr 53 true = true := by kernel_rfl
theorem kf29 : kr 29 false = true := by kernel_rfl
theorem kt6 : kr 6 true = true := by kernel_rfl
theorem kt0 : kr 0 true = true := by kernel_rfl
end Go.Proofs.YtchekcabddjdiaaGreatDoor
