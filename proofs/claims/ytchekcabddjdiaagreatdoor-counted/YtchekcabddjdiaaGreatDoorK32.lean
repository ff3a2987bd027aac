import Derived.Test.YtchekcabddjdiaaGreatDoorCtK
namespace Go.Proofs.YtchekcabddjdiaaGreatDoor
set_option maxRecDepth 1000000
theorem kf33 : kr 33 false = true := by kernel_rfl
theorem kt47 : kr 47 true = true := by kernel_rfl
theorem kf4 : kr 4 false = true := by kernel_rfl
theorem kf0 : kr 0 false = true := by kernel_rfl
end Go.Proofs.YtchekcabddjdiaaGreatDoor
