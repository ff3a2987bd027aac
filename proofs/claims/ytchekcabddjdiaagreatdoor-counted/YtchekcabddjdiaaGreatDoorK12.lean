import Derived.Test.YtchekcabddjdiaaGreatDoorCtK
namespace Go.Proofs.YtchekcabddjdiaaGreatDoor
set_option maxRecDepth 1000000
theorem kf47 : kr 47 false = true := by kernel_rfl
theorem kf21 : kr 21 false = true := by kernel_rfl
theorem kt19 : kr 19 true = true := by kernel_rfl
end Go.Proofs.YtchekcabddjdiaaGreatDoor
