import Derived.Test.YtchekcabddjdiaaGreatDoorCtK
namespace Go.Proofs.YtchekcabddjdiaaGreatDoor
set_option maxRecDepth 1000000
theorem kf50 : kr 50 false = true := by kernel_rfl
theorem kf20 : kr 20 false = true := by kernel_rfl
theorem kt21 : kr 21 true = true := by kernel_rfl
end Go.Proofs.YtchekcabddjdiaaGreatDoor
