import Derived.Test.YtchekcabddjdiaaGreatDoorCtK
namespace Go.Proofs.YtchekcabddjdiaaGreatDoor
set_option maxRecDepth 1000000
theorem kf42 : kr 42 false = true := by kernel_rfl
theorem kf23 : kr 23 false = true := by kernel_rfl
theorem kt16 : kr 16 true = true := by kernel_rfl
end Go.Proofs.YtchekcabddjdiaaGreatDoor
