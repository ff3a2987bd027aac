import Derived.Test.YtchekcabddjdiaaGreatDoorCtK
namespace Go.Proofs.YtchekcabddjdiaaGreatDoor
set_option maxRecDepth 1000000
theorem kt56 : kr 56 true = true := by kernel_rfl
theorem kt44 : kr 44 true = true := by kernel_rfl
theorem kt9 : kr 9 true = true := by kernel_rfl
end Go.Proofs.YtchekcabddjdiaaGreatDoor
