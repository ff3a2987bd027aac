import Derived.Test.YtchekcabddjdiaaGreatDoorCtK
namespace Go.Proofs.YtchekcabddjdiaaGreatDoor
set_option maxRecDepth 1000000
theorem kt58 : kr 58 true = true := by kernel_rfl
theorem kt42 : kr 42 true = true := by kernel_rfl
theorem kf7 : kr 7 false = true := by kernel_rfl
end Go.Proofs.YtchekcabddjdiaaGreatDoor
