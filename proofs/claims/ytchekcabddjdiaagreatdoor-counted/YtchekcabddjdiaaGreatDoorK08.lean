import Derived.Test.YtchekcabddjdiaaGreatDoorCtK
namespace Go.Proofs.YtchekcabddjdiaaGreatDoor
set_option maxRecDepth 1000000
theorem kf51 : kr 51 false = true := by kernel_rfl
theorem kt32 : kr 32 true = true := by kernel_rfl
theorem kf13 : kr 13 false = true := by kernel_rfl
end Go.Proofs.YtchekcabddjdiaaGreatDoor
