import Derived.Test.YtchekcabddjdiaaGreatDoorCtK
namespace Go.Proofs.YtchekcabddjdiaaGreatDoor
set_option maxRecDepth 1000000
theorem kf32 : kr 32 false = true := by kernel_rfl
theorem kt48 : kr 48 true = true := by kernel_rfl
theorem kt5 : kr 5 true = true := by kernel_rfl
theorem kt1 : kr 1 true = true := by kernel_rfl
end Go.Proofs.YtchekcabddjdiaaGreatDoor
