import Derived.Test.YtchekcabddjdiaaGreatDoorCtK
namespace Go.Proofs.YtchekcabddjdiaaGreatDoor
set_option maxRecDepth 1000000
theorem kf36 : kr 36 false = true := by kernel_rfl
theorem kf26 : kr 26 false = true := by kernel_rfl
theorem kt11 : kr 11 true = true := by kernel_rfl
end Go.Proofs.YtchekcabddjdiaaGreatDoor
