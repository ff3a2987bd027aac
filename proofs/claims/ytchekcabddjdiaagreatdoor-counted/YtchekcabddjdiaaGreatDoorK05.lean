import Derived.Test.YtchekcabddjdiaaGreatDoorCtK
namespace Go.Proofs.YtchekcabddjdiaaGreatDoor
set_option maxRecDepth 1000000
theorem kf54 : kr 54 false = true := by kernel_rfl
theorem kt30 : kr 30 true = true := by kernel_rfl
theorem kt23 : kr 23 true = true := by kernel_rfl
end Go.Proofs.YtchekcabddjdiaaGreatDoor
