import Derived.Test.YtchekcabddjdiaaGreatDoorCtK
namespace Go.Proofs.YtchekcabddjdiaaGreatDoor
set_option maxRecDepth 1000000
theorem kt51 : kr 51 true = true := by kernel_rfl
theorem kt50 : kr 50 true = true := by kernel_rfl
theorem kf2 : kr 2 false = true := by kernel_rfl
theorem kt3 : kr 3 true = true := by kernel_rfl
end Go.Proofs.YtchekcabddjdiaaGreatDoor
