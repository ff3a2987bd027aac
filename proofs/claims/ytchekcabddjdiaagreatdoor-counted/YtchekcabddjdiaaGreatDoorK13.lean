import Derived.Test.YtchekcabddjdiaaGreatDoorCtK
namespace Go.Proofs.YtchekcabddjdiaaGreatDoor
set_option maxRecDepth 1000000
theorem kf46 : kr 46 false = true := by kernel_rfl
theorem kt35 : kr 35 true = true := by kernel_rfl
theorem kt18 : kr 18 true = true := by kernel_rfl
end Go.Proofs.YtchekcabddjdiaaGreatDoor
