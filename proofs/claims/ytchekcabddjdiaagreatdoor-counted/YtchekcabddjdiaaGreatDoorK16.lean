import Derived.Test.YtchekcabddjdiaaGreatDoorCtK
namespace Go.Proofs.YtchekcabddjdiaaGreatDoor
set_option maxRecDepth 1000000
theorem kf43 : kr 43 false = true := by kernel_rfl
theorem kt37 : kr 37 true = true := by kernel_rfl
theorem kf10 : kr 10 false = true := by kernel_rfl
end Go.Proofs.YtchekcabddjdiaaGreatDoor
