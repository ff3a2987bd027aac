import Derived.Test.YtchekcabddjdiaaGreatDoorCtK
namespace Go.Proofs.YtchekcabddjdiaaGreatDoor
set_option maxRecDepth 1000000
theorem kf39 : kr 39 false = true := by kernel_rfl
theorem kt39 : kr 39 true = true := by kernel_rfl
theorem kt14 : kr 14 true = true := by kernel_rfl
end Go.Proofs.YtchekcabddjdiaaGreatDoor
