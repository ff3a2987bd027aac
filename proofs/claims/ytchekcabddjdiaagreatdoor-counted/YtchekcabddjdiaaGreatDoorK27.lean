import Derived.Test.YtchekcabddjdiaaGreatDoorCtK
namespace Go.Proofs.YtchekcabddjdiaaGreatDoor
set_option maxRecDepth 1000000
theorem kf35 : kr 35 false = true := by kernel_rfl
theorem kf27 : kr 27 false = true := by kernel_rfl
theorem kf6 : kr 6 false = true := by kernel_rfl
end Go.Proofs.YtchekcabddjdiaaGreatDoor
