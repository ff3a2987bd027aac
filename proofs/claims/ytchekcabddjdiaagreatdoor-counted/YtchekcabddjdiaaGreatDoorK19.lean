import Derived.Test.YtchekcabddjdiaaGreatDoorCtK
namespace Go.Proofs.YtchekcabddjdiaaGreatDoor
set_option maxRecDepth 1000000
theorem kf40 : kr 40 false = true := by kernel_rfl
theorem kf24 : kr 24 false = true := by kernel_rfl
theorem kf9 : kr 9 false = true := by kernel_rfl
end Go.Proofs.YtchekcabddjdiaaGreatDoor
