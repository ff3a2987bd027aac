import Derived.Test.YtchekcabddjdiaaGreatDoorCtK
namespace Go.Proofs.YtchekcabddjdiaaGreatDoor
set_option maxRecDepth 1000000
theorem kf41 : kr 41 false = true := by kernel_rfl
theorem kt38 : kr 38 true = true := by kernel_rfl
theorem kt15 : kr 15 true = true := by kernel_rfl
end Go.Proofs.YtchekcabddjdiaaGreatDoor
