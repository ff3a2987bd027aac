import Derived.Test.YtchekcabddjdiaaGreatDoorCtK
namespace Go.Proofs.YtchekcabddjdiaaGreatDoor
set_option maxRecDepth 1000000
theorem kf59 : kr 59 false = true := by kernel_rfl
theorem kt27 : kr 27 true = true := by kernel_rfl
theorem kt26 : kr 26 true = true := by kernel_rfl
end Go.Proofs.YtchekcabddjdiaaGreatDoor
