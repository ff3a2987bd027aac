import Derived.Test.YtchekcabddjdiaaGreatDoorCtK
namespace Go.Proofs.YtchekcabddjdiaaGreatDoor
set_option maxRecDepth 1000000
theorem kf49 : kr 49 false = true := by kernel_rfl
theorem kt33 : kr 33 true = true := by kernel_rfl
theorem kt20 : kr 20 true = true := by kernel_rfl
end Go.Proofs.YtchekcabddjdiaaGreatDoor
