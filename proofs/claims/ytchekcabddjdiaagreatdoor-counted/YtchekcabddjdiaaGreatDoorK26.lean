import Derived.Test.YtchekcabddjdiaaGreatDoorCtK
namespace Go.Proofs.YtchekcabddjdiaaGreatDoor
set_option maxRecDepth 1000000
theorem kt57 : kr 57 true = true := by kernel_rfl
theorem kt43 : kr 43 true = true := by kernel_rfl
theorem kt10 : kr 10 true = true := by kernel_rfl
end Go.Proofs.YtchekcabddjdiaaGreatDoor
