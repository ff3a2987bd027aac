import Derived.Test.YtchekcabddjdiaaGreatDoorCtK
namespace Go.Proofs.YtchekcabddjdiaaGreatDoor
set_option maxRecDepth 1000000
theorem kt54 : kr 54 true = true := by kernel_rfl
theorem kt46 : kr 46 true = true := by kernel_rfl
theorem kt7 : kr 7 true = true := by kernel_rfl
end Go.Proofs.YtchekcabddjdiaaGreatDoor
