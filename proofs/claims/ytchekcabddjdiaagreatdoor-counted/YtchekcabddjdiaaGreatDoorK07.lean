import Derived.Test.YtchekcabddjdiaaGreatDoorCtK
namespace Go.Proofs.YtchekcabddjdiaaGreatDoor
set_option maxRecDepth 1000000
theorem kf52 : kr 52 false = true := by kernel_rfl
theorem kt31 : kr 31 true = true := by kernel_rfl
theorem kt22 : kr 22 true = true := by kernel_rfl
end Go.Proofs.YtchekcabddjdiaaGreatDoor
