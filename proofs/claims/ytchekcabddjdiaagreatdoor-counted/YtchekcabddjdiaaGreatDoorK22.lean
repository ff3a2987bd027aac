import Derived.Test.YtchekcabddjdiaaGreatDoorCtK
namespace Go.Proofs.YtchekcabddjdiaaGreatDoor
set_option maxRecDepth 1000000
theorem kt59 : kr 59 true = true := by kernel_rfl
theorem kf25 : kr 25 false = true := by kernel_rfl
theorem kf8 : kr 8 false = true := by kernel_rfl
end Go.Proofs.YtchekcabddjdiaaGreatDoor
