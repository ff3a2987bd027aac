import Derived.Test.YtglihimiidiacaaGreatDoorKd
namespace Go.Proofs.YtglihimiidiacaaGreatDoor.Ev8
set_option maxRecDepth 1000000
theorem ot11 : onceK 11 true = true := by kernel_rfl
theorem of8 : onceK 8 false = true := by kernel_rfl
theorem ot1 : onceK 1 true = true := by kernel_rfl
end Go.Proofs.YtglihimiidiacaaGreatDoor.Ev8
