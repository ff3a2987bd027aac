import Derived.Test.YtglihimiidiacaaGreatDoorKd
namespace Go.Proofs.YtglihimiidiacaaGreatDoor.Ev8
set_option maxRecDepth 1000000
theorem ot14 : onceK 14 true = true := by kernel_rfl
theorem of5 : onceK 5 false = true := by kernel_rfl
theorem ot4 : onceK 4 true = true := by kernel_rfl
end Go.Proofs.YtglihimiidiacaaGreatDoor.Ev8
