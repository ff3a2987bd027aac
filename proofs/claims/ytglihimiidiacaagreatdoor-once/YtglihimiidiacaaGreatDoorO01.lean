import Derived.Test.YtglihimiidiacaaGreatDoorKd
namespace Go.Proofs.YtglihimiidiacaaGreatDoor.Ev8
set_option maxRecDepth 1000000
theorem of14 : onceK 14 false = true := by kernel_rfl
theorem ot5 : onceK 5 true = true := by kernel_rfl
theorem of4 : onceK 4 false = true := by kernel_rfl
end Go.Proofs.YtglihimiidiacaaGreatDoor.Ev8
