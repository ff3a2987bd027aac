import Derived.Test.YtglihimiidiacaaGreatDoorKd
namespace Go.Proofs.YtglihimiidiacaaGreatDoor.Ev8
set_option maxRecDepth 1000000
theorem ot12 : onceK 12 true = true := by kernel_rfl
theorem of7 : onceK 7 false = true := by kernel_rfl
theorem ot2 : onceK 2 true = true := by kernel_rfl
end Go.Proofs.YtglihimiidiacaaGreatDoor.Ev8
