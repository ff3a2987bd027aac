import Derived.Test.YtglihimiidiacaaGreatDoorKd
namespace Go.Proofs.YtglihimiidiacaaGreatDoor.Ev8
set_option maxRecDepth 1000000
theorem ot13 : onceK 13 true = true := by kernel_rfl
theorem of6 : onceK 6 false = true := by kernel_rfl
theorem ot3 : onceK 3 true = true := by kernel_rfl
end Go.Proofs.YtglihimiidiacaaGreatDoor.Ev8
