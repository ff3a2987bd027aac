import Derived.Test.YtglihimiidiacaaGreatDoorKd
namespace Go.Proofs.YtglihimiidiacaaGreatDoor.Ev8
set_option maxRecDepth 1000000
theorem of11 : onceK 11 false = true := by kernel_rfl
theorem ot8 : onceK 8 true = true := by kernel_rfl
theorem of1 : onceK 1 false = true := by kernel_rfl
end Go.Proofs.YtglihimiidiacaaGreatDoor.Ev8
