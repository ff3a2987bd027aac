import Derived.Test.YtglihimiidiacaaGreatDoorKd
namespace Go.Proofs.YtglihimiidiacaaGreatDoor.Ev8
set_option maxRecDepth 1000000
theorem of12 : onceK 12 false = true := by kernel_rfl
theorem ot7 : onceK 7 true = true := by kernel_rfl
theorem of2 : onceK 2 false = true := by kernel_rfl
end Go.Proofs.YtglihimiidiacaaGreatDoor.Ev8
