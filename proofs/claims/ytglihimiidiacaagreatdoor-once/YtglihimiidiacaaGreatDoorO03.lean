import Derived.Test.YtglihimiidiacaaGreatDoorKd
namespace Go.Proofs.YtglihimiidiacaaGreatDoor.Ev8
set_option maxRecDepth 1000000
theorem of13 : onceK 13 false = true := by kernel_rfl
theorem ot6 : onceK 6 true = true := by kernel_rfl
theorem of3 : onceK 3 false = true := by kernel_rfl
end Go.Proofs.YtglihimiidiacaaGreatDoor.Ev8
