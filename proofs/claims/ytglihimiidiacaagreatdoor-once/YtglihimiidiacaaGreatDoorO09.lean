import Derived.Test.YtglihimiidiacaaGreatDoorKd
namespace Go.Proofs.YtglihimiidiacaaGreatDoor.Ev8
set_option maxRecDepth 1000000
theorem of10 : onceK 10 false = true := by kernel_rfl
theorem ot9 : onceK 9 true = true := by kernel_rfl
theorem of0 : onceK 0 false = true := by kernel_rfl
end Go.Proofs.YtglihimiidiacaaGreatDoor.Ev8
