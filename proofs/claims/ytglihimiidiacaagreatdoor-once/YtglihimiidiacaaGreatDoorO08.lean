import Derived.Test.YtglihimiidiacaaGreatDoorKd
namespace Go.Proofs.YtglihimiidiacaaGreatDoor.Ev8
set_option maxRecDepth 1000000
theorem ot10 : onceK 10 true = true := by kernel_rfl
theorem of9 : onceK 9 false = true := by kernel_rfl
theorem ot0 : onceK 0 true = true := by kernel_rfl
end Go.Proofs.YtglihimiidiacaaGreatDoor.Ev8
