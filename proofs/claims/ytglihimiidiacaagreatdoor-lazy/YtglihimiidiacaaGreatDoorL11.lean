import Derived.Test.YtglihimiidiacaaGreatDoorKd
namespace Go.Proofs.YtglihimiidiacaaGreatDoor.Ev8
set_option maxRecDepth 1000000
theorem l5_7 : lazyK 5 7 = true := by kernel_rfl
theorem l5_6 : lazyK 5 6 = true := by kernel_rfl
theorem l5_5 : lazyK 5 5 = true := by kernel_rfl
theorem l5_4 : lazyK 5 4 = true := by kernel_rfl
end Go.Proofs.YtglihimiidiacaaGreatDoor.Ev8
