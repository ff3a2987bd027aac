import Derived.Test.YtglihimiidiacaaGreatDoorKd
namespace Go.Proofs.YtglihimiidiacaaGreatDoor.Ev8
set_option maxRecDepth 1000000
theorem l5_3 : lazyK 5 3 = true := by kernel_rfl
theorem l5_2 : lazyK 5 2 = true := by kernel_rfl
theorem l5_1 : lazyK 5 1 = true := by kernel_rfl
theorem l5_0 : lazyK 5 0 = true := by kernel_rfl
end Go.Proofs.YtglihimiidiacaaGreatDoor.Ev8
