import Derived.Test.YtglihimiidiacaaGreatDoorKd
namespace Go.Proofs.YtglihimiidiacaaGreatDoor.Ev8
set_option maxRecDepth 1000000
theorem l1_3 : lazyK 1 3 = true := by kernel_rfl
theorem l1_2 : lazyK 1 2 = true := by kernel_rfl
theorem l1_1 : lazyK 1 1 = true := by kernel_rfl
theorem l1_0 : lazyK 1 0 = true := by kernel_rfl
end Go.Proofs.YtglihimiidiacaaGreatDoor.Ev8
