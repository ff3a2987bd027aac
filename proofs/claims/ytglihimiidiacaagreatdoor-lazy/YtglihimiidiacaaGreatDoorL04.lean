import Derived.Test.YtglihimiidiacaaGreatDoorKd
namespace Go.Proofs.YtglihimiidiacaaGreatDoor.Ev8
set_option maxRecDepth 1000000
theorem l2_3 : lazyK 2 3 = true := by kernel_rfl
theorem l2_2 : lazyK 2 2 = true := by kernel_rfl
theorem l2_1 : lazyK 2 1 = true := by kernel_rfl
theorem l2_0 : lazyK 2 0 = true := by kernel_rfl
end Go.Proofs.YtglihimiidiacaaGreatDoor.Ev8
