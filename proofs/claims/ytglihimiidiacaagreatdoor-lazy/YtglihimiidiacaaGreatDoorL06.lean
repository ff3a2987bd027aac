import Derived.Test.YtglihimiidiacaaGreatDoorKd
namespace Go.Proofs.YtglihimiidiacaaGreatDoor.Ev8
set_option maxRecDepth 1000000
theorem l3_3 : lazyK 3 3 = true := by kernel_rfl
theorem l3_2 : lazyK 3 2 = true := by kernel_rfl
theorem l3_1 : lazyK 3 1 = true := by kernel_rfl
theorem l3_0 : lazyK 3 0 = true := by kernel_rfl
end Go.Proofs.YtglihimiidiacaaGreatDoor.Ev8
