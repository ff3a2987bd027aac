import Derived.Test.YtglihimiidiacaaGreatDoorKd
namespace Go.Proofs.YtglihimiidiacaaGreatDoor.Ev8
set_option maxRecDepth 1000000
theorem l4_3 : lazyK 4 3 = true := by kernel_rfl
theorem l4_2 : lazyK 4 2 = true := by kernel_rfl
theorem l4_1 : lazyK 4 1 = true := by kernel_rfl
theorem l4_0 : lazyK 4 0 = true := by kernel_rfl
end Go.Proofs.YtglihimiidiacaaGreatDoor.Ev8
