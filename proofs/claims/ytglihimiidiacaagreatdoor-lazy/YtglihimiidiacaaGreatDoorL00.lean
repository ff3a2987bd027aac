import Derived.Test.YtglihimiidiacaaGreatDoorKd
namespace Go.Proofs.YtglihimiidiacaaGreatDoor.Ev8
set_option maxRecDepth 1000000
theorem l0_3 : lazyK 0 3 = true := by kernel_rfl
theorem l0_2 : lazyK 0 2 = true := by kernel_rfl
theorem l0_1 : lazyK 0 1 = true := by kernel_rfl
theorem l0_0 : lazyK 0 0 = true := by kernel_rfl
end Go.Proofs.YtglihimiidiacaaGreatDoor.Ev8
