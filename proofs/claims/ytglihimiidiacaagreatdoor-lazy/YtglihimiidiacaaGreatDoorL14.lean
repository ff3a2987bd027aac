import Derived.Test.YtglihimiidiacaaGreatDoorKd
namespace Go.Proofs.YtglihimiidiacaaGreatDoor.Ev8
set_option maxRecDepth 1000000
theorem l7_3 : lazyK 7 3 = true := by kernel_rfl
theorem l7_2 : lazyK 7 2 = true := by kernel_rfl
theorem l7_1 : lazyK 7 1 = true := by kernel_rfl
theorem l7_0 : lazyK 7 0 = true := by kernel_rfl
end Go.Proofs.YtglihimiidiacaaGreatDoor.Ev8
