import Derived.Test.YtglihimiidiacaaGreatDoorKd
namespace Go.Proofs.YtglihimiidiacaaGreatDoor.Ev8
set_option maxRecDepth 1000000
theorem l6_3 : lazyK 6 3 = true := by kernel_rfl
theorem l6_2 : lazyK 6 2 = true := by kernel_rfl
theorem l6_1 : lazyK 6 1 = true := by kernel_rfl
theorem l6_0 : lazyK 6 0 = true := by kernel_rfl
end Go.Proofs.YtglihimiidiacaaGreatDoor.Ev8
