import Derived.Test.YtglihimiidiacaaGreatDoorKd
namespace Go.Proofs.YtglihimiidiacaaGreatDoor.Ev8
set_option maxRecDepth 1000000
theorem l2_7 : lazyK 2 7 = true := by kernel_rfl
theorem l2_6 : lazyK 2 6 = true := by kernel_rfl
theorem l2_5 : lazyK 2 5 = true := by kernel_rfl
theorem l2_4 : lazyK 2 4 = true := by kernel_rfl
end Go.Proofs.YtglihimiidiacaaGreatDoor.Ev8
