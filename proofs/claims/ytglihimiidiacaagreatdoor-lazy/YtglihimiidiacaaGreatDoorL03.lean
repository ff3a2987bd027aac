import Derived.Test.YtglihimiidiacaaGreatDoorKd
namespace Go.Proofs.YtglihimiidiacaaGreatDoor.Ev8
set_option maxRecDepth 1000000
theorem l1_7 : lazyK 1 7 = true := by kernel_rfl
theorem l1_6 : lazyK 1 6 = true := by kernel_rfl
theorem l1_5 : lazyK 1 5 = true := by kernel_rfl
theorem l1_4 : lazyK 1 4 = true := by kernel_rfl
end Go.Proofs.YtglihimiidiacaaGreatDoor.Ev8
