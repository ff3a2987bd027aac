import Derived.Test.YtglihimiidiacaaGreatDoorKd
namespace Go.Proofs.YtglihimiidiacaaGreatDoor.Ev8
set_option maxRecDepth 1000000
theorem l3_7 : lazyK 3 7 = true := by kernel_rfl
theorem l3_6 : lazyK 3 6 = true := by kernel_rfl
theorem l3_5 : lazyK 3 5 = true := by kernel_rfl
theorem l3_4 : lazyK 3 4 = true := by kernel_rfl
end Go.Proofs.YtglihimiidiacaaGreatDoor.Ev8
