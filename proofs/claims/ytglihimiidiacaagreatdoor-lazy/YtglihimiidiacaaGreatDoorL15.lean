import Derived.Test.YtglihimiidiacaaGreatDoorKd
namespace Go.Proofs.YtglihimiidiacaaGreatDoor.Ev8
set_option maxRecDepth 1000000
theorem l7_7 : lazyK 7 7 = true := by kernel_rfl
theorem l7_6 : lazyK 7 6 = true := by kernel_rfl
theorem l7_5 : lazyK 7 5 = true := by kernel_rfl
theorem l7_4 : lazyK 7 4 = true := by kernel_rfl
end Go.Proofs.YtglihimiidiacaaGreatDoor.Ev8
