import Derived.Test.YtglihimiidiacaaGreatDoorKd
namespace Go.Proofs.YtglihimiidiacaaGreatDoor.Ev8
set_option maxRecDepth 1000000
theorem l4_7 : lazyK 4 7 = true := by kernel_rfl
theorem l4_6 : lazyK 4 6 = true := by kernel_rfl
theorem l4_5 : lazyK 4 5 = true := by kernel_rfl
theorem l4_4 : lazyK 4 4 = true := by kernel_rfl
end Go.Proofs.YtglihimiidiacaaGreatDoor.Ev8
