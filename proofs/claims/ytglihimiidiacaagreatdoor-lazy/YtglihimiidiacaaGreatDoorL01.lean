import Derived.Test.YtglihimiidiacaaGreatDoorKd
namespace Go.Proofs.YtglihimiidiacaaGreatDoor.Ev8
set_option maxRecDepth 1000000
theorem l0_7 : lazyK 0 7 = true := by kernel_rfl
theorem l0_6 : lazyK 0 6 = true := by kernel_rfl
theorem l0_5 : lazyK 0 5 = true := by kernel_rfl
theorem l0_4 : lazyK 0 4 = true := by kernel_rfl
end Go.Proofs.YtglihimiidiacaaGreatDoor.Ev8
