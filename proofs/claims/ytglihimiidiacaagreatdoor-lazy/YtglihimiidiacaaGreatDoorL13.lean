import Derived.Test.YtglihimiidiacaaGreatDoorKd
namespace Go.Proofs.YtglihimiidiacaaGreatDoor.Ev8
set_option maxRecDepth 1000000
theorem l6_7 : lazyK 6 7 = true := by kernel_rfl
theorem l6_6 : lazyK 6 6 = true := by kernel_rfl
theorem l6_5 : lazyK 6 5 = true := by kernel_rfl
theorem l6_4 : lazyK 6 4 = true := by kernel_rfl
end Go.Proofs.YtglihimiidiacaaGreatDoor.Ev8
