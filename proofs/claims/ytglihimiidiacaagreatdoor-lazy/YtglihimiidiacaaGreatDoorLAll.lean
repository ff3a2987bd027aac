import Derived.Test.YtglihimiidiacaaGreatDoorL00
import Derived.Test.YtglihimiidiacaaGreatDoorL01
import Derived.Test.YtglihimiidiacaaGreatDoorL02
import Derived.Test.YtglihimiidiacaaGreatDoorL03
import Derived.Test.YtglihimiidiacaaGreatDoorL04
import Derived.Test.YtglihimiidiacaaGreatDoorL05
import Derived.Test.YtglihimiidiacaaGreatDoorL06
import Derived.Test.YtglihimiidiacaaGreatDoorL07
import Derived.Test.YtglihimiidiacaaGreatDoorL08
import Derived.Test.YtglihimiidiacaaGreatDoorL09
import Derived.Test.YtglihimiidiacaaGreatDoorL10
import Derived.Test.YtglihimiidiacaaGreatDoorL11
import Derived.Test.YtglihimiidiacaaGreatDoorL12
import Derived.Test.YtglihimiidiacaaGreatDoorL13
import Derived.Test.YtglihimiidiacaaGreatDoorL14
import Derived.Test.YtglihimiidiacaaGreatDoorL15
namespace Go.Proofs.YtglihimiidiacaaGreatDoor.Ev8
theorem l0_all : ∀ b, b < 8 → lazyK 0 b = true
  | 0, _ => l0_0
  | 1, _ => l0_1
  | 2, _ => l0_2
  | 3, _ => l0_3
  | 4, _ => l0_4
  | 5, _ => l0_5
  | 6, _ => l0_6
  | 7, _ => l0_7
  | _ + 8, h => absurd h (by omega)
theorem l1_all : ∀ b, b < 8 → lazyK 1 b = true
  | 0, _ => l1_0
  | 1, _ => l1_1
  | 2, _ => l1_2
  | 3, _ => l1_3
  | 4, _ => l1_4
  | 5, _ => l1_5
  | 6, _ => l1_6
  | 7, _ => l1_7
  | _ + 8, h => absurd h (by omega)
theorem l2_all : ∀ b, b < 8 → lazyK 2 b = true
  | 0, _ => l2_0
  | 1, _ => l2_1
  | 2, _ => l2_2
  | 3, _ => l2_3
  | 4, _ => l2_4
  | 5, _ => l2_5
  | 6, _ => l2_6
  | 7, _ => l2_7
  | _ + 8, h => absurd h (by omega)
theorem l3_all : ∀ b, b < 8 → lazyK 3 b = true
  | 0, _ => l3_0
  | 1, _ => l3_1
  | 2, _ => l3_2
  | 3, _ => l3_3
  | 4, _ => l3_4
  | 5, _ => l3_5
  | 6, _ => l3_6
  | 7, _ => l3_7
  | _ + 8, h => absurd h (by omega)
theorem l4_all : ∀ b, b < 8 → lazyK 4 b = true
  | 0, _ => l4_0
  | 1, _ => l4_1
  | 2, _ => l4_2
  | 3, _ => l4_3
  | 4, _ => l4_4
  | 5, _ => l4_5
  | 6, _ => l4_6
  | 7, _ => l4_7
  | _ + 8, h => absurd h (by omega)
theorem l5_all : ∀ b, b < 8 → lazyK 5 b = true
  | 0, _ => l5_0
  | 1, _ => l5_1
  | 2, _ => l5_2
  | 3, _ => l5_3
  | 4, _ => l5_4
  | 5, _ => l5_5
  | 6, _ => l5_6
  | 7, _ => l5_7
  | _ + 8, h => absurd h (by omega)
theorem l6_all : ∀ b, b < 8 → lazyK 6 b = true
  | 0, _ => l6_0
  | 1, _ => l6_1
  | 2, _ => l6_2
  | 3, _ => l6_3
  | 4, _ => l6_4
  | 5, _ => l6_5
  | 6, _ => l6_6
  | 7, _ => l6_7
  | _ + 8, h => absurd h (by omega)
theorem l7_all : ∀ b, b < 8 → lazyK 7 b = true
  | 0, _ => l7_0
  | 1, _ => l7_1
  | 2, _ => l7_2
  | 3, _ => l7_3
  | 4, _ => l7_4
  | 5, _ => l7_5
  | 6, _ => l7_6
  | 7, _ => l7_7
  | _ + 8, h => absurd h (by omega)
theorem l_all : ∀ a, a < 8 → ∀ b, b < 8 → lazyK a b = true
  | 0, _ => l0_all
  | 1, _ => l1_all
  | 2, _ => l2_all
  | 3, _ => l3_all
  | 4, _ => l4_all
  | 5, _ => l5_all
  | 6, _ => l6_all
  | 7, _ => l7_all
  | _ + 8, h => absurd h (by omega)
end Go.Proofs.YtglihimiidiacaaGreatDoor.Ev8
