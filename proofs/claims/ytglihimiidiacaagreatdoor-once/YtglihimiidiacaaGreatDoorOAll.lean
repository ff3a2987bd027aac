import Derived.Test.YtglihimiidiacaaGreatDoorO00
import Derived.Test.YtglihimiidiacaaGreatDoorO01
import Derived.Test.YtglihimiidiacaaGreatDoorO02
import Derived.Test.YtglihimiidiacaaGreatDoorO03
import Derived.Test.YtglihimiidiacaaGreatDoorO04
import Derived.Test.YtglihimiidiacaaGreatDoorO05
import Derived.Test.YtglihimiidiacaaGreatDoorO06
import Derived.Test.YtglihimiidiacaaGreatDoorO07
import Derived.Test.YtglihimiidiacaaGreatDoorO08
import Derived.Test.YtglihimiidiacaaGreatDoorO09
namespace Go.Proofs.YtglihimiidiacaaGreatDoor.Ev8
theorem ot_all : ∀ k, k < 15 → onceK k true = true
  | 0, _ => ot0
  | 1, _ => ot1
  | 2, _ => ot2
  | 3, _ => ot3
  | 4, _ => ot4
  | 5, _ => ot5
  | 6, _ => ot6
  | 7, _ => ot7
  | 8, _ => ot8
  | 9, _ => ot9
  | 10, _ => ot10
  | 11, _ => ot11
  | 12, _ => ot12
  | 13, _ => ot13
  | 14, _ => ot14
  | _ + 15, h => absurd h (by omega)
theorem of_all : ∀ k, k < 15 → onceK k false = true
  | 0, _ => of0
  | 1, _ => of1
  | 2, _ => of2
  | 3, _ => of3
  | 4, _ => of4
  | 5, _ => of5
  | 6, _ => of6
  | 7, _ => of7
  | 8, _ => of8
  | 9, _ => of9
  | 10, _ => of10
  | 11, _ => of11
  | 12, _ => of12
  | 13, _ => of13
  | 14, _ => of14
  | _ + 15, h => absurd h (by omega)
theorem o_all : ∀ k, k < 15 → ∀ b, onceK k b = true
  | k, h, true => ot_all k h
  | k, h, false => of_all k h
end Go.Proofs.YtglihimiidiacaaGreatDoor.Ev8
