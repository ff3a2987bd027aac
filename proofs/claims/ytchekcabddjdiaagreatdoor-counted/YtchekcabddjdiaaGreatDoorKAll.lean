import Derived.Test.YtchekcabddjdiaaGreatDoorK00
import Derived.Test.YtchekcabddjdiaaGreatDoorK01
import Derived.Test.YtchekcabddjdiaaGreatDoorK02
import Derived.Test.YtchekcabddjdiaaGreatDoorK03
import Derived.Test.YtchekcabddjdiaaGreatDoorK04
import Derived.Test.YtchekcabddjdiaaGreatDoorK05
import Derived.Test.YtchekcabddjdiaaGreatDoorK06
import Derived.Test.YtchekcabddjdiaaGreatDoorK07
import Derived.Test.YtchekcabddjdiaaGreatDoorK08
import Derived.Test.YtchekcabddjdiaaGreatDoorK09
import Derived.Test.YtchekcabddjdiaaGreatDoorK10
import Derived.Test.YtchekcabddjdiaaGreatDoorK11
import Derived.Test.YtchekcabddjdiaaGreatDoorK12
import Derived.Test.YtchekcabddjdiaaGreatDoorK13
import Derived.Test.YtchekcabddjdiaaGreatDoorK14
import Derived.Test.YtchekcabddjdiaaGreatDoorK15
import Derived.Test.YtchekcabddjdiaaGreatDoorK16
import Derived.Test.YtchekcabddjdiaaGreatDoorK17
import Derived.Test.YtchekcabddjdiaaGreatDoorK18
import Derived.Test.YtchekcabddjdiaaGreatDoorK19
import Derived.Test.YtchekcabddjdiaaGreatDoorK20
import Derived.Test.YtchekcabddjdiaaGreatDoorK21
import Derived.Test.YtchekcabddjdiaaGreatDoorK22
import Derived.Test.YtchekcabddjdiaaGreatDoorK23
import Derived.Test.YtchekcabddjdiaaGreatDoorK24
import Derived.Test.YtchekcabddjdiaaGreatDoorK25
import Derived.Test.YtchekcabddjdiaaGreatDoorK26
import Derived.Test.YtchekcabddjdiaaGreatDoorK27
import Derived.Test.YtchekcabddjdiaaGreatDoorK28
import Derived.Test.YtchekcabddjdiaaGreatDoorK29
import Derived.Test.YtchekcabddjdiaaGreatDoorK30
import Derived.Test.YtchekcabddjdiaaGreatDoorK31
import Derived.Test.YtchekcabddjdiaaGreatDoorK32
import Derived.Test.YtchekcabddjdiaaGreatDoorK33
import Derived.Test.YtchekcabddjdiaaGreatDoorK34
import Derived.Test.YtchekcabddjdiaaGreatDoorK35
import Derived.Test.YtchekcabddjdiaaGreatDoorK36
import Derived.Test.YtchekcabddjdiaaGreatDoorK37
namespace Go.Proofs.YtchekcabddjdiaaGreatDoor
/-- all runs -/
theorem kt_all : ∀ k, k < 60 → kr k true = true
  | 0, _ => kt0
  | 1, _ => kt1
  | 2, _ => kt2
  | 3, _ => kt3
  | 4, _ => kt4
  | 5, _ => kt5
  | 6, _ => kt6
  | 7, _ => kt7
  | 8, _ => kt8
  | 9, _ => kt9
  | 10, _ => kt10
  | 11, _ => kt11
  | 12, _ => kt12
  | 13, _ => kt13
  | 14, _ => kt14
  | 15, _ => kt15
  | 16, _ => kt16
  | 17, _ => kt17
  | 18, _ => kt18
  | 19, _ => kt19
  | 20, _ => kt20
  | 21, _ => kt21
  | 22, _ => kt22
  | 23, _ => kt23
  | 24, _ => kt24
  | 25, _ => kt25
  | 26, _ => kt26
  | 27, _ => kt27
  | 28, _ => kt28
  | 29, _ => kt29
  | 30, _ => kt30
  | 31, _ => kt31
  | 32, _ => kt32
  | 33, _ => kt33
  | 34, _ => kt34
  | 35, _ => kt35
  | 36, _ => kt36
  | 37, _ => kt37
  | 38, _ => kt38
  | 39, _ => kt39
  | 40, _ => kt40
  | 41, _ => kt41
  | 42, _ => kt42
  | 43, _ => kt43
  | 44, _ => kt44
  | 45, _ => kt45
  | 46, _ => kt46
  | 47, _ => kt47
  | 48, _ => kt48
  | 49, _ => kt49
  | 50, _ => kt50
  | 51, _ => kt51
  | 52, _ => kt52
  | 53, _ => kt53
  | 54, _ => kt54
  | 55, _ => kt55
  | 56, _ => kt56
  | 57, _ => kt57
  | 58, _ => kt58
  | 59, _ => kt59
  | _ + 60, h => absurd h (by omega)
theorem kf_all : ∀ k, k < 60 → kr k false = true
  | 0, _ => kf0
  | 1, _ => kf1
  | 2, _ => kf2
  | 3, _ => kf3
  | 4, _ => kf4
  | 5, _ => kf5
  | 6, _ => kf6
  | 7, _ => kf7
  | 8, _ => kf8
  | 9, _ => kf9
  | 10, _ => kf10
  | 11, _ => kf11
  | 12, _ => kf12
  | 13, _ => kf13
  | 14, _ => kf14
  | 15, _ => kf15
  | 16, _ => kf16
  | 17, _ => kf17
  | 18, _ => kf18
  | 19, _ => kf19
  | 20, _ => kf20
  | 21, _ => kf21
  | 22, _ => kf22
  | 23, _ => kf23
  | 24, _ => kf24
  | 25, _ => kf25
  | 26, _ => kf26
  | 27, _ => kf27
  | 28, _ => kf28
  | 29, _ => kf29
  | 30, _ => kf30
  | 31, _ => kf31
  | 32, _ => kf32
  | 33, _ => kf33
  | 34, _ => kf34
  | 35, _ => kf35
  | 36, _ => kf36
  | 37, _ => kf37
  | 38, _ => kf38
  | 39, _ => kf39
  | 40, _ => kf40
  | 41, _ => kf41
  | 42, _ => kf42
  | 43, _ => kf43
  | 44, _ => kf44
  | 45, _ => kf45
  | 46, _ => kf46
  | 47, _ => kf47
  | 48, _ => kf48
  | 49, _ => kf49
  | 50, _ => kf50
  | 51, _ => kf51
  | 52, _ => kf52
  | 53, _ => kf53
  | 54, _ => kf54
  | 55, _ => kf55
  | 56, _ => kf56
  | 57, _ => kf57
  | 58, _ => kf58
  | 59, _ => kf59
  | _ + 60, h => absurd h (by omega)
theorem k_all : ∀ k, k < 60 → ∀ b, kr k b = true
  | k, h, true => kt_all k h
  | k, h, false => kf_all k h
end Go.Proofs.YtchekcabddjdiaaGreatDoor
