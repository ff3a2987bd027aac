import Derived.Test.YtchekcabddjdiaaGreatDoorProg
import Derived.WalkKit
import Derived.WalkSpells
import Derived.WalkLawsBesides
import Derived.Deep.QuietTactic
import Derived.BigQuiet
import Derived.Test.YtchekcabddjdiaaGreatDoorEg
import Derived.Test.YtchekcabddjdiaaGreatDoorCtK
namespace Go.Proofs.YtchekcabddjdiaaGreatDoor
open Go.RowKit

set_option maxRecDepth 100000 in
theorem pick_any (c : Int) (n : Nat) (w : World) (h1 : -9223372036854775808 ≤ c) (h2 : c ≤ 9223372036854775807) (hn : 0 < n) (hm : n ≤ 1000000) : Calls Tryz.prog 4 #[.int .i64 c, .int .i64 n] w fun e w' => ∃ k : Nat, k < n ∧ e = .returned (.int .i64 k) ∧ w' = w := by
  have hn' : (0 : Int) < (n : Int) := by omega
  have hn0 : (n : Int) ≠ 0 := by omega
  by_cases hc : c < 0
  · have e1 : IntKind.i64.wrap (c + 1) = c + 1 := by rw [IntKind.wrap_i64]; omega
    have e2 : IntKind.i64.wrap (-(c + 1)) = -(c + 1) := by rw [IntKind.wrap_i64]; omega
    go_enter Tryz.func4, Tryz.ntmps4
    go_wp2
    go_ret
    have hm0 := Int.emod_nonneg (-(c + 1)) hn0
    have hm1 := Int.emod_lt_of_pos (-(c + 1)) hn'
    have e : -(c + 1).tmod n = (((-(c + 1)) % (n : Int)).toNat : Int) := by
      rw [← Int.neg_tmod, Int.tmod_eq_emod_of_nonneg (by omega), Int.toNat_of_nonneg hm0]
    exact ⟨(-(c + 1) % (n : Int)).toNat, by omega, congrArg (fun z => Ending.returned (.int .i64 z)) e, rfl⟩
  · go_enter Tryz.func4, Tryz.ntmps4
    go_wp2
    go_ret
    have hm0 := Int.emod_nonneg c hn0
    have hm1 := Int.emod_lt_of_pos c hn'
    exact ⟨(c % (n : Int)).toNat, by omega, congrArg (fun z => Ending.returned (.int .i64 z)) (Int.toNat_of_nonneg hm0).symm, rfl⟩

theorem pick_enter (args : Array Value) (w : World) : (callFunc 4 args).run Tryz.prog w = .ok (.enter 4 args) w := by
  obtain ⟨c, hc⟩ : ∃ c, Tryz.f4.body = some c := ⟨_, rfl⟩
  simp [callFunc, Sem.run_bind, show (program : Sem Program).run Tryz.prog w = .ok Tryz.prog w from rfl, Result.andThen, Tryz.func4, hc]
  exact of_decide_eq_false (by kernel_rfl)

end Go.Proofs.YtchekcabddjdiaaGreatDoor

namespace Go.Proofs.YtchekcabddjdiaaGreatDoor
open Ev8

set_option maxRecDepth 1000000

theorem s1 : okTy Tryz.prog.types.toList = true := by kernel_rfl
theorem s2 : okFs Tryz.prog.funcs.toList vss = true := by kernel_rfl
theorem s3 : Nat.ble Tryz.prog.funcs.toList.length 1024 = true := by kernel_rfl
theorem s4 : Tryz.prog.follows .mixedOrders = true := by kernel_rfl
theorem x1 : extL 187 261 Tryz.prog.funcs.toList 0 = true := by kernel_rfl
theorem x2 : Tryz.prog.funcs[187]? = some Tryz.f187 := by kernel_rfl
theorem x3 : Tryz.prog.funcs[261]? = some Tryz.f261 := by kernel_rfl
theorem x4 : Extern.findNext Tryz.f187 = none := by kernel_rfl
theorem x5 : Extern.find Tryz.f187 = some Extern.BytealgCompare.compare := by kernel_rfl
theorem x6 : Extern.findNext Tryz.f261 = none := by kernel_rfl
theorem x7 : Extern.find Tryz.f261 = some Extern.BytealgIndexByte.indexByte := by kernel_rfl
/-- the view of the program is sound -/
theorem vok : ∃ V : Vw, V.P = Tryz.prog ∧ VOk V ∧ ∀ C, view Tryz.prog Tryz.t0 vss C = C V := view_ok s4 s1 s2 s3 (hx_of x1 x2 x3 x4 x5 x6 x7)

theorem fd3_len : fd3.vs.length ≤ 72 := Nat.le_of_ble_eq_true (by kernel_rfl)
theorem fd3_0 : fd3.vs[0]? = some 0 := by kernel_rfl
theorem fd3_1 : fd3.vs[1]? = some 1 := by kernel_rfl
theorem rest_ok : okC 71 fd3 (rest2 Tryz.f3) = true := by kernel_rfl
theorem res_ok : rsOk Tryz.f3.results.toList = true := by kernel_rfl

end Go.Proofs.YtchekcabddjdiaaGreatDoor

namespace Go.Proofs.YtchekcabddjdiaaGreatDoor
open Ev8 Go.RowKit

/-- the law, given its runs -/
theorem counted_of (hK : ∀ k, k < 60 → ∀ b, kr k b = true) (n : Int) (b : Bool) (h1 : -9223372036854775808 ≤ n) (h2 : n ≤ 9223372036854775807) {w : World} (hw : Hold w) :
    Calls Tryz.prog 3 #[.int .i64 n, .bool b] w fun e w' => e = .returned (.bool true) ∧ Below w.heap.size w w' := by
  obtain ⟨V, hP, hV, hC⟩ := vok
  refine (callsIn_wide (n := 0)).1 ?_
  rw [← hP]
  refine law_ok hV (by rw [hP]; exact Tryz.func3) (c := rest2 Tryz.f3) (fd := fd3) (g := 4) rfl rfl fd3_len fd3_0 fd3_1 rest_ok res_ok (fun k hk => ?_) hw (fun args w => by rw [hP]; exact pick_enter args w) (by rw [hP]; exact callsIn_wide.2 (pick_any n 60 w h1 h2 (by omega) (by omega)))
  have := hK k hk b
  unfold kr at this
  rw [hC] at this
  exact this

end Go.Proofs.YtchekcabddjdiaaGreatDoor
