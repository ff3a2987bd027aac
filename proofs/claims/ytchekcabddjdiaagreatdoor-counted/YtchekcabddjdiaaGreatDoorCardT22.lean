import Derived.Test.YtchekcabddjdiaaGreatDoorCards
import Derived.Test.YtchekcabddjdiaaGreatDoorLaidT1
import Derived.Test.YtchekcabddjdiaaGreatDoorCtLaw
import Derived.WalkKit
import Derived.ProofKit
import Derived.Deep.DeepHandedRow
import Derived.Deep.DeepLaidRun
import Derived.Carry
import Derived.Test.YtchekcabddjdiaaGreatDoorCardT0
namespace Go.Proofs.YtchekcabddjdiaaGreatDoor
open Go.ChangeShapes Go.WideShapes Go.ChangeAt Go.RowKit

theorem Tryz.own : ownKnob Tryz.prog.godebug = none := by kernel_rfl

set_option maxRecDepth 100000 in
/-- what the walk gives, for every objects and every world that holds what the row lists -/
theorem counted_contract (hK : ∀ k, k < 60 → ∀ b, kr k b = true) (H : Type) (enc : TypeId × Value → H) (W : World) (base : Nat) (args : Array Value) (ds gs : List (DataW H)) (before : List MemPlace)
    (hval : ∀ (j : Nat) t v, Tryz.f3.params[j]? = some t → args[j]? = some v → Value.okWide Tryz.prog W .any base t v)
    (hW : DataW.Whole enc Tryz.prog Tryz.f3.params.toList Rows.countedSpec.vars false W args.toList ds gs before)
    (hL : laidMetH Tryz.prog Rows.countedRow.laid W) :
    Calls Tryz.prog 3 args W fun e W' => ∃ v, e = .returned v ∧ Rows.countedSpec.post enc Tryz.prog Tryz.f3 false true false false W args v W' := by
  have hW' := hW
  obtain ⟨p, q, hA0, hV, rfl, hfz, hnd⟩ := hW
  have hA : DataW.TrodAll enc Tryz.prog W 0 (fun _ => true) true Tryz.f3.params.toList args.toList ds p := hA0
  rw [Tryz.params3] at hA hval
  obtain ⟨v0, vs0, d0, ds0, p0, q0, hargs, rfl, rfl, h0, r0⟩ := trodAll_cons hA
  obtain ⟨v1, vs1, d1, ds1, p1, q1, hargs1, rfl, rfl, h1, r1⟩ := trodAll_cons r0
  obtain ⟨rfl, rfl, rfl⟩ := trodAll_nil r1
  obtain rfl : args = #[v0, v1] := by cases args; simp_all
  obtain ⟨rfl, rfl⟩ := trodVars_none hV
  simp only [List.append_nil] at hW'
  obtain ⟨m0, rfl⟩ := okWide_int Tryz.underlying3 (hval 0 3 v0 rfl rfl)
  obtain ⟨f0, h0'⟩ := id h0
  obtain ⟨n0, e0, x0, hn0⟩ := DataW.trod_int Tryz.underlying3 h0'
  obtain rfl : m0 = n0 := by have h : [Value.int .i64 m0] = [Value.int .i64 n0] := e0; simpa using h
  obtain ⟨b1, rfl⟩ := okWide_bool Tryz.underlying4 (hval 1 4 v1 rfl rfl)
  obtain ⟨f1, h1'⟩ := id h1
  obtain ⟨n1, e1, x1⟩ := DataW.trod_bool Tryz.underlying4 h1'
  obtain rfl : b1 = n1 := by have h : [Value.bool b1] = [Value.bool n1] := e1; simpa using h
  refine (counted_of hK m0 b1 (bounds_i64 hn0).1 (bounds_i64 hn0).2 (hold_of hL)).mono fun e W' ⟨he, hb⟩ => ?_
  subst he
  obtain ⟨rfl, rfl⟩ := Prod.mk.inj x0
  obtain ⟨rfl, rfl⟩ := Prod.mk.inj x1
  refine ⟨_, rfl, _, _, _, [], [] ++ [], [], by simpa using hW', ?_, ?_, ?_, ?_, fun h => by cases h⟩
  · exact trodAll_mk1 (shut_bool Tryz.underlying4 true)
  · rw [Tryz.params3]
    exact trodAll_mk2 (shut_int Tryz.underlying3 hn0) (shut_bool Tryz.underlying4 b1)
  · rfl
  · exact hb.frame _

end Go.Proofs.YtchekcabddjdiaaGreatDoor

namespace Go.Proofs.YtchekcabddjdiaaGreatDoor
open Go.ChangeShapes Go.WideShapes Go.ChangeAt Go.RowKit

set_option maxRecDepth 100000 in
theorem counted_lifted (hK : ∀ k, k < 60 → ∀ b, kr k b = true) (os : Os) (started : os.Started) (H : Type) (enc : TypeId × Value → H) (F : Stop.Interp) :
    ReturnsInHanded {} Tryz.checked os 3 .any ((OpenSpec.ofChange Rows.countedSpec).preRow enc Tryz.prog Tryz.f3 Rows.countedRow.domain false Rows.countedRow.laid) (((OpenSpec.ofChange Rows.countedSpec).at F).post enc Tryz.prog Tryz.f3 false true false false) := by
  obtain ⟨places, hx⟩ := reads os enc
  refine returnsInHanded_of_row (C := Tryz.checked) (s := OpenSpec.ofChange Rows.countedSpec) Tryz.own started (by kernel_rfl) Tryz.func3
    (witness_row_at (enc := enc) (C := Tryz.checked) false (laidWorld os) argK rfl (by kernel_rfl) (by kernel_rfl) (by kernel_rfl)
      (OpenSpec.preRow_of_cond 8 hx (by kernel_rfl) (fun k hk => by cases hk) (by kernel_rfl) (laid_met os))) ?_
  intro W base args ds gs before hval hW _ _ _ hL _ _
  exact counted_contract hK H enc W base args ds gs before hval hW hL

theorem counted_said (hK : ∀ k, k < 60 → ∀ b, kr k b = true) : Rows.CountedSaid :=
  OpenClaim.holds_of_cond 3 Tryz.f3 rfl rfl rfl rfl rfl rfl rfl ⟨rfl, rfl, rfl, rfl, rfl⟩ rfl rfl rfl rfl rfl (by kernel_rfl) Tryz.func3 counted_facts
    (of_decide_eq_true (by kernel_rfl)) (by unfold Func.isWrapper; first | (rw [if_pos (by decide +kernel)]; kernel_rfl) | (rw [if_neg (by decide +kernel)]; exact ⟨rfl, rfl⟩))
    (fun os started H enc _ F => by rw [OpenClaim.pre_eq_preRow]; exact counted_lifted hK os started H enc F)

end Go.Proofs.YtchekcabddjdiaaGreatDoor
