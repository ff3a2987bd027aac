import Derived.Test.YtglihimiidiacaaGreatDoorCards
import Derived.Test.YtglihimiidiacaaGreatDoorOlW
import Derived.WalkKit
import Derived.ProofKit
import Derived.Deep.DeepHandedRow
import Derived.Deep.DeepLaidRun
import Derived.Carry
import Derived.Test.YtglihimiidiacaaGreatDoorCardO0ol
namespace Go.Proofs.YtglihimiidiacaaGreatDoor
open Go.ChangeShapes Go.WideShapes Go.ChangeAt Go.RowKit Ev8

theorem Tryz.own : ownKnob Tryz.prog.godebug = none := by kernel_rfl

set_option maxRecDepth 100000 in
/-- what the walk gives, for every objects and every world that holds what the row lists -/
theorem once_contract (hK : ∀ n, n < 15 → ∀ r, onceK n r = true) (H : Type) (enc : TypeId × Value → H) (W : World) (base : Nat) (args : Array Value) (ds gs : List (DataW H)) (before : List MemPlace)
    (hval : ∀ (j : Nat) t v, Tryz.f4.params[j]? = some t → args[j]? = some v → Value.okWide Tryz.prog W .any base t v)
    (hW : DataW.Whole enc Tryz.prog Tryz.f4.params.toList Rows.onceSpec.vars false W args.toList ds gs before)
    (hL : laidMetH Tryz.prog Rows.onceRow.laid W) :
    Calls Tryz.prog 4 args W fun e W' => ∃ v, e = .returned v ∧ Rows.onceSpec.post enc Tryz.prog Tryz.f4 false true false false W args v W' := by
  have hW' := hW
  obtain ⟨p, q, hA0, hV, rfl, hfz, hnd⟩ := hW
  have hA : DataW.TrodAll enc Tryz.prog W 0 (fun _ => true) true Tryz.f4.params.toList args.toList ds p := hA0
  rw [Tryz.params4] at hA hval
  obtain ⟨v0, vs0, d0, ds0, p0, q0, hargs0, rfl, rfl, h0, r0⟩ := trodAll_cons hA
  obtain ⟨v1, vs1, d1, ds1, p1, q1, hargs1, rfl, rfl, h1, r1⟩ := trodAll_cons r0
  obtain ⟨v2, vs2, d2, ds2, p2, q2, hargs2, rfl, rfl, h2, r2⟩ := trodAll_cons r1
  obtain ⟨rfl, rfl, rfl⟩ := trodAll_nil r2
  obtain rfl : args = #[v0, v1, v2] := by cases args; simp_all
  obtain ⟨rfl, rfl⟩ := trodVars_none hV
  simp only [List.append_nil] at hW'
  obtain ⟨m0, rfl⟩ := okWide_int Tryz.underlying3 (hval 0 3 v0 rfl rfl)
  obtain ⟨f0, h0'⟩ := id h0
  obtain ⟨n0, e0, x0, hn0⟩ := DataW.trod_int Tryz.underlying3 h0'
  obtain rfl : m0 = n0 := by have h : [Value.int .i64 m0] = [Value.int .i64 n0] := e0; simpa using h
  obtain ⟨m1, rfl⟩ := okWide_int Tryz.underlying3 (hval 1 3 v1 rfl rfl)
  obtain ⟨f1, h1'⟩ := id h1
  obtain ⟨n1, e1, x1, hn1⟩ := DataW.trod_int Tryz.underlying3 h1'
  obtain rfl : m1 = n1 := by have h : [Value.int .i64 m1] = [Value.int .i64 n1] := e1; simpa using h
  obtain ⟨m2, rfl⟩ := okWide_bool Tryz.underlying4 (hval 2 4 v2 rfl rfl)
  obtain ⟨f2, h2'⟩ := id h2
  obtain ⟨n2, e2, x2⟩ := DataW.trod_bool Tryz.underlying4 h2'
  obtain rfl : m2 = n2 := by have h : [Value.bool m2] = [Value.bool n2] := e2; simpa using h
  refine (once_of hK (by rw [IntKind.wrap_i64]; have := bounds_i64 hn0; omega) (by rw [IntKind.wrap_i64]; have := bounds_i64 hn1; omega) (hold_of hL)).mono fun e W' ⟨he, hb⟩ => ?_
  subst he
  obtain ⟨rfl, rfl⟩ := Prod.mk.inj x0
  obtain ⟨rfl, rfl⟩ := Prod.mk.inj x1
  obtain ⟨rfl, rfl⟩ := Prod.mk.inj x2
  refine ⟨_, rfl, _, _, _, [], [] ++ ([] ++ []), [], by simpa using hW', ?_, ?_, ?_, ?_, fun h => by cases h⟩
  · exact trodAll_mk1 (shut_bool Tryz.underlying4 true)
  · rw [Tryz.params4]
    exact trodAll_mk3 (shut_int Tryz.underlying3 hn0) (shut_int Tryz.underlying3 hn1) (shut_bool Tryz.underlying4 m2)
  · rfl
  · exact hb.frame _

end Go.Proofs.YtglihimiidiacaaGreatDoor

namespace Go.Proofs.YtglihimiidiacaaGreatDoor
open Go.ChangeShapes Go.WideShapes Go.ChangeAt Go.RowKit Ev8

def argK : Array Value := #[.int .i64 0, .int .i64 0, .bool false]
theorem laid_met (os : Os) : laidMetH Tryz.prog Rows.onceRow.laid ((laidWorld os).forCall (fun _ _ => 0) ⟨#[], argK, []⟩).memory :=
  laidMetH_of_parts (laidMet_of_run3 8 (by kernel_rfl) (by kernel_rfl) (by kernel_rfl)) (by kernel_rfl)
theorem reads (os : Os) {H : Type} (enc : TypeId × Value → H) : ∃ places, DataW.whole enc Tryz.prog ((laidWorld os).forCall (fun _ _ => 0) ⟨#[], argK, []⟩).memory Tryz.f4.params.toList Rows.onceSpec.vars false argK.toList 8 = some ([.lit (.int .i64 0), .lit (.int .i64 0), .lit (.bool false)], [], places) :=
  ⟨[], by kernel_rfl⟩
set_option maxRecDepth 100000 in
theorem once_lifted (hK : ∀ n, n < 15 → ∀ r, onceK n r = true) (os : Os) (started : os.Started) (H : Type) (enc : TypeId × Value → H) (F : Stop.Interp) :
    ReturnsInHanded {} Tryz.checked os 4 .any ((OpenSpec.ofChange Rows.onceSpec).preRow enc Tryz.prog Tryz.f4 Rows.onceRow.domain false Rows.onceRow.laid) (((OpenSpec.ofChange Rows.onceSpec).at F).post enc Tryz.prog Tryz.f4 false true false false) := by
  obtain ⟨places, hx⟩ := reads os enc
  refine returnsInHanded_of_row (C := Tryz.checked) (s := OpenSpec.ofChange Rows.onceSpec) Tryz.own started (by kernel_rfl) Tryz.func4
    (witness_row_at (enc := enc) (C := Tryz.checked) false (laidWorld os) argK rfl (by kernel_rfl) (by kernel_rfl) (by kernel_rfl)
      (OpenSpec.preRow_of_cond 8 hx (by kernel_rfl) (fun k hk => by cases hk) (by kernel_rfl) (laid_met os))) ?_
  intro W base args ds gs before hval hW _ _ _ hL _ _
  exact once_contract hK H enc W base args ds gs before hval hW hL

theorem once_said (hK : ∀ n, n < 15 → ∀ r, onceK n r = true) : Rows.OnceSaid :=
  OpenClaim.holds_of_cond 4 Tryz.f4 rfl rfl rfl rfl rfl rfl rfl ⟨rfl, rfl, rfl, rfl, rfl⟩ rfl rfl rfl rfl rfl (by kernel_rfl) Tryz.func4 once_facts
    (of_decide_eq_true (by kernel_rfl)) (by unfold Func.isWrapper; first | (rw [if_pos (by decide +kernel)]; kernel_rfl) | (rw [if_neg (by decide +kernel)]; exact ⟨rfl, rfl⟩))
    (fun os started H enc _ F => by rw [OpenClaim.pre_eq_preRow]; exact once_lifted hK os started H enc F)

end Go.Proofs.YtglihimiidiacaaGreatDoor
