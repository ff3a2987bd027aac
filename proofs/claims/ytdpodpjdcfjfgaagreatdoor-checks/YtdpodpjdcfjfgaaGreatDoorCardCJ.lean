import Derived.Test.YtdpodpjdcfjfgaaGreatDoorCards
import Derived.Test.YtdpodpjdcfjfgaaGreatDoorLaidCJ
import Derived.Test.YtdpodpjdcfjfgaaGreatDoorChkJ
import Derived.WalkKit
import Derived.ProofKit
import Derived.Deep.DeepHandedRow
import Derived.Deep.DeepLaidRun
import Derived.Carry
namespace Go.Proofs.YtdpodpjdcfjfgaaGreatDoor
open Go.ChangeShapes Go.WideShapes Go.ChangeAt Go.RowKit

theorem Tryz.own : ownKnob Tryz.prog.godebug = none := by kernel_rfl

set_option maxRecDepth 100000 in
/-- what the walk gives, for every text and every world that holds what the row lists -/
theorem checks_contract (H : Type) (enc : TypeId × Value → H) (W : World) (base : Nat) (args : Array Value) (ds gs : List (DataW H)) (before : List MemPlace)
    (hval : ∀ (j : Nat) t v, Tryz.f4.params[j]? = some t → args[j]? = some v → Value.okWide Tryz.prog W .any base t v)
    (hW : DataW.Whole enc Tryz.prog Tryz.f4.params.toList Rows.checksSpec.vars false W args.toList ds gs before)
    (hL : laidMetH Tryz.prog Rows.checksRow.laid W) :
    Calls Tryz.prog 4 args W fun e W' => ∃ v, e = .returned v ∧ Rows.checksSpec.post enc Tryz.prog Tryz.f4 false true false false W args v W' := by
  have hW' := hW
  obtain ⟨p, q, hA0, hV, rfl, hfz, hnd⟩ := hW
  have hA : DataW.TrodAll enc Tryz.prog W 0 (fun _ => true) true Tryz.f4.params.toList args.toList ds p := hA0
  rw [Tryz.params4] at hA hval
  obtain ⟨v0, vs0, d0, ds0, p0, q0, hargs, rfl, rfl, h0, r0⟩ := trodAll_cons hA
  obtain ⟨rfl, rfl, rfl⟩ := trodAll_nil r0
  obtain rfl : args = #[v0] := by cases args; simp_all
  obtain ⟨rfl, rfl⟩ := trodVars_none hV
  simp only [List.append_nil] at hW'
  obtain ⟨s, rfl⟩ := okWide_string Tryz.underlying9 (hval 0 9 v0 rfl rfl)
  obtain ⟨f0, h0'⟩ := id h0
  obtain ⟨s', e0, x0, hs⟩ := DataW.trod_string Tryz.underlying9 h0'
  obtain rfl : s = s' := by have h : [Value.string s] = [Value.string s'] := e0; simpa using h
  obtain ⟨adr, hS⟩ := sentAt hL
  refine (checks_try s hS (sy_of hL hS)).mono fun e W' ⟨he, hb⟩ => ?_
  subst he
  have hlt : ∀ x ∈ p0 ++ [], x.block < W.heap.size := fun x hx => by simpa using hW'.lt x (by simpa using hx)
  refine ⟨_, rfl, _, _, _, [], p0 ++ [], [], by simpa using hW', ?_, ?_, ?_, ?_, fun h => by cases h⟩
  · exact trodAll_mk1 (shut_bool Tryz.underlying4 true)
  · rw [Tryz.params4]
    have hp0 : p0 = [] := (Prod.mk.inj x0).2
    have hd0 : d0 = .lit (.string s.data.toList) := (Prod.mk.inj x0).1
    subst hp0 hd0
    exact trodAll_mk1 (Go.Deep.shut_string_cell Tryz.underlying9 hs)
  · rfl
  · exact hb.frame _

end Go.Proofs.YtdpodpjdcfjfgaaGreatDoor
