import Derived.Test.YtdpodpjdcfjfgaaGreatDoorCards
import Derived.Test.YtdpodpjdcfjfgaaGreatDoorLaidLJ
import Derived.Test.YtdpodpjdcfjfgaaGreatDoorKgJ
import Derived.WalkKit
import Derived.ProofKit
import Derived.Deep.DeepHandedRow
import Derived.Deep.DeepLaidRun
import Derived.Carry
namespace Go.Proofs.YtdpodpjdcfjfgaaGreatDoor
open Go.ChangeShapes Go.WideShapes Go.ChangeAt Go.RowKit

theorem Tryz.own : ownKnob Tryz.prog.godebug = none := by kernel_rfl
theorem Tryz.laidOut : laidOutB Tryz.prog = true := by kernel_rfl
theorem Tryz.readObjs : Tryz.prog.readableRec 54 = true := by kernel_rfl

set_option maxRecDepth 100000 in
/-- what the walk gives, for every objects and every world that holds what the row lists -/
theorem links_contract (H : Type) (enc : TypeId × Value → H) (W : World) (base : Nat) (args : Array Value) (ds gs : List (DataW H)) (before : List MemPlace)
    (hval : ∀ (j : Nat) t v, Tryz.f6.params[j]? = some t → args[j]? = some v → Value.okWide Tryz.prog W .any base t v)
    (hW : DataW.Whole enc Tryz.prog Tryz.f6.params.toList Rows.linksSpec.vars false W args.toList ds gs before)
    (hwt : ∀ (j : Nat) (t : TypeId) (d : DataW H), Tryz.f6.params.toList[j]? = some t → ds[j]? = some d → ∀ n ∈ d.weights Tryz.prog t, n ≤ reachBytes)
    (hL : laidMetH Tryz.prog Rows.linksRow.laid W) :
    Calls Tryz.prog 6 args W fun e W' => ∃ v, e = .returned v ∧ Rows.linksSpec.post enc Tryz.prog Tryz.f6 false true false false W args v W' := by
  have hW' := hW
  obtain ⟨p, q, hA0, hV, rfl, hfz, hnd⟩ := hW
  have hA : DataW.TrodAll enc Tryz.prog W 0 (fun _ => true) true Tryz.f6.params.toList args.toList ds p := hA0
  rw [Tryz.params6] at hA hval hwt
  obtain ⟨v0, vs0, d0, ds0, p0, q0, hargs, rfl, rfl, h0, r0⟩ := trodAll_cons hA
  obtain ⟨v1, vs1, d1, ds1, p1, q1, hargs1, rfl, rfl, h1, r1⟩ := trodAll_cons r0
  obtain ⟨rfl, rfl, rfl⟩ := trodAll_nil r1
  obtain rfl : args = #[v0, v1] := by cases args; simp_all
  obtain ⟨rfl, rfl⟩ := trodVars_none hV
  simp only [List.append_nil] at hW'
  obtain ⟨a, len, cap, rfl⟩ := okWide_slice Tryz.underlying54 (hval 0 54 v0 rfl rfl)
  obtain ⟨s, rfl⟩ := okWide_string Tryz.underlying9 (hval 1 9 v1 rfl rfl)
  obtain ⟨f0, h0'⟩ := id h0
  obtain ⟨Os, hO, hl, hz⟩ := objs_of (v := .slice a len cap) h0' (hwt 0 54 d0 rfl rfl)
  obtain ⟨f1, h1'⟩ := id h1
  obtain ⟨s', e0, x0, hs⟩ := DataW.trod_string Tryz.underlying9 h1'
  obtain rfl : s = s' := by have h : [Value.string s] = [Value.string s'] := e0; simpa using h
  obtain ⟨adr, hS⟩ := sentAt hL
  refine (links_any Os _ s W adr hO hl hz hs (tabAt hL) hS).mono fun e W' ⟨he, hb⟩ => ?_
  subst he
  have hp1 : p1 = [] := (Prod.mk.inj x0).2
  have hd1 : d1 = .lit (.string s.data.toList) := (Prod.mk.inj x0).1
  subst hp1 hd1
  have hlt : ∀ x ∈ p0, x.block < W.heap.size := fun x hx => by simpa using hW'.lt x (by simpa using hx)
  refine ⟨_, rfl, _, _, _, [], p0 ++ [], [], by simpa using hW', ?_, ?_, ?_, ?_, fun h => by cases h⟩
  · exact trodAll_mk1 (shut_bool Tryz.underlying4 true)
  · rw [Tryz.params6]
    exact trodAll_mk2 (Below.trod Tryz.laidOut Tryz.readObjs (of_decide_eq_true (by kernel_rfl)) h0 hb hlt) (Go.Deep.shut_string_cell Tryz.underlying9 hs)
  · rfl
  · exact hb.frame _

end Go.Proofs.YtdpodpjdcfjfgaaGreatDoor
