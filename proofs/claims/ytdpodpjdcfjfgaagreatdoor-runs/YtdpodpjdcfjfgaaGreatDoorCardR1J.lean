import Derived.Test.YtdpodpjdcfjfgaaGreatDoorLaidLJ
import Derived.ProofKit
import Derived.Deep.DeepHandedRow
import Derived.Deep.DeepLaidRun
import Derived.Carry
namespace Go.Proofs.YtdpodpjdcfjfgaaGreatDoor
open Go.ChangeShapes Go.WideShapes Go.ChangeAt Go.RowKit
noncomputable def low:Nat:=(World.holding Tryz.prog default ⟨#[],#[],[]⟩).heap.size
def natsOf:DataW Unit->List Lit
 |.agg l=>l.filterMap fun|.lit x=>some x|_=>none
 |_=>[]
def cellOf:Lit->Value
 |.int k n=>.int k n
 |.bool b=>.bool b
 |_=>.nilIface
noncomputable def laidWorld(os:Os):World:=
 let w0:=World.holding Tryz.prog os ⟨((List.range 19).map λi=>Obj.cells #[.string ⟨(kTxt i).toArray⟩] 579).toArray,#[],[]⟩
 {w0 with heap:=((((((List.range 19).foldl (λ(h:Array Obj) i=>h.modify (kNum i) fun
  |.cells _ t frozen=>.cells #[.iface 577 (.pointer (some ⟨low+i,0,none⟩))] t frozen
  |o=>o) w0.heap).modify 18 fun
  |.cells _ t frozen=>.cells #[.iface 366 (.agg #[.pointer (some ⟨27,103,none⟩)])] t frozen
  |o=>o).modify 21 fun
  |.cells _ t frozen=>.cells (rowsTab.map λz=>Value.int .i64 z).toArray t frozen
  |o=>o).modify 20 fun
  |.cells _ t frozen=>.cells ((natsOf Rows.laid_internal_strconv_uint64pow10).map cellOf).toArray t frozen
  |o=>o).modify 23 fun
  |.cells _ t frozen=>.cells ((natsOf Rows.laid_math_bits_deBruijn32tab).map cellOf).toArray t frozen
  |o=>o).modify 24 fun
  |.cells _ t frozen=>.cells ((natsOf Rows.laid_math_bits_deBruijn64tab).map cellOf).toArray t frozen
  |o=>o}
def argR:Array Value:=#[.slice none 0 0,.string ⟨#[]⟩,.slice none 0 0]
theorem laid_met(os:Os):laidMetH Tryz.prog Rows.runsRow.laid ((laidWorld os).forCall (λ_ _=>0) ⟨#[],argR,[]⟩).memory:=
 laidMetH_of_parts (laidMet_of_run3 8 (by kernel_rfl) (by kernel_rfl) (by kernel_rfl)) (by kernel_rfl)
theorem reads(os:Os){H:Type}(enc:TypeId×Value->H):∃places,DataW.whole enc Tryz.prog ((laidWorld os).forCall (λ_ _=>0) ⟨#[],argR,[]⟩).memory Tryz.f7.params.toList Rows.runsSpec.vars false argR.toList 8=some ([.nil,.lit (.string []),.nil],[],places):=
 ⟨[],by kernel_rfl⟩
end Go.Proofs.YtdpodpjdcfjfgaaGreatDoor
