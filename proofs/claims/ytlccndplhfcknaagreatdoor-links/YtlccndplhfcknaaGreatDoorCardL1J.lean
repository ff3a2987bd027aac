import Derived.Test.YtlccndplhfcknaaGreatDoorJ3J
import Derived.ProofKit
import Derived.Deep.DeepHandedRow
import Derived.Deep.DeepLaidRun
import Derived.Carry
namespace Go.Proofs.YtlccndplhfcknaaGreatDoor
open Go.ChangeShapes Go.WideShapes Go.ChangeAt Go.RowKit
noncomputable def low:Nat:=(World.holding Tryz.prog default ⟨#[],#[],[]⟩).heap.size
def natsOf:DataW Unit->List Lit
 |.agg l=>l.filterMap fun|.lit x=>some x|_=>none
 |_=>[]
def cellOf:Lit->Value
 |.int k n=>.int k n
 |.bool b=>.bool b
 |_=>.nilIface
noncomputable def laidWorld(os:Os):World:=
 let w0:=World.holding Tryz.prog os ⟨((List.range 19).map λi=>Obj.cells #[.string ⟨(kTxt i).toArray⟩] 254).toArray,#[],[]⟩
 {w0 with heap:=((((((List.range 19).foldl (λ(h:Array Obj) i=>h.modify (kNum i) fun
  |.cells _ t frozen=>.cells #[.iface 234 (.pointer (some ⟨low+i,0,none⟩))] t frozen
  |o=>o) w0.heap).modify 19 fun
  |.cells _ t frozen=>.cells #[.iface 154 (.agg #[.pointer (some ⟨25,57,none⟩)])] t frozen
  |o=>o).modify 20 fun
  |.cells _ t frozen=>.cells (rowsTab.map λz=>Value.int .i64 z).toArray t frozen
  |o=>o).modify 22 fun
  |.cells _ t frozen=>.cells ((natsOf Rows.laid_internal_strconv_uint64pow10).map cellOf).toArray t frozen
  |o=>o).modify 23 fun
  |.cells _ t frozen=>.cells ((natsOf Rows.laid_math_bits_deBruijn32tab).map cellOf).toArray t frozen
  |o=>o).modify 24 fun
  |.cells _ t frozen=>.cells ((natsOf Rows.laid_math_bits_deBruijn64tab).map cellOf).toArray t frozen
  |o=>o}
def argL:Array Value:=#[.slice none 0 0,.string ⟨#[]⟩]
theorem laid_met(os:Os):laidMetH Tryz.prog Rows.linksRow.laid ((laidWorld os).forCall (λ_ _=>0) ⟨#[],argL,[]⟩).memory:=
 laidMetH_of_parts (laidMet_of_run3 8 (by kernel_rfl) (by kernel_rfl) (by kernel_rfl)) (by kernel_rfl)
theorem reads(os:Os){H:Type}(enc:TypeId×Value->H):∃places,DataW.whole enc Tryz.prog ((laidWorld os).forCall (λ_ _=>0) ⟨#[],argL,[]⟩).memory Tryz.f3.params.toList Rows.linksSpec.vars false argL.toList 8=some ([.nil,.lit (.string [])],[],places):=
 ⟨[],by kernel_rfl⟩
end Go.Proofs.YtlccndplhfcknaaGreatDoor
