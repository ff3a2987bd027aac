import Derived.Test.YtnghccjoicmabaaGreatDoorCardP2J
import Derived.Test.YtnghccjoicmabaaGreatDoorTie
open Go.Proofs.Tryz renaming prog->Acs
namespace Go.Proofs.YtnghccjoicmabaaGreatDoor
open Go.ChangeShapes Go.WideShapes Go.ChangeAt Go.RowKit
theorem plain(a:FuncId)(b:Func)(g:Tryz.pinned.checked.prog.funcNamed "tarn/tarnlaw.Compiles"=some a)(h:Tryz.pinned.checked.prog.funcs[a]?=some b):
 true=Tryz.pinned.checked.prog.looks []/\∀(f:Nat) c,b.params[f]?=some c->Tryz.pinned.checked.prog.wantsStandIn c=false:=by
 obtain rfl:a=3:=Aba ((show Acs.funcNamed "tarn/tarnlaw.Compiles"=some 3 by kernel_rfl).symm.trans g)|>.symm;obtain rfl:b=Tryz.f3:=(Aba (Tryz.func3.symm.trans h)).symm;refine⟨by kernel_rfl,λf c e=>?_⟩;rw[Tryz.params3]at e;have d:=Array.mem_of_getElem? e;simp only[List.mem_toArray,Ady,Aaz,or_false]at d;subst d;exact(show Acs.wantsStandIn 9=false by kernel_rfl)
theorem NK:Rows.compilesRow.wfByText (OpenSpec.ofChange Rows.compilesSpec)=true:=by kernel_rfl
theorem KH:Tryz.pinned.checked.prog.mainIs=some (Rows.compilesCard.stood.harness.1,Rows.compilesCard.stood.harness.2.toList):=by kernel_rfl
theorem KM:false=Rows.compilesRow.goesBy Tryz.pinned.checked.prog:=by kernel_rfl
theorem compiles_card:Rows.CompilesCardSaid:=
 Claim7.holds_tied_plain_at .later [] Rows.compilesCard.laidKinds true Rows.compilesCard.stood.harness true KR (λ_ a=>by cases a) NK (λ_ a=>by cases a) compiles_row_tie rfl ⟨rfl,rfl⟩ KH rfl plain KM
end Go.Proofs.YtnghccjoicmabaaGreatDoor
