import Derived.Test.YtpkbnogifdlcmaaGreatDoorCL2J
import Derived.Test.YtpkbnogifdlcmaaGreatDoorTie
set_option linter.unusedSimpArgs false
open Go.Proofs.Tryz renaming prog->Aa
open Option renaming some->I
namespace Go.Proofs.YtpkbnogifdlcmaaGreatDoor
open Go.ChangeShapes Go.WideShapes Go.ChangeAt Go.RowKit Go.Proofs.Tryz
theorem plain(b:FuncId)(c:Func)(f:Tryz.pinned.checked.prog.funcNamed "tarn/tarnkeep.Together"=I b)(g:Tryz.pinned.checked.prog.funcs[b]?=I c):
 true=Tryz.pinned.checked.prog.looks []/\∀(e:Nat) a,c.params[e]?=I a->Tryz.pinned.checked.prog.wantsStandIn a=false:=by
 obtain rfl:b=3:=Axi ((show Aa.funcNamed "tarn/tarnkeep.Together"=I 3 by kernel_rfl).symm.trans f)|>.symm;obtain rfl:c=Tryz.f3:=(Axi (func3.symm.trans g)).symm;refine⟨O3,λe a d=>?_⟩;rw[params3]at d;obtain rfl:a=22:=by simpa using Array.mem_of_getElem? d
 exact(show Aa.wantsStandIn 22=false by kernel_rfl)
theorem together_card:Rows.TogetherUptoCardSaid:=
 Claim7.holds_tied_plain_at .later [] _ _ _ _ Arb (λ_ a=>by cases a) O3 (λ_ a=>by cases a) togetherUpto_row_tie rfl ⟨rfl,rfl⟩ O3 rfl plain O3
end Go.Proofs.YtpkbnogifdlcmaaGreatDoor
