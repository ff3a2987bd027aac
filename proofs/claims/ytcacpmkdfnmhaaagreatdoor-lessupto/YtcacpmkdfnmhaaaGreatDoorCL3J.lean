import Derived.Test.YtcacpmkdfnmhaaaGreatDoorCL2J
import Derived.Test.YtcacpmkdfnmhaaaGreatDoorTie
set_option linter.unusedSimpArgs false
open Go.Proofs.Tryz renaming prog->Aa
open Option renaming some->I
namespace Go.Proofs.YtcacpmkdfnmhaaaGreatDoor
open Go.ChangeShapes Go.WideShapes Go.ChangeAt Go.RowKit
theorem plain(a:FuncId)(b:Func)(g:Tryz.pinned.checked.prog.funcNamed "tarn/tarnkeep.Less"=I a)(h:Tryz.pinned.checked.prog.funcs[a]?=I b):
 true=Tryz.pinned.checked.prog.looks []/\∀(f:Nat) c,b.params[f]?=I c->Tryz.pinned.checked.prog.wantsStandIn c=false:=by
 obtain rfl:a=3:=Ar0 ((show Aa.funcNamed "tarn/tarnkeep.Less"=I 3 by kernel_rfl).symm.trans g)|>.symm;obtain rfl:b=Tryz.f3:=(Ar0 (Tryz.func3.symm.trans h)).symm;refine⟨O3,λf c e=>?_⟩;rw[Tryz.params3]at e;have d:=Array.mem_of_getElem? e;simp only[List.mem_toArray,AW,Asc,or_false]at d;rcases d with rfl|rfl|rfl|rfl
 ·exact(show Aa.wantsStandIn 22=false by kernel_rfl)
 ·exact(show Aa.wantsStandIn 9=false by kernel_rfl)
 all_goals exact(show Aa.wantsStandIn 3=false by kernel_rfl)
theorem less_card:Rows.LessUptoCardSaid:=
 Claim7.holds_tied_plain_at .later [] _ _ _ _ Abe (λ_ a=>by cases a) O3 (λ_ a=>by cases a) lessUpto_row_tie rfl ⟨rfl,rfl⟩ O3 rfl plain O3
end Go.Proofs.YtcacpmkdfnmhaaaGreatDoor
