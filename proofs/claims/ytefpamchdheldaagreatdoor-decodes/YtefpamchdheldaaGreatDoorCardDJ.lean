import Derived.Test.YtefpamchdheldaaGreatDoorTie
import Derived.Test.YtefpamchdheldaaGreatDoorLaidDJ
import Derived.Test.YtefpamchdheldaaGreatDoorBookObjJ
import Derived.ProofKit
import Derived.Deep.DeepHandedRow
import Derived.Deep.DeepLaidRun
import Derived.Carry
set_option maxRecDepth 100000
namespace Go.Proofs.YtefpamchdheldaaGreatDoor
open Go.ChangeShapes Go.WideShapes Go.ChangeAt Go.RowKit
theorem Tryz.own:ownKnob Tryz.prog.godebug=none:=by kernel_rfl
noncomputable def low:Nat:=(World.holding Tryz.prog default ⟨#[],#[],[]⟩).heap.size
noncomputable def laidWorld(os:Os):World:=
 let w0:=World.holding Tryz.prog os ⟨((List.range 19).map λi=>Obj.cells #[.string ⟨(kTxt i).toArray⟩] 205).toArray,#[],[]⟩
 {w0 with heap:=((((List.range 19).drop 1).foldl (λ(h:Array Obj) i=>h.modify (kNum i) fun
  |.cells _ t frozen=>.cells #[.iface 185 (.pointer (some ⟨low+i,0,none⟩))] t frozen
  |o=>o) w0.heap).modify 18 fun
  |.cells _ t frozen=>.cells #[.iface 147 (.agg #[.pointer (some ⟨21,51,none⟩)])] t frozen
  |o=>o).modify 19 fun
  |.cells _ t frozen=>.cells (rowsTab.map λz=>Value.int .i64 z).toArray t frozen
  |o=>o}
theorem decodes_contract(H:Type)(enc:TypeId×Value->H)(W:World)(base:Nat)(args:Array Value)(ds gs:List (DataW H))(before:List MemPlace)
 (hval:∀(j:Nat) t v,Tryz.f3.params[j]?=some t->args[j]?=some v->Value.okWide Tryz.prog W .any base t v)
 (hW:DataW.Whole enc Tryz.prog Tryz.f3.params.toList Rows.decodesSpec.vars false W args.toList ds gs before)
 (hwt:∀(j:Nat) (t:TypeId) (d:DataW H),Tryz.f3.params.toList[j]?=some t->ds[j]?=some d->∀n∈d.weights Tryz.prog t,n<=reachBytes)
 (hL:laidMetH Tryz.prog Rows.decodesRow.laid W):
 Calls Tryz.prog 3 args W λe W'=>∃v,e=.returned v∧Rows.decodesSpec.post enc Tryz.prog Tryz.f3 false true false false W args v W':=by
 have hW':=hW;obtain⟨p,q,hA0,hV,rfl,hfz,hnd⟩:=hW;have hA:DataW.TrodAll enc Tryz.prog W 0 (λ_=>true) true Tryz.f3.params.toList args.toList ds p:=hA0;rw[Tryz.params3]at hA hval hwt;obtain⟨v0,vs0,d0,ds0,p0,q0,hargs,rfl,rfl,h0,r0⟩:=trodAll_cons hA;obtain⟨v1,vs1,d1,ds1,p1,q1,hargs1,rfl,rfl,h1,r1⟩:=trodAll_cons r0;obtain⟨rfl,rfl,rfl⟩:=trodAll_nil r1;obtain rfl:args=#[v0,v1]:=by cases args;simp_all
 obtain⟨rfl,rfl⟩:=trodVars_none hV;simp only[List.append_nil]at hW';obtain⟨s,rfl⟩:=okWide_string Tryz.underlying9 (hval 0 9 v0 rfl rfl);obtain⟨m,rfl⟩:=okWide_bool Tryz.underlying4 (hval 1 4 v1 rfl rfl);obtain⟨f0,h0'⟩:=id h0;obtain⟨s',e0,x0,hs⟩:=DataW.trod_string Tryz.underlying9 h0';obtain⟨f1,h1'⟩:=id h1;obtain⟨m',e1,x1⟩:=DataW.trod_bool Tryz.underlying4 h1';obtain rfl:s=s':=by have h:[Value.string s]=[Value.string s']:=e0;simpa using h
 obtain rfl:m=m':=by have h:[Value.bool m]=[Value.bool m']:=e1;simpa using h
 have hsz:s.size<140737488355328:=by
  have hw:=hwt 0 9 d0 rfl rfl s.size (by
   have hd0:d0=.lit (.string s.data.toList):=(Prod.mk.inj x0).1;rw[hd0];simp[DataW.weights])
  unfold reachBytes at hw;omega
 obtain⟨adr,hS⟩:=sentAt hL;refine(decodes_try (hid bookObj_any) (hid looks_any) s m adr W hsz (tabAt hL) hS).mono λe W' ⟨he,hb⟩=>?_;subst he;have hlt:∀x∈p0++(p1++[]),x.block<W.heap.size:=λx hx=>by simpa using hW'.lt x (by simpa using hx)
 refine⟨_,rfl,_,_,_,[],p0++(p1++[]),[],by simpa using hW',?_,?_,?_,?_,λh=>by cases h⟩
 ·exact trodAll_mk1 (shut_bool Tryz.underlying4 true)
 ·rw[Tryz.params3];have hp0:p0=[]:=(Prod.mk.inj x0).2;have hp1:p1=[]:=(Prod.mk.inj x1).2;have hd0:d0=.lit (.string s.data.toList):=(Prod.mk.inj x0).1;have hd1:d1=.lit (.bool m):=(Prod.mk.inj x1).1;subst hp0 hp1 hd0 hd1;exact trodAll_mk2 (Go.Deep.shut_string_cell Tryz.underlying9 hs) (shut_bool Tryz.underlying4 m)
 ·rfl
 ·exact hb.frame _
theorem laid_met(os:Os):laidMetH Tryz.prog Rows.decodesRow.laid ((laidWorld os).forCall (λ_ _=>0) ⟨#[],#[.string ⟨#[]⟩,.bool false],[]⟩).memory:=
 laidMetH_of_parts (laidMet_of_run3 8 (by kernel_rfl) (by kernel_rfl) (by kernel_rfl)) (by kernel_rfl)
theorem reads(os:Os){H:Type}(enc:TypeId×Value->H):∃places,DataW.whole enc Tryz.prog ((laidWorld os).forCall (λ_ _=>0) ⟨#[],#[.string ⟨#[]⟩,.bool false],[]⟩).memory Tryz.f3.params.toList Rows.decodesSpec.vars false #[.string ⟨#[]⟩,.bool false].toList 8=some ([.lit (.string []),.lit (.bool false)],[],places):=
 ⟨[],by kernel_rfl⟩
theorem decodes_lifted(os:Os)(started:os.Started)(H:Type)(enc:TypeId×Value->H)(F:Stop.Interp):
 ReturnsInHanded {} Tryz.checked os 3 .any ((OpenSpec.ofChange Rows.decodesSpec).preRow enc Tryz.prog Tryz.f3 Rows.decodesRow.domain false Rows.decodesRow.laid) (((OpenSpec.ofChange Rows.decodesSpec).at F).post enc Tryz.prog Tryz.f3 false true false false):=by
 obtain⟨places,hx⟩:=reads os enc;refine returnsInHanded_of_row (C:=Tryz.checked) (s:=OpenSpec.ofChange Rows.decodesSpec) Tryz.own started (by kernel_rfl) Tryz.func3
  (witness_row_at (enc:=enc) (C:=Tryz.checked) false (laidWorld os) #[.string ⟨#[]⟩,.bool false] rfl (by kernel_rfl) (by kernel_rfl) (by kernel_rfl)
   (OpenSpec.preRow_of_cond 8 hx (by kernel_rfl) (λk hk=>by cases hk) (by kernel_rfl) (laid_met os))) ?_
 intro W base args ds gs before hval hW _ _ hwt hL _ _;refine decodes_contract H enc W base args ds gs before hval hW (λj t d ht hd n hn=>?_) hL;have:=List.all_eq_true.1 hwt n (DataW.weights_mem_each (j:=j) (t:=t) (d:=d) (by rw[List.getElem?_append_left (List.getElem?_eq_some_iff.1 ht).1];exact ht) (by rw[List.getElem?_append_left (List.getElem?_eq_some_iff.1 hd).1];exact hd) n hn);simpa using this
end Go.Proofs.YtefpamchdheldaaGreatDoor
