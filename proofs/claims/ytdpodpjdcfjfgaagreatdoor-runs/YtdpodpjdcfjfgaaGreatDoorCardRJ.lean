import Derived.Test.YtdpodpjdcfjfgaaGreatDoorLaidLJ
import Derived.Test.YtdpodpjdcfjfgaaGreatDoorLtJ
import Derived.Lib.LaidTab
import Derived.ProofKit
import Derived.Deep.DeepHandedRow
import Derived.Deep.DeepLaidRun
import Derived.Carry
set_option maxRecDepth 100000
namespace Go.Proofs.YtdpodpjdcfjfgaaGreatDoor
open Go.ChangeShapes Go.WideShapes Go.ChangeAt Go.RowKit
theorem Tryz.own:ownKnob Tryz.prog.godebug=none:=by kernel_rfl
theorem Tryz.laidOut:laidOutB Tryz.prog=true:=by kernel_rfl
theorem Tryz.readObjs:Tryz.prog.readableRec 54=true:=by kernel_rfl
theorem Tryz.readFeds:Tryz.prog.readableRec 68=true:=by kernel_rfl
theorem pow_of{W:World}(h:laidMet Tryz.prog L13 W):Lib.TabIs Tryz.prog W "internal/strconv.uint64pow10" .u64 Lib.pow10Tab:=by
 obtain⟨r,h2⟩:=laid_mem (x:=("internal/strconv.uint64pow10",Rows.laid_internal_strconv_uint64pow10)) h (List.mem_of_getElem? (i:=20) rfl);rw[show(Rows.laid_internal_strconv_uint64pow10:DataW Unit)=Lib.tabData .u64 Lib.pow10Tab from rfl]at h2;exact Lib.tabIs_of_head (g:=20) (t:=416) (by kernel_rfl) (by kernel_rfl) Tryz.underlying416 Tryz.underlying187 (by kernel_rfl) (by kernel_rfl) h2
theorem runs_contract(H:Type)(enc:TypeId×Value->H)(W:World)(base:Nat)(args:Array Value)(ds gs:List (DataW H))(before:List MemPlace)
 (hval:∀(j:Nat) t v,Tryz.f7.params[j]?=some t->args[j]?=some v->Value.okWide Tryz.prog W .any base t v)
 (hW:DataW.Whole enc Tryz.prog Tryz.f7.params.toList Rows.runsSpec.vars false W args.toList ds gs before)
 (hwt:∀(j:Nat) (t:TypeId) (d:DataW H),Tryz.f7.params.toList[j]?=some t->ds[j]?=some d->∀n∈d.weights Tryz.prog t,n<=reachBytes)
 (hL:laidMetH Tryz.prog Rows.runsRow.laid W):
 Calls Tryz.prog 7 args W λe W'=>∃v,e=.returned v∧Rows.runsSpec.post enc Tryz.prog Tryz.f7 false true false false W args v W':=by
 have hW':=hW;obtain⟨p,q,hA0,hV,rfl,hfz,hnd⟩:=hW;have hA:DataW.TrodAll enc Tryz.prog W 0 (λ_=>true) true Tryz.f7.params.toList args.toList ds p:=hA0;rw[Tryz.params7]at hA hval hwt;obtain⟨v0,vs0,d0,ds0,p0,q0,hargs,rfl,rfl,h0,r0⟩:=trodAll_cons hA;obtain⟨v1,vs1,d1,ds1,p1,q1,hargs1,rfl,rfl,h1,r1⟩:=trodAll_cons r0;obtain⟨v2,vs2,d2,ds2,p2,q2,hargs2,rfl,rfl,h2,r2⟩:=trodAll_cons r1;obtain⟨rfl,rfl,rfl⟩:=trodAll_nil r2;obtain rfl:args=#[v0,v1,v2]:=by cases args;simp_all
 obtain⟨rfl,rfl⟩:=trodVars_none hV;simp only[List.append_nil]at hW';obtain⟨a,len,cap,rfl⟩:=okWide_slice Tryz.underlying54 (hval 0 54 v0 rfl rfl);obtain⟨s,rfl⟩:=okWide_string Tryz.underlying9 (hval 1 9 v1 rfl rfl);obtain⟨f0,h0'⟩:=id h0;obtain⟨Os,hO,hl,hz,hA64⟩:=objs_of2 (v:=.slice a len cap) h0' (hwt 0 54 d0 rfl rfl);obtain⟨f1,h1'⟩:=id h1;obtain⟨s',e0,x0,hs⟩:=DataW.trod_string Tryz.underlying9 h1';obtain rfl:s=s':=by have h:[Value.string s]=[Value.string s']:=e0;simpa using h
 obtain⟨fa,fl,fc,rfl⟩:=okWide_slice Tryz.underlying68 (hval 2 68 v2 rfl rfl);obtain⟨f2,h2'⟩:=id h2;obtain⟨fed,hF⟩:=feds_of (v:=.slice fa fl fc) h2' (hwt 2 68 d2 rfl rfl);have hL:laidMetH Tryz.prog Rows.linksRow.laid W:=hL;obtain⟨adr,hS⟩:=sentAt hL;refine(runs_law Os _ s fed _ W adr hO hl hz hs hA64 hF (tabAt hL) hS (Lib.tabBelow_of_tabIs (pow_of (laid_split hL).1))).mono λe W' ⟨he,hb⟩=>?_;subst he;have hp1:p1=[]:=(Prod.mk.inj x0).2;have hd1:d1=.lit (.string s.data.toList):=(Prod.mk.inj x0).1;subst hp1 hd1;have hlt:∀x∈p0,x.block<W.heap.size:=λx hx=>by simpa using hW'.lt x (by simp[hx])
 have hlt2:∀x∈p2,x.block<W.heap.size:=λx hx=>by simpa using hW'.lt x (by simp[hx])
 refine⟨_,rfl,_,_,_,[],p0++([]++p2),[],by simpa using hW',?_,?_,?_,?_,λh=>by cases h⟩
 ·exact trodAll_mk1 (shut_bool Tryz.underlying4 true)
 ·rw[Tryz.params7];exact trodAll_mk3 (Below.trod Tryz.laidOut Tryz.readObjs (of_decide_eq_true (by kernel_rfl)) h0 hb hlt) (Go.Deep.shut_string_cell Tryz.underlying9 hs) (Below.trod Tryz.laidOut Tryz.readFeds (of_decide_eq_true (by kernel_rfl)) h2 hb hlt2)
 ·rfl
 ·exact hb.frame _
end Go.Proofs.YtdpodpjdcfjfgaaGreatDoor
