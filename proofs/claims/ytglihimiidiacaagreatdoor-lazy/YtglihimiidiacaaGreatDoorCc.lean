import Derived.Test.YtglihimiidiacaaGreatDoorCb
import Derived.Test.YtglihimiidiacaaGreatDoorCa
import Derived.ArgAppend
import Derived.Deep.DeepCutAuto
import Derived.Laws.IdiomStrings
namespace Go.Proofs.YtglihimiidiacaaGreatDoor
open Go.RowKit
theorem ret_val'{a b:Value}(h:a=b):Ending.returned a=.returned b:=by rw[h]
def codeG(code:List LIns):Bool:=decide (code.length≤65535) && code.all fun x=>insG x.op x.a x.alts
theorem all_false{α:Type}(p:α→Bool)(l:List α)(k:Nat)(hk:k<l.length)(h:p l[k]=false):l.all p=false:=by
 rw[List.all_eq_false];exact⟨_,List.getElem_mem hk,by simp[h]⟩
theorem all_true{α:Type}(p:α→Bool)(l:List α)(h:∀k (hk:k<l.length),p l[k]=true):l.all p=true:=by
 rw[List.all_eq_true];intro x hx;obtain⟨i,hi,rfl⟩:=List.mem_iff_getElem.1 hx;exact h i hi
set_option maxHeartbeats 1000000 in
theorem goodCode_any(code:List LIns)(v:Value)(w:World)(hC:CodeAt w v code)(hT:TabAt w):
 Calls Tryz.prog 143 #[v] w fun e w'=>e=.returned (.bool (codeG code))∧Below w.heap.size w w':=by
 obtain⟨p,cap,rfl,hs1,hcell⟩:=hC.open;have HC:Hid (∀w',Below w.heap.size w w'→CodeIn w' p code):=hcell;have HT:Hid (TabAt w):=hT;clear hcell hC hT;by_cases hl:code.length≤65535
 ·have HG:Hid (codeG code=code.all fun x=>insG x.op x.a x.alts):=by show _=_;simp[codeG,hl]
  go_enter Tryz.func143,Tryz.ntmps143;go_wp2;go_loopw [10] (fun i wr=>∃k:Nat,k≤code.length∧i=.int .i64 k∧Hid (∀j (h:j<code.length),j<k→insG code[j].op code[j].a code[j].alts=true)∧Below w.heap.size w wr) (fun i _=>code.length-(intOf i).toNat)
  case atStart=>exact⟨0,Nat.zero_le _,rfl,fun _ _ h=>absurd h (by omega),Below.refl _ _⟩
  case round=>
   obtain⟨k,hk,rfl,ha,hb⟩:=hrel;by_cases hlt:k<code.length
   ·obtain⟨b,o,ap,an,ac,rfl,c0,c1,c2,hA⟩:=HC.out _ hb k hlt;have HA:Hid (AltsAt wr (.slice ap an ac) code[k].alts):=hA;have HF:Hid (insG code[k].op code[k].a code[k].alts=false→(code.all fun x=>insG x.op x.a x.alts)=false):=by intro h;exact all_false (fun x:LIns=>insG x.op x.a x.alts) code k hlt h
    have HN:Hid (insG code[k].op code[k].a code[k].alts=true→∀j (h:j<code.length),j<k+1→insG code[j].op code[j].a code[j].alts=true):=by
     intro h0 j h hj;by_cases e:j=k
     ·subst e;exact h0
     ·exact ha.out j h (by omega)
    clear hA;generalize code[k].op=op at*;generalize code[k].a=a at*;generalize code[k].alts=alts at*;go_wp2_with (first|(go_at_call 215;refine(goodIns_any op a alts _ _ ?_ ?_).mono ?_;exact(HA.out).keep ((Below.refl _ _).alloc (Nat.le_refl _) _);exact HT.out.keep (hb.alloc hb.size _);rintro e w' ⟨rfl,hb2⟩))
    any_goals
     go_ret;exact⟨ret_bool (by rw[HG.out,HF.out (by simp_all)]),(hb.alloc hb.size _).trans (hb2.mono (by have:=hb.size;simp;omega))⟩
    all_goals exact⟨⟨k+1,by omega,by go_num,HN.out (by simp_all),(hb.alloc hb.size _).trans (hb2.mono (by have:=hb.size;simp;omega))⟩,by simp[intOf];omega⟩
   ·go_wp2;go_ret;exact⟨ret_bool (by rw[HG.out,all_true _ _ (fun j h=>ha.out j h (by omega))]),hb⟩
 ·have HG:Hid (codeG code=false):=by show _=_;simp[codeG,hl]
  go_enter Tryz.func143,Tryz.ntmps143;go_wp2;go_ret;exact⟨ret_bool HG.out.symm,Below.refl _ _⟩
def impsFrom:ByteArray→List LImp→Bool
 |_,[]=>true
 |last,x::r=>nmB x.name && gtB x.name last && arB x.arity && impsFrom x.name r
theorem impsFrom_at(last:ByteArray)(l:List LImp)(k:Nat)(hk:k<l.length):impsFrom last (l.drop k)=(nmB l[k].name && gtB l[k].name last && arB l[k].arity && impsFrom l[k].name (l.drop (k+1))):=by
 rw[List.drop_eq_getElem_cons hk];rfl
set_option maxHeartbeats 1000000 in
theorem goodImports_any(l:List LImp)(v:Value)(w:World)(hI:ImpsAt w v l):
 Calls Tryz.prog 92 #[v] w fun e w'=>e=.returned (.bool (impsFrom ⟨#[]⟩ l))∧Below w.heap.size w w':=by
 obtain⟨p,cap,rfl,hs1,hcell⟩:=hI.open;have HC:Hid (∀w',Below w.heap.size w w'→ImpsIn w' p l):=hcell;clear hcell hI;go_enter Tryz.func92,Tryz.ntmps92;go_wp2;go_loopw [3,8] (fun s i wr=>∃(k:Nat) (last:ByteArray),k≤l.length∧s=.string last∧i=.int .i64 k∧Hid (impsFrom ⟨#[]⟩ l=impsFrom last (l.drop k))∧Below w.heap.size w wr) (fun _ i _=>l.length-(intOf i).toNat)
 case atStart=>exact⟨0,⟨#[]⟩,Nat.zero_le _,rfl,rfl,rfl,Below.refl _ _⟩
 case round=>
  obtain⟨k,last,hk,rfl,rfl,ha,hb⟩:=hrel;by_cases hlt:k<l.length
  ·obtain⟨b,o,rfl,c0,c1,hsz⟩:=HC.out _ hb k hlt;have HI:Hid (impsFrom ⟨#[]⟩ l=(nmB l[k].name && gtB l[k].name last && arB l[k].arity && impsFrom l[k].name (l.drop (k+1)))):=by
    show _=_;rw[ha.out,impsFrom_at last l k hlt]
   generalize l[k].name=nm at*;generalize l[k].arity=ar at*;have hg2:=le_eq nm last;cases hg:gtB nm last
   ·rw[hg]at hg2;have HG:Hid (gtB nm last=false):=hg;clear hg;go_wp2_with (first|(go_at_call 91;refine(IsName_any _ _ hsz).mono ?_;rintro e w' ⟨rfl,rfl⟩)|(go_at_call 141;refine(isArity_any _ _).mono ?_;rintro e w' ⟨rfl,rfl⟩))
    all_goals
     go_ret;exact⟨ret_bool (by rw[HI.out,HG.out];simp),hb.alloc hb.size _⟩
   ·rw[hg]at hg2;have HG:Hid (gtB nm last=true):=hg;clear hg;go_wp2_with (first|(go_at_call 91;refine(IsName_any _ _ hsz).mono ?_;rintro e w' ⟨rfl,rfl⟩)|(go_at_call 141;refine(isArity_any _ _).mono ?_;rintro e w' ⟨rfl,rfl⟩))
    any_goals
     go_ret;exact⟨ret_bool (by rw[HI.out,HG.out];simp_all),hb.alloc hb.size _⟩
    all_goals exact⟨⟨k+1,nm,by omega,rfl,by go_num,by show _=_;rw[HI.out,HG.out];simp_all,hb.alloc hb.size _⟩,by simp[intOf];omega⟩
  ·go_wp2;go_ret;exact⟨ret_bool (by rw[ha.out,List.drop_of_length_le (by omega)];rfl),hb⟩
theorem impsFrom_rising:∀(l:List LImp) (last:ByteArray),impsFrom last l=true→Rising l∧∀i (h:i<l.length),cmpB last l[i].name<0:=by
 intro l;induction l with
 |nil=>intro last _;exact⟨fun i j hi=>absurd hi (by simp),fun i h=>absurd h (by simp)⟩
 |cons x r ih=>
  intro last h;simp only[impsFrom,Bool.and_eq_true]at h;obtain⟨⟨⟨_,hg⟩,_⟩,hr⟩:=h;obtain⟨h1,h2⟩:=ih x.name hr;have h0:=(gtB_iff _ _).1 hg;refine⟨fun i j hi hj hij=>?_,fun i hi=>?_⟩
  ·cases i with
   |zero=>
    cases j with
    |zero=>omega
    |succ j=>exact h2 j (by simpa using hj)
   |succ i=>
    cases j with
    |zero=>omega
    |succ j=>exact h1 i j (by simpa using hi) (by simpa using hj) (by omega)
  ·cases i with
   |zero=>exact h0
   |succ i=>exact cmpB_trans h0 (h2 i (by simpa using hi))
def globsFrom(imps:List LImp):ByteArray→List LGlob→Bool
 |_,[]=>true
 |last,x::r=>nmB x.name && gtB x.name last && !hasN imps x.name && arB x.arity && codeG x.code && globsFrom imps x.name r
theorem globsFrom_at(imps:List LImp)(last:ByteArray)(l:List LGlob)(k:Nat)(hk:k<l.length):globsFrom imps last (l.drop k)=(nmB l[k].name && gtB l[k].name last && !hasN imps l[k].name && arB l[k].arity && codeG l[k].code && globsFrom imps l[k].name (l.drop (k+1))):=by
 rw[List.drop_eq_getElem_cons hk];rfl
set_option maxHeartbeats 2000000 in
theorem goodGlobals_any(l:List LGlob)(imps:List LImp)(v iv:Value)(w:World)(hG:GlobsAt w v l)(hI:ImpsAt w iv imps)(hr:Rising imps)(hT:TabAt w):
 Calls Tryz.prog 93 #[v,iv] w fun e w'=>e=.returned (.bool (globsFrom imps ⟨#[]⟩ l))∧Below w.heap.size w w':=by
 obtain⟨p,cap,rfl,hs1,hcell⟩:=hG.open;have HC:Hid (∀w',Below w.heap.size w w'→GlobsIn w' p l):=hcell;have HI0:Hid (ImpsAt w iv imps):=hI;have HR:Hid (Rising imps):=hr;have HT:Hid (TabAt w):=hT;clear hcell hI hG hr hT;go_enter Tryz.func93,Tryz.ntmps93;go_wp2;go_loopw [5,10] (fun s i wr=>∃(k:Nat) (last:ByteArray),k≤l.length∧s=.string last∧i=.int .i64 k∧Hid (globsFrom imps ⟨#[]⟩ l=globsFrom imps last (l.drop k))∧Below w.heap.size w wr) (fun _ i _=>l.length-(intOf i).toNat)
 case atStart=>exact⟨0,⟨#[]⟩,Nat.zero_le _,rfl,rfl,rfl,Below.refl _ _⟩
 case round=>
  obtain⟨k,last,hk,rfl,rfl,ha,hb⟩:=hrel;by_cases hlt:k<l.length
  ·obtain⟨b,o,cp,cn,cc,rfl,c0,c1,c2,c3,hC,hsz⟩:=HC.out _ hb k hlt;have HCo:Hid (CodeAt wr (.slice cp cn cc) l[k].code):=hC;have HI:Hid (globsFrom imps ⟨#[]⟩ l=(nmB l[k].name && gtB l[k].name last && !hasN imps l[k].name && arB l[k].arity && codeG l[k].code && globsFrom imps l[k].name (l.drop (k+1)))):=by
    show _=_;rw[ha.out,globsFrom_at imps last l k hlt]
   clear hC;generalize l[k].name=nm at*;generalize l[k].arity=ar at*;generalize l[k].exp=ex at*;generalize l[k].code=code at*;have hg2:=le_eq nm last;have hbs:=hb.size;cases hg:gtB nm last
   ·rw[hg]at hg2;have HG:Hid (gtB nm last=false):=hg;clear hg;go_wp2_with (first|(go_at_call 91;refine(IsName_any _ _ hsz).mono ?_;rintro e w' ⟨rfl,rfl⟩))
    all_goals
     go_ret;exact⟨ret_bool (by rw[HI.out,HG.out];simp),hb.alloc hb.size _⟩
   ·rw[hg]at hg2;have HG:Hid (gtB nm last=true):=hg;clear hg;go_wp2_with (first|(go_at_call 91;refine(IsName_any _ _ hsz).mono ?_;rintro e w' ⟨rfl,rfl⟩)|(go_at_call 142;refine(Imported_any imps _ _ _ ?_ HR.out).mono ?_;exact HI0.out.keep (hb.alloc hb.size _);rintro e w1 ⟨rfl,hb2⟩;obtain⟨z0,z1⟩:=bcell hb2;have hz:wr.heap.size<w1.heap.size:=(by have:=hb2.size;simp at this;omega))|(go_at_call 141;refine(isArity_any _ _).mono ?_;rintro e w' ⟨rfl,rfl⟩)|(go_at_call 143;refine(goodCode_any code _ _ ?_ ?_).mono ?_;exact HCo.out.keep (((Below.refl _ _).alloc (Nat.le_refl _) _).trans (hb2.mono (by simp)));exact HT.out.keep ((hb.alloc hb.size _).trans (hb2.mono (by simp;omega)));rintro e w2 ⟨rfl,hb3⟩;obtain⟨z2,z3⟩:=bcell hb3))
    any_goals
     go_ret;refine⟨ret_bool (by rw[HI.out,HG.out];simp_all),?_⟩;first
      |exact hb.alloc hb.size _
      |exact(hb.alloc hb.size _).trans (hb2.mono (by simp;omega))
      |exact((hb.alloc hb.size _).trans (hb2.mono (by simp;omega))).trans (hb3.mono (by omega))
    all_goals exact⟨⟨k+1,nm,by omega,rfl,by go_num,by show _=_;rw[HI.out,HG.out];simp_all,((hb.alloc hb.size _).trans (hb2.mono (by simp;omega))).trans (hb3.mono (by omega))⟩,by simp[intOf];omega⟩
  ·go_wp2;go_ret;exact⟨ret_bool (by rw[ha.out,List.drop_of_length_le (by omega)];rfl),hb⟩
def valsG(O:LObj):Bool:=nmB O.name && impsFrom ⟨#[]⟩ O.imps && globsFrom O.imps ⟨#[]⟩ O.globs
def errV(b:Bool)(ev:Value):Value:=if b then .nilIface else ev
set_option maxHeartbeats 2000000 in
theorem Values_any(O:LObj)(v ev:Value)(w:World)(hO:ObjAt w v O)(hT:TabAt w)(hE:w.cell? ⟨20,0,none⟩=some ev)(hev:∃t x,ev=.iface t x):
 Calls Tryz.prog 50 #[v] w fun e w'=>e=.returned (errV (valsG O) ev)∧Below w.heap.size w w':=by
 obtain⟨t,x,rfl⟩:=hev;obtain⟨iv,gv,rfl,hsz,hI,hG⟩:=hO;obtain⟨ip,ic,rfl,-,-⟩:=id hI;obtain⟨gp,gc,rfl,-,-⟩:=id hG;have HI:Hid (ImpsAt w (.slice ip O.imps.length ic) O.imps):=hI;have HG:Hid (GlobsAt w (.slice gp O.globs.length gc) O.globs):=hG;have HT:Hid (TabAt w):=hT;have HV:Hid (valsG O=(nmB O.name && impsFrom ⟨#[]⟩ O.imps && globsFrom O.imps ⟨#[]⟩ O.globs)):=rfl;have HR:Hid (impsFrom ⟨#[]⟩ O.imps=true→Rising O.imps):=fun h=>(impsFrom_rising _ _ h).1;clear hI hG hT;generalize O.name=nm at*;generalize hil:O.imps.length=il at*;generalize hgl:O.globs.length=gl at*;clear hil hgl;generalize hb0:valsG O=vb at*;have HV0:Hid (vb=(nmB nm && impsFrom ⟨#[]⟩ O.imps && globsFrom O.imps ⟨#[]⟩ O.globs)):=HV;clear hb0 HV;have h00:0<w.heap.size:=Nat.lt_of_le_of_lt (Nat.zero_le _) (block_lt_of_cell hE);have hE2:=fun o=>cell_keep ((Below.refl w.heap.size w).alloc (Nat.le_refl _) o) hE;cases h1:impsFrom ⟨#[]⟩ O.imps
 ·have HB:Hid (impsFrom ⟨#[]⟩ O.imps=false):=h1;have HF:Hid (vb=false):=by show _=_;rw[HV0.out,h1];simp
  clear h1;obtain rfl:vb=false:=HF.out;go_enter Tryz.func50,Tryz.ntmps50;go_wp2_with (first|(go_at_call 91;refine(IsName_any _ _ hsz).mono ?_;rintro e w' ⟨rfl,rfl⟩)|(go_at_call 92;refine(goodImports_any O.imps _ _ ?_).mono ?_;exact HI.out.keep ((Below.refl _ _).alloc (Nat.le_refl _) _);rintro e w' ⟨he,hb2⟩;rw[HB.out]at he;subst he;have hE3:=cell_keep (((Below.refl w.heap.size w).alloc (Nat.le_refl _) _).trans (hb2.mono (by simp))) hE;obtain⟨z0,z1⟩:=bcell hb2))
  all_goals
   go_ret;refine⟨rfl,?_⟩;first
    |exact(Below.refl _ _).alloc (Nat.le_refl _) _
    |exact((Below.refl _ _).alloc (Nat.le_refl _) _).trans (hb2.mono (by simp))
 ·have HB:Hid (impsFrom ⟨#[]⟩ O.imps=true):=h1;have HF:Hid (vb=(nmB nm && globsFrom O.imps ⟨#[]⟩ O.globs)):=by show _=_;rw[HV0.out,h1];simp
  clear h1;go_enter Tryz.func50,Tryz.ntmps50;go_wp2_with (first|(go_at_call 91;refine(IsName_any _ _ hsz).mono ?_;rintro e w' ⟨rfl,rfl⟩)|(go_at_call 92;refine(goodImports_any O.imps _ _ ?_).mono ?_;exact HI.out.keep ((Below.refl _ _).alloc (Nat.le_refl _) _);rintro e w1 ⟨he,hb2⟩;rw[HB.out]at he;subst he;have hE3:=cell_keep (((Below.refl w.heap.size w).alloc (Nat.le_refl _) _).trans (hb2.mono (by simp))) hE;obtain⟨z0,z1⟩:=bcell hb2;have hz:w.heap.size<w1.heap.size:=(by have:=hb2.size;simp at this;omega);have h01:0<w1.heap.size:=(by omega))|(go_at_call 93;refine(goodGlobals_any O.globs O.imps _ _ _ ?_ ?_ (HR.out HB.out) ?_).mono ?_;exact HG.out.keep (((Below.refl _ _).alloc (Nat.le_refl _) _).trans (hb2.mono (by simp)));exact HI.out.keep (((Below.refl _ _).alloc (Nat.le_refl _) _).trans (hb2.mono (by simp)));exact HT.out.keep (((Below.refl _ _).alloc (Nat.le_refl _) _).trans (hb2.mono (by simp)));rintro e w2 ⟨rfl,hb3⟩;have hE4:=cell_keep ((((Below.refl w.heap.size w).alloc (Nat.le_refl _) _).trans (hb2.mono (by simp))).trans (hb3.mono (by omega))) hE;obtain⟨z2,z3⟩:=bcell hb3))
  all_goals
   go_ret;refine⟨ret_val' ?_,?_⟩
   ·rw[HF.out];simp_all[errV]
   ·first
     |exact(Below.refl _ _).alloc (Nat.le_refl _) _
     |exact(((Below.refl _ _).alloc (Nat.le_refl _) _).trans (hb2.mono (by simp))).trans (hb3.mono (by omega))
end Go.Proofs.YtglihimiidiacaaGreatDoor
namespace Go.Proofs.YtglihimiidiacaaGreatDoor
open Go.RowKit Go.Sort
def ib(x:LImp):List Nat:=nb x.name++vb x.arity.toNat
def gb(g:LGlob):List Nat:=nb g.name++vb g.arity.toNat++[if g.exp then 1 else 0]++vb g.code.length++g.code.flatMap wb
def hdB(O:LObj):List Nat:=[84,65,82,78]++nb O.name++vb O.imps.length
def hb(O:LObj):List Nat:=hdB O++O.imps.flatMap ib++vb O.globs.length++O.globs.flatMap gb
structure GoodO (O:LObj):Prop where
 name:O.name.size≤16
 imps:∀x∈O.imps,x.name.size≤16∧0≤x.arity∧x.arity≤20
 globs:∀g∈O.globs,g.name.size≤16∧(0≤g.arity∧g.arity≤20)∧g.code.length≤65535∧∀x∈g.code,insG x.op x.a x.alts=true
theorem nmB_size{s:ByteArray}(h:nmB s=true):s.size≤16:=by
 simp only[nmB,Bool.and_eq_true,decide_eq_true_eq]at h;exact h.1.1.2
theorem impsFrom_good:∀(l:List LImp) (last:ByteArray),impsFrom last l=true→∀x∈l,x.name.size≤16∧0≤x.arity∧x.arity≤20
 |a::r,last,h,x,hx=>by
  simp only[impsFrom,Bool.and_eq_true]at h;rcases List.mem_cons.1 hx with rfl|hx
  ·have h1:=h.1.2;simp only[arB,Bool.and_eq_true,decide_eq_true_eq]at h1;exact⟨nmB_size h.1.1.1,h1.1,h1.2⟩
  ·exact impsFrom_good r _ h.2 x hx
theorem globsFrom_good(imps:List LImp):∀(l:List LGlob) (last:ByteArray),globsFrom imps last l=true→∀g∈l,g.name.size≤16∧(0≤g.arity∧g.arity≤20)∧g.code.length≤65535∧∀x∈g.code,insG x.op x.a x.alts=true
 |a::r,last,h,x,hx=>by
  simp only[globsFrom,Bool.and_eq_true]at h;rcases List.mem_cons.1 hx with rfl|hx
  ·have h1:=h.1.1.2;simp only[arB,Bool.and_eq_true,decide_eq_true_eq]at h1;have h2:=h.1.2;simp only[codeG,Bool.and_eq_true,decide_eq_true_eq,List.all_eq_true]at h2;exact⟨nmB_size h.1.1.1.1.1,h1,h2.1,h2.2⟩
  ·exact globsFrom_good imps r _ h.2 x hx
theorem GoodO.of{O:LObj}(h:valsG O=true):GoodO O:=by
 simp only[valsG,Bool.and_eq_true]at h;exact⟨nmB_size h.1.1,impsFrom_good _ _ h.1.2,globsFrom_good _ _ _ h.2⟩
def RangeO(O:LObj):Prop:=∀g∈O.globs,∀x∈g.code,-9223372036854775808≤x.a∧x.a≤9223372036854775807
def toU8(l:List Nat):List UInt8:=l.map fun b=>UInt8.ofNat b
def toBA(l:List Nat):ByteArray:=⟨(toU8 l).toArray⟩
def sumB(l:List Nat):List Nat:=[crc (toU8 l) % 256,crc (toU8 l) / 256 % 256,crc (toU8 l) / 65536 % 256,crc (toU8 l) / 16777216 % 256]
def encV(O:LObj):Value:=if (hb O).length+4≤100000 then .tuple #[.string (toBA (hb O++sumB (hb O))),.int .i64 0] else .tuple #[.string ⟨#[]⟩,.int .i64 1]
theorem flat_snoc{α:Type}(f:α→List Nat)(l:List α)(j:Nat)(hj:j<l.length):(l.take (j+1)).flatMap f=(l.take j).flatMap f++f l[j]:=by
 rw[List.take_succ_eq_append_getElem hj,List.flatMap_append];simp
theorem vb_lt:∀(k n:Nat),n<128 ^ k→∀b∈vb n,b<256
 |0,n,h,b,hb=>by
  rw[vb_small (by simp at h;omega)]at hb;simp at hb h;omega
 |k+1,n,h,b,hb=>by
  by_cases h1:n<128
  ·rw[vb_small h1]at hb;simp at hb;omega
  ·rw[vb_big h1]at hb;rcases List.mem_cons.1 hb with rfl|hb
   ·omega
   ·exact vb_lt k (n / 128) (by rw[Nat.pow_succ]at h;omega) b hb
theorem vb_lt10(n:Nat)(h:n<18446744073709551616):∀b∈vb n,b<256:=vb_lt 10 n (by omega)
theorem nb_lt(s:ByteArray)(h:s.size≤16):∀b∈nb s,b<256:=by
 intro b hb;unfold nb tb at hb;rcases List.mem_append.1 hb with hb|hb
 ·exact vb_lt10 s.size (by omega) b hb
 ·obtain⟨x,-,rfl⟩:=List.mem_map.1 hb;exact x.toNat_lt
theorem wb_lt(x:LIns)(hG:insG x.op x.a x.alts=true)(h1:-9223372036854775808≤x.a)(h2:x.a≤9223372036854775807):∀b∈wb x,b<256:=by
 obtain⟨op,a,alts⟩:=x;simp only at hG h1 h2;have ho:0≤op∧op<21:=by
  unfold insG at hG;split at hG
  ·assumption
  ·cases hG
 obtain⟨k,rfl⟩:=Int.eq_ofNat_of_zero_le ho.1;have hk:k<21:=by omega
 have hR:=insG_row k hk a alts;rw[hG]at hR;intro b hb;unfold wb at hb;simp only[Int.toNat_natCast]at hb;rcases List.mem_cons.1 hb with rfl|hb2
 ·omega
 ·by_cases h0:(k:Int)=0
  ·rw[if_pos h0]at hb2;exact vb_lt10 (fA a) (by unfold fA;split<;>omega) b hb2
  ·rw[if_neg h0]at hb2;by_cases h17:(k:Int)=17
   ·rw[if_pos h17]at hb2;have h17':k=17:=by omega
    subst h17';rw[show rowN 17 0=3 from rfl]at hR;simp only[show ¬((3:Int)=1) by omega,show ¬((3:Int)=2) by omega,if_false,if_true]at hR;have h3:=hR.symm;simp only[Bool.and_eq_true,beq_iff_eq]at h3;rw[altsGood_eq]at h3;simp only[Bool.and_eq_true,decide_eq_true_eq]at h3;have h4:=(altsB_iff alts).1 h3.2.1;have h5:=altsB_len alts h3.2.1;rcases List.mem_append.1 hb2 with hb3|hb3
    ·exact vb_lt10 _ (by omega) b hb3
    ·unfold altBytes at hb3;obtain⟨y,hy,hb4⟩:=List.mem_flatMap.1 hb3;obtain⟨i,hi,rfl⟩:=List.mem_iff_getElem.1 hy;have h6:=h4.1 i hi hi;simp only[altOk,Bool.and_eq_true,decide_eq_true_eq]at h6;rcases List.mem_append.1 hb4 with hb5|hb5
     ·exact vb_lt10 _ (by omega) b hb5
     ·exact vb_lt10 _ (by omega) b hb5
   ·rw[if_neg h17]at hb2;by_cases h2':rowN k 0=2
    ·rw[if_pos h2']at hb2;exact vb_lt10 _ (by omega) b hb2
    ·rw[if_neg h2']at hb2;cases hb2
theorem hb_lt(O:LObj)(h:GoodO O)(hr:RangeO O)(hi:O.imps.length<140737488355328)(hg:O.globs.length<140737488355328):∀b∈hb O,b<256:=by
 intro b hb';unfold hb hdB at hb';simp only[List.mem_append]at hb';rcases hb' with((((hb'|hb')|hb')|hb')|hb')|hb'
 ·simp at hb';omega
 ·exact nb_lt _ h.name b hb'
 ·exact vb_lt10 _ (by omega) b hb'
 ·obtain⟨x,hx,hb'⟩:=List.mem_flatMap.1 hb';obtain⟨r0,r1,r2⟩:=h.imps x hx;unfold ib at hb';rcases List.mem_append.1 hb' with hb'|hb'
  ·exact nb_lt _ r0 b hb'
  ·exact vb_lt10 _ (by omega) b hb'
 ·exact vb_lt10 _ (by omega) b hb'
 ·obtain⟨x,hx,hb'⟩:=List.mem_flatMap.1 hb';obtain⟨r0,⟨r1,r2⟩,r3,r4⟩:=h.globs x hx;unfold gb at hb';simp only[List.mem_append]at hb';rcases hb' with(((hb'|hb')|hb')|hb')|hb'
  ·exact nb_lt _ r0 b hb'
  ·exact vb_lt10 _ (by omega) b hb'
  ·simp at hb';split at hb'<;>omega
  ·exact vb_lt10 _ (by omega) b hb'
  ·obtain⟨y,hy,hb'⟩:=List.mem_flatMap.1 hb';exact wb_lt y (r4 y hy) (hr x hx y hy).1 (hr x hx y hy).2 b hb'
theorem toU8_len(l:List Nat):(toU8 l).length=l.length:=List.length_map _
theorem conv_buf{w:World}{B g n c:Nat}{bs:List Nat}(h:Buf w B (.slice (some ⟨g,0,none⟩) n c) bs)(hn:n=bs.length)(hl:∀b∈bs,b<256):(convert 62 9 (.slice (some ⟨g,0,none⟩) n c)).run Tryz.prog w=.ok (.string (toBA bs)) w:=by
 have h1:=run_convert_bytes_back (P:=Tryz.prog) w 62 9 5 ⟨g,0,none⟩ c (toU8 bs) Tryz.underlying62 Tryz.underlying5 Tryz.underlying9 (fun j hj=>by
  rw[toU8_len]at hj;refine Buf.cellsOf h j _ ?_;have hb:=hl _ (List.getElem_mem hj);simp only[u8s,toU8,List.getElem?_map,List.getElem_map,List.getElem?_eq_getElem hj,Option.map_some];rw[UInt8.toNat_ofNat',Nat.mod_eq_of_lt (by omega)])
 rw[toU8_len,←hn]at h1;exact h1
theorem toBA_list(l:List Nat):(toBA l).data.toList=toU8 l:=by simp[toBA]
theorem toBA_size(l:List Nat):(toBA l).size=l.length:=by
 show(toBA l).data.size=_;rw[←Array.length_toList,toBA_list,toU8_len]
theorem Buf.snoc{w:World}{B g m k b:Nat}{L:List Nat}(h:w.ownsRow B 5 1 (.slice (some ⟨g,0,none⟩) (L.length+1) k) (L.length+1) (u8s L++[.int .u8 (b:Int)]))(hm:m=L.length+1):Buf w B (.slice (some ⟨g,0,none⟩) m k) (L++[b]):=by
 subst hm;unfold Buf;rw[List.length_append,u8s_app];exact h
theorem Buf.more{w:World}{B g m k:Nat}{L M:List Nat}(h:w.ownsRow B 5 1 (.slice (some ⟨g,0,none⟩) (L.length+M.length) k) (L.length+M.length) (u8s L++u8s M))(hm:m=L.length+M.length):Buf w B (.slice (some ⟨g,0,none⟩) m k) (L++M):=by
 subst hm;unfold Buf;rw[List.length_append,u8s_app];exact h
end Go.Proofs.YtglihimiidiacaaGreatDoor
namespace Go.Proofs.YtglihimiidiacaaGreatDoor
open Go.RowKit Go.Sort Go.Lib
structure WExt (P:Nat) (w w':World) (vo v:Value):Prop where
 os:w'.os=w.os
 tape:w'.tape=w.tape
 output:w'.output=w.output
 size:w.heap.size≤w'.heap.size
 block:∀k,k<w.heap.size→k≠P→some k≠vo.ownBlock→w'.heap[k]?=w.heap[k]?
 moved:v.ownBlock=vo.ownBlock∨∃k,v.ownBlock=some k∧w.heap.size≤k
theorem WExt.refl(P:Nat)(w:World)(v:Value):WExt P w w v v:=⟨rfl,rfl,rfl,Nat.le_refl _,fun _ _ _ _=>rfl,Or.inl rfl⟩
theorem WExt.of_below{P:Nat}{w w':World}(h:Below w.heap.size w w')(v:Value):WExt P w w' v v:=⟨h.os,h.tape,h.output,h.size,fun k hk _ _=>h.block k hk,Or.inl rfl⟩
theorem WExt.trans{P:Nat}{w w1 w2:World}{v0 v1 v2:Value}(h:WExt P w w1 v0 v1)(k:WExt P w1 w2 v1 v2):WExt P w w2 v0 v2:=by
 refine⟨k.os.trans h.os,k.tape.trans h.tape,k.output.trans h.output,Nat.le_trans h.size k.size,fun b hb hP hne=>?_,?_⟩
 ·rw[k.block b (Nat.lt_of_lt_of_le hb h.size) hP ?_,h.block b hb hP hne];rcases h.moved with e|⟨j,e,hj⟩
  ·rw[e];exact hne
  ·rw[e];intro e2;simp at e2;omega
 ·rcases k.moved with e|⟨j,e,hj⟩
  ·rcases h.moved with e1|⟨j,e1,hj⟩
   ·exact Or.inl (e.trans e1)
   ·exact Or.inr ⟨j,e.trans e1,hj⟩
  ·exact Or.inr ⟨j,e,Nat.le_trans h.size hj⟩
theorem WExt.cell{P:Nat}{w w':World}{vo v u:Value}{b j:Nat}(h:WExt P w w' vo v)(hc:w.cell? ⟨b,j,none⟩=some u)(hP:b≠P)(hne:vo.ownBlock≠some b):w'.cell? ⟨b,j,none⟩=some u:=by
 rw[←hc];exact World.cell?_of_block (h.block b (block_lt_of_cell hc) hP (fun e=>hne e.symm))
theorem WExt.ne{P:Nat}{W w':World}{v0 v:Value}{b:Nat}(h:WExt P W w' v0 v)(hb:b<W.heap.size)(hne:v0.ownBlock≠some b):v.ownBlock≠some b:=by
 rcases h.moved with e|⟨k,e,hk⟩
 ·rw[e];exact hne
 ·rw[e];intro e2;simp at e2;omega
theorem WExt.below{P:Nat}{w w':World}{vo v:Value}{B:Nat}(h:WExt P w w' vo v)(hB:B≤w.heap.size)(hP:B≤P)(hr:∀k,vo.ownBlock=some k→B≤k):Below B w w':=
 ⟨h.os,h.tape,h.output,h.size,fun k hk=>h.block k (by omega) (by omega) (fun e=>by have:=hr k e.symm;omega)⟩
def WInv(bs full:List Nat):Prop:=bs=full∨(100000<bs.length∧100000<full.length)
theorem WInv.more{bs full:List Nat}(h:WInv bs full)(c:List Nat)(hl:bs.length≤100000):WInv (bs++c) (full++c):=by
 rcases h with rfl|h
 ·exact Or.inl rfl
 ·omega
theorem WInv.stop{bs full:List Nat}(h:WInv bs full)(c:List Nat)(hl:100000<bs.length):WInv bs (full++c):=by
 right
 rcases h with rfl|h
 ·exact⟨hl,by rw[List.length_append];omega⟩
 ·exact⟨hl,by rw[List.length_append];omega⟩
structure WS (w:World) (P B:Nat) (v:Value) (full:List Nat):Prop where
 c:w.cell? ⟨P,0,none⟩=some v
 f:w.frozen? ⟨P,0,none⟩=false
 lt:P<B
 le:B≤w.heap.size
 bs:∃bs,Buf w B v bs∧WInv bs full∧bs.length≤100020
def WRes(P B:Nat)(w:World)(v:Value)(full:List Nat)(e:Ending)(w':World):Prop:=∃v',e=.returned (.tuple #[])∧WS w' P B v' full∧WExt P w w' v v'
theorem wstep{wB X w2:World}{P B g n cap:Nat}{v:Value}{bs M:List Nat}(hc:wB.cell? ⟨P,0,none⟩=some v)(hf:wB.frozen? ⟨P,0,none⟩=false)(hPB:P<B)(hX:Below wB.heap.size wB X)(hBuf:Buf wB B v bs)
 (hown:w2.ownsRow B 5 1 (.slice (some ⟨g,0,none⟩) n cap) n (u8s bs++u8s M)) (hn:n=bs.length+M.length) (hgrow:X.grownBy w2 v.ownBlock) (hat:v.ownBlock=some g∨g=X.heap.size):
 (w2.cell? ⟨P,0,none⟩=some v∧w2.frozen? ⟨P,0,none⟩=false)∧((w2.setCell ⟨P,0,none⟩ (.slice (some ⟨g,0,none⟩) n cap)).cell? ⟨P,0,none⟩=some (.slice (some ⟨g,0,none⟩) n cap)∧(w2.setCell ⟨P,0,none⟩ (.slice (some ⟨g,0,none⟩) n cap)).frozen? ⟨P,0,none⟩=false)∧
 Buf (w2.setCell ⟨P,0,none⟩ (.slice (some ⟨g,0,none⟩) n cap)) B (.slice (some ⟨g,0,none⟩) n cap) (bs++M)∧WExt P wB (w2.setCell ⟨P,0,none⟩ (.slice (some ⟨g,0,none⟩) n cap)) v (.slice (some ⟨g,0,none⟩) n cap):=by
 have hP:P<wB.heap.size:=block_lt_of_cell hc;have hne:some P≠v.ownBlock:=fun e=>by have:=(hBuf.base P e.symm).1;omega
 have e1:w2.cell? ⟨P,0,none⟩=some v:=by
  rw[hgrow.cell_far ⟨P,0,none⟩ (Nat.lt_of_lt_of_le hP hX.size) hne];exact cell_keep hX hc
 have e2:w2.frozen? ⟨P,0,none⟩=false:=by
  rw[hgrow.frozen_far ⟨P,0,none⟩ (Nat.lt_of_lt_of_le hP hX.size) hne,hX.frozen hP];exact hf
 refine⟨⟨e1,e2⟩,⟨World.cell?_setCell_same _ _ _ e1,by rw[World.frozen?_setCell];exact e2⟩,?_,?_⟩
 ·subst hn;have h:=ownsRow_setCell_below hown (a:=⟨P,0,none⟩) hPB (.slice (some ⟨g,0,none⟩) (bs.length+M.length) cap);unfold Buf;rw[List.length_append,u8s_app];exact h
 ·refine⟨hgrow.os.trans hX.os,hgrow.tape.trans hX.tape,hgrow.output.trans hX.output,by simp;exact Nat.le_trans hX.size hgrow.size,fun k hk hkP hke=>?_,?_⟩
  ·rw[Below.heap_setCell _ _ _ _ hkP,hgrow.block k (Nat.lt_of_lt_of_le hk hX.size) hke,hX.block k hk]
  ·rcases hat with e|rfl
   ·exact Or.inl e.symm
   ·exact Or.inr ⟨_,rfl,hX.size⟩
set_option maxRecDepth 100000 in
set_option maxHeartbeats 8000000 in
theorem number_any(x P B:Nat)(v:Value)(full:List Nat)(w:World)(hx:x<18446744073709551616)(hW:WS w P B v full):
 Calls Tryz.prog 144 #[.pointer (some ⟨P,0,none⟩),.int .u64 x] w fun e w'=>WRes P B w v (full++vb x) e w':=by
 obtain⟨i,hi,hii⟩:=Option.map_eq_some_iff.1 Tryz.u8Info;simp only[Prod.mk.injEq]at hii;obtain⟨hz0,hz1,hz2⟩:=hii;obtain⟨c0,f0,lt0,le0,bs,hB,hI,hl⟩:=hW;obtain⟨p,c,rfl⟩:=hB.slice;have HB:=hid hB;have HI:=hid hI;have hL:bs.length=bs.length:=rfl;generalize hLL:bs.length=L at*;have HLL:=hid hLL;clear hB hI hLL hL;by_cases hbig:L≤100000
 ·have hbig':¬(100000:Int)<(L:Int):=by omega
  go_enter Tryz.func144,Tryz.ntmps144;go_wp2;go_loopw [1] (fun xv wr=>∃(m:Nat) (pre:List Nat) (p':Option Addr) (n' c':Nat),xv=.int .u64 m∧m<18446744073709551616∧n'≤100010∧wr.cell? ⟨P,0,none⟩=some (.slice p' n' c')∧wr.frozen? ⟨P,0,none⟩=false∧Hid (pre++vb m=vb x∧Buf wr B (.slice p' n' c') (bs++pre)∧n'=(bs++pre).length∧WExt P w wr (.slice p L c) (.slice p' n' c'))) (fun xv _=>(intOf xv).toNat)
  case atStart=>exact⟨x,[],p,L,c,rfl,hx,by omega,c0,f0,rfl,by simpa using HB.out,by simp[HLL.out],WExt.refl _ _ _⟩
  case round=>
   obtain⟨m,pre,p',n',c',rfl,hm,hn',d0,e0,HK⟩:=hrel;rename World=>wB
   obtain⟨hv,hBf,hnl,hE⟩:=id HK.out;have hsz:=hE.size;have HBf:=hid hBf;have HNL:=hid hnl;by_cases hlt:m<128
   ·have hlt':(m:Int)<128:=by omega
    have hpl:pre.length≤9:=by
     have:=vb_len10 x hx;rw[←hv,vb_small hlt,List.length_append]at this;simp at this;omega
    clear hv hBf hnl hE;go_wp2_with (first
     |(at_builtin;refine wpList_append_lies _ rfl (.tmp 31) (.tmp 34) 62 rfl B 5 i _ 1 1 Tryz.underlying62 hi hz0 hz1 hz2 rfl (by omega) (.slice p' n' c') n' (u8s (bs++pre)) rfl (by have h:=HBf.out;unfold Buf at h;rw[←HNL.out]at h;exact h.alloc _) ⟨wB.heap.size,0,none⟩ 1 1 [.int .u8 (m:Int)] rfl rfl (World.news_of_block (heap_alloc_new _ _)) (by intro u hu;simp at hu;subst hu;rfl) (by omega) (by unfold maxLen;omega) (by omega) (by simp;omega) _ rfl ?_;intro g2 k2 w2 hown hgrow hat hlt1;have hst:=wstep (M:=[m]) d0 e0 lt0 ((Below.refl _ _).alloc (Nat.le_refl _) _) HBf.out hown (by rw[HNL.out];rfl) hgrow hat;obtain⟨⟨d1,e1⟩,⟨d2,e2⟩,hB2,hE2⟩:=hst;have HB2:=hid hB2;have HE2:=hid hE2;clear hB2 hE2 hown hgrow hat d0 e0))
    first|(refine bodyPost_ret (results_none rfl _ _ _) rfl ?_)|(refine bodyPost_end (results_none rfl _ _ _) rfl ?_)
    refine⟨_,rfl,⟨d2,e2,lt0,by have:=HE2.out.size;omega,bs++pre++[m],HB2.out,?_,?_⟩,HK.out.2.2.2.trans HE2.out⟩
    ·have h:=HK.out.1;rw[vb_small hlt]at h;rw[List.append_assoc,h];exact HI.out.more _ (by rw[HLL.out];exact hbig)
    ·rw[List.length_append,List.length_append,HLL.out];simp;omega
   ·have hlt':¬(m:Int)<128:=by omega
    have hpl:pre.length≤8:=by
     have:=vb_len10 x hx;rw[←hv,vb_big hlt,List.length_append,List.length_cons]at this;have h2:=vb_pos (m / 128);omega
    clear hv hBf hnl hE;go_wp2_with (first
     |(at_builtin;refine wpList_append_lies _ rfl (.tmp 16) (.tmp 21) 62 rfl B 5 i _ 1 1 Tryz.underlying62 hi hz0 hz1 hz2 rfl (by omega) (.slice p' n' c') n' (u8s (bs++pre)) rfl (by have h:=HBf.out;unfold Buf at h;rw[←HNL.out]at h;exact h.alloc _) ⟨wB.heap.size,0,none⟩ 1 1 [.int .u8 ((m:Int) % 128+128)] rfl rfl (World.news_of_block (heap_alloc_new _ _)) (by intro u hu;simp at hu;subst hu;rfl) (by omega) (by unfold maxLen;omega) (by omega) (by simp;omega) _ rfl ?_;intro g2 k2 w2 hown hgrow hat hlt1;have hst:=wstep (M:=[m % 128+128]) d0 e0 lt0 ((Below.refl _ _).alloc (Nat.le_refl _) _) HBf.out (by simpa[u8s]using hown) (by rw[HNL.out];rfl) hgrow hat;obtain⟨⟨d1,e1⟩,⟨d2,e2⟩,hB2,hE2⟩:=hst;have HB2:=hid hB2;have HE2:=hid hE2;clear hB2 hE2 hown hgrow hat d0 e0))
    refine⟨⟨m / 128,pre++[m % 128+128],some ⟨g2,0,none⟩,n'+1,k2,by simp,by omega,?_,d2,e2,?_,?_,?_,HK.out.2.2.2.trans HE2.out⟩,by simp[intOf];omega⟩
    ·have h:=HNL.out;rw[List.length_append,HLL.out]at h;omega
    ·have h:=HK.out.1;rw[vb_big hlt]at h;simpa using h
    ·simpa[List.append_assoc]using HB2.out
    ·have h:=HNL.out;simp only[List.length_append,List.length_cons,List.length_nil]at h ⊢;omega
 ·have hbig':(100000:Int)<(L:Int):=by omega
  go_enter Tryz.func144,Tryz.ntmps144;go_wp2;first|(refine bodyPost_ret (results_none rfl _ _ _) rfl ?_)|(refine bodyPost_end (results_none rfl _ _ _) rfl ?_)
  exact⟨_,rfl,⟨c0,f0,lt0,le0,bs,HB.out,HI.out.stop _ (by rw[HLL.out];omega),by rw[HLL.out];exact hl⟩,WExt.refl _ _ _⟩
set_option maxRecDepth 100000 in
set_option maxHeartbeats 8000000 in
theorem text_any(s:ByteArray)(P B:Nat)(v:Value)(full:List Nat)(w:World)(hs:s.size≤16)(hv:full≠[])(hW:WS w P B v full):
 Calls Tryz.prog 94 #[.pointer (some ⟨P,0,none⟩),.string s] w fun e w'=>WRes P B w v (full++tb s) e w':=by
 obtain⟨i,hi,hii⟩:=Option.map_eq_some_iff.1 Tryz.u8Info;simp only[Prod.mk.injEq]at hii;obtain⟨hz0,hz1,hz2⟩:=hii;obtain⟨c0,f0,lt0,le0,bs,hB,hI,hl⟩:=hW;have hbp:0<bs.length:=by
  rcases hI with rfl|h
  ·exact List.length_pos_iff.2 hv
  ·omega
 obtain⟨g,c,rfl,hg1,-⟩:=World.ownsRow.form hB hbp;have hB':Buf w B (.slice (some ⟨g,0,none⟩) bs.length c) bs:=hB;have HI:=hid hI;have HTS:=hid (u8s_tb s);have HTL:=hid (tb_len s);clear hB hI;generalize hLL:bs.length=L at*;have HLL:=hid hLL;have HB:=hid hB';clear hB' hLL hv;by_cases hbig:L≤100000
 ·have hbig':¬(100000:Int)<(L:Int):=by omega
  go_enter Tryz.func94,Tryz.ntmps94;go_wp2_with (first
   |(at_builtin;refine wpList_str_lies _ rfl (.tmp 14) (.tmp 15) 62 9 rfl B 5 i Tryz.underlying62 Tryz.underlying9 hi hz0 hz1 hz2 g L c (u8s bs) rfl (by have h:=HB.out;unfold Buf at h;rw[HLL.out]at h;exact h) s rfl (by omega) (by omega) (by omega) ?_;intro g2 k2 w2 hown hgrow hat;have hst:=wstep (M:=tb s) c0 f0 lt0 (Below.refl _ _) HB.out (by rw[HTS.out];exact hown) (by rw[HLL.out,HTL.out]) hgrow (by rcases hat with rfl|rfl;exact Or.inl rfl;exact Or.inr rfl);obtain⟨⟨d1,e1⟩,⟨d2,e2⟩,hB2,hE2⟩:=hst;have HB2:=hid hB2;have HE2:=hid hE2;clear hB2 hE2 hown hgrow hat c0 f0))
  first|(refine bodyPost_ret (results_none rfl _ _ _) rfl ?_)|(refine bodyPost_end (results_none rfl _ _ _) rfl ?_)
  refine⟨_,rfl,⟨d2,e2,lt0,by have:=HE2.out.size;omega,bs++tb s,HB2.out,HI.out.more _ (by rw[HLL.out];exact hbig),by rw[List.length_append,HLL.out,HTL.out];omega⟩,HE2.out⟩
 ·have hbig':(100000:Int)<(L:Int):=by omega
  go_enter Tryz.func94,Tryz.ntmps94;go_wp2;first|(refine bodyPost_ret (results_none rfl _ _ _) rfl ?_)|(refine bodyPost_end (results_none rfl _ _ _) rfl ?_)
  exact⟨_,rfl,⟨c0,f0,lt0,le0,bs,HB.out,HI.out.stop _ (by rw[HLL.out];omega),by rw[HLL.out];exact hl⟩,WExt.refl _ _ _⟩
end Go.Proofs.YtglihimiidiacaaGreatDoor
