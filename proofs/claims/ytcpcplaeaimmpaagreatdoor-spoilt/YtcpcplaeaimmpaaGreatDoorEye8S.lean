import Derived.Test.YtcpcplaeaimmpaaGreatDoorWrittenS
import Derived.Deep.CutBlock
set_option maxHeartbeats 2000000
namespace Go.Proofs.YtcpcplaeaimmpaaGreatDoor
open Go.RowKit
theorem ret_val'{a b:Value}(h:a=b):Ending.returned a=.returned b:=by rw[h]
def codeG(code:List LIns):Bool:=decide (code.length<=65535) && code.all λx=>insG x.op x.a x.alts
theorem all_false{α:Type}(p:α->Bool)(l:List α)(k:Nat)(hk:k<l.length)(h:p l[k]=false):l.all p=false:=by
 rw[List.all_eq_false];exact⟨_,List.getElem_mem hk,by simp[h]⟩
theorem all_true{α:Type}(p:α->Bool)(l:List α)(h:∀k (hk:k<l.length),p l[k]=true):l.all p=true:=by
 rw[List.all_eq_true];intro x hx;obtain⟨i,hi,rfl⟩:=List.mem_iff_getElem.1 hx;exact h i hi
theorem goodCode_any(code:List LIns)(v:Value)(w:World)(hC:CodeAt w v code)(hT:TabAt w):
 Calls Tryz.prog 75 #[v] w λe w'=>e=.returned (.bool (codeG code))∧Below w.heap.size w w':=by
 obtain⟨p,cap,rfl,hs1,hcell⟩:=hC.open;have HC:Hid (∀w',Below w.heap.size w w'->CodeIn w' p code):=hcell;have HT:Hid (TabAt w):=hT;clear hcell hC hT;by_cases hl:code.length<=65535
 ·have HG:Hid (codeG code=code.all λx=>insG x.op x.a x.alts):=by show _=_;simp[codeG,hl]
  go_enter Tryz.func75,Tryz.ntmps75;go_wp2;go_loopw [10] (λi wr=>∃k:Nat,k<=code.length∧i=.int .i64 k∧Hid (∀j (h:j<code.length),j<k->insG code[j].op code[j].a code[j].alts=true)∧Below w.heap.size w wr) (λi _=>code.length-(intOf i).toNat)
  case atStart=>exact⟨0,Nat.zero_le _,rfl,λ_ _ h=>absurd h (by omega),Below.refl _ _⟩
  case round=>
   obtain⟨k,hk,rfl,ha,hb⟩:=hrel;by_cases hlt:k<code.length
   ·obtain⟨b,o,ap,an,ac,rfl,c0,c1,c2,hA⟩:=HC.out _ hb k hlt;have HA:Hid (AltsAt wr (.slice ap an ac) code[k].alts):=hA;have HF:Hid (insG code[k].op code[k].a code[k].alts=false->(code.all λx=>insG x.op x.a x.alts)=false):=by intro h;exact all_false (λx:LIns=>insG x.op x.a x.alts) code k hlt h
    have HN:Hid (insG code[k].op code[k].a code[k].alts=true->∀j (h:j<code.length),j<k+1->insG code[j].op code[j].a code[j].alts=true):=by
     intro h0 j h hj;by_cases e:j=k
     ·subst e;exact h0
     ·exact ha.out j h (by omega)
    clear hA;generalize code[k].op=op at*;generalize code[k].a=a at*;generalize code[k].alts=alts at*;go_wp2_with (first|(go_at_call 119;refine(goodIns_any op a alts _ _ ?_ ?_).mono ?_;exact(HA.out).keep ((Below.refl _ _).alloc (Nat.le_refl _) _);exact HT.out.keep (hb.alloc hb.size _);rintro e w' ⟨rfl,hb2⟩))
    any_goals
     go_ret;exact⟨ret_bool (by rw[HG.out,HF.out (by simp_all)]),(hb.alloc hb.size _).trans (hb2.mono (by have:=hb.size;simp;omega))⟩
    all_goals exact⟨⟨k+1,by omega,by go_num,HN.out (by simp_all),(hb.alloc hb.size _).trans (hb2.mono (by have:=hb.size;simp;omega))⟩,by simp[intOf];omega⟩
   ·go_wp2;go_ret;exact⟨ret_bool (by rw[HG.out,all_true _ _ (λj h=>ha.out j h (by omega))]),hb⟩
 ·have HG:Hid (codeG code=false):=by show _=_;simp[codeG,hl]
  go_enter Tryz.func75,Tryz.ntmps75;go_wp2;go_ret;exact⟨ret_bool HG.out.symm,Below.refl _ _⟩
def impsFrom:ByteArray->List LImp->Bool
 |_,[]=>true
 |last,x::r=>nmB x.name && gtB x.name last && arB x.arity && impsFrom x.name r
theorem impsFrom_at(last:ByteArray)(l:List LImp)(k:Nat)(hk:k<l.length):impsFrom last (l.drop k)=(nmB l[k].name && gtB l[k].name last && arB l[k].arity && impsFrom l[k].name (l.drop (k+1))):=by
 rw[List.drop_eq_getElem_cons hk];rfl
theorem goodImports_any(l:List LImp)(v:Value)(w:World)(hI:ImpsAt w v l):
 Calls Tryz.prog 37 #[v] w λe w'=>e=.returned (.bool (impsFrom ⟨#[]⟩ l))∧Below w.heap.size w w':=by
 obtain⟨p,cap,rfl,hs1,hcell⟩:=hI.open;have HC:Hid (∀w',Below w.heap.size w w'->ImpsIn w' p l):=hcell;clear hcell hI;go_enter Tryz.func37,Tryz.ntmps37;go_wp2;go_loopw [3,8] (λs i wr=>∃(k:Nat) (last:ByteArray),k<=l.length∧s=.string last∧i=.int .i64 k∧Hid (impsFrom ⟨#[]⟩ l=impsFrom last (l.drop k))∧Below w.heap.size w wr) (λ_ i _=>l.length-(intOf i).toNat)
 case atStart=>exact⟨0,⟨#[]⟩,Nat.zero_le _,rfl,rfl,rfl,Below.refl _ _⟩
 case round=>
  obtain⟨k,last,hk,rfl,rfl,ha,hb⟩:=hrel;by_cases hlt:k<l.length
  ·obtain⟨b,o,rfl,c0,c1,hsz⟩:=HC.out _ hb k hlt;have HI:Hid (impsFrom ⟨#[]⟩ l=(nmB l[k].name && gtB l[k].name last && arB l[k].arity && impsFrom l[k].name (l.drop (k+1)))):=by
    show _=_;rw[ha.out,impsFrom_at last l k hlt]
   generalize l[k].name=nm at*;generalize l[k].arity=ar at*;have hg2:=le_eq nm last;cases hg:gtB nm last
   ·rw[hg]at hg2;have HG:Hid (gtB nm last=false):=hg;clear hg;go_wp2_with (first|(go_at_call 36;refine(IsName_any _ _ hsz).mono ?_;rintro e w' ⟨rfl,rfl⟩)|(go_at_call 73;refine(isArity_any _ _).mono ?_;rintro e w' ⟨rfl,rfl⟩))
    all_goals
     go_ret;exact⟨ret_bool (by rw[HI.out,HG.out];simp),hb.alloc hb.size _⟩
   ·rw[hg]at hg2;have HG:Hid (gtB nm last=true):=hg;clear hg;go_wp2_with (first|(go_at_call 36;refine(IsName_any _ _ hsz).mono ?_;rintro e w' ⟨rfl,rfl⟩)|(go_at_call 73;refine(isArity_any _ _).mono ?_;rintro e w' ⟨rfl,rfl⟩))
    any_goals
     go_ret;exact⟨ret_bool (by rw[HI.out,HG.out];simp_all),hb.alloc hb.size _⟩
    all_goals exact⟨⟨k+1,nm,by omega,rfl,by go_num,by show _=_;rw[HI.out,HG.out];simp_all,hb.alloc hb.size _⟩,by simp[intOf];omega⟩
  ·go_wp2;go_ret;exact⟨ret_bool (by rw[ha.out,List.drop_of_length_le (by omega)];rfl),hb⟩
theorem impsFrom_rising:∀(l:List LImp) (last:ByteArray),impsFrom last l=true->Rising l∧∀i (h:i<l.length),cmpB last l[i].name<0:=by
 intro l;induction l with
 |nil=>intro last _;exact⟨λi j hi=>absurd hi (by simp),λi h=>absurd h (by simp)⟩
 |cons x r ih=>
  intro last h;simp only[impsFrom,Bool.and_eq_true]at h;obtain⟨⟨⟨_,hg⟩,_⟩,hr⟩:=h;obtain⟨h1,h2⟩:=ih x.name hr;have h0:=(gtB_iff _ _).1 hg;refine⟨λi j hi hj hij=>?_,λi hi=>?_⟩
  ·cases i with
   |zero=>
    cases j with
    |zero=>omega
    |succ j=>exact h2 j (by simpa using hj)
   |succ i=>
    cases j with
    |zero=>omega
    |succ j=>exact h1 i j (by simpa using hi) (by simpa using hj) (by omega)
  ·cases i with
   |zero=>exact h0
   |succ i=>exact cmpB_trans h0 (h2 i (by simpa using hi))
def globsFrom(imps:List LImp):ByteArray->List LGlob->Bool
 |_,[]=>true
 |last,x::r=>nmB x.name && gtB x.name last && !hasN imps x.name && arB x.arity && codeG x.code && globsFrom imps x.name r
theorem globsFrom_at(imps:List LImp)(last:ByteArray)(l:List LGlob)(k:Nat)(hk:k<l.length):globsFrom imps last (l.drop k)=(nmB l[k].name && gtB l[k].name last && !hasN imps l[k].name && arB l[k].arity && codeG l[k].code && globsFrom imps l[k].name (l.drop (k+1))):=by
 rw[List.drop_eq_getElem_cons hk];rfl
theorem goodGlobals_any(l:List LGlob)(imps:List LImp)(v iv:Value)(w:World)(hG:GlobsAt w v l)(hI:ImpsAt w iv imps)(hr:Rising imps)(hT:TabAt w):
 Calls Tryz.prog 38 #[v,iv] w λe w'=>e=.returned (.bool (globsFrom imps ⟨#[]⟩ l))∧Below w.heap.size w w':=by
 obtain⟨p,cap,rfl,hs1,hcell⟩:=hG.open;have HC:Hid (∀w',Below w.heap.size w w'->GlobsIn w' p l):=hcell;have HI0:Hid (ImpsAt w iv imps):=hI;have HR:Hid (Rising imps):=hr;have HT:Hid (TabAt w):=hT;clear hcell hI hG hr hT;go_enter Tryz.func38,Tryz.ntmps38;go_wp2;go_loopw [5,10] (λs i wr=>∃(k:Nat) (last:ByteArray),k<=l.length∧s=.string last∧i=.int .i64 k∧Hid (globsFrom imps ⟨#[]⟩ l=globsFrom imps last (l.drop k))∧Below w.heap.size w wr) (λ_ i _=>l.length-(intOf i).toNat)
 case atStart=>exact⟨0,⟨#[]⟩,Nat.zero_le _,rfl,rfl,rfl,Below.refl _ _⟩
 case round=>
  obtain⟨k,last,hk,rfl,rfl,ha,hb⟩:=hrel;by_cases hlt:k<l.length
  ·obtain⟨b,o,cp,cn,cc,rfl,c0,c1,c2,c3,hC,hsz⟩:=HC.out _ hb k hlt;have HCo:Hid (CodeAt wr (.slice cp cn cc) l[k].code):=hC;have HI:Hid (globsFrom imps ⟨#[]⟩ l=(nmB l[k].name && gtB l[k].name last && !hasN imps l[k].name && arB l[k].arity && codeG l[k].code && globsFrom imps l[k].name (l.drop (k+1)))):=by
    show _=_;rw[ha.out,globsFrom_at imps last l k hlt]
   clear hC;generalize l[k].name=nm at*;generalize l[k].arity=ar at*;generalize l[k].exp=ex at*;generalize l[k].code=code at*;have hg2:=le_eq nm last;have hbs:=hb.size;cases hg:gtB nm last
   ·rw[hg]at hg2;have HG:Hid (gtB nm last=false):=hg;clear hg;go_wp2_with (first|(go_at_call 36;refine(IsName_any _ _ hsz).mono ?_;rintro e w' ⟨rfl,rfl⟩))
    all_goals
     go_ret;exact⟨ret_bool (by rw[HI.out,HG.out];simp),hb.alloc hb.size _⟩
   ·rw[hg]at hg2;have HG:Hid (gtB nm last=true):=hg;clear hg;go_wp2_with (first|(go_at_call 36;refine(IsName_any _ _ hsz).mono ?_;rintro e w' ⟨rfl,rfl⟩)|(go_at_call 74;refine(Imported_any imps _ _ _ ?_ HR.out).mono ?_;exact HI0.out.keep (hb.alloc hb.size _);rintro e w1 ⟨rfl,hb2⟩;obtain⟨z0,z1⟩:=bcell hb2;have hz:wr.heap.size<w1.heap.size:=(by have:=hb2.size;simp at this;omega))|(go_at_call 73;refine(isArity_any _ _).mono ?_;rintro e w' ⟨rfl,rfl⟩)|(go_at_call 75;refine(goodCode_any code _ _ ?_ ?_).mono ?_;exact HCo.out.keep (((Below.refl _ _).alloc (Nat.le_refl _) _).trans (hb2.mono (by simp)));exact HT.out.keep ((hb.alloc hb.size _).trans (hb2.mono (by simp;omega)));rintro e w2 ⟨rfl,hb3⟩;obtain⟨z2,z3⟩:=bcell hb3))
    any_goals
     go_ret;refine⟨ret_bool (by rw[HI.out,HG.out];simp_all),?_⟩;first
      |exact hb.alloc hb.size _
      |exact(hb.alloc hb.size _).trans (hb2.mono (by simp;omega))
      |exact((hb.alloc hb.size _).trans (hb2.mono (by simp;omega))).trans (hb3.mono (by omega))
    all_goals exact⟨⟨k+1,nm,by omega,rfl,by go_num,by show _=_;rw[HI.out,HG.out];simp_all,((hb.alloc hb.size _).trans (hb2.mono (by simp;omega))).trans (hb3.mono (by omega))⟩,by simp[intOf];omega⟩
  ·go_wp2;go_ret;exact⟨ret_bool (by rw[ha.out,List.drop_of_length_le (by omega)];rfl),hb⟩
def valsG(O:LObj):Bool:=nmB O.name && impsFrom ⟨#[]⟩ O.imps && globsFrom O.imps ⟨#[]⟩ O.globs
def errV(b:Bool)(ev:Value):Value:=if b then .nilIface else ev
theorem Values_any(O:LObj)(v ev:Value)(w:World)(hO:ObjAt w v O)(hT:TabAt w)(hE:w.cell? ⟨18,0,none⟩=some ev)(hev:∃t x,ev=.iface t x):
 Calls Tryz.prog 22 #[v] w λe w'=>e=.returned (errV (valsG O) ev)∧Below w.heap.size w w':=by
 obtain⟨t,x,rfl⟩:=hev;obtain⟨iv,gv,rfl,hsz,hI,hG⟩:=hO;obtain⟨ip,ic,rfl,-,-⟩:=id hI;obtain⟨gp,gc,rfl,-,-⟩:=id hG;have HI:Hid (ImpsAt w (.slice ip O.imps.length ic) O.imps):=hI;have HG:Hid (GlobsAt w (.slice gp O.globs.length gc) O.globs):=hG;have HT:Hid (TabAt w):=hT;have HV:Hid (valsG O=(nmB O.name && impsFrom ⟨#[]⟩ O.imps && globsFrom O.imps ⟨#[]⟩ O.globs)):=rfl;have HR:Hid (impsFrom ⟨#[]⟩ O.imps=true->Rising O.imps):=λh=>(impsFrom_rising _ _ h).1;clear hI hG hT;generalize O.name=nm at*;generalize hil:O.imps.length=il at*;generalize hgl:O.globs.length=gl at*;clear hil hgl;generalize hb0:valsG O=vb at*;have HV0:Hid (vb=(nmB nm && impsFrom ⟨#[]⟩ O.imps && globsFrom O.imps ⟨#[]⟩ O.globs)):=HV;clear hb0 HV;have h00:0<w.heap.size:=Nat.lt_of_le_of_lt (Nat.zero_le _) (block_lt_of_cell hE);have hE2:=λo=>cell_keep ((Below.refl w.heap.size w).alloc (Nat.le_refl _) o) hE;cases h1:impsFrom ⟨#[]⟩ O.imps
 ·have HB:Hid (impsFrom ⟨#[]⟩ O.imps=false):=h1;have HF:Hid (vb=false):=by show _=_;rw[HV0.out,h1];simp
  clear h1;obtain rfl:vb=false:=HF.out;go_enter Tryz.func22,Tryz.ntmps22;go_wp2_with (first|(go_at_call 36;refine(IsName_any _ _ hsz).mono ?_;rintro e w' ⟨rfl,rfl⟩)|(go_at_call 37;refine(goodImports_any O.imps _ _ ?_).mono ?_;exact HI.out.keep ((Below.refl _ _).alloc (Nat.le_refl _) _);rintro e w' ⟨he,hb2⟩;rw[HB.out]at he;subst he;have hE3:=cell_keep (((Below.refl w.heap.size w).alloc (Nat.le_refl _) _).trans (hb2.mono (by simp))) hE;obtain⟨z0,z1⟩:=bcell hb2))
  all_goals
   go_ret;refine⟨rfl,?_⟩;first
    |exact(Below.refl _ _).alloc (Nat.le_refl _) _
    |exact((Below.refl _ _).alloc (Nat.le_refl _) _).trans (hb2.mono (by simp))
 ·have HB:Hid (impsFrom ⟨#[]⟩ O.imps=true):=h1;have HF:Hid (vb=(nmB nm && globsFrom O.imps ⟨#[]⟩ O.globs)):=by show _=_;rw[HV0.out,h1];simp
  clear h1;go_enter Tryz.func22,Tryz.ntmps22;go_wp2_with (first|(go_at_call 36;refine(IsName_any _ _ hsz).mono ?_;rintro e w' ⟨rfl,rfl⟩)|(go_at_call 37;refine(goodImports_any O.imps _ _ ?_).mono ?_;exact HI.out.keep ((Below.refl _ _).alloc (Nat.le_refl _) _);rintro e w1 ⟨he,hb2⟩;rw[HB.out]at he;subst he;have hE3:=cell_keep (((Below.refl w.heap.size w).alloc (Nat.le_refl _) _).trans (hb2.mono (by simp))) hE;obtain⟨z0,z1⟩:=bcell hb2;have hz:w.heap.size<w1.heap.size:=(by have:=hb2.size;simp at this;omega);have h01:0<w1.heap.size:=(by omega))|(go_at_call 38;refine(goodGlobals_any O.globs O.imps _ _ _ ?_ ?_ (HR.out HB.out) ?_).mono ?_;exact HG.out.keep (((Below.refl _ _).alloc (Nat.le_refl _) _).trans (hb2.mono (by simp)));exact HI.out.keep (((Below.refl _ _).alloc (Nat.le_refl _) _).trans (hb2.mono (by simp)));exact HT.out.keep (((Below.refl _ _).alloc (Nat.le_refl _) _).trans (hb2.mono (by simp)));rintro e w2 ⟨rfl,hb3⟩;have hE4:=cell_keep ((((Below.refl w.heap.size w).alloc (Nat.le_refl _) _).trans (hb2.mono (by simp))).trans (hb3.mono (by omega))) hE;obtain⟨z2,z3⟩:=bcell hb3))
  all_goals
   go_ret;refine⟨ret_val' ?_,?_⟩
   ·rw[HF.out];simp_all[errV]
   ·first
     |exact(Below.refl _ _).alloc (Nat.le_refl _) _
     |exact(((Below.refl _ _).alloc (Nat.le_refl _) _).trans (hb2.mono (by simp))).trans (hb3.mono (by omega))
end Go.Proofs.YtcpcplaeaimmpaaGreatDoor
namespace Go.Proofs.YtcpcplaeaimmpaaGreatDoor
open Go.RowKit Go.Sort
def Away(E:Nat)(v:Value):Prop:=∀p n c,v=.slice p n c->∀a,p=some a->a.block≠E
theorem EF.cell{E:Nat}{w w':World}(h:EF E w w'){b j:Nat}{u:Value}(hc:w.cell? ⟨b,j,none⟩=some u)(hb:b≠E):w'.cell? ⟨b,j,none⟩=some u:=by
 rw[<-hc];exact World.cell?_of_block (h.block b (block_lt_of_cell hc) hb)
theorem ImpsAt.ef{E:Nat}{w w':World}{v:Value}{l:List LImp}(h:ImpsAt w v l)(hE:EF E w w')(ha:Away E v):ImpsAt w' v l:=by
 obtain⟨p,cap,e,hs,hc⟩:=h;refine⟨p,cap,e,hs,λi hi=>?_⟩;obtain⟨b,o,e2,h0,h1,h2⟩:=hc i hi;have hb:b≠E:=ha _ _ _ e _ e2;exact⟨b,o,e2,hE.cell h0 hb,hE.cell h1 hb,h2⟩
def nx{α:Type}(st:Except (Nat×Nat) Nat)(f:Nat->Rd α):Rd α:=
 match st with
 |.ok p=>f p
 |.error e=>.error e
end Go.Proofs.YtcpcplaeaimmpaaGreatDoor
namespace Go.Proofs.YtcpcplaeaimmpaaGreatDoor
open Go.RowKit
def bd{α β:Type}(r:Rd α)(f:α->Nat->Rd β):Rd β:=
 match r with
 |.ok (a,q)=>f a q
 |.error e=>.error e
theorem bd_ok{α β:Type}{r:Rd α}{f:α->Nat->Rd β}{a:α}{q:Nat}(h:r=.ok (a,q)):bd r f=f a q:=by rw[h];rfl
theorem bd_err{α β:Type}{r:Rd α}{f:α->Nat->Rd β}{e:Nat×Nat}(h:r=.error e):bd r f=.error e:=by rw[h];rfl
theorem bd_ok_inv{α β:Type}{r:Rd α}{f:α->Nat->Rd β}{b:β}{t:Nat}(h:bd r f=.ok (b,t)):∃a q,r=.ok (a,q)∧f a q=.ok (b,t):=by
 match r,h with
 |.ok (a,q),h=>exact⟨a,q,rfl,h⟩
theorem bd_err_inv{α β:Type}{r:Rd α}{f:α->Nat->Rd β}{e:Nat×Nat}(h:bd r f=.error e):r=.error e∨∃a q,r=.ok (a,q)∧f a q=.error e:=by
 match r,h with
 |.ok (a,q),h=>exact Or.inr ⟨a,q,rfl,h⟩
 |.error e',h=>exact Or.inl (by cases h;rfl)
def rdAlts(s:ByteArray):Nat->List LAlt->Nat->Rd (List LAlt)
 |0,got,p=>.ok (got,p)
 |n+1,got,p=>bd (rdN s 0 255 p) λt q=>if got.any (λx=>x.tag==(t:Int))=true then .error (10,p) else bd (rdN s 0 65535 q) λtto r=>rdAlts s n (got++[⟨t,tto⟩]) r
def unf(x:Nat):Int:=if x % 2=0 then ((x / 2:Nat):Int) else -((x / 2:Nat):Int)-1
def rdArg(s:ByteArray)(op q:Nat):Rd LIns:=
 if rowN op 0=1 then bd (rdV s q) λn r=>.ok (⟨op,unf n,[]⟩,r)
 else if rowN op 0=2 then bd (rdN s (rowN op 1).toNat (rowN op 2).toNat q) λn r=>.ok (⟨op,n,[]⟩,r)
 else if rowN op 0=3 then bd (rdN s 1 256 q) λn r=>bd (rdAlts s n [] r) λl t=>.ok (⟨op,0,l⟩,t)
 else .ok (⟨op,0,[]⟩,q)
def rdIns(s:ByteArray)(p:Nat):Rd LIns:=bd (rdN s 0 20 p) (rdArg s)
def rdCode(s:ByteArray):Nat->List LIns->Nat->Rd (List LIns)
 |0,got,p=>.ok (got,p)
 |n+1,got,p=>bd (rdIns s p) λx q=>rdCode s n (got++[x]) q
def rdImps(s:ByteArray):Nat->List LImp->ByteArray->Nat->Rd (List LImp)
 |0,got,_,p=>.ok (got,p)
 |n+1,got,last,p=>bd (rdNameB s last [] p) λt q=>bd (rdN s 0 20 q) λa r=>rdImps s n (got++[⟨t,a⟩]) t r
def rdGlob(s t:ByteArray)(p:Nat):Rd LGlob:=bd (rdN s 0 20 p) λa p=>bd (rdN s 0 1 p) λx p=>bd (rdN s 0 65535 p) λc p=>bd (rdCode s c [] p) λl p=>.ok (⟨t,a,(x:Int)==1,l⟩,p)
def rdGlobs(s:ByteArray)(imps:List LImp):Nat->List LGlob->ByteArray->Nat->Rd (List LGlob)
 |0,got,_,p=>.ok (got,p)
 |n+1,got,last,p=>bd (rdNameB s last imps p) λt q=>bd (rdGlob s t q) λg r=>rdGlobs s imps n (got++[g]) t r
def mkB(k:Nat):Nat:=[84,65,82,78].getD k 0
def rdMark(s:ByteArray):Nat->Nat->Rd Unit
 |0,k=>.ok ((),k)
 |n+1,k=>if (s.data.toList.getD k 0).toNat=mkB k then rdMark s n (k+1) else .error (8,k)
def rdObj(s:ByteArray):Rd LObj:=bd (rdMark s 4 0) λ_ p=>bd (rdName s p) λnm p=>bd (rdV s p) λn p=>bd (rdImps s n [] ⟨#[]⟩ p) λis p=>bd (rdV s p) λm p=>bd (rdGlobs s is m [] ⟨#[]⟩ p) λgs p=>if p<s.size then .error (11,p) else .ok (⟨nm,is,gs⟩,p)
theorem altsB_snoc{l:List LAlt}{t tto:Nat}(h:altsB l=true)(ht:t<=255)(hto:tto<=65535)(hn:l.any (λx=>x.tag==(t:Int))=false):altsB (l++[⟨t,tto⟩])=true:=by
 unfold altsB at h ⊢;rw[Bool.and_eq_true,tagsApart_iff]at h ⊢;refine⟨?_,?_⟩
 ·rw[List.all_append,h.1];simp[altOk];omega
 ·rw[List.pairwise_append];refine⟨h.2,List.pairwise_singleton _ _,λa ha b hb=>?_⟩;obtain rfl:=List.mem_singleton.1 hb;rw[List.any_eq_false]at hn;simpa using hn a ha
theorem rdAlts_ok{s:ByteArray}:∀(n:Nat) (got:List LAlt) (p:Nat) (l:List LAlt) (q:Nat),rdAlts s n got p=.ok (l,q)->p<=s.size->p+n<=q∧q<=s.size∧l.length=got.length+n∧(altsB got=true->altsB l=true)
 |0,got,p,l,q,h,hp=>by
  simp only[rdAlts,Except.ok.injEq,Prod.mk.injEq]at h;obtain⟨rfl,rfl⟩:=h;exact⟨by omega,hp,by omega,id⟩
 |n+1,got,p,l,q,h,hp=>by
  rw[rdAlts]at h;obtain⟨t,r,h1,h2⟩:=bd_ok_inv h;have k1:=rdN_ok h1;cases ha:got.any (λx=>x.tag==(t:Int)) with
  |true=>rw[if_pos ha]at h2;cases h2
  |false=>
   rw[if_neg (by rw[ha];decide)]at h2;obtain⟨tto,r2,h3,h4⟩:=bd_ok_inv h2;have k2:=rdN_ok h3;obtain⟨a,b,c,d⟩:=rdAlts_ok n _ _ _ _ h4 (by omega);rw[List.length_append,List.length_singleton]at c;exact⟨by omega,b,by omega,λhg=>d (altsB_snoc hg (by omega) (by omega) ha)⟩
theorem rdAlts_err{s:ByteArray}:∀(n:Nat) (got:List LAlt) (p c a:Nat),rdAlts s n got p=.error (c,a)->CE c
 |0,got,p,c,a,h=>by simp[rdAlts]at h
 |n+1,got,p,c,a,h=>by
  rw[rdAlts]at h;rcases bd_err_inv h with h1|⟨t,r,h1,h2⟩
  ·exact rdN_err h1
  ·split at h2
   ·cases h2;unfold CE;omega
   ·rcases bd_err_inv h2 with h3|⟨tto,r2,h3,h4⟩
    ·exact rdN_err h3
    ·exact rdAlts_err n _ _ _ _ h4
theorem row_facts(k:Nat)(hk:k<21):0<=rowN k 1∧rowN k 1<=1∧0<=rowN k 2∧rowN k 2<=65535∧(rowN k 0=1↔k=0)∧(rowN k 0=3↔k=17)∧0<=rowN k 0∧rowN k 0<=3:=by
 rcases all21 k hk with rfl|rfl|rfl|rfl|rfl|rfl|rfl|rfl|rfl|rfl|rfl|rfl|rfl|rfl|rfl|rfl|rfl|rfl|rfl|rfl|rfl;all_goals decide
def InsFine(x:LIns):Prop:=insG x.op x.a x.alts=true∧x.alts.length<=256
theorem rdIns_ok{s:ByteArray}{p q:Nat}{x:LIns}(h:rdIns s p=.ok (x,q)):p<q∧q<=s.size∧InsFine x:=by
 obtain⟨op,r,h1,h2⟩:=bd_ok_inv h;have k1:=rdN_ok h1;have hop:op<21:=by omega
 have hf:=row_facts op hop;have hr:∀(a:Int) (l:List LAlt),insG (op:Int) a l=(if rowN op 0=1 then (l.length:Int)==0 else if rowN op 0=2 then ((l.length:Int)==0) && decide (rowN op 1<=a) && decide (a<=rowN op 2) else if rowN op 0=3 then (a==0) && altsGood l else (a==0) && ((l.length:Int)==0)):=by
  intro a l;unfold insG;rw[if_pos (by omega),Int.toNat_natCast]
 rw[rdArg]at h2;split at h2
 ·rename_i e1
  obtain⟨n,r2,h3,h4⟩:=bd_ok_inv h2;have k2:=rdV_ok h3;cases h4;exact⟨by omega,by omega,by rw[hr,if_pos e1];rfl,by simp⟩
 ·rename_i e1
  split at h2
  ·rename_i e2
   obtain⟨n,r2,h3,h4⟩:=bd_ok_inv h2;have k2:=rdN_ok h3;cases h4;refine⟨by omega,by omega,?_,by simp⟩;rw[hr,if_neg e1,if_pos e2];simp;omega
  ·rename_i e2
   split at h2
   ·rename_i e3
    obtain⟨n,r2,h3,h4⟩:=bd_ok_inv h2;obtain⟨l,r3,h5,h6⟩:=bd_ok_inv h4;have k2:=rdN_ok h3;obtain⟨a,b,c,d⟩:=rdAlts_ok _ _ _ _ _ h5 (by omega);cases h6;simp only[List.length_nil,Nat.zero_add]at c;refine⟨by omega,by omega,?_,by show l.length<=256;omega⟩;rw[hr,if_neg e1,if_neg e2,if_pos e3];have:=d rfl;simp[altsGood,this];omega
   ·rename_i e3
    cases h2;exact⟨by omega,by omega,by rw[hr,if_neg e1,if_neg e2,if_neg e3];rfl,by simp⟩
theorem rdIns_err{s:ByteArray}{p c a:Nat}(h:rdIns s p=.error (c,a)):CE c:=by
 rcases bd_err_inv h with h1|⟨op,r,h1,h2⟩
 ·exact rdN_err h1
 ·rw[rdArg]at h2;split at h2
  ·rcases bd_err_inv h2 with h3|⟨n,r2,h3,h4⟩
   ·have:=rdV_err h3;unfold CE;omega
   ·cases h4
  ·split at h2
   ·rcases bd_err_inv h2 with h3|⟨n,r2,h3,h4⟩
    ·exact rdN_err h3
    ·cases h4
   ·split at h2
    ·rcases bd_err_inv h2 with h3|⟨n,r2,h3,h4⟩
     ·exact rdN_err h3
     ·rcases bd_err_inv h4 with h5|⟨l,r3,h5,h6⟩
      ·exact rdAlts_err _ _ _ _ _ h5
      ·cases h6
    ·cases h2
theorem rdCode_ok{s:ByteArray}:∀(n:Nat) (got:List LIns) (p:Nat) (l:List LIns) (q:Nat),rdCode s n got p=.ok (l,q)->p<=s.size->p+n<=q∧q<=s.size∧l.length=got.length+n∧((∀x∈got,InsFine x)->∀x∈l,InsFine x)
 |0,got,p,l,q,h,hp=>by
  simp only[rdCode,Except.ok.injEq,Prod.mk.injEq]at h;obtain⟨rfl,rfl⟩:=h;exact⟨by omega,hp,by omega,id⟩
 |n+1,got,p,l,q,h,hp=>by
  rw[rdCode]at h;obtain⟨x,r,h1,h2⟩:=bd_ok_inv h;obtain⟨k1,k2,k3⟩:=rdIns_ok h1;obtain⟨a,b,c,d⟩:=rdCode_ok n _ _ _ _ h2 (by omega);rw[List.length_append,List.length_singleton]at c;refine⟨by omega,b,by omega,λhg=>d λy hy=>?_⟩;rcases List.mem_append.1 hy with hy|hy
  ·exact hg y hy
  ·obtain rfl:=List.mem_singleton.1 hy;exact k3
theorem rdCode_err{s:ByteArray}:∀(n:Nat) (got:List LIns) (p c a:Nat),rdCode s n got p=.error (c,a)->CE c
 |0,got,p,c,a,h=>by simp[rdCode]at h
 |n+1,got,p,c,a,h=>by
  rw[rdCode]at h;rcases bd_err_inv h with h1|⟨t,r,h1,h2⟩
  ·exact rdIns_err h1
  ·exact rdCode_err n _ _ _ _ h2
def RI(got:List LImp)(last:ByteArray):Prop:=Rising got∧∀x∈got,cmpB x.name last<0∨x.name=last
theorem RI.nil(last:ByteArray):RI [] last:=⟨λi j hi=>absurd hi (by simp),λ_ h=>by cases h⟩
theorem RI.snoc{got:List LImp}{last t:ByteArray}{a:Int}(h:RI got last)(hg:gtB t last=true):RI (got++[⟨t,a⟩]) t:=by
 have h1:∀x∈got,cmpB x.name t<0:=λx hx=>by
  have h2:=(gtB_iff _ _).1 hg;rcases h.2 x hx with h3|h3
  ·exact cmpB_trans h3 h2
  ·rw[h3];exact h2
 refine⟨λi j hi hj hij=>?_,λx hx=>?_⟩
 ·rw[List.length_append,List.length_singleton]at hi hj;by_cases e:j<got.length
  ·rw[List.getElem_append_left (by omega),List.getElem_append_left e];exact h.1 i j _ _ hij
  ·rw[List.getElem_append_left (show i<got.length by omega),List.getElem_append_right (by omega)];simp only[List.getElem_singleton];exact h1 _ (List.getElem_mem _)
 ·rcases List.mem_append.1 hx with hx|hx
  ·exact Or.inl (h1 x hx)
  ·obtain rfl:=List.mem_singleton.1 hx;exact Or.inr rfl
theorem rdImps_ok{s:ByteArray}:∀(n:Nat) (got:List LImp) (last:ByteArray) (p:Nat) (l:List LImp) (q:Nat),rdImps s n got last p=.ok (l,q)->p<=s.size->p+n<=q∧q<=s.size∧l.length=got.length+n∧((∀x∈got,x.name.size<=16)->∀x∈l,x.name.size<=16)∧(RI got last->Rising l)
 |0,got,last,p,l,q,h,hp=>by
  simp only[rdImps,Except.ok.injEq,Prod.mk.injEq]at h;obtain⟨rfl,rfl⟩:=h;exact⟨by omega,hp,by omega,id,λh=>h.1⟩
 |n+1,got,last,p,l,q,h,hp=>by
  rw[rdImps]at h;obtain⟨t,r,h1,h2⟩:=bd_ok_inv h;obtain⟨ar,r2,h3,h4⟩:=bd_ok_inv h2;have k0:=rdNameB_ok h1;have k1:=rdName_ok k0.1;have k2:=rdN_ok h3;obtain⟨a,b,c,d,e⟩:=rdImps_ok n _ _ _ _ _ h4 (by omega);rw[List.length_append,List.length_singleton]at c;refine⟨by omega,b,by omega,λhg=>d λy hy=>?_,λhg=>e (hg.snoc k0.2.1)⟩;rcases List.mem_append.1 hy with hy|hy
  ·exact hg y hy
  ·obtain rfl:=List.mem_singleton.1 hy;exact k1.2.2.2.1
theorem rdImps_err{s:ByteArray}:∀(n:Nat) (got:List LImp) (last:ByteArray) (p c a:Nat),rdImps s n got last p=.error (c,a)->CE c
 |0,got,last,p,c,a,h=>by simp[rdImps]at h
 |n+1,got,last,p,c,a,h=>by
  rw[rdImps]at h;rcases bd_err_inv h with h1|⟨t,r,h1,h2⟩
  ·exact rdNameB_err h1
  ·rcases bd_err_inv h2 with h3|⟨tto,r2,h3,h4⟩
   ·exact rdN_err h3
   ·exact rdImps_err n _ _ _ _ _ h4
def GlobFine(g:LGlob):Prop:=g.name.size<=16∧0<=g.arity∧g.arity<=20∧g.code.length<=65535∧∀x∈g.code,InsFine x
theorem rdGlob_ok{s t:ByteArray}{p q:Nat}{g:LGlob}(h:rdGlob s t p=.ok (g,q))(ht:t.size<=16):p<q∧q<=s.size∧GlobFine g:=by
 obtain⟨a,q1,h1,h⟩:=bd_ok_inv h;obtain⟨x,q2,h2,h⟩:=bd_ok_inv h;obtain⟨c,q3,h3,h⟩:=bd_ok_inv h;obtain⟨l,q4,h4,h⟩:=bd_ok_inv h;have k1:=rdN_ok h1;have k2:=rdN_ok h2;have k3:=rdN_ok h3;obtain⟨b1,b2,b3,b4⟩:=rdCode_ok _ _ _ _ _ h4 (by omega);cases h;simp only[List.length_nil,Nat.zero_add]at b3;exact⟨by omega,by omega,ht,by show(0:Int)<=(a:Int);omega,by show(a:Int)<=20;omega,by show l.length<=65535;omega,b4 λx hx=>by cases hx⟩
theorem rdGlob_err{s t:ByteArray}{p c a:Nat}(h:rdGlob s t p=.error (c,a)):CE c:=by
 rcases bd_err_inv h with h|⟨_,q1,_,h⟩
 ·exact rdN_err h
 rcases bd_err_inv h with h|⟨_,q1,_,h⟩
 ·exact rdN_err h
 rcases bd_err_inv h with h|⟨_,q1,_,h⟩
 ·exact rdN_err h
 rcases bd_err_inv h with h|⟨_,q1,_,h⟩
 ·exact rdCode_err _ _ _ _ _ h
 ·cases h
theorem rdGlobs_ok{s:ByteArray}{imps:List LImp}:∀(n:Nat) (got:List LGlob) (last:ByteArray) (p:Nat) (l:List LGlob) (q:Nat),rdGlobs s imps n got last p=.ok (l,q)->p<=s.size->p+n<=q∧q<=s.size∧l.length=got.length+n∧((∀x∈got,GlobFine x)->∀x∈l,GlobFine x)
 |0,got,last,p,l,q,h,hp=>by
  simp only[rdGlobs,Except.ok.injEq,Prod.mk.injEq]at h;obtain⟨rfl,rfl⟩:=h;exact⟨by omega,hp,by omega,id⟩
 |n+1,got,last,p,l,q,h,hp=>by
  rw[rdGlobs]at h;obtain⟨t,r,h1,h2⟩:=bd_ok_inv h;obtain⟨g,r2,h3,h4⟩:=bd_ok_inv h2;have k1:=rdName_ok (rdNameB_ok h1).1;have k2:=rdGlob_ok h3 k1.2.2.2.1;obtain⟨a,b,c,d⟩:=rdGlobs_ok n _ _ _ _ _ h4 (by omega);rw[List.length_append,List.length_singleton]at c;refine⟨by omega,b,by omega,λhg=>d λy hy=>?_⟩;rcases List.mem_append.1 hy with hy|hy
  ·exact hg y hy
  ·obtain rfl:=List.mem_singleton.1 hy;exact k2.2.2
theorem rdGlobs_err{s:ByteArray}{imps:List LImp}:∀(n:Nat) (got:List LGlob) (last:ByteArray) (p c a:Nat),rdGlobs s imps n got last p=.error (c,a)->CE c
 |0,got,last,p,c,a,h=>by simp[rdGlobs]at h
 |n+1,got,last,p,c,a,h=>by
  rw[rdGlobs]at h;rcases bd_err_inv h with h1|⟨t,r,h1,h2⟩
  ·exact rdNameB_err h1
  ·rcases bd_err_inv h2 with h3|⟨tto,r2,h3,h4⟩
   ·exact rdGlob_err h3
   ·exact rdGlobs_err n _ _ _ _ _ h4
end Go.Proofs.YtcpcplaeaimmpaaGreatDoor
namespace Go.Proofs.YtcpcplaeaimmpaaGreatDoor
open Go.RowKit Go.Sort
structure Off (bs:List Nat) (w w':World):Prop where
 os:w'.os=w.os
 tape:w'.tape=w.tape
 output:w'.output=w.output
 size:w.heap.size<=w'.heap.size
 block:∀k,k<w.heap.size->k∉bs->w'.heap[k]?=w.heap[k]?
theorem Off.refl(bs:List Nat)(w:World):Off bs w w:=⟨rfl,rfl,rfl,Nat.le_refl _,λ_ _ _=>rfl⟩
theorem Off.trans{bs:List Nat}{w w1 w2:World}(h:Off bs w w1)(k:Off bs w1 w2):Off bs w w2:=
 ⟨k.os.trans h.os,k.tape.trans h.tape,k.output.trans h.output,Nat.le_trans h.size k.size,λb hb hE=>(k.block b (Nat.lt_of_lt_of_le hb h.size) hE).trans (h.block b hb hE)⟩
theorem Off.of_below{bs:List Nat}{w w':World}(h:Below w.heap.size w w'):Off bs w w':=⟨h.os,h.tape,h.output,h.size,λk hk _=>h.block k hk⟩
theorem Off.alloc{bs:List Nat}{w w':World}(h:Off bs w w')(o:Obj):Off bs w (w'.alloc o):=h.trans (Off.of_below ((Below.refl _ _).alloc (Nat.le_refl _) _))
theorem Off.drewN{bs:List Nat}{w w':World}(h:Off bs w w')(n:Nat):Off bs w (w'.drewN n):=h.trans (Off.of_below (below_drewN (Below.refl _ _) _))
theorem Off.set{bs:List Nat}{w w':World}(h:Off bs w w'){b o:Nat}(hb:b∈bs∨w.heap.size<=b)(u:Value):Off bs w (w'.setCell ⟨b,o,none⟩ u):=by
 refine⟨h.os,h.tape,h.output,by simpa using h.size,λk hk hn=>?_⟩;rw[heap_setCell_other w' ⟨b,o,none⟩ k u (by intro e;subst e;rcases hb with hb|hb;exact hn hb;omega)];exact h.block k hk hn
theorem Off.of_ef{E:Nat}{bs:List Nat}{w w':World}(h:EF E w w')(hE:E∈bs):Off bs w w':=⟨h.os,h.tape,h.output,h.size,λk hk hn=>h.block k hk (by intro e;subst e;exact hn hE)⟩
theorem Off.ef{E:Nat}{bs:List Nat}{w w':World}(h:Off bs w w')(hE:∀b∈bs,b=E∨w.heap.size<=b):EF E w w':=
 ⟨h.os,h.tape,h.output,h.size,λk hk hn=>h.block k hk (by intro hm;rcases hE k hm with e|e;exact hn e;omega)⟩
theorem Off.more{bs cs:List Nat}{w w':World}(h:Off bs w w')(hs:∀b∈bs,b∈cs∨w.heap.size<=b):Off cs w w':=
 ⟨h.os,h.tape,h.output,h.size,λk hk hn=>h.block k hk (by intro hm;rcases hs k hm with e|e;exact hn e;omega)⟩
theorem Off.grown{bs:List Nat}{w w1 w2:World}{r:Option Nat}(h:Off bs w w1)(hg:w1.grownBy w2 r)(hr:∀b,r=some b->b∈bs∨w.heap.size<=b):Off bs w w2:=by
 refine⟨hg.os.trans h.os,hg.tape.trans h.tape,hg.output.trans h.output,Nat.le_trans h.size hg.size,λk hk hn=>?_⟩;rw[hg.block k (Nat.lt_of_lt_of_le hk h.size) (by intro e;rcases hr k e.symm with h1|h1;exact hn h1;omega)];exact h.block k hk hn
theorem Off.below{w w':World}{bs:List Nat}(h:Off bs w w')(hb:∀b∈bs,w.heap.size<=b):Below w.heap.size w w':=
 (Below.refl _ w).grown (row:=none) ⟨h.os,h.tape,h.output,h.size,λk hk _=>h.block k hk (by intro hm;have:=hb k hm;omega)⟩ (Nat.le_refl _) (λ_ e=>by cases e)
theorem RowS.off{α:Type}{cells:α->List Value}{sub:α->List Nat}{ok:World->α->Prop}{e:TypeId}{size:Nat}(hok:OkFr sub ok){w w':World}{lo:Nat}{v:Value}{xs:List α}(h:RowS cells sub ok e size w lo v xs){bs:List Nat}(ho:Off bs w w')(hn:∀b∈bs,b<lo∨w.heap.size<=b∨b∉rowB sub v xs):RowS cells sub ok e size w' lo v xs:=
 h.fr hok ho.size λb hb=>ho.block b (h.rg b hb).2 (by intro hm;have:=h.rg b hb;rcases hn b hm with h1|h1|h1;omega;omega;exact h1 hb)
structure Bx3 (w:World) (b:Nat) (x y z:Value):Prop where
 c0:w.cell? ⟨b,0,none⟩=some x
 c1:w.cell? ⟨b,1,none⟩=some y
 c2:w.cell? ⟨b,2,none⟩=some z
 f0:w.frozen? ⟨b,0,none⟩=false
 f1:w.frozen? ⟨b,1,none⟩=false
 f2:w.frozen? ⟨b,2,none⟩=false
theorem Bx3.new(w:World)(x y z:Value)(t:TypeId):Bx3 (w.alloc (.cells #[x,y,z] t)) w.heap.size x y z:=⟨by simp,by simp,by simp,by simp,by simp,by simp⟩
theorem Bx3.lt{w:World}{b:Nat}{x y z:Value}(h:Bx3 w b x y z):b<w.heap.size:=block_lt_of_cell h.c0
theorem Bx3.of_block{w w':World}{b:Nat}{x y z:Value}(h:Bx3 w b x y z)(e:w'.heap[b]?=w.heap[b]?):Bx3 w' b x y z:=by
 refine⟨?_,?_,?_,?_,?_,?_⟩
 ·rw[World.cell?_of_block (a:=⟨b,0,none⟩) e];exact h.c0
 ·rw[World.cell?_of_block (a:=⟨b,1,none⟩) e];exact h.c1
 ·rw[World.cell?_of_block (a:=⟨b,2,none⟩) e];exact h.c2
 ·rw[World.frozen?_of_block (a:=⟨b,0,none⟩) e];exact h.f0
 ·rw[World.frozen?_of_block (a:=⟨b,1,none⟩) e];exact h.f1
 ·rw[World.frozen?_of_block (a:=⟨b,2,none⟩) e];exact h.f2
theorem Bx3.off{bs:List Nat}{w w':World}{b:Nat}{x y z:Value}(h:Bx3 w b x y z)(ho:Off bs w w')(hn:b∉bs):Bx3 w' b x y z:=h.of_block (ho.block b h.lt hn)
theorem Bx3.ef{E:Nat}{w w':World}{b:Nat}{x y z:Value}(h:Bx3 w b x y z)(hE:EF E w w')(hne:b≠E):Bx3 w' b x y z:=h.of_block (hE.block b h.lt hne)
theorem Bx3.keep{w w':World}{b:Nat}{x y z:Value}(h:Bx3 w b x y z)(hb:Below w.heap.size w w'):Bx3 w' b x y z:=h.of_block (hb.block b h.lt)
theorem Bx3.set0{w:World}{b:Nat}{x y z:Value}(h:Bx3 w b x y z)(u:Value):Bx3 (w.setCell ⟨b,0,none⟩ u) b u y z:=
 ⟨World.cell?_setCell_same _ _ _ h.c0,by rw[World.cell?_setCell_other _ _ _ _ (off_ne (by omega))];exact h.c1,by rw[World.cell?_setCell_other _ _ _ _ (off_ne (by omega))];exact h.c2,by rw[World.frozen?_setCell];exact h.f0,by rw[World.frozen?_setCell];exact h.f1,by rw[World.frozen?_setCell];exact h.f2⟩
theorem Bx3.set1{w:World}{b:Nat}{x y z:Value}(h:Bx3 w b x y z)(u:Value):Bx3 (w.setCell ⟨b,1,none⟩ u) b x u z:=
 ⟨by rw[World.cell?_setCell_other _ _ _ _ (off_ne (by omega))];exact h.c0,World.cell?_setCell_same _ _ _ h.c1,by rw[World.cell?_setCell_other _ _ _ _ (off_ne (by omega))];exact h.c2,by rw[World.frozen?_setCell];exact h.f0,by rw[World.frozen?_setCell];exact h.f1,by rw[World.frozen?_setCell];exact h.f2⟩
theorem Bx3.set2{w:World}{b:Nat}{x y z:Value}(h:Bx3 w b x y z)(u:Value):Bx3 (w.setCell ⟨b,2,none⟩ u) b x y u:=
 ⟨by rw[World.cell?_setCell_other _ _ _ _ (off_ne (by omega))];exact h.c0,by rw[World.cell?_setCell_other _ _ _ _ (off_ne (by omega))];exact h.c1,World.cell?_setCell_same _ _ _ h.c2,by rw[World.frozen?_setCell];exact h.f0,by rw[World.frozen?_setCell];exact h.f1,by rw[World.frozen?_setCell];exact h.f2⟩
theorem Bx3.put{w:World}{b:Nat}{x y z:Value}(h:Bx3 w b x y z)(x' y' z':Value):Bx3 (((w.setCell ⟨b,0,none⟩ x').setCell ⟨b,1,none⟩ y').setCell ⟨b,2,none⟩ z') b x' y' z':=((h.set0 x').set1 y').set2 z'
theorem Tryz.altI:(Tryz.prog.info? 91).map (λi=>(i.zero,i.size,i.bytes))=some (some (.agg #[.int .i64 0,.int .i64 0]),2,16):=by kernel_rfl
theorem Tryz.impI:(Tryz.prog.info? 58).map (λi=>(i.zero,i.size,i.bytes))=some (some (.agg #[.string ⟨#[]⟩,.int .i64 0]),2,24):=by kernel_rfl
theorem Tryz.insI:(Tryz.prog.info? 89).map (λi=>(i.zero,i.size,i.bytes))=some (some (.agg #[.int .i64 0,.int .i64 0,.slice none 0 0]),3,40):=by kernel_rfl
theorem Tryz.globI:(Tryz.prog.info? 61).map (λi=>(i.zero,i.size,i.bytes))=some (some (.agg #[.string ⟨#[]⟩,.int .i64 0,.bool false,.slice none 0 0]),4,56):=by kernel_rfl
structure Bx2 (w:World) (b:Nat) (x y:Value):Prop where
 c0:w.cell? ⟨b,0,none⟩=some x
 c1:w.cell? ⟨b,1,none⟩=some y
 f0:w.frozen? ⟨b,0,none⟩=false
 f1:w.frozen? ⟨b,1,none⟩=false
theorem Bx2.new(w:World)(x y:Value)(t:TypeId):Bx2 (w.alloc (.cells #[x,y] t)) w.heap.size x y:=⟨by simp,by simp,by simp,by simp⟩
theorem Bx2.lt{w:World}{b:Nat}{x y:Value}(h:Bx2 w b x y):b<w.heap.size:=block_lt_of_cell h.c0
theorem Bx2.of_block{w w':World}{b:Nat}{x y:Value}(h:Bx2 w b x y)(e:w'.heap[b]?=w.heap[b]?):Bx2 w' b x y:=by
 refine⟨?_,?_,?_,?_⟩
 ·rw[World.cell?_of_block (a:=⟨b,0,none⟩) e];exact h.c0
 ·rw[World.cell?_of_block (a:=⟨b,1,none⟩) e];exact h.c1
 ·rw[World.frozen?_of_block (a:=⟨b,0,none⟩) e];exact h.f0
 ·rw[World.frozen?_of_block (a:=⟨b,1,none⟩) e];exact h.f1
theorem Bx2.off{bs:List Nat}{w w':World}{b:Nat}{x y:Value}(h:Bx2 w b x y)(ho:Off bs w w')(hn:b∉bs):Bx2 w' b x y:=h.of_block (ho.block b h.lt hn)
theorem Bx2.set1{w:World}{b:Nat}{x y:Value}(h:Bx2 w b x y)(u:Value):Bx2 (w.setCell ⟨b,1,none⟩ u) b x u:=
 ⟨by rw[World.cell?_setCell_other _ _ _ _ (off_ne (by omega))];exact h.c0,World.cell?_setCell_same _ _ _ h.c1,by rw[World.frozen?_setCell];exact h.f0,by rw[World.frozen?_setCell];exact h.f1⟩
theorem RowS.notIn{α:Type}{cells:α->List Value}{sub:α->List Nat}{ok:World->α->Prop}{e:TypeId}{size:Nat}{w:World}{lo:Nat}{v:Value}{xs:List α}(h:RowS cells sub ok e size w lo v xs){b:Nat}(hb:b<lo):b∉vB v:=λhm=>by have:=h.rg b (List.mem_append_left _ hm);omega
theorem Off.app{w w6:World}{v:Value}(hg:w.grownBy w6 v.ownBlock):Off (vB v) w w6:=(Off.refl _ _).grown hg λ_ e=>Or.inl (mem_vB.2 e)
theorem RowS.away{α:Type}{cells:α->List Value}{sub:α->List Nat}{ok:World->α->Prop}{e:TypeId}{size:Nat}{w:World}{lo:Nat}{v:Value}{xs:List α}(h:RowS cells sub ok e size w lo v xs){E:Nat}(hE:E<lo):Away E v:=by
 intro p n c hv a ha;subst hv ha;rcases row_at h.own with⟨h1,-⟩|⟨g,cap,h1,-⟩
 ·simp at h1
 ·simp only[Value.slice.injEq,Option.some.injEq]at h1;have h2:=h.rg g (List.mem_append_left _ (mem_vB.2 (by rw[h1.1];rfl)));rw[h1.1];show g≠E;omega
structure Bx4 (w:World) (b:Nat) (x y z u:Value):Prop where
 c0:w.cell? ⟨b,0,none⟩=some x
 c1:w.cell? ⟨b,1,none⟩=some y
 c2:w.cell? ⟨b,2,none⟩=some z
 c3:w.cell? ⟨b,3,none⟩=some u
 f0:w.frozen? ⟨b,0,none⟩=false
 f1:w.frozen? ⟨b,1,none⟩=false
 f2:w.frozen? ⟨b,2,none⟩=false
 f3:w.frozen? ⟨b,3,none⟩=false
theorem Bx4.new(w:World)(x y z u:Value)(t:TypeId):Bx4 (w.alloc (.cells #[x,y,z,u] t)) w.heap.size x y z u:=⟨by simp,by simp,by simp,by simp,by simp,by simp,by simp,by simp⟩
theorem Bx4.lt{w:World}{b:Nat}{x y z u:Value}(h:Bx4 w b x y z u):b<w.heap.size:=block_lt_of_cell h.c0
theorem Bx4.of_block{w w':World}{b:Nat}{x y z u:Value}(h:Bx4 w b x y z u)(e:w'.heap[b]?=w.heap[b]?):Bx4 w' b x y z u:=by
 refine⟨?_,?_,?_,?_,?_,?_,?_,?_⟩
 ·rw[World.cell?_of_block (a:=⟨b,0,none⟩) e];exact h.c0
 ·rw[World.cell?_of_block (a:=⟨b,1,none⟩) e];exact h.c1
 ·rw[World.cell?_of_block (a:=⟨b,2,none⟩) e];exact h.c2
 ·rw[World.cell?_of_block (a:=⟨b,3,none⟩) e];exact h.c3
 ·rw[World.frozen?_of_block (a:=⟨b,0,none⟩) e];exact h.f0
 ·rw[World.frozen?_of_block (a:=⟨b,1,none⟩) e];exact h.f1
 ·rw[World.frozen?_of_block (a:=⟨b,2,none⟩) e];exact h.f2
 ·rw[World.frozen?_of_block (a:=⟨b,3,none⟩) e];exact h.f3
theorem Bx4.off{bs:List Nat}{w w':World}{b:Nat}{x y z u:Value}(h:Bx4 w b x y z u)(ho:Off bs w w')(hn:b∉bs):Bx4 w' b x y z u:=h.of_block (ho.block b h.lt hn)
theorem Bx4.ef{E:Nat}{w w':World}{b:Nat}{x y z u:Value}(h:Bx4 w b x y z u)(hE:EF E w w')(hne:b≠E):Bx4 w' b x y z u:=h.of_block (hE.block b h.lt hne)
theorem Bx4.keep{w w':World}{b:Nat}{x y z u:Value}(h:Bx4 w b x y z u)(hb:Below w.heap.size w w'):Bx4 w' b x y z u:=h.of_block (hb.block b h.lt)
theorem Bx4.set1{w:World}{b:Nat}{x y z u:Value}(h:Bx4 w b x y z u)(v:Value):Bx4 (w.setCell ⟨b,1,none⟩ v) b x v z u:=
 ⟨by rw[World.cell?_setCell_other _ _ _ _ (off_ne (by omega))];exact h.c0,World.cell?_setCell_same _ _ _ h.c1,by rw[World.cell?_setCell_other _ _ _ _ (off_ne (by omega))];exact h.c2,by rw[World.cell?_setCell_other _ _ _ _ (off_ne (by omega))];exact h.c3,by rw[World.frozen?_setCell];exact h.f0,by rw[World.frozen?_setCell];exact h.f1,by rw[World.frozen?_setCell];exact h.f2,by rw[World.frozen?_setCell];exact h.f3⟩
theorem Bx4.set2{w:World}{b:Nat}{x y z u:Value}(h:Bx4 w b x y z u)(v:Value):Bx4 (w.setCell ⟨b,2,none⟩ v) b x y v u:=
 ⟨by rw[World.cell?_setCell_other _ _ _ _ (off_ne (by omega))];exact h.c0,by rw[World.cell?_setCell_other _ _ _ _ (off_ne (by omega))];exact h.c1,World.cell?_setCell_same _ _ _ h.c2,by rw[World.cell?_setCell_other _ _ _ _ (off_ne (by omega))];exact h.c3,by rw[World.frozen?_setCell];exact h.f0,by rw[World.frozen?_setCell];exact h.f1,by rw[World.frozen?_setCell];exact h.f2,by rw[World.frozen?_setCell];exact h.f3⟩
theorem Bx4.set3{w:World}{b:Nat}{x y z u:Value}(h:Bx4 w b x y z u)(v:Value):Bx4 (w.setCell ⟨b,3,none⟩ v) b x y z v:=
 ⟨by rw[World.cell?_setCell_other _ _ _ _ (off_ne (by omega))];exact h.c0,by rw[World.cell?_setCell_other _ _ _ _ (off_ne (by omega))];exact h.c1,by rw[World.cell?_setCell_other _ _ _ _ (off_ne (by omega))];exact h.c2,World.cell?_setCell_same _ _ _ h.c3,by rw[World.frozen?_setCell];exact h.f0,by rw[World.frozen?_setCell];exact h.f1,by rw[World.frozen?_setCell];exact h.f2,by rw[World.frozen?_setCell];exact h.f3⟩
theorem stays_alloc_app{w X0 w6:World}{v:Value}{ob:Obj}(hg:(X0.alloc ob).grownBy w6 v.ownBlock){b lo:Nat}(hb:b<X0.heap.size){α:Type}{cells:α->List Value}{sub:α->List Nat}{ok:World->α->Prop}{e:TypeId}{size:Nat}{xs:List α}(h:RowS cells sub ok e size w lo v xs)(hl:b<lo):w6.heap[b]?=X0.heap[b]?:=by
 rw[(Off.app hg).block b (by simp;omega) (h.notIn hl)];exact((Below.refl X0.heap.size X0).alloc (Nat.le_refl _) ob).block b hb
theorem mark_step(s:ByteArray)(k:Nat)(hk:k<4)(h:k<s.size):rdMark s (4-k) k=if s[k].toNat=(⟨#[84,65,82,78]⟩:ByteArray)[k].toNat then rdMark s (4-(k+1)) (k+1) else .error (8,k):=by
 rw[show 4-k=(4-(k+1))+1 by omega,rdMark];have h1:s.data.toList.getD k 0=s[k]:=by
  have h2:k<s.data.size:=h;simp only[List.getD,Array.getElem?_toList,Array.getElem?_eq_getElem h2];rfl
 have h3:(⟨#[84,65,82,78]⟩:ByteArray)[k].toNat=mkB k:=by
  obtain rfl|rfl|rfl|rfl:k=0∨k=1∨k=2∨k=3:=by omega
  all_goals rfl
 rw[h1,h3]
end Go.Proofs.YtcpcplaeaimmpaaGreatDoor
