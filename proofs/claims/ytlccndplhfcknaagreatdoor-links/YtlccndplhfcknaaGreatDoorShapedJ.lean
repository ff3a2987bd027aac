import Derived.Test.YtlccndplhfcknaaGreatDoorVals2J
import Derived.Test.YtlccndplhfcknaaGreatDoorRefFitsJ
set_option maxRecDepth 100000
set_option maxHeartbeats 4000000
namespace Go.Proofs.YtlccndplhfcknaaGreatDoor
open Go.RowKit Go.Sort
def noN(l:List LImp)(n:ByteArray)(j:Nat):Bool:=(l.take j).all λx=>!(x.name.toList==n.toList)
theorem noN_next(l:List LImp)(n:ByteArray)(j:Nat)(hj:j<l.length):noN l n (j+1)=(noN l n j && !(l[j].name.toList==n.toList)):=by
 unfold noN;rw[List.take_succ_eq_append_getElem hj,List.all_append];simp
theorem noN_all(l:List LImp)(n:ByteArray):noN l n l.length=!hasN l n:=by
 unfold noN hasN;rw[List.take_length,List.all_eq_not_any_not];congr 1
 congr 1
 funext x
 rw[Bool.not_not,Bool.eq_iff_iff,beq_iff_eq,decide_eq_true_eq,cmpB_eq0,ByteArray.toList_eq,ByteArray.toList_eq];constructor
 ·intro h;obtain⟨⟨⟨x⟩⟩,_⟩:=x;obtain⟨⟨y⟩⟩:=n;simp at h;simp[h]
 ·rintro rfl;rfl
def insUpto(code:List LIns)(j:Nat):Bool:=(code.take j).all λx=>insG x.op x.a x.alts
theorem insUpto_next(code:List LIns)(j:Nat)(hj:j<code.length):insUpto code (j+1)=(insUpto code j && insG code[j].op code[j].a code[j].alts):=by
 unfold insUpto;rw[List.take_succ_eq_append_getElem hj,List.all_append];simp
theorem Shaped_any(O:LObj)(v:Value)(w:World)(hO:ObjAt w v O):
 Calls Tryz.prog 29 #[v] w λe w'=>e=.returned (.bool (valsG O))∧Below w.heap.size w w':=by
 obtain⟨iv,gv,rfl,hsz,hI,hG⟩:=hO;obtain⟨ip,ic,rfl,hi1,hicell⟩:=hI.open;obtain⟨p,cap,rfl,hs1,hcell⟩:=hG.open;have HC:Hid (∀w',Below w.heap.size w w'->GlobsIn w' p O.globs):=hcell;have HCI:Hid (∀w',Below w.heap.size w w'->ImpsIn w' ip O.imps):=hicell;have HV:Hid (valsG O=(nmB O.name && impsFrom ⟨#[]⟩ O.imps && globsFrom O.imps ⟨#[]⟩ O.globs)):=rfl;clear hcell hicell hG hI;generalize valsG O=V at*;generalize O.name=onm at*;generalize O.imps=imps at*;generalize O.globs=globs at*;go_enter Tryz.func29,Tryz.ntmps29;go_wp2_with (first|(go_at_call 46;refine(isName_any _ _ hsz).mono ?_;rintro e w' ⟨rfl,rfl⟩))
 go_loopw [3,4,5] (λs3 s4 s5 wr=>∃(k:Nat) (last:ByteArray) (ok:Bool),k<=imps.length∧s3=.bool ok∧s4=.string last∧s5=.int .i64 k∧Hid (V=(ok && impsFrom last (imps.drop k) && globsFrom imps ⟨#[]⟩ globs))∧Hid (Below w.heap.size w wr)∧wr.cell? ⟨w.heap.size,1,none⟩=some (.slice ip imps.length ic)∧wr.cell? ⟨w.heap.size,2,none⟩=some (.slice p globs.length cap)∧w.heap.size<wr.heap.size) (λ_ _ s5 _=>imps.length-(intOf s5).toNat)
 case atStart=>exact⟨0,_,_,Nat.zero_le _,rfl,rfl,rfl,HV,(Below.refl _ _).alloc (Nat.le_refl _) _,by simp,by simp,by simp⟩
 case round=>
  obtain⟨k,last,ok,hk,rfl,rfl,rfl,ha,hb,q1,q2,hz⟩:=hrel;clear HV;by_cases hlt:k<imps.length
  ·obtain⟨b,o,rfl,c0,c1,hn1⟩:=HCI.out _ hb.out k hlt;have HS:Hid (∀okN:Bool,(ok && (nmB imps[k].name && gtB imps[k].name last && (decide (0<=imps[k].arity) && decide (imps[k].arity<=20))))=okN->V=(okN && impsFrom imps[k].name (imps.drop (k+1)) && globsFrom imps ⟨#[]⟩ globs)):=by
    intro okN h;rw[ha.out,impsFrom_at last imps k hlt,<-h];unfold arB;simp only[Bool.and_assoc]
   clear ha;generalize imps[k].name=nm at*;generalize imps[k].arity=ar at*;have hg2:=le_eq nm last;generalize gtB nm last=gt at*;have HNM:Hid (∀w,Calls Tryz.prog 46 #[.string nm] w λe w'=>e=.returned (.bool (nmB nm))∧w'=w):=λw=>isName_any _ w hn1;generalize nmB nm=nmb at*;have hbs:=hb.out.size;go_wp2_with (first|(go_at_call 46;refine(HNM.out _).mono ?_;rintro e w' ⟨rfl,rfl⟩))
   all_goals exact⟨⟨k+1,nm,_,by omega,rfl,rfl,by go_num,HS.out _ (by clear HC HCI HNM HS;first|(simp_all;done)|(simp_all;omega)),hb.out.alloc hbs _,cell_keep ((Below.refl _ _).alloc (Nat.le_refl _) _) q1,cell_keep ((Below.refl _ _).alloc (Nat.le_refl _) _) q2,by simp;omega⟩,by simp[intOf];omega⟩
  ·have HV:Hid (V=(ok && globsFrom imps ⟨#[]⟩ globs)):=by
    show _=_;rw[ha.out,List.drop_of_length_le (by omega)];simp[impsFrom]
   clear ha;rename World=>W1
   go_wp2;go_loopw [3,4,8] (λs3 s4 s8 wr=>∃(k:Nat) (last:ByteArray) (ok:Bool),k<=globs.length∧s3=.bool ok∧s4=.string last∧s8=.int .i64 k∧Hid (V=(ok && globsFrom imps last (globs.drop k)))∧Hid (Below w.heap.size w wr)∧wr.cell? ⟨w.heap.size,1,none⟩=some (.slice ip imps.length ic)∧wr.cell? ⟨w.heap.size,2,none⟩=some (.slice p globs.length cap)∧w.heap.size<wr.heap.size) (λ_ _ s8 _=>globs.length-(intOf s8).toNat)
   case atStart=>exact⟨0,_,_,Nat.zero_le _,rfl,rfl,rfl,HV,hb,q1,q2,hz⟩
   case round=>
    clear HV hb q1 q2 hz;obtain⟨k,last,ok,hk,rfl,rfl,rfl,ha,hb,q1,q2,hz⟩:=hrel;by_cases hlt:k<globs.length
    ·obtain⟨b,o,cp,cn,cc,rfl,c0,c1,c2,c3,hC,hn1⟩:=HC.out _ hb.out k hlt;obtain⟨_,_,e3,hcl,hcc⟩:=hC.open;obtain⟨rfl,rfl,rfl⟩:cp=_∧cn=globs[k].code.length∧cc=_:=by simpa using e3
     have HCC:Hid (∀w',Below wr.heap.size wr w'->CodeIn w' cp globs[k].code):=hcc;have HS:Hid (∀okN:Bool,((ok && (nmB globs[k].name && gtB globs[k].name last && (decide (0<=globs[k].arity) && decide (globs[k].arity<=20)) && decide ((globs[k].code.length:Int)<=65535))) && noN imps globs[k].name imps.length && insUpto globs[k].code globs[k].code.length)=okN->V=(okN && globsFrom imps globs[k].name (globs.drop (k+1)))):=by
      intro okN h;rw[ha.out,globsFrom_at imps last globs k hlt,<-h,noN_all];unfold arB codeG insUpto;rw[List.take_length];have e:decide ((globs[k].code.length:Int)<=65535)=decide (globs[k].code.length<=65535):=by apply decide_eq_decide.2;omega
      rw[e];generalize nmB globs[k].name=b1;generalize gtB globs[k].name last=b2;generalize decide (0<=globs[k].arity)=b3;generalize decide (globs[k].arity<=20)=b4;generalize decide (globs[k].code.length<=65535)=b5;generalize hasN imps globs[k].name=b6;generalize (globs[k].code.all λx=>insG x.op x.a x.alts)=b7;generalize globsFrom imps globs[k].name (globs.drop (k+1))=b8;cases ok<;>cases b1<;>cases b2<;>cases b3<;>cases b4<;>cases b5<;>cases b6<;>cases b7<;>cases b8<;>rfl
     clear ha hcc e3 hC;generalize globs[k].name=nm at*;generalize globs[k].arity=ar at*;generalize globs[k].exp=ex at*;generalize globs[k].code=code at*;have hg2:=le_eq nm last;have HNM:Hid (∀w,Calls Tryz.prog 46 #[.string nm] w λe w'=>e=.returned (.bool (nmB nm))∧w'=w):=λw=>isName_any _ w hn1;generalize gtB nm last=gt at*;generalize nmB nm=nmb at*;have hbs:=hb.out.size;obtain⟨okA,hokA⟩:∃okA:Bool,(ok && (nmb && gt && (decide (0<=ar) && decide (ar<=20)) && decide ((code.length:Int)<=65535)))=okA:=⟨_,rfl⟩;have HOK:Hid ((ok && (nmb && gt && (decide (0<=ar) && decide (ar<=20)) && decide ((code.length:Int)<=65535)))=okA):=hokA;have HS2:Hid (∀okN:Bool,(okA && noN imps nm imps.length && insUpto code code.length)=okN->V=(okN && globsFrom imps nm (globs.drop (k+1)))):=by
      intro okN h;exact HS.out okN (by rw[hokA];exact h)
     clear hokA HS;rename World=>W2
     have hba:∀ob,Below W2.heap.size W2 (W2.alloc ob):=λob=>(Below.refl _ _).alloc (Nat.le_refl _) _;have HBA:Hid (∀ob,Below W2.heap.size W2 (W2.alloc ob)):=hba;clear hba;go_wp2_with (first|(go_at_call 46;refine(HNM.out _).mono ?_;rintro e w' ⟨rfl,rfl⟩))
     all_goals
      go_loopw [3,11] (λs3 s11 wr=>∃(j:Nat) (okj:Bool),j<=imps.length∧s3=.bool okj∧s11=.int .i64 j∧Hid (okj=(okA && noN imps nm j))∧Hid (Below W2.heap.size W2 wr)∧wr.cell? ⟨w.heap.size,1,none⟩=some (.slice ip imps.length ic)∧wr.cell? ⟨W2.heap.size,0,none⟩=some (.string nm)∧wr.cell? ⟨W2.heap.size,3,none⟩=some (.slice cp code.length cc)∧W2.heap.size<wr.heap.size) (λ_ s11 _=>imps.length-(intOf s11).toNat)
      case atStart=>
       refine⟨0,_,Nat.zero_le _,rfl,rfl,?_,HBA.out _,cell_keep (HBA.out _) q1,by simp,by simp,by simp⟩;show _=_;rw[<-HOK.out];clear HC HCI HNM HS2 HCC HOK;first|(simp_all[noN];done)|(simp_all[noN];omega)
      case round=>
       obtain⟨j,okj,hj,rfl,rfl,he,hbj,r1,g0,g3,hzj⟩:=hrel;by_cases hjl:j<imps.length
       ·obtain⟨b2,o2,rfl,y0,y1,-⟩:=HCI.out _ (hb.out.trans (hbj.out.mono hbs)) j hjl;have HE:Hid (∀okN:Bool,(okj && !(imps[j].name.toList==nm.toList))=okN->okN=(okA && noN imps nm (j+1))):=by
         intro okN h;rw[noN_next imps nm j hjl,<-h,he.out,Bool.and_assoc]
        generalize imps[j].name=n2 at*;generalize imps[j].arity=a2 at*;cases okj
        ·go_wp2;go_quiet (fail);go_wp2;exact⟨⟨j+1,_,by omega,rfl,by go_num,HE.out _ rfl,below_drewN hbj.out _,r1,g0,g3,hzj⟩,by simp[intOf];omega⟩
        ·go_wp2;go_quiet (fail);go_wp2;exact⟨⟨j+1,_,by omega,rfl,by go_num,HE.out _ rfl,below_drewN hbj.out _,r1,g0,g3,hzj⟩,by simp[intOf];omega⟩
       ·have HE2:Hid (okj=(okA && noN imps nm imps.length)):=by
         show _=_;rw[he.out,show j=imps.length by omega]
        clear he;rename World=>W4
        go_wp2;go_loopw [3,12] (λs3 s12 wr=>∃(i:Nat) (oki:Bool),i<=code.length∧s3=.bool oki∧s12=.int .i64 i∧Hid (oki=(okA && noN imps nm imps.length && insUpto code i))∧Hid (Below W2.heap.size W2 wr)∧wr.cell? ⟨W2.heap.size,3,none⟩=some (.slice cp code.length cc)∧W2.heap.size<wr.heap.size) (λ_ s12 _=>code.length-(intOf s12).toNat)
        case atStart=>exact⟨0,_,Nat.zero_le _,rfl,rfl,by show _=_;rw[HE2.out];simp[insUpto],hbj,g3,hzj⟩
        case round=>
         obtain⟨i,oki,hi,rfl,rfl,he,hbi,g3,hzi⟩:=hrel;clear HE2 hbj hzj;by_cases hil:i<code.length
         ·obtain⟨b3,o3,ap,an,ac,rfl,x0,x1,x2,hA⟩:=HCC.out _ hbi.out i hil;have HFT:Hid (Calls Tryz.prog 47 #[.agg #[.int .i64 code[i].op,.int .i64 code[i].a,.slice ap an ac]] wr λe w'=>e=.returned (.bool (insG code[i].op code[i].a code[i].alts))∧Below wr.heap.size wr w'):=refFits_any _ _ code[i].alts _ wr hA;have HE:Hid (∀okN:Bool,(oki && insG code[i].op code[i].a code[i].alts)=okN->okN=(okA && noN imps nm imps.length && insUpto code (i+1))):=by
           intro okN h;rw[insUpto_next code i hil,<-h,he.out,Bool.and_assoc (okA && noN imps nm imps.length)]
          clear hA he;generalize insG code[i].op code[i].a code[i].alts=ig at*;rename World=>W5
          go_wp2_with (first|(go_at_call 47;refine(HFT.out).mono ?_;rintro e w6 ⟨rfl,hb6⟩))
          all_goals exact⟨⟨i+1,_,by omega,rfl,by go_num,HE.out _ (by simp_all),hbi.out.trans (hb6.mono (by have:=hbi.out.size;omega)),cell_keep hb6 g3,by have:=hb6.size;omega⟩,by simp[intOf];omega⟩
         ·have HF:Hid (V=(oki && globsFrom imps nm (globs.drop (k+1)))):=HS2.out _ (by rw[he.out,show i=code.length by omega]);go_wp2;exact⟨⟨k+1,nm,_,by omega,rfl,rfl,by go_num,HF,hb.out.trans (hbi.out.mono hbs),cell_keep hbi.out q1,cell_keep hbi.out q2,by omega⟩,by simp[intOf];omega⟩
    ·go_wp2;go_ret;exact⟨ret_bool (by rw[ha.out,List.drop_of_length_le (by omega)];simp[globsFrom]),hb.out⟩
end Go.Proofs.YtlccndplhfcknaaGreatDoor
