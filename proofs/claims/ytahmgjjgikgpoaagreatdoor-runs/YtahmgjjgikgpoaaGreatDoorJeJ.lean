import Derived.Test.YtahmgjjgikgpoaaGreatDoorJaJ
import Derived.Test.YtahmgjjgikgpoaaGreatDoorCardR1J
set_option maxRecDepth 100000
set_option maxHeartbeats 8000000
namespace Go.Proofs.YtahmgjjgikgpoaaGreatDoor
open Go.RowKit Go.Sort
theorem errC_ok{adr:Nat->Addr}{O:LObj}(h:okO O=true):errC adr O=.nilIface:=by
 unfold okO at h;rw[Bool.and_eq_true]at h;unfold errC;rw[if_pos h.1];cases hs:sBad (O.imps.length+O.globs.length) O.globs 0 with
 |none=>rfl
 |some r=>rw[hs]at h;simp at h
theorem errC_bad{adr:Nat->Addr}{O:LObj}(h:okO O=false):∃t x,errC adr O=.iface t x:=by
 unfold okO at h;unfold errC;cases hv:valsG O with
 |false=>exact⟨_,_,rfl⟩
 |true=>
  rw[hv]at h;cases hs:sBad (O.imps.length+O.globs.length) O.globs 0 with
  |none=>rw[hs]at h;simp at h
  |some r=>obtain⟨e,k,i⟩:=r;exact⟨_,_,rfl⟩
def errK(adr:Nat->Addr)(i:Nat):Option Nat->Value
 |some k=>errF (adr i) 0 (k:Int)
 |none=>.nilIface
theorem ObjsIn.cells{w:World}{p:Option Addr}{l:List LObj}(h:ObjsIn w p l){k:Nat}(hk:k<l.length):∃b o ip ic gp gc,p=some ⟨b,o,none⟩∧w.cell? ⟨b,o+k*3,none⟩=some (.string l[k].name)∧w.cell? ⟨b,o+k*3+1,none⟩=some (.slice ip l[k].imps.length ic)∧w.cell? ⟨b,o+k*3+2,none⟩=some (.slice gp l[k].globs.length gc)∧ObjAt w (.agg #[.string l[k].name,.slice ip l[k].imps.length ic,.slice gp l[k].globs.length gc]) l[k]:=h k hk
theorem unsound_any(Os:List LObj)(v:Value)(w:World)(adr:Nat->Addr)(h:ObjsAt w v Os)(hT:TabAt w)(hS:SentAt w adr):
 Calls Tryz.prog 24 #[v] w λe w'=>e=.returned (errK adr 0 (fstF (λ_ O=>!okO O) Os 0))∧Below w.heap.size w w':=by
 obtain⟨p,cap,rfl,hs,hI⟩:=h;have HI:Hid (∀w',Below w.heap.size w w'->ObjsIn w' p Os):=λw' hb=>hI.keep hb;have HT:=hid hT;have HS0:=hid hS;unfold short at hs;clear hI hT hS;go_enter Tryz.func24,Tryz.ntmps24;go_wp2;go_loopw [7] (λkv wr=>∃k:Nat,k<=Os.length∧kv=.int .i64 (k:Int)∧Hid (fstF (λ_ O=>!okO O) Os 0=fstF (λ_ O=>!okO O) (Os.drop k) k∧Below w.heap.size w wr)) (λkv _=>Os.length-(intOf kv).toNat)
 case atStart=>exact⟨0,Nat.zero_le _,rfl,rfl,Below.refl _ _⟩
 case round=>
  obtain⟨k,hk,rfl,HS⟩:=hrel;rename World=>wr
  by_cases hlt:k<Os.length
  ·have h0:(0:Int)<=(k:Int):=by omega
   have h1:(k:Int)<(Os.length:Int):=by omega
   have HE:=hid (HS.out.1.trans (fstF_at _ Os hlt));have HB:=hid HS.out.2;obtain⟨b,o,ip,ic,gp,gc,rfl,c0,c1,c2,hO⟩:=(HI.out _ HS.out.2).cells hlt;have hbz:=HB.out.size;have HC:=hid (λob=>objCheck_any Os[k] _ (wr.alloc ob) adr (hO.keep ((Below.refl _ _).alloc (Nat.le_refl _) _)) (HT.out.keep (HB.out.alloc hbz _)) (HS0.out.keep (HB.out.alloc hbz _)));clear hO HS;cases hok:okO Os[k]with
   |true=>
    have HE2:Hid (fstF (λ_ O=>!okO O) Os 0=fstF (λ_ O=>!okO O) (Os.drop (k+1)) (k+1)):=by show _=_;rw[HE.out,hok];rfl
    rw[errC_ok hok]at HC;clear HE hok;go_wp2_with (first
     |(go_at_call 23;refine(HC.out _).mono ?_;rintro e w1 ⟨rfl,hb1⟩;have HB1:=hid ((HB.out.alloc hbz _).trans (hb1.mono (by simp;omega)));clear hb1))
    go_roundw
    case rel=>exact⟨k+1,by omega,by go_num,HE2.out,HB1.out⟩
    case measure=>simp[intOf];omega
   |false=>
    have HE2:Hid (fstF (λ_ O=>!okO O) Os 0=some k):=by show _=_;rw[HE.out,hok];rfl
    obtain⟨et,ex,he⟩:=errC_bad (adr:=adr) hok;rw[he]at HC;clear HE hok he;have HV:=hid (λw1 (hb:Below w.heap.size w w1)=>(HS0.out.keep hb).c 0 (by omega));simp only[errE]at HV;go_wp2_with (first
     |(go_at_call 23;refine(HC.out _).mono ?_;rintro e w1 ⟨rfl,hb1⟩;have HB1:=hid ((HB.out.alloc hbz _).trans (hb1.mono (by simp;omega)));have hcv:w1.cell? ⟨18,0,none⟩=_:=HV.out _ HB1.out;clear hb1)
     |(go_at_call 42;refine(At_any _ _ _ _).mono ?_;rintro e w2 ⟨rfl,rfl⟩))
    go_ret;exact⟨ret_val (by rw[HE2.out];rfl),HB1.out⟩
  ·obtain rfl:k=Os.length:=by omega
   have hge:¬(Os.length:Int)<(Os.length:Int):=by omega
   go_wp2;go_ret;exact⟨ret_val (by rw[HS.out.1,fstF_end _ _ (Nat.le_refl _)];rfl),HS.out.2⟩
def szG(l:List LGlob)(j:Nat):Nat:=((l.take j).map λg=>g.code.length).sum
def szO(Os:List LObj)(k:Nat):Nat:=((Os.take k).map sz1).sum
theorem szG_succ{l:List LGlob}{j:Nat}(hj:j<l.length):szG l (j+1)=szG l j+l[j].code.length:=by
 unfold szG;rw[List.take_succ_eq_append_getElem hj,List.map_append,List.sum_append];simp
theorem szO_succ{Os:List LObj}{k:Nat}(hk:k<Os.length):szO Os (k+1)=szO Os k+sz1 Os[k]:=by
 unfold szO;rw[List.take_succ_eq_append_getElem hk,List.map_append,List.sum_append];simp
theorem szG_all(l:List LGlob):szG l l.length=(l.map λg=>g.code.length).sum:=by unfold szG;rw[List.take_length]
theorem szO_all(Os:List LObj):szO Os Os.length=sz Os:=by unfold szO sz;rw[List.take_length]
def Shrt(Os:List LObj):Prop:=∀O∈Os,∀g∈O.globs,g.code.length<=65536
theorem szG_le{l:List LGlob}(h:∀g∈l,g.code.length<=65536):∀j,j<=l.length->szG l j<=j*65536
 |0,_=>by simp[szG]
 |j+1,hj=>by
  have:=szG_le h j (by omega);have:=h l[j] (List.getElem_mem _);rw[szG_succ (by omega)];omega
theorem szO_le{Os:List LObj}(hF:Few Os)(h:Shrt Os):∀k,k<=Os.length->szO Os k<=k*200000000000000000
 |0,_=>by simp[szO]
 |k+1,hk=>by
  have h1:=szO_le hF h k (by omega);have h2:=szG_le (h Os[k] (List.getElem_mem _)) _ (Nat.le_refl _);rw[szG_all]at h2;have h3:=(hF.g Os[k] (List.getElem_mem _)).1;rw[szO_succ (by omega)];unfold sz1;omega
theorem instructions_any(Os:List LObj)(v:Value)(w:World)(h:ObjsAt w v Os)(hF:Few Os)(hS:Shrt Os):
 Calls Tryz.prog 27 #[v] w λe w'=>e=.returned (.int .i64 (sz Os:Int))∧Below w.heap.size w w':=by
 obtain⟨p,cap,rfl,hs,hI⟩:=h;have HI:Hid (∀w',Below w.heap.size w w'->ObjsIn w' p Os):=λw' hb=>hI.keep hb;have HF:=hid hF;have HH:=hid hS;have hn8:=hF.n;clear hI hS hF hs;go_enter Tryz.func27,Tryz.ntmps27;go_wp2;go_loopw [3,10] (λnv kv wr=>∃k:Nat,k<=Os.length∧nv=.int .i64 (szO Os k:Int)∧kv=.int .i64 (k:Int)∧Hid (Below w.heap.size w wr)) (λ_ kv _=>Os.length-(intOf kv).toNat)
 case atStart=>exact⟨0,Nat.zero_le _,rfl,rfl,Below.refl _ _⟩
 case round=>
  obtain⟨k,hk,rfl,rfl,HS⟩:=hrel;rename World=>wr
  by_cases hlt:k<Os.length
  ·have h0:(0:Int)<=(k:Int):=by omega
   have h1:(k:Int)<(Os.length:Int):=by omega
   obtain⟨b,o,ip,ic,gp,gc,rfl,c0,c1,c2,hO⟩:=(HI.out _ HS.out).cells hlt;obtain⟨gp',gc',e,hgl,hgi⟩:=hO.globs.2.open;cases e;have HGI:=hid hgi;have hbs:=szO_le HF.out HH.out k (by omega);have hgn:=(HF.out.g Os[k] (List.getElem_mem _)).1;have HZ:=hid (szO_succ hlt);obtain⟨m,hm⟩:∃m,szO Os k=m:=⟨_,rfl⟩;rw[hm]at hbs HZ ⊢;have HGL:=hid (HH.out Os[k] (List.getElem_mem _));clear hgi hO hm;go_wp2;go_loopw [3,17] (λnv jv wx=>∃j:Nat,j<=Os[k].globs.length∧nv=.int .i64 ((m+szG Os[k].globs j:Nat):Int)∧jv=.int .i64 (j:Int)∧Hid (Below wr.heap.size wr wx)) (λ_ jv _=>Os[k].globs.length-(intOf jv).toNat)
   case atStart=>exact⟨0,Nat.zero_le _,rfl,rfl,(Below.refl _ _).alloc (Nat.le_refl _) _⟩
   case round=>
    obtain⟨j,hj,rfl,rfl,HX⟩:=hrel;rename World=>wx
    by_cases hjt:j<Os[k].globs.length
    ·have j0:(0:Int)<=(j:Int):=by omega
     have j1:(j:Int)<(Os[k].globs.length:Int):=by omega
     obtain⟨gb,go,cp,cn,cc,rfl,g0,g1,g2,g3,hC,-⟩:=HGI.out _ HX.out j hjt;obtain⟨cp',cc',e,hcl,-⟩:=hC.open;cases e;have hz:=szG_le HGL.out j (by omega);have hz2:=szG_succ hjt;have HZ2:=hid hz2;generalize szG Os[k].globs j=q at*;generalize Os[k].globs[j].code.length=cl at*;generalize Os[k].globs[j].name=gnm at*;generalize Os[k].globs[j].arity=gar at*;generalize Os[k].globs[j].exp=gex at*;clear hz2 hC;go_wp2;go_roundw
     case rel=>exact⟨j+1,by omega,by rw[HZ2.out];go_num,by go_num,HX.out.alloc HX.out.size _⟩
     case measure=>simp[intOf];omega
    ·obtain rfl:j=Os[k].globs.length:=by omega
     have hge:¬(Os[k].globs.length:Int)<(Os[k].globs.length:Int):=by omega
     go_wp2;go_roundw
     case rel=>exact⟨k+1,by omega,by rw[HZ.out,szG_all];rfl,by go_num,HS.out.trans (HX.out.mono HS.out.size)⟩
     case measure=>simp[intOf];omega
  ·obtain rfl:k=Os.length:=by omega
   have hge:¬(Os.length:Int)<(Os.length:Int):=by omega
   go_wp2;go_ret;exact⟨ret_val (by rw[szO_all];rfl),HS.out⟩
theorem xm_put{w:World}{b n:Nat}{f:ByteArray->Option (Nat×Int)}{D:DataW Unit}(hD:w.ownsMap Tryz.prog 9 xmR b n D)(hf:∀t:ByteArray,Maps.has D (keyL t)=(f t).isSome∧D.atKey (keyL t) (xmD none)=xmD (f t))(t:ByteArray)(m:Nat)(a:Int)(n2:Nat)(w2:World)(h2:w2.ownsMap Tryz.prog 9 xmR b n2 (D.put (keyL t) (xmD (some (m,a))))):XM w2 b n2 λs=>if s=t then some (m,a) else f s:=by
 refine⟨_,h2,λs=>?_⟩;dsimp only;by_cases e:s=t
 ·subst e;rw[if_pos rfl];exact⟨Maps.has_put_same hD.isMap (k:=keyL s) trivial _,Maps.atKey_put_same hD.isMap (k:=keyL s) trivial _ _⟩
 ·rw[if_neg e];have hk:keyL s≠keyL t:=λh=>e (keyL_inj h);rw[Maps.has_put_other hk,Maps.atKey_put_other hk];exact hf s
theorem XM.mono{w:World}{b n n':Nat}{f:ByteArray->Option (Nat×Int)}(h:XM w b n f)(hn:n<=n'):XM w b n' f:=by
 obtain⟨D,hD,hf⟩:=h;exact⟨D,hD.mono hn,hf⟩
theorem exKJ_same{Os:List LObj}{k:Nat}{gl:List LGlob}{j:Nat}(hj:j<gl.length)(h:gl[j].exp=false∨(exKJ Os k gl j gl[j].name).isSome=true)(t:ByteArray):exKJ Os k gl j t=exKJ Os k gl (j+1) t:=by
 rw[exKJ_succ t hj];cases hx:exKJ Os k gl j t with
 |some x=>rfl
 |none=>
  rcases h with h|h
  ·rw[h];rfl
  ·by_cases e:gl[j].name=t
   ·rw[e,hx]at h;cases h
   ·simp[e]
theorem exKJ_put{Os:List LObj}{k:Nat}{gl:List LGlob}{j:Nat}(hj:j<gl.length)(he:gl[j].exp=true)(h:exKJ Os k gl j gl[j].name=none)(t:ByteArray):(if t=gl[j].name then some (gBase Os k+j,gl[j].arity) else exKJ Os k gl j t)=exKJ Os k gl (j+1) t:=by
 rw[exKJ_succ t hj];by_cases e:t=gl[j].name
 ·subst e;rw[if_pos rfl,h,he];simp
 ·rw[if_neg e];cases exKJ Os k gl j t with
  |some x=>rfl
  |none=>simp[Ne.symm e]
def ExpRes(adr:Nat->Addr)(Os:List LObj)(w:World)(e:Ending)(w':World):Prop:=Below w.heap.size w w'∧match fstF (dpB Os) Os 0 with
 |some k=>e=.returned (.tuple #[.map none,errF (adr 14) 0 (k:Int)])
 |none=>∃b n,e=.returned (.tuple #[.map (some b),.nilIface])∧XM w' b n (exK Os Os.length)
structure EoS (Os:List LObj) (w wr:World) (k:Nat):Prop where
 low:Below w.heap.size w wr
 m:XM wr w.heap.size (gBase Os k) (exK Os k)
 f:fstF (dpB Os) Os 0=fstF (dpB Os) (Os.drop k) k
structure EiS (Os:List LObj) (w wr:World) (k:Nat) (gl:List LGlob) (j:Nat):Prop where
 low:Below w.heap.size w wr
 m:XM wr w.heap.size (gBase Os k+j) (exKJ Os k gl j)
 f:fstF (dpJ Os k gl) gl 0=fstF (dpJ Os k gl) (gl.drop j) j
theorem exportsOf_any(Os:List LObj)(v:Value)(w:World)(adr:Nat->Addr)(h:ObjsAt w v Os)(hF:Few Os)(hS:SentAt w adr):
 Calls Tryz.prog 25 #[v] w λe w'=>ExpRes adr Os w e w':=by
 obtain⟨p,cap,rfl,hs,hI⟩:=h;have HI:Hid (∀w',Below w.heap.size w w'->ObjsIn w' p Os):=λw' hb=>hI.keep hb;have HF:=hid hF;have hn8:=hF.n;have HSE:=hid hS;have HZ:=hid (Tryz.zeroX);have hmm:=@run_makeMap Tryz.prog;clear hI hF hs hS;go_enter Tryz.func25,Tryz.ntmps25;go_wp2;go_loopw [5,15] (λnv kv wr=>∃k:Nat,k<=Os.length∧nv=.int .i64 (gBase Os k:Int)∧kv=.int .i64 (k:Int)∧Hid (EoS Os w wr k)) (λ_ kv _=>Os.length-(intOf kv).toNat)
 case atStart=>exact⟨0,Nat.zero_le _,rfl,rfl,(Below.refl _ _).alloc (Nat.le_refl _) _,(XM.new w).congr λ_=>rfl,rfl⟩
 case round=>
  obtain⟨k,hk,rfl,rfl,HS⟩:=hrel;rename World=>wr
  by_cases hlt:k<Os.length
  ·have h0:(0:Int)<=(k:Int):=by omega
   have h1:(k:Int)<(Os.length:Int):=by omega
   obtain⟨b,o,ip,ic,gp,gc,rfl,c0,c1,c2,hO⟩:=(HI.out _ (Below.refl _ _)).cells hlt;replace c0:=cell_keep HS.out.low c0
   replace c1:=cell_keep HS.out.low c1
   replace c2:=cell_keep HS.out.low c2
   obtain⟨gp',gc',e,hgl,hgi⟩:=hO.globs.2.open;cases e;have HGI:=hid hgi;have hbm:=HF.out.base k (by omega);have hgn:=(HF.out.g Os[k] (List.getElem_mem _)).1;obtain⟨m,hm⟩:∃m,gBase Os k=m:=⟨_,rfl⟩;have HM:=hid hm;have HFK:=hid (HS.out.f.trans (fstF_at (dpB Os) Os hlt));have HGS:=hid (gBase_succ hlt);have HEND:=hid (exKJ_end hlt);rw[hm]at hbm ⊢;clear hgi hO hm;have HE0:Hid (EiS Os w (wr.alloc (.cells #[.string Os[k].name,.slice ip Os[k].imps.length ic,.slice gp Os[k].globs.length gc] 50)) k Os[k].globs 0):=by
    have hb:Below wr.heap.size wr (wr.alloc (.cells #[.string Os[k].name,.slice ip Os[k].imps.length ic,.slice gp Os[k].globs.length gc] 50)):=(Below.refl _ _).alloc (Nat.le_refl _) _;refine⟨HS.out.low.trans (hb.mono HS.out.low.size),(HS.out.m.keep hb).congr λt=>?_,rfl⟩;unfold exKJ;cases exK Os k t<;>rfl
   generalize hgl2:Os[k].globs=gl at*;generalize Os[k].name=onm at*;generalize Os[k].imps=oim at*;have HGL:=hid hgl2;clear hgl2;go_wp2;go_loopw [5,23] (λnv jv wx=>∃j:Nat,j<=gl.length∧nv=.int .i64 ((m+j:Nat):Int)∧jv=.int .i64 (j:Int)∧Hid (EiS Os w wx k gl j)) (λ_ jv _=>gl.length-(intOf jv).toNat)
   case atStart=>exact⟨0,Nat.zero_le _,rfl,rfl,HE0.out⟩
   case round=>
    clear HE0;obtain⟨j,hj,rfl,rfl,HX⟩:=hrel;rename World=>wx
    by_cases hjt:j<gl.length
    ·have j0:(0:Int)<=(j:Int):=by omega
     have j1:(j:Int)<(gl.length:Int):=by omega
     obtain⟨gb,go,cp,cn,cc,rfl,g0,g1,g2,g3,-,hnl⟩:=HGI.out _ HX.out.low j hjt;have hlk:=λob=>(HX.out.m.keep ((Below.refl _ _).alloc (Nat.le_refl _) ob)).look gl[j].name hnl;have HFJ:=hid (HX.out.f.trans (fstF_at (dpJ Os k gl) gl hjt));have hzx:=HX.out.low.size;have HSM:=hid (exKJ_same (Os:=Os) (k:=k) hjt);have HPU:=hid (exKJ_put (Os:=Os) (k:=k) hjt);have hkey:=Go.WideMaps.keyOf_string_mk (P:=Tryz.prog) Tryz.underlying9 hnl;obtain⟨D,hD,hDf⟩:=id HX.out.m;rw[HM.out]at hD HPU;have HD0:=hid hD;have HDF:=hid hDf;have HLW:=hid HX.out.low;have HXM:=hid HX.out.m;unfold dpJ at HFJ;clear HX hD hDf;have HDP:Hid (fstF (dpJ Os k gl) gl 0=some j->fstF (dpB Os) Os 0=some k):=λhh=>by
      rw[HFK.out];unfold dpB;rw[HGL.out,hh];rfl
     generalize hnm:gl[j].name=nm at*;generalize gl[j].arity=ar at*;generalize gl[j].exp=ex at*;cases hf:exKJ Os k gl j nm with
     |some r=>
      obtain⟨q,a⟩:=r;rw[hf]at hlk HFJ HSM;simp only[xmV,xmP,Option.isSome_some]at hlk;cases ex with
      |true=>
       have HR:=hid (HDP.out (by rw[show fstF (dpJ Os k gl) gl 0=_ from HFJ.out];rfl));have hcv:=(HSE.out.keep HLW.out).c 14 (by omega);simp only[errE,kNum,List.getD_cons_succ,List.getD_cons_zero]at hcv;have hcv2:=λo1 o2=>alloc_old (wx.alloc o1) o2 _ _ _ (alloc_old wx o1 _ _ _ hcv);go_wp2_with (first
        |(go_at_call 42;refine(At_any _ _ _ _).mono ?_;rintro e w2 ⟨rfl,rfl⟩))
       go_ret2
       refine⟨(HLW.out.alloc hzx _).alloc (by simp;omega) _,?_⟩;rw[HR.out];rfl
      |false=>
       have HR:Hid (fstF (dpJ Os k gl) gl 0=fstF (dpJ Os k gl) (gl.drop (j+1)) (j+1)):=HFJ.out;have HM2:Hid (XM wx w.heap.size (gBase Os k+(j+1)) (exKJ Os k gl (j+1))):=(HXM.out.congr (HSM.out (Or.inl rfl))).mono (by omega);go_wp2;go_roundw
       case rel=>exact⟨j+1,by omega,by go_num,by go_num,(HLW.out.alloc hzx _).alloc (by simp;omega) _,(HM2.out.keep ((Below.refl _ _).alloc (Nat.le_refl _) _)).keep ((Below.refl _ _).alloc (Nat.le_refl _) _),HR.out⟩
       case measure=>simp[intOf];omega
     |none=>
      rw[hf]at hlk HFJ HPU;simp only[xmV,xmP,Option.isSome_none]at hlk;have HR:Hid (fstF (dpJ Os k gl) gl 0=fstF (dpJ Os k gl) (gl.drop (j+1)) (j+1)):=by
       show _=_;rw[show fstF (dpJ Os k gl) gl 0=_ from HFJ.out];simp only[Option.isSome_none,Bool.and_false];rfl
      cases ex with
      |true=>
       go_wp2_with (first
        |(at_mapUpdate;refine wpList_mapUpdate_own _ rfl (.tmp 44) (.tmp 46) (.tmp 50) 92 rfl 9 97 (Maps.string_keyed Tryz.underlying9) Tryz.mapT xmR w.heap.size (m+j) D rfl ((HD0.out.alloc _).alloc _) (by unfold maxLen;omega) (.string nm) (.agg #[.int .i64 ((m+j:Nat):Int),.int .i64 ar]) (keyL nm) rfl rfl hkey (xmD (some (m+j,ar))) [] rfl ?_;intro w1 hown1 hgrow1;have HM1:=hid (xm_put HD0.out HDF.out nm (m+j) ar _ _ hown1);have HB1:=hid (((HLW.out.alloc hzx _).alloc (by simp;omega) _).grown hgrow1 (by simp;omega) (λq hq=>by cases hq;exact Nat.le_refl _));clear hown1 hgrow1))
       go_roundw
       case rel=>exact⟨j+1,by omega,by go_num,by go_num,HB1.out,by rw[HM.out];exact HM1.out.congr (HPU.out rfl rfl),HR.out⟩
       case measure=>simp[intOf];omega
      |false=>
       have HM2:Hid (XM wx w.heap.size (gBase Os k+(j+1)) (exKJ Os k gl (j+1))):=(HXM.out.congr (HSM.out (Or.inl rfl))).mono (by omega);go_wp2;go_roundw
       case rel=>exact⟨j+1,by omega,by go_num,by go_num,(HLW.out.alloc hzx _).alloc (by simp;omega) _,(HM2.out.keep ((Below.refl _ _).alloc (Nat.le_refl _) _)).keep ((Below.refl _ _).alloc (Nat.le_refl _) _),HR.out⟩
       case measure=>simp[intOf];omega
    ·obtain rfl:j=gl.length:=by omega
     have hge:¬(gl.length:Int)<(gl.length:Int):=by omega
     go_wp2;go_roundw
     case rel=>
      refine⟨k+1,by omega,by rw[HGS.out,HM.out],by go_num,HX.out.low,?_,?_⟩
      ·rw[HGS.out];exact HX.out.m.congr HEND.out
      ·rw[HFK.out];unfold dpB;rw[HGL.out,HX.out.f,fstF_end _ _ (Nat.le_refl _)];rfl
     case measure=>simp[intOf];omega
  ·obtain rfl:k=Os.length:=by omega
   have hge:¬(Os.length:Int)<(Os.length:Int):=by omega
   go_wp2;go_ret2
   refine⟨HS.out.low,?_⟩;rw[HS.out.f,fstF_end _ _ (Nat.le_refl _)];exact⟨_,_,rfl,HS.out.m⟩
def miX(f:ByteArray->Option (Nat×Int))(O:LObj):Bool:=(fstF (λ_ i=>(f i.name).isNone) O.imps 0).isSome
def arX(f:ByteArray->Option (Nat×Int))(O:LObj):Bool:=(fstF (λ_ i=>decide ((xmP (f i.name)).2≠i.arity)) O.imps 0).isSome
theorem fldX0(x y:Value)(w:World):Sem.run Tryz.prog (Instr.field 97 (.agg #[x,y]) 0) w=.ok x w:=by kernel_rfl
theorem fldX1(x y:Value)(w:World):Sem.run Tryz.prog (Instr.field 97 (.agg #[x,y]) 1) w=.ok y w:=by kernel_rfl
def wiV(adr:Nat->Addr)(f:ByteArray->Option (Nat×Int))(Os:List LObj):Value:=match fstF (λ_=>miX f) Os 0 with
 |some k=>errF (adr 15) 0 (k:Int)
 |none=>errK adr 16 (fstF (λ_=>arX f) Os 0)
theorem wrongImport_any(Os:List LObj)(v:Value)(w:World)(adr:Nat->Addr)(b0 n0:Nat)(f:ByteArray->Option (Nat×Int))(h:ObjsAt w v Os)(hM:XM w b0 n0 f)(hS:SentAt w adr):
 Calls Tryz.prog 26 #[v,.map (some b0)] w λe w'=>e=.returned (wiV adr f Os)∧Below w.heap.size w w':=by
 obtain⟨p,cap,rfl,hs,hI⟩:=h;have HI:Hid (∀w',Below w.heap.size w w'->ObjsIn w' p Os):=λw' hb=>hI.keep hb;have HM:=hid (λw' (hb:Below w.heap.size w w')=>hM.keep hb);have HSE:=hid hS;unfold short at hs;clear hI hM hS;go_enter Tryz.func26,Tryz.ntmps26;go_wp2;go_loopw [17] (λkv wr=>∃k:Nat,k<=Os.length∧kv=.int .i64 (k:Int)∧Hid (fstF (λ_=>miX f) Os 0=fstF (λ_=>miX f) (Os.drop k) k∧Below w.heap.size w wr)) (λkv _=>Os.length-(intOf kv).toNat)
 case atStart=>exact⟨0,Nat.zero_le _,rfl,rfl,Below.refl _ _⟩
 case round=>
  obtain⟨k,hk,rfl,HS⟩:=hrel;rename World=>wr
  by_cases hlt:k<Os.length
  ·have h0:(0:Int)<=(k:Int):=by omega
   have h1:(k:Int)<(Os.length:Int):=by omega
   obtain⟨b,o,ip,ic,gp,gc,rfl,c0,c1,c2,hO⟩:=(HI.out _ HS.out.2).cells hlt;obtain⟨ip',ic',e,hil,hii⟩:=hO.globs.1.open;cases e;have HII:=hid hii;have HFK:=hid (HS.out.1.trans (fstF_at (λ_=>miX f) Os hlt));have HLW:=hid HS.out.2;have hzr:=HS.out.2.size;unfold miX at HFK;clear hii hO HS;generalize Os[k].globs=gl at*;generalize Os[k].name=onm at*;generalize Os[k].imps=im at*;go_wp2;go_loopw [25] (λjv wx=>∃j:Nat,j<=im.length∧jv=.int .i64 (j:Int)∧Hid (fstF (λ_ i=>(f i.name).isNone) im 0=fstF (λ_ (i:LImp)=>(f i.name).isNone) (im.drop j) j∧Below wr.heap.size wr wx)) (λjv _=>im.length-(intOf jv).toNat)
   case atStart=>exact⟨0,Nat.zero_le _,rfl,rfl,(Below.refl _ _).alloc (Nat.le_refl _) _⟩
   case round=>
    obtain⟨j,hj,rfl,HX⟩:=hrel;rename World=>wx
    by_cases hjt:j<im.length
    ·have j0:(0:Int)<=(j:Int):=by omega
     have j1:(j:Int)<(im.length:Int):=by omega
     obtain⟨ib,io,rfl,i0,i1,hnl⟩:=HII.out _ HX.out.2 j hjt;have HBX:=hid (HLW.out.trans (HX.out.2.mono hzr));have hzx:=HBX.out.size;have hzx2:=HX.out.2.size;have hlk:=λob=>(HM.out _ (HBX.out.alloc hzx ob)).look im[j].name hnl;have HFJ:=hid (HX.out.1.trans (fstF_at (λ_ (i:LImp)=>(f i.name).isNone) im hjt));generalize im[j].name=nm at*;generalize im[j].arity=ar at*;cases hf:f nm with
     |some r=>
      obtain⟨q,a⟩:=r;rw[hf]at hlk HFJ;simp only[xmV,xmP,Option.isSome_some]at hlk;go_wp2;go_roundw
      case rel=>exact⟨j+1,by omega,by go_num,HFJ.out,(HX.out.2.alloc hzx2 _).alloc (by simp;omega) _⟩
      case measure=>simp[intOf];omega
     |none=>
      rw[hf]at hlk HFJ;simp only[xmV,xmP,Option.isSome_none]at hlk;have HR:Hid (fstF (λ_=>miX f) Os 0=some k):=by
       show _=_;rw[show fstF (λ_=>miX f) Os 0=_ from HFK.out,HFJ.out];rfl
      have hcv:=(HSE.out.keep HBX.out).c 15 (by omega);simp only[errE,kNum,List.getD_cons_succ,List.getD_cons_zero]at hcv;have hcv2:=λo1 o2=>alloc_old (wx.alloc o1) o2 _ _ _ (alloc_old wx o1 _ _ _ hcv);go_wp2_with (first
       |(go_at_call 42;refine(At_any _ _ _ _).mono ?_;rintro e w2 ⟨rfl,rfl⟩))
      go_ret;exact⟨ret_val (by unfold wiV;rw[HR.out];rfl),(HBX.out.alloc hzx _).alloc (by simp;omega) _⟩
    ·obtain rfl:j=im.length:=by omega
     have hge:¬(im.length:Int)<(im.length:Int):=by omega
     have HR:Hid (fstF (λ_=>miX f) Os 0=fstF (λ_=>miX f) (Os.drop (k+1)) (k+1)):=by
      show _=_;rw[show fstF (λ_=>miX f) Os 0=_ from HFK.out,HX.out.1,fstF_end _ _ (Nat.le_refl _)];rfl
     go_wp2;go_roundw
     case rel=>exact⟨k+1,by omega,by go_num,HR.out,HLW.out.trans (HX.out.2.mono hzr)⟩
     case measure=>simp[intOf];omega
  ·obtain rfl:k=Os.length:=by omega
   have hge:¬(Os.length:Int)<(Os.length:Int):=by omega
   have HNO:Hid (fstF (λ_=>miX f) Os 0=none):=by
    show _=_;rw[HS.out.1,fstF_end _ _ (Nat.le_refl _)]
   have HLW0:=hid HS.out.2;clear HS hk;rename World=>wy
   have F1:=fldX1;go_wp2;go_loopw [45] (λkv wr=>∃k:Nat,k<=Os.length∧kv=.int .i64 (k:Int)∧Hid (fstF (λ_=>arX f) Os 0=fstF (λ_=>arX f) (Os.drop k) k∧Below w.heap.size w wr)) (λkv _=>Os.length-(intOf kv).toNat)
   case atStart=>exact⟨0,Nat.zero_le _,rfl,rfl,HLW0.out⟩
   case round=>
    obtain⟨k,hk,rfl,HS⟩:=hrel;rename World=>wr
    by_cases hlt:k<Os.length
    ·have h0:(0:Int)<=(k:Int):=by omega
     have h1:(k:Int)<(Os.length:Int):=by omega
     obtain⟨b,o,ip,ic,gp,gc,rfl,c0,c1,c2,hO⟩:=(HI.out _ HS.out.2).cells hlt;obtain⟨ip',ic',e,hil,hii⟩:=hO.globs.1.open;cases e;have HII:=hid hii;have HFK:=hid (HS.out.1.trans (fstF_at (λ_=>arX f) Os hlt));have HLW:=hid HS.out.2;have hzr:=HS.out.2.size;unfold arX at HFK;clear hii hO HS;generalize Os[k].globs=gl at*;generalize Os[k].name=onm at*;generalize Os[k].imps=im at*;go_wp2;go_loopw [53] (λjv wx=>∃j:Nat,j<=im.length∧jv=.int .i64 (j:Int)∧Hid (fstF (λ_ i=>decide ((xmP (f i.name)).2≠i.arity)) im 0=fstF (λ_ (i:LImp)=>decide ((xmP (f i.name)).2≠i.arity)) (im.drop j) j∧Below wr.heap.size wr wx)) (λjv _=>im.length-(intOf jv).toNat)
     case atStart=>exact⟨0,Nat.zero_le _,rfl,rfl,(Below.refl _ _).alloc (Nat.le_refl _) _⟩
     case round=>
      obtain⟨j,hj,rfl,HX⟩:=hrel;rename World=>wx
      by_cases hjt:j<im.length
      ·have j0:(0:Int)<=(j:Int):=by omega
       have j1:(j:Int)<(im.length:Int):=by omega
       obtain⟨ib,io,rfl,i0,i1,hnl⟩:=HII.out _ HX.out.2 j hjt;have HBX:=hid (HLW.out.trans (HX.out.2.mono hzr));have hzx:=HBX.out.size;have hzx2:=HX.out.2.size;have hlk:=λob=>(HM.out _ (HBX.out.alloc hzx ob)).look1 im[j].name hnl;have HFJ:=hid (HX.out.1.trans (fstF_at (λ_ (i:LImp)=>decide ((xmP (f i.name)).2≠i.arity)) im hjt));generalize im[j].name=nm at*;generalize im[j].arity=ar at*;generalize f nm=fo at*;unfold xmV at hlk;generalize (xmP fo).1=q at*;generalize (xmP fo).2=a at*;by_cases ha:a=ar
       ·have HR:Hid (fstF (λ_ (i:LImp)=>decide ((xmP (f i.name)).2≠i.arity)) im 0=fstF (λ_ (i:LImp)=>decide ((xmP (f i.name)).2≠i.arity)) (im.drop (j+1)) (j+1)):=by
         show _=_;rw[HFJ.out,if_neg (by simp[ha])]
        subst ha;go_wp2;go_roundw
        case rel=>exact⟨j+1,by omega,by go_num,HR.out,HX.out.2.alloc hzx2 _⟩
        case measure=>simp[intOf];omega
       ·have HR:Hid (fstF (λ_=>arX f) Os 0=some k):=by
         show _=_;rw[show fstF (λ_=>arX f) Os 0=_ from HFK.out,HFJ.out];simp[ha]
        have hcv:=(HSE.out.keep HBX.out).c 16 (by omega);simp only[errE,kNum,List.getD_cons_succ,List.getD_cons_zero]at hcv;have hcv2:=λo1=>alloc_old wx o1 _ _ _ hcv;go_wp2_with (first
         |(go_at_call 42;refine(At_any _ _ _ _).mono ?_;rintro e w2 ⟨rfl,rfl⟩))
        go_ret;exact⟨ret_val (by unfold wiV;rw[HNO.out,HR.out];rfl),HBX.out.alloc hzx _⟩
      ·obtain rfl:j=im.length:=by omega
       have hge:¬(im.length:Int)<(im.length:Int):=by omega
       have HR:Hid (fstF (λ_=>arX f) Os 0=fstF (λ_=>arX f) (Os.drop (k+1)) (k+1)):=by
        show _=_;rw[show fstF (λ_=>arX f) Os 0=_ from HFK.out,HX.out.1,fstF_end _ _ (Nat.le_refl _)];rfl
       go_wp2;go_roundw
       case rel=>exact⟨k+1,by omega,by go_num,HR.out,HLW.out.trans (HX.out.2.mono hzr)⟩
       case measure=>simp[intOf];omega
    ·obtain rfl:k=Os.length:=by omega
     have hge:¬(Os.length:Int)<(Os.length:Int):=by omega
     go_wp2;go_ret;exact⟨ret_val (by unfold wiV;rw[HNO.out,HS.out.1,fstF_end _ _ (Nat.le_refl _)];rfl),HS.out.2⟩
theorem Tryz.intJ:(Tryz.prog.info? 3).map (λi=>(i.zero,i.size,i.bytes))=some (some (.int .i64 0),1,8):=by kernel_rfl
def iC(l:List Int):List Value:=l.map λx=>.int .i64 x
def NumsX(X:Nat->Prop)(w:World)(v:Value)(ns:List Int):Prop:=∃p cap,v=.slice p ns.length cap∧∀i (h:i<ns.length),∃b o,X b∧p=some ⟨b,o,none⟩∧w.cell? ⟨b,o+i,none⟩=some (.int .i64 ns[i])
theorem NumsX.at{X:Nat->Prop}{w:World}{v:Value}{ns:List Int}(h:NumsX X w v ns):NumsAt w v ns:=by
 obtain⟨p,cap,e,hc⟩:=h;refine⟨p,cap,e,λi hi=>?_⟩;obtain⟨b,o,-,r⟩:=hc i hi;exact⟨b,o,r⟩
theorem NumsX.fr{X Y:Nat->Prop}{w w':World}{v:Value}{ns:List Int}(h:NumsX X w v ns)(hX:∀b,X b->b<w.heap.size->Y b∧w'.heap[b]?=w.heap[b]?):NumsX Y w' v ns:=by
 obtain⟨p,cap,e,hc⟩:=h;refine⟨p,cap,e,λi hi=>?_⟩;obtain⟨b,o,hx,e2,h0⟩:=hc i hi;have:=hX b hx (block_lt_of_cell h0);exact⟨b,o,this.1,e2,by rw[World.cell?_of_block (a:=⟨b,o+i,none⟩) this.2];exact h0⟩
theorem nums_row{w:World}{B:Nat}{v:Value}{ns:List Int}(h:w.ownsRow B 3 1 v ns.length (iC ns)):NumsX (λb=>B<=b) w v ns:=by
 have hlo:=λb (e:v.ownBlock=some b)=>row_low h e;rcases row_at (row_zero h) with⟨rfl,hn⟩|⟨g,cap,rfl,-,hc⟩
 ·obtain rfl:ns=[]:=List.eq_nil_of_length_eq_zero hn;exact⟨none,0,rfl,λi hi=>absurd hi (by simp)⟩
 ·refine⟨_,cap,rfl,λi hi=>⟨g,0,hlo g rfl,rfl,?_⟩⟩;rw[Nat.zero_add,hc i (by omega)];simp[iC,hi]
def nums(f:ByteArray->Option (Nat×Int))(O:LObj)(first:Nat):List Int:=O.imps.map (λi=>(xmP (f i.name)).1)++(List.range O.globs.length).map λk=>((first+k:Nat):Int)
theorem nums_len(f:ByteArray->Option (Nat×Int))(O:LObj)(first:Nat):(nums f O first).length=O.imps.length+O.globs.length:=by simp[nums]
theorem iC_snoc(l:List Int)(x:Int):iC (l++[x])=iC l++[.int .i64 x]:=by simp[iC]
theorem numbersOf_any(O:LObj)(ov:Value)(first b0 n0:Nat)(f:ByteArray->Option (Nat×Int))(w:World)(hO:ObjAt w ov O)(hM:XM w b0 n0 f)(hi:O.imps.length*24<=140737488351232)(hg:O.globs.length<=200000)(hf:first<=200000):
 Calls Tryz.prog 43 #[ov,.int .i64 (first:Int),.map (some b0)] w λe w'=>Below w.heap.size w w'∧∃p n c,e=.returned (.slice p n c)∧NumsX (λb=>w.heap.size<=b) w' (.slice p n c) (nums f O first):=by
 obtain⟨ii,hii,hij⟩:=Option.map_eq_some_iff.1 Tryz.intJ;simp only[Prod.mk.injEq]at hij;obtain⟨hi0,hi1,hi2⟩:=hij;obtain⟨iv,gv,rfl,hnm,hI,hG⟩:=hO;obtain⟨ip,ic,rfl,hil,hin⟩:=hI.open;obtain⟨gp,gc,rfl,hgl,-⟩:=hG.open;have HIN:=hid hin;have HM:=hid (λw' (hb:Below w.heap.size w w')=>hM.keep hb);have F0:=fldX0;clear hin hM hI hG;obtain⟨W0,hW0⟩:∃W0,W0=w.alloc (.cells #[.string O.name,.slice ip O.imps.length ic,.slice gp O.globs.length gc] 50):=⟨_,rfl⟩;have HB0:Hid (Below w.heap.size w W0):=by show Below _ _ _;rw[hW0];exact(Below.refl _ _).alloc (Nat.le_refl _) _
 have HD2:Hid (W0.cell? ⟨w.heap.size,2,none⟩=some (.slice gp O.globs.length gc)):=by show _=_;rw[hW0];simp
 have hz0:W0.heap.size=w.heap.size+1:=by rw[hW0];simp
 go_enter Tryz.func43,Tryz.ntmps43;go_wp2;rw[<-hW0];clear hW0;go_loopw [7,14] (λcv kv wr=>∃(k:Nat) (vp:Option Addr) (vc:Nat),k<=O.imps.length∧cv=.slice vp k vc∧kv=.int .i64 (k:Int)∧Hid (Gr W0 wr 3 1 (.slice vp k vc) k (iC ((O.imps.take k).map λi=>(xmP (f i.name)).1)))) (λ_ kv _=>O.imps.length-(intOf kv).toNat)
 case atStart=>exact⟨0,none,0,Nat.zero_le _,rfl,rfl,Below.refl _ _,World.ownsRow_nil _ _ _ _⟩
 case round=>
  obtain⟨k,vp,vc,hk,rfl,rfl,HS⟩:=hrel;rename World=>wr
  by_cases hlt:k<O.imps.length
  ·have h0:(0:Int)<=(k:Int):=by omega
   have h1:(k:Int)<(O.imps.length:Int):=by omega
   have HBW:=hid (HB0.out.trans (HS.out.low.mono HB0.out.size));obtain⟨ib,io,rfl,i0,i1,hnl⟩:=HIN.out _ HBW.out k hlt;have hzw:=HBW.out.size;have hzl:=HS.out.low.size;have hlk:=λob=>(HM.out _ (HBW.out.alloc hzw ob)).look1 O.imps[k].name hnl;have HT:Hid (iC ((O.imps.take (k+1)).map λi=>(xmP (f i.name)).1)=iC ((O.imps.take k).map λi=>(xmP (f i.name)).1)++[.int .i64 (xmP (f O.imps[k].name)).1]):=by
    show _=_;rw[List.take_succ_eq_append_getElem hlt,List.map_append,List.map_cons,List.map_nil,iC_snoc]
   unfold xmV at hlk;generalize (xmP (f O.imps[k].name)).1=q at*;generalize (xmP (f O.imps[k].name)).2=q2 at*;generalize O.imps[k].name=nm at*;generalize O.imps[k].arity=ar at*;have HOW:=hid HS.out.row;generalize iC ((O.imps.take k).map λi=>(xmP (f i.name)).1)=XS at*;go_wp2_with (first
    |(at_builtin;refine wpList_append_lies _ rfl (.tmp 18) (.tmp 24) 81 rfl W0.heap.size 3 ii _ 1 8 Tryz.underlying81 hii hi0 hi1 hi2 rfl (by omega) (.slice vp k vc) k XS rfl ((HOW.out.alloc _).alloc _) ⟨wr.heap.size+1,0,none⟩ 1 1 [.int .i64 q] rfl rfl (by have:=World.news_of_block (heap_alloc_new (wr.alloc (Obj.cells #[.string nm,.int .i64 ar] 72)) (Obj.cells #[.int .i64 q] 3));simpa using this) (by intro u hu;simp at hu;rcases hu with rfl;rfl) (by omega) (by unfold maxLen;omega) (by omega) (by simp;omega) _ rfl ?_;intro g1 k1 w7 hown hgrow hat hlt1;have HNX:=hid (HS.out.next (((Below.refl _ _).alloc (Nat.le_refl _) _).alloc (by simp) _) hgrow hown);clear hown hgrow hat hlt1))
   exact⟨⟨k+1,_,_,by omega,rfl,by go_num,by rw[HT.out];exact HNX.out⟩,by simp[intOf];omega⟩
  ·obtain rfl:k=O.imps.length:=by omega
   have hge:¬(O.imps.length:Int)<(O.imps.length:Int):=by omega
   have e2:=cell_keep HS.out.low HD2.out;have HS0:Hid (Gr W0 wr 3 1 (.slice vp O.imps.length vc) O.imps.length (iC (O.imps.map λi=>(xmP (f i.name)).1))):=by
    have:=HS.out;rw[List.take_length]at this;exact this
   clear HS hk;have hln:(O.imps.map λi=>(xmP (f i.name)).1).length=O.imps.length:=by simp
   have HNN:Hid (∀k,k<=O.globs.length->O.imps.map (λi=>(xmP (f i.name)).1)++(List.range k).map (λj=>((first+j:Nat):Int))=(nums f O first).take (O.imps.length+k)):=λk hk=>by
    unfold nums;rw[List.take_append,hln,List.take_of_length_le (by rw[hln];omega),show O.imps.length+k-O.imps.length=k by omega,<-List.map_take,List.take_range,Nat.min_eq_left hk]
   generalize O.imps.map (λi=>(xmP (f i.name)).1)=NS at*;go_wp2;go_loopw [7,30] (λcv kv wx=>∃(k:Nat) (vp:Option Addr) (vc:Nat),k<=O.globs.length∧cv=.slice vp (O.imps.length+k) vc∧kv=.int .i64 (k:Int)∧Hid (Gr W0 wx 3 1 (.slice vp (O.imps.length+k) vc) (O.imps.length+k) (iC (NS++(List.range k).map λj=>((first+j:Nat):Int))))) (λ_ kv _=>O.globs.length-(intOf kv).toNat)
   case atStart=>exact⟨0,vp,vc,Nat.zero_le _,rfl,rfl,by show Gr _ _ _ _ _ _ _;simpa using HS0.out⟩
   case round=>
    clear HS0 e2;obtain⟨k,vp2,vc2,hk,rfl,rfl,HX⟩:=hrel;rename World=>wx
    by_cases hkt:k<O.globs.length
    ·have k0:(0:Int)<=(k:Int):=by omega
     have k1:(k:Int)<(O.globs.length:Int):=by omega
     have hzl:=HX.out.low.size;have HT:Hid (iC (NS++(List.range (k+1)).map λj=>((first+j:Nat):Int))=iC (NS++(List.range k).map λj=>((first+j:Nat):Int))++[.int .i64 ((first+k:Nat):Int)]):=by
      show _=_;rw[List.range_succ,List.map_append,List.map_cons,List.map_nil,<-List.append_assoc,iC_snoc]
     have HOW:=hid HX.out.row;generalize iC (NS++(List.range k).map λj=>((first+j:Nat):Int))=XS at*;go_wp2_with (first
      |(at_builtin;refine wpList_append_lies _ rfl (.tmp 33) (.tmp 37) 81 rfl W0.heap.size 3 ii _ 1 8 Tryz.underlying81 hii hi0 hi1 hi2 rfl (by omega) (.slice vp2 (O.imps.length+k) vc2) (O.imps.length+k) XS rfl (HOW.out.alloc _) ⟨wx.heap.size,0,none⟩ 1 1 [.int .i64 ((first:Int)+(k:Int))] rfl rfl (by simpa using World.news_of_block (heap_alloc_new wx (Obj.cells #[.int .i64 ((first:Int)+(k:Int))] 3))) (by intro u hu;simp at hu;rcases hu with rfl;rfl) (by omega) (by unfold maxLen;omega) (by omega) (by simp;omega) _ rfl ?_;intro g1 k1 w7 hown hgrow hat hlt1;have HNX:=hid (HX.out.next ((Below.refl _ _).alloc (Nat.le_refl _) _) hgrow hown);clear hown hgrow hat hlt1))
     exact⟨⟨k+1,_,_,by omega,rfl,by go_num,by rw[HT.out];exact HNX.out⟩,by simp[intOf];omega⟩
    ·obtain rfl:k=O.globs.length:=by omega
     have hge2:¬(O.globs.length:Int)<(O.globs.length:Int):=by omega
     go_wp2;go_ret;refine⟨HB0.out.trans (HX.out.low.mono HB0.out.size),_,_,_,rfl,?_⟩;have h1:=HX.out.row;rw[HNN.out _ (Nat.le_refl _),List.take_of_length_le (by rw[nums_len];omega)]at h1;have:=nums_row (ns:=nums f O first) (by rw[nums_len];exact h1);exact this.fr λb hb _=>⟨by omega,rfl⟩
def MCx(X:Nat->Prop)(w:World)(v:Value)(l:List LIns):Prop:=∃B,∃L:List (LIns×Value),X B∧v=.slice (some ⟨B,0,none⟩) l.length l.length∧L.map (·.1)=l∧FB w B (l.length*3) (rowF 3 mIz (L.map mIns))∧∀x∈L,∃B',X B'∧x.2=.slice (some ⟨B',0,none⟩) x.1.alts.length x.1.alts.length∧FB w B' (x.1.alts.length*2) (rowF 2 mAz (x.1.alts.map mAlt))
theorem MC.x{lo:Nat}{w:World}{v:Value}{l:List LIns}(h:MC lo w v l):MCx (λb=>lo<=b∧b<w.heap.size) w v l:=by
 obtain⟨B,L,h1,h2,h3,h4,h5⟩:=h;refine⟨B,L,⟨h1,h4.lt⟩,h2,h3,h4,λx hx=>?_⟩;obtain⟨B',g1,g2,g3⟩:=h5 x hx;exact⟨B',⟨by omega,g3.lt⟩,g2,g3⟩
theorem MCx.mono{X Y:Nat->Prop}{w:World}{v:Value}{l:List LIns}(h:MCx X w v l)(hX:∀b,X b->Y b):MCx Y w v l:=by
 obtain⟨B,L,h1,h2,h3,h4,h5⟩:=h;refine⟨B,L,hX _ h1,h2,h3,h4,λx hx=>?_⟩;obtain⟨B',g1,g2,g3⟩:=h5 x hx;exact⟨B',hX _ g1,g2,g3⟩
theorem MCx.fr{X:Nat->Prop}{w w':World}{v:Value}{l:List LIns}(h:MCx X w v l)(hz:w.heap.size<=w'.heap.size)(hX:∀b,X b->b<w.heap.size->w'.heap[b]?=w.heap[b]?):MCx X w' v l:=by
 obtain⟨B,L,h1,h2,h3,h4,h5⟩:=h;refine⟨B,L,h1,h2,h3,h4.of_block (hX _ h1 h4.lt) hz,λx hx=>?_⟩;obtain⟨B',g1,g2,g3⟩:=h5 x hx;exact⟨B',g1,g2,g3.of_block (hX _ g1 g3.lt) hz⟩
theorem MCx.keep{X:Nat->Prop}{w w':World}{v:Value}{l:List LIns}(h:MCx X w v l)(hb:Below w.heap.size w w'):MCx X w' v l:=h.fr hb.size λb _ hl=>hb.block b hl
def mgC(x:LGlob×Value):List Value:=[.int .i64 x.1.arity,x.2]
structure GoS (w wr:World) (v:Value) (gs:List LGlob):Prop where
 low:Below w.heap.size w wr
 l:∃L:List (LGlob×Value),L.map (·.1)=gs∧wr.ownsRow w.heap.size 133 2 v L.length (L.flatMap mgC)∧∀x∈L,MCx (λb=>w.heap.size<=b∧b<wr.heap.size∧v.ownBlock≠some b) wr x.2 x.1.code
theorem GoS.keep{w wr w':World}{v:Value}{gs:List LGlob}(h:GoS w wr v gs)(hb:Below wr.heap.size wr w'):GoS w w' v gs:=by
 obtain⟨hl,L,h1,h2,h3⟩:=h;exact⟨hl.trans (hb.mono hl.size),L,h1,row_kp h2 hb,λx hx=>((h3 x hx).keep hb).mono λb ⟨g1,g2,g3⟩=>⟨g1,Nat.lt_of_lt_of_le g2 hb.size,g3⟩⟩
theorem GoS.next{w wr Z w2:World}{vp:Option Addr}{n vc:Nat}{gs:List LGlob}{g:LGlob}{cv:Value}{L:List (LGlob×Value)}(hl:Below w.heap.size w wr)(h1:L.map (·.1)=gs)(h2:wr.ownsRow w.heap.size 133 2 (.slice vp n vc) L.length (L.flatMap mgC))(h3:∀x∈L,MCx (λb=>w.heap.size<=b∧b<wr.heap.size∧(Value.slice vp n vc).ownBlock≠some b) wr x.2 x.1.code)(hb:Below wr.heap.size wr Z)
 (hc:MCx (λb=>wr.heap.size<=b∧b<Z.heap.size) Z cv g.code) (hg:Z.grownBy w2 (Value.slice vp n vc).ownBlock) {G c:Nat} (hat:(Value.slice vp n vc).ownBlock=some G∨G=Z.heap.size) (hn:n=L.length)
 (hown:w2.ownsRow w.heap.size 133 2 (.slice (some ⟨G,0,none⟩) (n+1) c) (n+1) (L.flatMap mgC++[.int .i64 g.arity,cv])):GoS w w2 (.slice (some ⟨G,0,none⟩) (n+1) c) (gs++[g]):=by
 have hz:=hb.size;have hlz:=hl.size;have hgz:=hg.size;have hlow:=λb (e:(Value.slice vp n vc).ownBlock=some b)=>row_low h2 e;have hup:∀b,(Value.slice vp n vc).ownBlock=some b->b<wr.heap.size:=λb e=>by
  rcases h2.2 with⟨h1,-⟩|⟨g,cap,cur,hv,-,hg',-⟩
  ·rw[h1]at e;cases e
  ·rw[hv]at e;obtain rfl:g=b:=by simpa[Value.ownBlock]using e
   exact(Array.getElem?_eq_some_iff.1 hg').1
 have hvo:(Value.slice (some ⟨G,0,none⟩) (n+1) c).ownBlock=some G:=rfl;refine⟨(hl.trans (hb.mono hlz)).grown hg (by omega) hlow,L++[(g,cv)],by rw[List.map_append,h1];rfl,?_,λx hx=>?_⟩
 ·rw[List.length_append,List.length_cons,List.length_nil,<-hn,List.flatMap_append];exact hown
 ·rcases List.mem_append.1 hx with hx|hx
  ·refine((h3 x hx).fr (by omega) λb ⟨g1,g2,g3⟩ hbl=>?_).mono λb ⟨g1,g2,g3⟩=>⟨g1,by omega,λe=>?_⟩
   ·rw[hg.block b (by omega) (λe=>g3 e.symm)];exact hb.block b hbl
   ·rw[hvo]at e;cases e;rcases hat with h|h
    ·exact g3 h
    ·omega
  ·obtain rfl:=List.mem_singleton.1 hx;refine(hc.fr hgz λb ⟨g1,g2⟩ hbl=>?_).mono λb ⟨g1,g2⟩=>⟨by omega,by omega,λe=>?_⟩
   ·exact hg.block b hbl (λe=>by have:=hup b e.symm;omega)
   ·rw[hvo]at e;cases e;rcases hat with h|h
    ·have:=hup _ h;omega
    ·omega
def MGAt(lo:Nat)(w:World)(v:Value)(gs:List LGlob):Prop:=∃p cap,v=.slice p gs.length cap∧∀i (h:i<gs.length),∃b o cv,lo<=b∧p=some ⟨b,o,none⟩∧w.cell? ⟨b,o+i*2,none⟩=some (.int .i64 gs[i].arity)∧w.cell? ⟨b,o+i*2+1,none⟩=some cv∧MCx (λb=>lo<=b) w cv gs[i].code
theorem MGAt.fr{lo:Nat}{w w':World}{v:Value}{gs:List LGlob}(h:MGAt lo w v gs)(hz:w.heap.size<=w'.heap.size)(hX:∀b,lo<=b->b<w.heap.size->w'.heap[b]?=w.heap[b]?):MGAt lo w' v gs:=by
 obtain⟨p,cap,e,hc⟩:=h;refine⟨p,cap,e,λi hi=>?_⟩;obtain⟨b,o,cv,h0,h1,h2,h3,h4⟩:=hc i hi;have e2:=hX b h0 (block_lt_of_cell h2);exact⟨b,o,cv,h0,h1,by rw[World.cell?_of_block (a:=⟨b,o+i*2,none⟩) e2];exact h2,by rw[World.cell?_of_block (a:=⟨b,o+i*2+1,none⟩) e2];exact h3,h4.fr hz hX⟩
theorem MGAt.keep{lo:Nat}{w w':World}{v:Value}{gs:List LGlob}(h:MGAt lo w v gs)(hb:Below w.heap.size w w'):MGAt lo w' v gs:=h.fr hb.size λb _ hl=>hb.block b hl
theorem MGAt.set{lo:Nat}{w:World}{v:Value}{gs:List LGlob}(h:MGAt lo w v gs){c j:Nat}(hc:c<lo)(u:Value):MGAt lo (w.setCell ⟨c,j,none⟩ u) v gs:=h.fr (by simp) λb hb _=>Below.heap_setCell _ _ _ _ (by show b≠c;omega)
theorem MGAt.low{lo lo':Nat}{w:World}{v:Value}{gs:List LGlob}(h:MGAt lo w v gs)(hl:lo'<=lo):MGAt lo' w v gs:=by
 obtain⟨p,cap,e,hc⟩:=h;refine⟨p,cap,e,λi hi=>?_⟩;obtain⟨b,o,cv,h0,h1,h2,h3,h4⟩:=hc i hi;exact⟨b,o,cv,by omega,h1,h2,h3,h4.mono λb hb=>by omega⟩
theorem GoS.at{w wr:World}{v:Value}{gs:List LGlob}(h:GoS w wr v gs):MGAt w.heap.size wr v gs:=by
 obtain⟨hl,L,h1,h2,h3⟩:=h;subst h1;have hlo:=λb (e:v.ownBlock=some b)=>row_low h2 e;rcases row_at (row_zero h2) with⟨rfl,hn⟩|⟨g,cap,rfl,-,hc⟩
 ·obtain rfl:L=[]:=List.eq_nil_of_length_eq_zero hn;exact⟨none,0,rfl,λi hi=>absurd hi (by simp)⟩
 ·refine⟨_,cap,by rw[List.length_map],λi hi=>?_⟩;have hi':i<L.length:=by simpa using hi
  obtain⟨f0,f1⟩:=flat2_at (λx:LGlob×Value=>Value.int .i64 x.1.arity) (λx=>x.2) L i hi';refine⟨g,0,L[i].2,hlo g rfl,rfl,?_⟩;rw[Nat.zero_add,hc _ (by omega),hc _ (by omega),List.getElem_map];exact⟨f0,f1,(h3 _ (List.getElem_mem _)).mono λ_ hx=>hx.1⟩
theorem Tryz.mGlobI:(Tryz.prog.info? 133).map (λi=>(i.zero,i.size,i.bytes))=some (some (.agg #[.int .i64 0,.slice none 0 0]),2,32):=by kernel_rfl
def cdG(ns:List Int)(g:LGlob):LGlob:={g with code:=g.code.map (cdI ns)}
def gofF(f:ByteArray->Option (Nat×Int)):List LObj->Nat->List LGlob
 |[],_=>[]
 |O::r,n=>O.globs.map (cdG (nums f O n))++gofF f r (n+O.globs.length)
theorem gofF_app(f:ByteArray->Option (Nat×Int)):∀(A B:List LObj) (n:Nat),gofF f (A++B) n=gofF f A n++gofF f B (n+(A.map λO=>O.globs.length).sum)
 |[],B,n=>by simp[gofF]
 |O::A,B,n=>by rw[List.cons_append,gofF,gofF,gofF_app f A B,List.append_assoc,List.map_cons,List.sum_cons,Nat.add_assoc]
theorem gofF_take{f:ByteArray->Option (Nat×Int)}{Os:List LObj}{k:Nat}(hk:k<Os.length):gofF f (Os.take (k+1)) 0=gofF f (Os.take k) 0++Os[k].globs.map (cdG (nums f Os[k] (gBase Os k))):=by
 rw[List.take_succ_eq_append_getElem hk,gofF_app];simp[gofF,gBase]
theorem gofF_len(f:ByteArray->Option (Nat×Int)):∀(Os:List LObj) (n:Nat),(gofF f Os n).length=(Os.map λO=>O.globs.length).sum
 |[],_=>rfl
 |O::r,n=>by rw[gofF,List.length_append,List.length_map,gofF_len f r,List.map_cons,List.sum_cons]
structure GiS (w wx:World) (v nv:Value) (ns:List Int) (gs:List LGlob):Prop where
 go:GoS w wx v gs
 nu:NumsX (λb=>w.heap.size<=b∧b<wx.heap.size∧v.ownBlock≠some b) wx nv ns
theorem own_lt{w:World}{B:Nat}{e:TypeId}{size n b:Nat}{v:Value}{xs:List Value}(h:w.ownsRow B e size v n xs)(hv:v.ownBlock=some b):b<w.heap.size:=by
 rcases h.2 with⟨h1,-⟩|⟨g,cap,cur,hv',-,hg',-⟩
 ·rw[h1]at hv;cases hv
 ·rw[hv']at hv;obtain rfl:g=b:=by simpa[Value.ownBlock]using hv
  exact(Array.getElem?_eq_some_iff.1 hg').1
theorem cdI_sub{n:Nat}{i:LIns}(h:GoodI n i){m:Nat}(e:n=m):GoodI m i:=e▸h
theorem globalsOf_any(Os:List LObj)(v:Value)(b0 n0:Nat)(f:ByteArray->Option (Nat×Int))(w:World)(h:ObjsAt w v Os)(hM:XM w b0 n0 f)(hF:Few Os)(hS:Shrt Os)(hn:gBase Os Os.length<=200000)(hG:∀O∈Os,∀g∈O.globs,∀i∈g.code,GoodI (O.imps.length+O.globs.length) i):
 Calls Tryz.prog 28 #[v,.map (some b0)] w λe w'=>Below w.heap.size w w'∧∃p n c,e=.returned (.slice p n c)∧MGAt w.heap.size w' (.slice p n c) (gofF f Os 0):=by
 obtain⟨ii,hii,hij⟩:=Option.map_eq_some_iff.1 Tryz.mGlobI;simp only[Prod.mk.injEq]at hij;obtain⟨hi0,hi1,hi2⟩:=hij;obtain⟨p,cap,rfl,hs,hI⟩:=h;have HI:Hid (∀w',Below w.heap.size w w'->ObjsIn w' p Os):=λw' hb=>hI.keep hb;have HF:=hid hF;have hn8:=hF.n;have HM:=hid (λw' (hb:Below w.heap.size w w')=>hM.keep hb);have HSH:=hid hS;have HGG:=hid hG;have HGB:Hid (∀k,k<=Os.length->gBase Os k<=200000):=λk hk=>by
  refine Nat.le_trans ?_ hn;have:=gofF_len f (Os.take k) 0;have e2:=gofF_len f (Os.take k++Os.drop k) 0;rw[gofF_app,List.length_append,List.take_append_drop]at e2;unfold gBase;rw[List.take_length];omega
 clear hI hF hM hS hG hn hs;go_enter Tryz.func28,Tryz.ntmps28;go_wp2;go_loopw [5,13] (λcv kv wr=>∃(k:Nat) (vp:Option Addr) (vc:Nat),k<=Os.length∧cv=.slice vp (gBase Os k) vc∧kv=.int .i64 (k:Int)∧Hid (GoS w wr (.slice vp (gBase Os k) vc) (gofF f (Os.take k) 0))) (λ_ kv _=>Os.length-(intOf kv).toNat)
 case atStart=>exact⟨0,none,0,Nat.zero_le _,rfl,rfl,Below.refl _ _,[],rfl,World.ownsRow_nil _ _ _ _,λx hx=>by cases hx⟩
 case round=>
  obtain⟨k,vp,vc,hk,rfl,rfl,HS⟩:=hrel;rename World=>wr
  by_cases hlt:k<Os.length
  ·have h0:(0:Int)<=(k:Int):=by omega
   have h1:(k:Int)<(Os.length:Int):=by omega
   obtain⟨b,o,ip,ic,gp,gc,rfl,c0,c1,c2,hO⟩:=(HI.out _ (Below.refl _ _)).cells hlt;replace c0:=cell_keep HS.out.low c0
   replace c1:=cell_keep HS.out.low c1
   replace c2:=cell_keep HS.out.low c2
   obtain⟨gp',gc',e,hgl,hgi⟩:=hO.globs.2.open;cases e;have HGI:=hid hgi;have hgb:=HGB.out k (by omega);have hgb2:=HGB.out (k+1) (by omega);have HGS:=hid (gBase_succ hlt);rw[gBase_succ hlt]at hgb2;have HT:=hid (gofF_take (f:=f) hlt);have hzw:=HS.out.low.size;have HNO:=hid (λX (hb:Below w.heap.size w X)=>numbersOf_any Os[k] _ (gBase Os k) b0 n0 f X (hO.keep hb) (HM.out X hb) (HF.out.g _ (List.getElem_mem _)).2 (by omega) hgb);have HSK:=hid (HSH.out Os[k] (List.getElem_mem _));have HGK:=hid (HGG.out Os[k] (List.getElem_mem _));have HNL:=hid (nums_len f Os[k] (gBase Os k));have HLW:=hid HS.out.low;have HGO:=hid HS.out;clear hgi hO HS;generalize hns:nums f Os[k] (gBase Os k)=ns at*;have HNS:=hid hns;generalize hm:gBase Os k=m at*;have HMM:=hid hm;generalize hgl2:Os[k].globs=gl at*;have HGL:=hid hgl2;generalize Os[k].name=onm at*;generalize Os[k].imps.length=iml at*;clear hgl2 hns hm;go_wp2_with (first
    |(go_at_call 43;refine(HNO.out _ (HLW.out.alloc hzw _)).mono ?_;rintro e w1 ⟨hb1,np,nn,nc,rfl,hnu⟩;have hq2:=cell_keep hb1 (alloc_cell wr #[.string onm,.slice ip iml ic,.slice gp gl.length gc] 50 2 _ rfl);have HB1:=hid (((Below.refl _ _).alloc (Nat.le_refl _) _).trans (hb1.mono (by simp)):Below wr.heap.size wr w1);have HNU:=hid hnu;clear hb1 hnu))
   have HI0:Hid (GiS w w1 (.slice vp m vc) (.slice np nn nc) ns (gofF f (Os.take k) 0)):=by
    obtain⟨hl,L,l1,l2,l3⟩:=id HGO.out;refine⟨HGO.out.keep HB1.out,HNU.out.fr λq hq hql=>⟨⟨?_,hql,λe=>?_⟩,rfl⟩⟩
    ·simp at hq;omega
    ·have:=own_lt l2 e;simp at hq;omega
   clear HNU HNO hq2;go_loopw [5,25] (λcv jv wx=>∃(j:Nat) (vp2:Option Addr) (vc2:Nat),j<=gl.length∧cv=.slice vp2 (m+j) vc2∧jv=.int .i64 (j:Int)∧Hid (GiS w wx (.slice vp2 (m+j) vc2) (.slice np nn nc) ns (gofF f (Os.take k) 0++(gl.take j).map (cdG ns)))) (λ_ jv _=>gl.length-(intOf jv).toNat)
   case atStart=>exact⟨0,vp,vc,Nat.zero_le _,rfl,rfl,by show GiS _ _ _ _ _ _;simpa using HI0.out⟩
   case round=>
    clear HI0 HGO;obtain⟨j,vp2,vc2,hj,rfl,rfl,HX⟩:=hrel;rename World=>wx
    by_cases hjt:j<gl.length
    ·have j0:(0:Int)<=(j:Int):=by omega
     have j1:(j:Int)<(gl.length:Int):=by omega
     have HLX:=hid HX.out.go.low;have hzx:=HX.out.go.low.size;obtain⟨gb,go,cp,cn,cc,rfl,g0,g1,g2,g3,hC,hnl⟩:=HGI.out _ HX.out.go.low j hjt;obtain⟨hl,L,l1,l2,l3⟩:=id HX.out.go;have hLl:L.length=m+j:=by
      have:=congrArg List.length l1;rw[List.length_map,List.length_append,List.length_map,List.length_take,gofF_len,Nat.min_eq_left (by omega)]at this;have e2:((Os.take k).map λO=>O.globs.length).sum=m:=HMM.out;omega
     have HCO:Hid (∀X,Below wx.heap.size wx X->Calls Tryz.prog 44 #[.slice cp cn cc,.slice np nn nc] X λe w'=>Below X.heap.size X w'∧∃B,e=.returned (.slice (some ⟨B,0,none⟩) gl[j].code.length gl[j].code.length)∧MC X.heap.size w' (.slice (some ⟨B,0,none⟩) gl[j].code.length gl[j].code.length) (cdG ns gl[j]).code):=(λX (hb:Below wx.heap.size wx X)=>codeOf_any gl[j].code _ ns _ X (hC.keep hb) (HX.out.nu.at.keep hb) (HSK.out gl[j] (List.getElem_mem _)) (λi hi=>cdI_sub (HGK.out gl[j] (List.getElem_mem _) i hi) HNL.out.symm));obtain⟨cp',cc',e,-,-⟩:=hC.open;have hcn:cn=gl[j].code.length:=by injection e
     have HTJ:Hid ((gl.take (j+1)).map (cdG ns)=(gl.take j).map (cdG ns)++[cdG ns gl[j]]):=by
      show _=_;rw[List.take_succ_eq_append_getElem hjt,List.map_append];rfl
     have HNXT:Hid (∀Z w2 cv G c,Below wx.heap.size wx Z->MCx (λb=>wx.heap.size<=b∧b<Z.heap.size) Z cv (cdG ns gl[j]).code->Z.grownBy w2 (Value.slice vp2 (m+j) vc2).ownBlock->((Value.slice vp2 (m+j) vc2).ownBlock=some G∨G=Z.heap.size)->w2.ownsRow w.heap.size 133 2 (.slice (some ⟨G,0,none⟩) (m+j+1) c) (m+j+1) (L.flatMap mgC++[.int .i64 gl[j].arity,cv])->GiS w w2 (.slice (some ⟨G,0,none⟩) (m+j+1) c) (.slice np nn nc) ns (gofF f (Os.take k) 0++(gl.take (j+1)).map (cdG ns))):=by
      intro Z w2 cv G c hb hc hg hat hown;refine⟨?_,HX.out.nu.fr λq ⟨q1,q2,q3⟩ hql=>⟨⟨q1,?_,?_⟩,?_⟩⟩
      ·rw[HTJ.out,<-List.append_assoc];exact GoS.next hl l1 l2 l3 hb hc hg hat hLl.symm hown
      ·have:=hb.size;have:=hg.size;omega
      ·intro e2;obtain rfl:G=q:=by simpa[Value.ownBlock]using e2
       rcases hat with h|h
       ·exact q3 h
       ·have:=hb.size;omega
      ·rw[hg.block q (by have:=hb.size;omega) (λe=>q3 e.symm)];exact hb.block q hql
     have HOW:=hid l2;rw[hLl]at HOW;have HOL:=hid (λq (e:(Value.slice vp2 (m+j) vc2).ownBlock=some q)=>own_lt l2 e);clear hC e hl l1 l2 l3 HX;subst hcn;generalize (cdG ns gl[j]).code=mc at*;generalize gl[j].code.length=cl at*;generalize gl[j].name=nm at*;generalize gl[j].arity=ar at*;generalize gl[j].exp=ex at*;generalize L.flatMap mgC=XS at*;go_upto_region 9 with fail
     obtain⟨W1,hW1⟩:∃W1,W1=wx.alloc (.cells #[.string nm,.int .i64 ar,.bool ex,.slice cp cl cc] 46):=⟨_,rfl⟩;have hb1:Below wx.heap.size wx W1:=by rw[hW1];exact(Below.refl _ _).alloc (Nat.le_refl _) _
     have hz1:W1.heap.size=wx.heap.size+1:=by rw[hW1];simp
     have t1:W1.drew.cell? ⟨wx.heap.size,1,none⟩=some (.int .i64 ar):=by
      show W1.cell? _=_;rw[hW1];exact alloc_cell _ _ _ 1 _ rfl
     have t3:W1.drew.cell? ⟨wx.heap.size,3,none⟩=some (.slice cp cl cc):=by
      show W1.cell? _=_;rw[hW1];exact alloc_cell _ _ _ 3 _ rfl
     rw[<-hW1];have HBD:=hid hb1.drew;have HC1:=hid (HCO.out W1.drew hb1.drew);have HZ1:Hid (W1.drew.heap.size=wx.heap.size+1):=hz1;clear hW1 hb1 hz1 HCO g0 g1 g2 g3;go_region_held_law (λw'=>w'.cell? ⟨wx.heap.size,1,none⟩=some (.int .i64 ar)∧w'.cell? ⟨wx.heap.size,3,none⟩=some (.slice cp cl cc)) (refine⟨?_,?_⟩<;>(first|assumption|(exact alloc_old _ _ _ _ _ (by assumption))))
      (first
       |(go_at_call 44;refine HC1.out.mono ?_;rintro e w5 ⟨hb5,B5,rfl,hm5⟩;have q1:=cell_keep hb5 t1;have q3:=cell_keep hb5 t3;have HB5:=hid (HBD.out.trans (hb5.mono (by have:=HZ1.out;omega)):Below wx.heap.size wx w5);have HM5:=hid ((hm5.keep ((Below.refl _ _).alloc (Nat.le_refl _) (.cells #[.int .i64 ar,.slice (some ⟨B5,0,none⟩) cl cl] 133))).x.mono (λb hb=>(⟨by have:=HZ1.out;omega,hb.2⟩:wx.heap.size<=b∧b<_)));have hz5:=HB5.out.size;clear hb5 hm5)
       |(refine step_append_lies _ rfl (.tmp 29) (.tmp 37) 56 rfl w.heap.size 133 ii _ 2 32 Tryz.underlying56 hii hi0 hi1 hi2 rfl (by omega) (.slice vp2 (m+j) vc2) (m+j) XS (by simp[Act.eval];done) ((row_kp HOW.out HB5.out).alloc _) ⟨w5.heap.size,0,none⟩ 1 1 [.int .i64 ar,.slice (some ⟨B5,0,none⟩) cl cl] (by simp[Act.eval];done) rfl (by have h:=World.news_of_block (heap_alloc_new w5 (Obj.cells #[.int .i64 ar,.slice (some ⟨B5,0,none⟩) cl cl] 133));simpa using h) (by intro u hu;simp at hu;rcases hu with rfl|rfl<;>rfl) (by omega) (by unfold maxLen;omega) (by omega) (by simp;omega) _ rfl ?_;intro G1 c1 w7 hown hgrow hat hlt1;have HNX:=hid (HNXT.out _ _ _ _ _ (HB5.out.alloc hz5 _) HM5.out hgrow hat hown);have r1:w7.cell? ⟨wx.heap.size,1,none⟩=some (.int .i64 ar):=(by rw[World.cell?_of_block (a:=⟨wx.heap.size,1,none⟩) (hgrow.block _ (block_lt_of_cell (alloc_old _ _ _ _ _ q1)) (λe=>absurd (HOL.out _ e.symm) (Nat.lt_irrefl _)))];exact alloc_old _ _ _ _ _ q1);have r3:w7.cell? ⟨wx.heap.size,3,none⟩=some (.slice cp cl cc):=(by rw[World.cell?_of_block (a:=⟨wx.heap.size,3,none⟩) (hgrow.block _ (block_lt_of_cell (alloc_old _ _ _ _ _ q3)) (λe=>absurd (HOL.out _ e.symm) (Nat.lt_irrefl _)))];exact alloc_old _ _ _ _ _ q3);clear hown hgrow hat hlt1))
     all_goals(try go_wp2)
     all_goals go_roundw
     all_goals first
      |exact⟨j+1,_,_,by omega,rfl,by go_num,HNX.out⟩
      |(simp[intOf];omega)
    ·obtain rfl:j=gl.length:=by omega
     have hge:¬(gl.length:Int)<(gl.length:Int):=by omega
     go_wp2;go_roundw
     case rel=>exact⟨k+1,vp2,vc2,by omega,by rw[HGS.out],by go_num,by show GoS _ _ _ _;have hg:=HX.out.go;rw[List.take_length]at hg;rw[HT.out,HGS.out];exact hg⟩
     case measure=>simp[intOf];omega
  ·obtain rfl:k=Os.length:=by omega
   have hge:¬(Os.length:Int)<(Os.length:Int):=by omega
   go_wp2;go_ret;have:=HS.out.at;rw[List.take_length]at this;exact⟨HS.out.low,_,_,_,rfl,this⟩
theorem globs_above{imps:List LImp}:∀{l:List LGlob} {last:ByteArray},globsFrom imps last l=true->∀x∈l,cmpB last x.name<0
 |g::r,last,h,x,hx=>by
  simp only[globsFrom,Bool.and_eq_true]at h;obtain⟨⟨⟨⟨⟨_,h2⟩,_⟩,h4⟩,h5⟩,h6⟩:=h;rcases List.mem_cons.1 hx with rfl|hx
  ·exact(gtB_iff _ _).1 h2
  ·exact cmpB_trans ((gtB_iff _ _).1 h2) (globs_above h6 x hx)
theorem globs_good{imps:List LImp}:∀{l:List LGlob} {last:ByteArray},globsFrom imps last l=true->(∀x∈l,codeG x.code=true)∧l.Pairwise λa b=>a.name≠b.name
 |[],_,_=>⟨λ_ hx=>absurd hx (by simp),List.Pairwise.nil⟩
 |g::r,last,h=>by
  simp only[globsFrom,Bool.and_eq_true]at h;obtain⟨⟨⟨⟨⟨_,_⟩,_⟩,h4⟩,h5⟩,h6⟩:=h;have ih:=globs_good h6;have hb:=globs_above h6;refine⟨λx hx=>?_,List.Pairwise.cons (λx hx e=>?_) ih.2⟩
  ·rcases List.mem_cons.1 hx with rfl|hx
   ·exact h5
   ·exact ih.1 x hx
  ·have:=hb x hx;rw[<-e,(cmpB_eq0 _ _).2 rfl]at this;omega
theorem sBad_none{most:Int}:∀{l:List LGlob} {k:Nat},sBad most l k=none->∀g∈l,gBad g.code (g.arity+1) most=none
 |g::r,k,h,x,hx=>by
  rw[sBad]at h;cases hg:gBad g.code (g.arity+1) most with
  |some e=>rw[hg]at h;obtain⟨a,b⟩:=e;cases h
  |none=>
   rw[hg]at h;rcases List.mem_cons.1 hx with rfl|hx
   ·exact hg
   ·exact sBad_none h x hx
theorem gBad_none{code:List LIns}{d0 most:Int}(h:gBad code d0 most=none):firstBad (badIdx most) code=none∧0<code.length:=by
 unfold gBad at h;cases h1:firstBad (badIdx most) code with
 |some k=>rw[h1]at h;cases h
 |none=>
  rw[h1]at h;simp only at h;by_cases h0:code.length=0
  ·rw[if_pos h0]at h;cases h
  ·exact⟨rfl,by omega⟩
theorem insG_good{op a:Int}{al:List LAlt}(h:insG op a al=true):(op=1->0<=a∧a<1000000000000000)∧al.length<=256∧∀x∈al,0<=x.tag∧x.tag<256∧0<=x.to∧x.to<65536:=by
 unfold insG at h;split at h
 ·rename_i hop
  have nil:((al.length:Int)==0)=true->al.length<=256∧∀x∈al,0<=x.tag∧x.tag<256∧0<=x.to∧x.to<65536:=λh=>by
   have h0:al.length=0:=by simpa using h
   obtain rfl:=List.eq_nil_of_length_eq_zero h0;exact⟨by simp,λx hx=>absurd hx (by simp)⟩
  have one:op=1->rowN op.toNat 0=2∧rowN op.toNat 1=0∧rowN op.toNat 2<1000000000000000:=λe=>by
   subst e;decide
  split at h
  ·rename_i h1
   exact⟨λe=>by have:=one e;omega,nil h⟩
  ·split at h
   ·simp only[Bool.and_eq_true,decide_eq_true_eq]at h;exact⟨λe=>by have:=one e;omega,nil h.1.1⟩
   ·split at h
    ·rename_i h1 h2 h3
     simp only[Bool.and_eq_true,altsGood,decide_eq_true_eq,altsB,List.all_eq_true]at h;refine⟨λe=>by have:=one e;omega,h.2.1.2,λx hx=>?_⟩;have:=h.2.2.1 x hx;simp only[altOk,Bool.and_eq_true,decide_eq_true_eq]at this;omega
    ·rename_i h1 h2 h3
     simp only[Bool.and_eq_true]at h;exact⟨λe=>by have:=one e;omega,nil h.2⟩
 ·cases h
structure SoundO (O:LObj):Prop where
 ap:O.globs.Pairwise λa b=>a.name≠b.name
 ix:∀g∈O.globs,∀i∈g.code,GoodI (O.imps.length+O.globs.length) i
 up:∀g∈O.globs,∀i∈g.code,i.op=1->0<=i.a∧i.a<1000000000000000
 ne:∀g∈O.globs,0<g.code.length∧g.code.length<=65536
theorem okO_sound{O:LObj}(h:okO O=true):SoundO O:=by
 unfold okO at h;rw[Bool.and_eq_true,Option.isNone_iff_eq_none]at h;obtain⟨h1,h2⟩:=h;simp only[valsG,Bool.and_eq_true]at h1;obtain⟨g1,g2⟩:=globs_good h1.2;have hi:∀g∈O.globs,∀i∈g.code,insG i.op i.a i.alts=true:=λg hg i hi=>by
  have:=g1 g hg;simp only[codeG,Bool.and_eq_true,List.all_eq_true]at this;exact this.2 i hi
 refine⟨g2,λg hg i hm=>⟨λe=>?_,?_,(insG_good (hi g hg i hm)).2.2⟩,λg hg i hm=>(insG_good (hi g hg i hm)).1,λg hg=>⟨(gBad_none (sBad_none h2 g hg)).2,?_⟩⟩
 ·refine⟨((insG_good (hi g hg i hm)).1 e).1,?_⟩;obtain⟨j,hj,rfl⟩:=List.getElem_of_mem hm;have:=firstBad_none_spec (gBad_none (sBad_none h2 g hg)).1 j hj;simp only[badIdx,e,Bool.and_eq_false_iff,decide_eq_false_iff_not]at this;rcases this with h|h
  ·simp at h
  ·omega
 ·have:=(insG_good (hi g hg i hm)).2.1;omega
 ·have:=g1 g hg;simp only[codeG,Bool.and_eq_true,decide_eq_true_eq]at this;omega
theorem fst_any{α:Type}(p:α->Bool):∀(l:List α) (k:Nat),(fstF (λ_=>p) l k).isSome=l.any p
 |[],_=>rfl
 |x::r,k=>by
  rw[fstF,List.any_cons];cases p x with
  |true=>rfl
  |false=>rw[if_neg (by simp),fst_any p r];rfl
theorem fst_iff{α:Type}{p:Nat->α->Bool}:∀{l:List α} {k:Nat},(fstF p l k).isSome=true↔∃i,∃hi:i<l.length,p (k+i) l[i]=true
 |[],k=>by simp[fstF]
 |x::r,k=>by
  rw[fstF];constructor
  ·intro h;split at h
   ·exact⟨0,by simp,by simpa⟩
   ·obtain⟨i,hi,hp⟩:=fst_iff.1 h;exact⟨i+1,by simpa using hi,by rw[show k+(i+1)=k+1+i by omega];exact hp⟩
  ·rintro⟨i,hi,hp⟩;split
   ·rfl
   ·rename_i hx
    cases i with
    |zero=>exact absurd (by simpa using hp) hx
    |succ j=>exact fst_iff.2 ⟨j,by simpa using hi,by rw[show k+1+j=k+(j+1) by omega];exact hp⟩
theorem exG_none{t:ByteArray}:∀{l:List LGlob} {n:Nat},(∀g∈l,g.name≠t)->exG t l n=none
 |[],_,_=>rfl
 |g::r,n,h=>by
  have h0:=h g (List.mem_cons_self ..);rw[exG];simp only[h0,decide_false,Bool.and_false,Bool.false_eq_true,if_false];exact exG_none λx hx=>h x (List.mem_cons_of_mem _ hx)
theorem exG_some{t:ByteArray}:∀{l:List LGlob} {n:Nat},(∃g∈l,g.exp=true∧g.name=t)->∃x,exG t l n=some x
 |g::r,n,⟨x,hx,h1,h2⟩=>by
  rw[exG];split
  ·exact⟨_,rfl⟩
  ·rename_i hc
   rcases List.mem_cons.1 hx with rfl|hx
   ·simp[h1,h2]at hc
   ·exact exG_some ⟨x,hx,h1,h2⟩
theorem exO_who{t:ByteArray}:∀{l:List LObj} {k n m who:Nat} {a:Int},exO t l k n=some (m,who,a)->k<=who∧who<k+l.length
 |O::r,k,n,m,who,a,h=>by
  rw[exO]at h;cases hg:exG t O.globs n with
  |some x=>rw[hg]at h;obtain⟨x1,x2⟩:=x;simp at h;simp only[List.length_cons];omega
  |none=>rw[hg]at h;have:=exO_who h;simp only[List.length_cons];omega
theorem expo_split(Os:List LObj)(t:ByteArray){k:Nat}(hk:k<Os.length):expo Os t=match exO t (Os.take k) 0 0 with|some x=>some x|none=>exO t (Os.drop k) k (gBase Os k):=by
 have e:expo Os t=exO t (Os.take k++Os.drop k) 0 0:=by rw[List.take_append_drop];rfl
 rw[e,exO_app,List.length_take,Nat.min_eq_left (by omega),Nat.zero_add,Nat.zero_add];rfl
theorem dp_tw{Os:List LObj}{k:Nat}(hk:k<Os.length)(hS:SoundO Os[k]):dpB Os k Os[k]=twB Os k Os[k]:=by
 have key:∀j (hj:j<Os[k].globs.length),Os[k].globs[j].exp=true->(exKJ Os k Os[k].globs j Os[k].globs[j].name).isSome=(match expo Os Os[k].globs[j].name with|some (_,who,_)=>decide (who<k)|none=>decide (0<k)):=by
  intro j hj he;have h1:exG Os[k].globs[j].name (Os[k].globs.take j) (gBase Os k)=none:=exG_none λg hg e=>by
   obtain⟨i,hi,rfl⟩:=List.getElem_of_mem hg;rw[List.length_take]at hi;rw[List.getElem_take]at e;exact(List.pairwise_iff_getElem.1 hS.ap) i j (by omega) hj (by omega) e
  obtain⟨⟨q1,q2⟩,h2⟩:=exG_some (t:=Os[k].globs[j].name) (l:=Os[k].globs) (n:=gBase Os k) ⟨_,List.getElem_mem hj,he,rfl⟩;unfold exKJ exK;rw[h1,expo_split Os _ hk];cases hx:exO Os[k].globs[j].name (Os.take k) 0 0 with
  |some x=>
   obtain⟨m,who,a⟩:=x;have:=exO_who hx;rw[List.length_take]at this;simp;omega
  |none=>
   rw[List.drop_eq_getElem_cons hk,exO,h2];simp
 rw[Bool.eq_iff_iff];unfold dpB twB;rw[fst_iff,List.any_eq_true];constructor
 ·rintro⟨j,hj,hp⟩;unfold dpJ at hp;rw[Bool.and_eq_true,Nat.zero_add]at hp;exact⟨Os[k].globs[j],List.getElem_mem _,by rw[Bool.and_eq_true];exact⟨hp.1,(key j hj hp.1).symm.trans hp.2⟩⟩
 ·rintro⟨g,hg,hp⟩;obtain⟨j,hj,rfl⟩:=List.getElem_of_mem hg;rw[Bool.and_eq_true]at hp;refine⟨j,hj,?_⟩;unfold dpJ;rw[Bool.and_eq_true,Nat.zero_add];exact⟨hp.1,(key j hj hp.1).trans hp.2⟩
theorem mi_same(Os:List LObj)(O:LObj):miX (exK Os Os.length) O=miB Os O:=by
 unfold miX miB;rw[fst_any (λi:LImp=>(exK Os Os.length i.name).isNone)];congr 1
 funext i
 rw[exK_all];cases expo Os i.name<;>rfl
theorem ar_same(Os:List LObj)(O:LObj):arX (exK Os Os.length) O=arB2 Os O:=by
 unfold arX arB2;rw[fst_any (λi:LImp=>decide ((xmP (exK Os Os.length i.name)).2≠i.arity))];congr 1
 funext i
 rw[exK_all];rcases expo Os i.name with _|⟨a,b,c⟩<;>rfl
theorem numb_same{Os:List LObj}{O:LObj}{first:Nat}{a:Int}(ha:0<=a∧a<((O.imps.length+O.globs.length:Nat):Int))(hm:miB Os O=false):numb Os O first a=(nums (exK Os Os.length) O first)[a.toNat]?.getD 0:=by
 obtain⟨m,rfl⟩:∃m:Nat,a=(m:Int):=⟨a.toNat,by omega⟩;rw[Int.toNat_natCast];unfold numb nums;by_cases h:(m:Int)<(O.imps.length:Int)
 ·have hl:m<O.imps.length:=by omega
  rw[if_pos h,Int.toNat_natCast,List.getElem?_append_left (by simpa using hl),List.getElem?_map,List.getElem?_eq_getElem hl];simp only[Option.bind_some,Option.map_some,Option.getD_some];have:=List.any_eq_false.1 hm O.imps[m] (List.getElem_mem _);rw[exK_all];rcases hx:expo Os O.imps[m].name with _|⟨q,b,c⟩
  ·rw[hx]at this;simp at this
  ·rfl
 ·rw[if_neg h,List.getElem?_append_right (by simp;omega),List.getElem?_map,List.length_map,List.getElem?_range (by omega)];simp;omega
theorem mv_same{Os:List LObj}{O:LObj}{first:Nat}{i:LIns}(hg:GoodI (O.imps.length+O.globs.length) i)(hm:miB Os O=false):mvI Os O first i=cdI (nums (exK Os Os.length) O first) i:=by
 unfold mvI cdI;split
 ·rename_i h
  rw[numb_same (hg.g h) hm]
 ·rfl
theorem img_same{Os:List LObj}:∀{l:List LObj} {n:Nat},(∀O∈l,SoundO O∧miB Os O=false)->imgF Os l n=gofF (exK Os Os.length) l n
 |[],_,_=>rfl
 |O::r,n,h=>by
  rw[imgF,gofF,img_same λx hx=>h x (List.mem_cons_of_mem _ hx)];congr 1
  refine List.map_congr_left λg hg=>?_;unfold mvG cdG;congr 1
  refine List.map_congr_left λi hi=>?_;obtain⟨h1,h2⟩:=h O (List.mem_cons_self ..);exact mv_same (h1.ix g hg i hi) h2
theorem sz_base{Os:List LObj}(h:∀O∈Os,SoundO O):gBase Os Os.length<=sz Os:=by
 unfold gBase sz;rw[List.take_length];have h1:∀(l:List LGlob),(∀g∈l,0<g.code.length)->l.length<=(l.map λg=>g.code.length).sum:=by
  intro l;induction l with
  |nil=>simp
  |cons g r ih=>
   intro hg;have:=ih λx hx=>hg x (List.mem_cons_of_mem _ hx);have:=hg g (List.mem_cons_self ..);simp only[List.length_cons,List.map_cons,List.sum_cons];omega
 induction Os with
 |nil=>simp
 |cons O r ih=>
  have:=ih λx hx=>h x (List.mem_cons_of_mem _ hx);have:=h1 O.globs λg hg=>((h O (List.mem_cons_self ..)).ne g hg).1;simp only[List.map_cons,List.sum_cons,sz1]at*;omega
def Szd(Os:List LObj):Prop:=∀O∈Os,O.globs.length*56<=140737488351232∧O.imps.length*24<=140737488351232
theorem lnk_few{Os:List LObj}{entry:ByteArray}(h8:¬8<Os.length):lnkE Os entry=orE 0 (fstF (λ_ O=>!okO O) Os 0) (orE 14 (fstF (twB Os) Os 0) (orE 15 (fstF (λ_=>miB Os) Os 0) (orE 16 (fstF (λ_=>arB2 Os) Os 0) (lnkX Os entry)))):=by unfold lnkE;rw[if_neg h8]
theorem all_sound{Os:List LObj}(h:fstF (λ_ O=>!okO O) Os 0=none):∀O∈Os,SoundO O:=λO hO=>by
 obtain⟨i,hi,rfl⟩:=List.getElem_of_mem hO;have:=fstF_none h i hi;exact okO_sound (by simpa using this)
end Go.Proofs.YtahmgjjgikgpoaaGreatDoor
