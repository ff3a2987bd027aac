import Derived.Test.YtlccndplhfcknaaGreatDoorJ6J
set_option maxRecDepth 100000
set_option maxHeartbeats 8000000
namespace Go.Proofs.YtlccndplhfcknaaGreatDoor
open Go.RowKit Go.Sort
theorem xm_put{w:World}{b n:Nat}{f:ByteArray->Option (Nat×Int)}{D:DataW Unit}(hD:w.ownsMap Tryz.prog 9 xmR b n D)(hf:∀t:ByteArray,Maps.has D (keyL t)=(f t).isSome∧D.atKey (keyL t) (xmD none)=xmD (f t))(t:ByteArray)(m:Nat)(a:Int)(n2:Nat)(w2:World)(h2:w2.ownsMap Tryz.prog 9 xmR b n2 (D.put (keyL t) (xmD (some (m,a))))):XM w2 b n2 λs=>if s=t then some (m,a) else f s:=by
 refine⟨_,h2,λs=>?_⟩;dsimp only;by_cases e:s=t
 ·subst e;rw[if_pos rfl];exact⟨Maps.has_put_same hD.isMap (k:=keyL s) trivial _,Maps.atKey_put_same hD.isMap (k:=keyL s) trivial _ _⟩
 ·rw[if_neg e];have hk:keyL s≠keyL t:=λh=>e (keyL_inj h);rw[Maps.has_put_other hk,Maps.atKey_put_other hk];exact hf s
theorem XM.mono{w:World}{b n n':Nat}{f:ByteArray->Option (Nat×Int)}(h:XM w b n f)(hn:n<=n'):XM w b n' f:=by
 obtain⟨D,hD,hf⟩:=h;exact⟨D,hD.mono hn,hf⟩
theorem exKJ_same{Os:List LObj}{k:Nat}{gl:List LGlob}{j:Nat}(hj:j<gl.length)(h:gl[j].exp=false∨(exKJ Os k gl j gl[j].name).isSome=true)(t:ByteArray):exKJ Os k gl j t=exKJ Os k gl (j+1) t:=by
 rw[exKJ_succ t hj];cases hx:exKJ Os k gl j t with
 |some x=>rfl
 |none=>
  rcases h with h|h
  ·rw[h];rfl
  ·by_cases e:gl[j].name=t
   ·rw[e,hx]at h;cases h
   ·simp[e]
theorem exKJ_put{Os:List LObj}{k:Nat}{gl:List LGlob}{j:Nat}(hj:j<gl.length)(he:gl[j].exp=true)(h:exKJ Os k gl j gl[j].name=none)(t:ByteArray):(if t=gl[j].name then some (gBase Os k+j,gl[j].arity) else exKJ Os k gl j t)=exKJ Os k gl (j+1) t:=by
 rw[exKJ_succ t hj];by_cases e:t=gl[j].name
 ·subst e;rw[if_pos rfl,h,he];simp
 ·rw[if_neg e];cases exKJ Os k gl j t with
  |some x=>rfl
  |none=>simp[Ne.symm e]
def ExpRes(adr:Nat->Addr)(Os:List LObj)(w:World)(e:Ending)(w':World):Prop:=Below w.heap.size w w'∧match fstF (dpB Os) Os 0 with
 |some k=>e=.returned (.tuple #[.map none,errF (adr 14) 0 (k:Int)])
 |none=>∃b n,e=.returned (.tuple #[.map (some b),.nilIface])∧XM w' b n (exK Os Os.length)
structure EoS (Os:List LObj) (w wr:World) (k:Nat):Prop where
 low:Below w.heap.size w wr
 m:XM wr w.heap.size (gBase Os k) (exK Os k)
 f:fstF (dpB Os) Os 0=fstF (dpB Os) (Os.drop k) k
structure EiS (Os:List LObj) (w wr:World) (k:Nat) (gl:List LGlob) (j:Nat):Prop where
 low:Below w.heap.size w wr
 m:XM wr w.heap.size (gBase Os k+j) (exKJ Os k gl j)
 f:fstF (dpJ Os k gl) gl 0=fstF (dpJ Os k gl) (gl.drop j) j
theorem exportsOf_any(Os:List LObj)(v:Value)(w:World)(adr:Nat->Addr)(h:ObjsAt w v Os)(hF:Few Os)(hS:SentAt w adr):
 Calls Tryz.prog 23 #[v] w λe w'=>ExpRes adr Os w e w':=by
 obtain⟨p,cap,rfl,hs,hI⟩:=h;have HI:Hid (∀w',Below w.heap.size w w'->ObjsIn w' p Os):=λw' hb=>hI.keep hb;have HF:=hid hF;have hn8:=hF.n;have HSE:=hid hS;have HZ:=hid (Tryz.zeroX);have hmm:=@run_makeMap Tryz.prog;clear hI hF hs hS;go_enter Tryz.func23,Tryz.ntmps23;go_wp2;go_loopw [5,15] (λnv kv wr=>∃k:Nat,k<=Os.length∧nv=.int .i64 (gBase Os k:Int)∧kv=.int .i64 (k:Int)∧Hid (EoS Os w wr k)) (λ_ kv _=>Os.length-(intOf kv).toNat)
 case atStart=>exact⟨0,Nat.zero_le _,rfl,rfl,(Below.refl _ _).alloc (Nat.le_refl _) _,(XM.new w).congr λ_=>rfl,rfl⟩
 case round=>
  obtain⟨k,hk,rfl,rfl,HS⟩:=hrel;rename World=>wr
  by_cases hlt:k<Os.length
  ·have h0:(0:Int)<=(k:Int):=by omega
   have h1:(k:Int)<(Os.length:Int):=by omega
   obtain⟨b,o,ip,ic,gp,gc,rfl,c0,c1,c2,hO⟩:=(HI.out _ (Below.refl _ _)).cells hlt;replace c0:=cell_keep HS.out.low c0
   replace c1:=cell_keep HS.out.low c1
   replace c2:=cell_keep HS.out.low c2
   obtain⟨gp',gc',e,hgl,hgi⟩:=hO.globs.2.open;cases e;have HGI:=hid hgi;have hbm:=HF.out.base k (by omega);have hgn:=(HF.out.g Os[k] (List.getElem_mem _)).1;obtain⟨m,hm⟩:∃m,gBase Os k=m:=⟨_,rfl⟩;have HM:=hid hm;have HFK:=hid (HS.out.f.trans (fstF_at (dpB Os) Os hlt));have HGS:=hid (gBase_succ hlt);have HEND:=hid (exKJ_end hlt);rw[hm]at hbm ⊢;clear hgi hO hm;have HE0:Hid (EiS Os w (wr.alloc (.cells #[.string Os[k].name,.slice ip Os[k].imps.length ic,.slice gp Os[k].globs.length gc] 44)) k Os[k].globs 0):=by
    have hb:Below wr.heap.size wr (wr.alloc (.cells #[.string Os[k].name,.slice ip Os[k].imps.length ic,.slice gp Os[k].globs.length gc] 44)):=(Below.refl _ _).alloc (Nat.le_refl _) _;refine⟨HS.out.low.trans (hb.mono HS.out.low.size),(HS.out.m.keep hb).congr λt=>?_,rfl⟩;unfold exKJ;cases exK Os k t<;>rfl
   generalize hgl2:Os[k].globs=gl at*;generalize Os[k].name=onm at*;generalize Os[k].imps=oim at*;have HGL:=hid hgl2;clear hgl2;go_wp2;go_loopw [5,23] (λnv jv wx=>∃j:Nat,j<=gl.length∧nv=.int .i64 ((m+j:Nat):Int)∧jv=.int .i64 (j:Int)∧Hid (EiS Os w wx k gl j)) (λ_ jv _=>gl.length-(intOf jv).toNat)
   case atStart=>exact⟨0,Nat.zero_le _,rfl,rfl,HE0.out⟩
   case round=>
    clear HE0;obtain⟨j,hj,rfl,rfl,HX⟩:=hrel;rename World=>wx
    by_cases hjt:j<gl.length
    ·have j0:(0:Int)<=(j:Int):=by omega
     have j1:(j:Int)<(gl.length:Int):=by omega
     obtain⟨gb,go,cp,cn,cc,rfl,g0,g1,g2,g3,-,hnl⟩:=HGI.out _ HX.out.low j hjt;have hlk:=λob=>(HX.out.m.keep ((Below.refl _ _).alloc (Nat.le_refl _) ob)).look gl[j].name hnl;have HFJ:=hid (HX.out.f.trans (fstF_at (dpJ Os k gl) gl hjt));have hzx:=HX.out.low.size;have HSM:=hid (exKJ_same (Os:=Os) (k:=k) hjt);have HPU:=hid (exKJ_put (Os:=Os) (k:=k) hjt);have hkey:=Go.WideMaps.keyOf_string_mk (P:=Tryz.prog) Tryz.underlying9 hnl;obtain⟨D,hD,hDf⟩:=id HX.out.m;rw[HM.out]at hD HPU;have HD0:=hid hD;have HDF:=hid hDf;have HLW:=hid HX.out.low;have HXM:=hid HX.out.m;unfold dpJ at HFJ;clear HX hD hDf;have HDP:Hid (fstF (dpJ Os k gl) gl 0=some j->fstF (dpB Os) Os 0=some k):=λhh=>by
      rw[HFK.out];unfold dpB;rw[HGL.out,hh];rfl
     generalize hnm:gl[j].name=nm at*;generalize gl[j].arity=ar at*;generalize gl[j].exp=ex at*;cases hf:exKJ Os k gl j nm with
     |some r=>
      obtain⟨q,a⟩:=r;rw[hf]at hlk HFJ HSM;simp only[xmV,xmP,Option.isSome_some]at hlk;cases ex with
      |true=>
       have HR:=hid (HDP.out (by rw[show fstF (dpJ Os k gl) gl 0=_ from HFJ.out];rfl));have hcv:=(HSE.out.keep HLW.out).c 14 (by omega);simp only[errE,kNum,List.getD_cons_succ,List.getD_cons_zero]at hcv;have hcv2:=λo1 o2=>alloc_old (wx.alloc o1) o2 _ _ _ (alloc_old wx o1 _ _ _ hcv);go_wp2_with (first
        |(go_at_call 37;refine(At_any _ _ _ _).mono ?_;rintro e w2 ⟨rfl,rfl⟩))
       go_ret2
       refine⟨(HLW.out.alloc hzx _).alloc (by simp;omega) _,?_⟩;rw[HR.out];rfl
      |false=>
       have HR:Hid (fstF (dpJ Os k gl) gl 0=fstF (dpJ Os k gl) (gl.drop (j+1)) (j+1)):=HFJ.out;have HM2:Hid (XM wx w.heap.size (gBase Os k+(j+1)) (exKJ Os k gl (j+1))):=(HXM.out.congr (HSM.out (Or.inl rfl))).mono (by omega);go_wp2;go_roundw
       case rel=>exact⟨j+1,by omega,by go_num,by go_num,(HLW.out.alloc hzx _).alloc (by simp;omega) _,(HM2.out.keep ((Below.refl _ _).alloc (Nat.le_refl _) _)).keep ((Below.refl _ _).alloc (Nat.le_refl _) _),HR.out⟩
       case measure=>simp[intOf];omega
     |none=>
      rw[hf]at hlk HFJ HPU;simp only[xmV,xmP,Option.isSome_none]at hlk;have HR:Hid (fstF (dpJ Os k gl) gl 0=fstF (dpJ Os k gl) (gl.drop (j+1)) (j+1)):=by
       show _=_;rw[show fstF (dpJ Os k gl) gl 0=_ from HFJ.out];simp only[Option.isSome_none,Bool.and_false];rfl
      cases ex with
      |true=>
       go_wp2_with (first
        |(at_mapUpdate;refine wpList_mapUpdate_own _ rfl (.tmp 44) (.tmp 46) (.tmp 50) 78 rfl 9 83 (Maps.string_keyed Tryz.underlying9) Tryz.mapT xmR w.heap.size (m+j) D rfl ((HD0.out.alloc _).alloc _) (by unfold maxLen;omega) (.string nm) (.agg #[.int .i64 ((m+j:Nat):Int),.int .i64 ar]) (keyL nm) rfl rfl hkey (xmD (some (m+j,ar))) [] rfl ?_;intro w1 hown1 hgrow1;have HM1:=hid (xm_put HD0.out HDF.out nm (m+j) ar _ _ hown1);have HB1:=hid (((HLW.out.alloc hzx _).alloc (by simp;omega) _).grown hgrow1 (by simp;omega) (λq hq=>by cases hq;exact Nat.le_refl _));clear hown1 hgrow1))
       go_roundw
       case rel=>exact⟨j+1,by omega,by go_num,by go_num,HB1.out,by rw[HM.out];exact HM1.out.congr (HPU.out rfl rfl),HR.out⟩
       case measure=>simp[intOf];omega
      |false=>
       have HM2:Hid (XM wx w.heap.size (gBase Os k+(j+1)) (exKJ Os k gl (j+1))):=(HXM.out.congr (HSM.out (Or.inl rfl))).mono (by omega);go_wp2;go_roundw
       case rel=>exact⟨j+1,by omega,by go_num,by go_num,(HLW.out.alloc hzx _).alloc (by simp;omega) _,(HM2.out.keep ((Below.refl _ _).alloc (Nat.le_refl _) _)).keep ((Below.refl _ _).alloc (Nat.le_refl _) _),HR.out⟩
       case measure=>simp[intOf];omega
    ·obtain rfl:j=gl.length:=by omega
     have hge:¬(gl.length:Int)<(gl.length:Int):=by omega
     go_wp2;go_roundw
     case rel=>
      refine⟨k+1,by omega,by rw[HGS.out,HM.out],by go_num,HX.out.low,?_,?_⟩
      ·rw[HGS.out];exact HX.out.m.congr HEND.out
      ·rw[HFK.out];unfold dpB;rw[HGL.out,HX.out.f,fstF_end _ _ (Nat.le_refl _)];rfl
     case measure=>simp[intOf];omega
  ·obtain rfl:k=Os.length:=by omega
   have hge:¬(Os.length:Int)<(Os.length:Int):=by omega
   go_wp2;go_ret2
   refine⟨HS.out.low,?_⟩;rw[HS.out.f,fstF_end _ _ (Nat.le_refl _)];exact⟨_,_,rfl,HS.out.m⟩
def miX(f:ByteArray->Option (Nat×Int))(O:LObj):Bool:=(fstF (λ_ i=>(f i.name).isNone) O.imps 0).isSome
def arX(f:ByteArray->Option (Nat×Int))(O:LObj):Bool:=(fstF (λ_ i=>decide ((xmP (f i.name)).2≠i.arity)) O.imps 0).isSome
theorem fldX0(x y:Value)(w:World):Sem.run Tryz.prog (Instr.field 83 (.agg #[x,y]) 0) w=.ok x w:=by kernel_rfl
theorem fldX1(x y:Value)(w:World):Sem.run Tryz.prog (Instr.field 83 (.agg #[x,y]) 1) w=.ok y w:=by kernel_rfl
def wiV(adr:Nat->Addr)(f:ByteArray->Option (Nat×Int))(Os:List LObj):Value:=match fstF (λ_=>miX f) Os 0 with
 |some k=>errF (adr 15) 0 (k:Int)
 |none=>errK adr 16 (fstF (λ_=>arX f) Os 0)
theorem wrongImport_any(Os:List LObj)(v:Value)(w:World)(adr:Nat->Addr)(b0 n0:Nat)(f:ByteArray->Option (Nat×Int))(h:ObjsAt w v Os)(hM:XM w b0 n0 f)(hS:SentAt w adr):
 Calls Tryz.prog 24 #[v,.map (some b0)] w λe w'=>e=.returned (wiV adr f Os)∧Below w.heap.size w w':=by
 obtain⟨p,cap,rfl,hs,hI⟩:=h;have HI:Hid (∀w',Below w.heap.size w w'->ObjsIn w' p Os):=λw' hb=>hI.keep hb;have HM:=hid (λw' (hb:Below w.heap.size w w')=>hM.keep hb);have HSE:=hid hS;unfold short at hs;clear hI hM hS;go_enter Tryz.func24,Tryz.ntmps24;go_wp2;go_loopw [17] (λkv wr=>∃k:Nat,k<=Os.length∧kv=.int .i64 (k:Int)∧Hid (fstF (λ_=>miX f) Os 0=fstF (λ_=>miX f) (Os.drop k) k∧Below w.heap.size w wr)) (λkv _=>Os.length-(intOf kv).toNat)
 case atStart=>exact⟨0,Nat.zero_le _,rfl,rfl,Below.refl _ _⟩
 case round=>
  obtain⟨k,hk,rfl,HS⟩:=hrel;rename World=>wr
  by_cases hlt:k<Os.length
  ·have h0:(0:Int)<=(k:Int):=by omega
   have h1:(k:Int)<(Os.length:Int):=by omega
   obtain⟨b,o,ip,ic,gp,gc,rfl,c0,c1,c2,hO⟩:=(HI.out _ HS.out.2).cells hlt;obtain⟨ip',ic',e,hil,hii⟩:=hO.globs.1.open;cases e;have HII:=hid hii;have HFK:=hid (HS.out.1.trans (fstF_at (λ_=>miX f) Os hlt));have HLW:=hid HS.out.2;have hzr:=HS.out.2.size;unfold miX at HFK;clear hii hO HS;generalize Os[k].globs=gl at*;generalize Os[k].name=onm at*;generalize Os[k].imps=im at*;go_wp2;go_loopw [25] (λjv wx=>∃j:Nat,j<=im.length∧jv=.int .i64 (j:Int)∧Hid (fstF (λ_ i=>(f i.name).isNone) im 0=fstF (λ_ (i:LImp)=>(f i.name).isNone) (im.drop j) j∧Below wr.heap.size wr wx)) (λjv _=>im.length-(intOf jv).toNat)
   case atStart=>exact⟨0,Nat.zero_le _,rfl,rfl,(Below.refl _ _).alloc (Nat.le_refl _) _⟩
   case round=>
    obtain⟨j,hj,rfl,HX⟩:=hrel;rename World=>wx
    by_cases hjt:j<im.length
    ·have j0:(0:Int)<=(j:Int):=by omega
     have j1:(j:Int)<(im.length:Int):=by omega
     obtain⟨ib,io,rfl,i0,i1,hnl⟩:=HII.out _ HX.out.2 j hjt;have HBX:=hid (HLW.out.trans (HX.out.2.mono hzr));have hzx:=HBX.out.size;have hzx2:=HX.out.2.size;have hlk:=λob=>(HM.out _ (HBX.out.alloc hzx ob)).look im[j].name hnl;have HFJ:=hid (HX.out.1.trans (fstF_at (λ_ (i:LImp)=>(f i.name).isNone) im hjt));generalize im[j].name=nm at*;generalize im[j].arity=ar at*;cases hf:f nm with
     |some r=>
      obtain⟨q,a⟩:=r;rw[hf]at hlk HFJ;simp only[xmV,xmP,Option.isSome_some]at hlk;go_wp2;go_roundw
      case rel=>exact⟨j+1,by omega,by go_num,HFJ.out,(HX.out.2.alloc hzx2 _).alloc (by simp;omega) _⟩
      case measure=>simp[intOf];omega
     |none=>
      rw[hf]at hlk HFJ;simp only[xmV,xmP,Option.isSome_none]at hlk;have HR:Hid (fstF (λ_=>miX f) Os 0=some k):=by
       show _=_;rw[show fstF (λ_=>miX f) Os 0=_ from HFK.out,HFJ.out];rfl
      have hcv:=(HSE.out.keep HBX.out).c 15 (by omega);simp only[errE,kNum,List.getD_cons_succ,List.getD_cons_zero]at hcv;have hcv2:=λo1 o2=>alloc_old (wx.alloc o1) o2 _ _ _ (alloc_old wx o1 _ _ _ hcv);go_wp2_with (first
       |(go_at_call 37;refine(At_any _ _ _ _).mono ?_;rintro e w2 ⟨rfl,rfl⟩))
      go_ret;exact⟨ret_val (by unfold wiV;rw[HR.out];rfl),(HBX.out.alloc hzx _).alloc (by simp;omega) _⟩
    ·obtain rfl:j=im.length:=by omega
     have hge:¬(im.length:Int)<(im.length:Int):=by omega
     have HR:Hid (fstF (λ_=>miX f) Os 0=fstF (λ_=>miX f) (Os.drop (k+1)) (k+1)):=by
      show _=_;rw[show fstF (λ_=>miX f) Os 0=_ from HFK.out,HX.out.1,fstF_end _ _ (Nat.le_refl _)];rfl
     go_wp2;go_roundw
     case rel=>exact⟨k+1,by omega,by go_num,HR.out,HLW.out.trans (HX.out.2.mono hzr)⟩
     case measure=>simp[intOf];omega
  ·obtain rfl:k=Os.length:=by omega
   have hge:¬(Os.length:Int)<(Os.length:Int):=by omega
   have HNO:Hid (fstF (λ_=>miX f) Os 0=none):=by
    show _=_;rw[HS.out.1,fstF_end _ _ (Nat.le_refl _)]
   have HLW0:=hid HS.out.2;clear HS hk;rename World=>wy
   have F1:=fldX1;go_wp2;go_loopw [45] (λkv wr=>∃k:Nat,k<=Os.length∧kv=.int .i64 (k:Int)∧Hid (fstF (λ_=>arX f) Os 0=fstF (λ_=>arX f) (Os.drop k) k∧Below w.heap.size w wr)) (λkv _=>Os.length-(intOf kv).toNat)
   case atStart=>exact⟨0,Nat.zero_le _,rfl,rfl,HLW0.out⟩
   case round=>
    obtain⟨k,hk,rfl,HS⟩:=hrel;rename World=>wr
    by_cases hlt:k<Os.length
    ·have h0:(0:Int)<=(k:Int):=by omega
     have h1:(k:Int)<(Os.length:Int):=by omega
     obtain⟨b,o,ip,ic,gp,gc,rfl,c0,c1,c2,hO⟩:=(HI.out _ HS.out.2).cells hlt;obtain⟨ip',ic',e,hil,hii⟩:=hO.globs.1.open;cases e;have HII:=hid hii;have HFK:=hid (HS.out.1.trans (fstF_at (λ_=>arX f) Os hlt));have HLW:=hid HS.out.2;have hzr:=HS.out.2.size;unfold arX at HFK;clear hii hO HS;generalize Os[k].globs=gl at*;generalize Os[k].name=onm at*;generalize Os[k].imps=im at*;go_wp2;go_loopw [53] (λjv wx=>∃j:Nat,j<=im.length∧jv=.int .i64 (j:Int)∧Hid (fstF (λ_ i=>decide ((xmP (f i.name)).2≠i.arity)) im 0=fstF (λ_ (i:LImp)=>decide ((xmP (f i.name)).2≠i.arity)) (im.drop j) j∧Below wr.heap.size wr wx)) (λjv _=>im.length-(intOf jv).toNat)
     case atStart=>exact⟨0,Nat.zero_le _,rfl,rfl,(Below.refl _ _).alloc (Nat.le_refl _) _⟩
     case round=>
      obtain⟨j,hj,rfl,HX⟩:=hrel;rename World=>wx
      by_cases hjt:j<im.length
      ·have j0:(0:Int)<=(j:Int):=by omega
       have j1:(j:Int)<(im.length:Int):=by omega
       obtain⟨ib,io,rfl,i0,i1,hnl⟩:=HII.out _ HX.out.2 j hjt;have HBX:=hid (HLW.out.trans (HX.out.2.mono hzr));have hzx:=HBX.out.size;have hzx2:=HX.out.2.size;have hlk:=λob=>(HM.out _ (HBX.out.alloc hzx ob)).look1 im[j].name hnl;have HFJ:=hid (HX.out.1.trans (fstF_at (λ_ (i:LImp)=>decide ((xmP (f i.name)).2≠i.arity)) im hjt));generalize im[j].name=nm at*;generalize im[j].arity=ar at*;generalize f nm=fo at*;unfold xmV at hlk;generalize (xmP fo).1=q at*;generalize (xmP fo).2=a at*;by_cases ha:a=ar
       ·have HR:Hid (fstF (λ_ (i:LImp)=>decide ((xmP (f i.name)).2≠i.arity)) im 0=fstF (λ_ (i:LImp)=>decide ((xmP (f i.name)).2≠i.arity)) (im.drop (j+1)) (j+1)):=by
         show _=_;rw[HFJ.out,if_neg (by simp[ha])]
        subst ha;go_wp2;go_roundw
        case rel=>exact⟨j+1,by omega,by go_num,HR.out,HX.out.2.alloc hzx2 _⟩
        case measure=>simp[intOf];omega
       ·have HR:Hid (fstF (λ_=>arX f) Os 0=some k):=by
         show _=_;rw[show fstF (λ_=>arX f) Os 0=_ from HFK.out,HFJ.out];simp[ha]
        have hcv:=(HSE.out.keep HBX.out).c 16 (by omega);simp only[errE,kNum,List.getD_cons_succ,List.getD_cons_zero]at hcv;have hcv2:=λo1=>alloc_old wx o1 _ _ _ hcv;go_wp2_with (first
         |(go_at_call 37;refine(At_any _ _ _ _).mono ?_;rintro e w2 ⟨rfl,rfl⟩))
        go_ret;exact⟨ret_val (by unfold wiV;rw[HNO.out,HR.out];rfl),HBX.out.alloc hzx _⟩
      ·obtain rfl:j=im.length:=by omega
       have hge:¬(im.length:Int)<(im.length:Int):=by omega
       have HR:Hid (fstF (λ_=>arX f) Os 0=fstF (λ_=>arX f) (Os.drop (k+1)) (k+1)):=by
        show _=_;rw[show fstF (λ_=>arX f) Os 0=_ from HFK.out,HX.out.1,fstF_end _ _ (Nat.le_refl _)];rfl
       go_wp2;go_roundw
       case rel=>exact⟨k+1,by omega,by go_num,HR.out,HLW.out.trans (HX.out.2.mono hzr)⟩
       case measure=>simp[intOf];omega
    ·obtain rfl:k=Os.length:=by omega
     have hge:¬(Os.length:Int)<(Os.length:Int):=by omega
     go_wp2;go_ret;exact⟨ret_val (by unfold wiV;rw[HNO.out,HS.out.1,fstF_end _ _ (Nat.le_refl _)];rfl),HS.out.2⟩
end Go.Proofs.YtlccndplhfcknaaGreatDoor
