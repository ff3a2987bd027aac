import Derived.Test.YtglihimiidiacaaGreatDoorCm
import Derived.Test.YtglihimiidiacaaGreatDoorCk
import Derived.Test.YtglihimiidiacaaGreatDoorCf
import Derived.Deep.AppendLies
namespace Go.Proofs.YtglihimiidiacaaGreatDoor
open Go.RowKit
section
variable {s:ByteArray}
theorem arB_iff{a:Int}:arB a=true↔0≤a∧a≤20:=by simp[arB]
theorem hasN_nil(t:ByteArray):hasN [] t=false:=rfl
theorem rdImps_iff:∀(n:Nat) (got:List LImp) (last:ByteArray) (p:Nat) (l:List LImp) (q:Nat),rdImps s n got last p=.ok (l,q)↔∃m,l=got++m∧m.length=n∧impsFrom last m=true∧Bt s p (m.flatMap ib)∧q=p+(m.flatMap ib).length
 |0,got,last,p,l,q=>by
  simp only[rdImps,Except.ok.injEq,Prod.mk.injEq];constructor
  ·rintro⟨rfl,rfl⟩;exact⟨[],by simp,rfl,rfl,Bt.nil,rfl⟩
  ·rintro⟨m,rfl,h,-,-,rfl⟩;obtain rfl:=List.length_eq_zero_iff.1 h;exact⟨by simp,rfl⟩
 |n+1,got,last,p,l,q=>by
  rw[rdImps,bd_iff];constructor
  ·rintro⟨t,r,h1,h2⟩;obtain⟨⟨g1,g2,-⟩,k2,rfl⟩:=rdNameB_iff.1 h1;obtain⟨a,r2,h3,h4⟩:=bd_iff.1 h2;obtain⟨k3,k4,rfl⟩:=(rdN_iff (by omega)).1 h3;obtain⟨m,rfl,rfl,hg,hb,rfl⟩:=(rdImps_iff n _ _ _ _ _).1 h4;have he:(⟨t,a⟩::m:List LImp).flatMap ib=nb t++(vb a++m.flatMap ib):=by rw[List.flatMap_cons,ib,Int.toNat_natCast,List.append_assoc]
   refine⟨⟨t,a⟩::m,by simp,rfl,?_,?_,?_⟩
   ·show(nmB t && gtB t last && arB a && impsFrom t m)=true;rw[g1,g2,hg,arB_iff.2 ⟨by omega,by omega⟩];rfl
   ·rw[he];exact Bt.app.2 ⟨k2,Bt.app.2 ⟨k4,hb⟩⟩
   ·rw[he];simp only[List.length_append];omega
  ·rintro⟨m,rfl,hm,hg,hb,rfl⟩;match m,hm,hg with
   |⟨t,a⟩::m,hm,hg=>
    have hg':(nmB t && gtB t last && arB a && impsFrom t m)=true:=hg;simp only[Bool.and_eq_true]at hg';obtain⟨⟨⟨g1,g2⟩,g3⟩,g4⟩:=hg';have ha:=arB_iff.1 g3;obtain⟨a,rfl⟩:=Int.eq_ofNat_of_zero_le ha.1;have he:(⟨t,a⟩::m:List LImp).flatMap ib=nb t++(vb a++m.flatMap ib):=by rw[List.flatMap_cons,ib,Int.toNat_natCast,List.append_assoc]
    rw[he]at hb ⊢;obtain⟨b1,b2⟩:=Bt.app.1 hb;obtain⟨b2,b3⟩:=Bt.app.1 b2;refine⟨t,_,rdNameB_iff.2 ⟨⟨g1,g2,hasN_nil t⟩,b1,rfl⟩,bd_iff.2 ⟨a,_,(rdN_iff (by omega)).2 ⟨by omega,b2,rfl⟩,(rdImps_iff n _ _ _ _ _).2 ⟨m,by simp,by simpa using hm,g4,b3,?_⟩⟩⟩;simp only[List.length_append];omega
def GG(g:LGlob):Prop:=arB g.arity=true∧codeG g.code=true∧∀x∈g.code,IG x
def gt'(g:LGlob):List Nat:=vb g.arity.toNat++([if g.exp then 1 else 0]++(vb g.code.length++g.code.flatMap wb))
theorem gb_eqR(g:LGlob):gb g=nb g.name++gt' g:=by unfold gb gt';simp only[List.append_assoc]
theorem codeG_of{l:List LIns}(h:l.length≤65535)(hi:∀x∈l,IG x):codeG l=true:=by
 unfold codeG;rw[Bool.and_eq_true];exact⟨decide_eq_true h,List.all_eq_true.2 fun x hx=>(hi x hx).1⟩
theorem rdGlob_iff{t:ByteArray}{p q:Nat}{g:LGlob}:rdGlob s t p=.ok (g,q)↔(g.name=t∧GG g)∧Bt s p (gt' g)∧q=p+(gt' g).length:=by
 unfold rdGlob;rw[bd_iff];constructor
 ·rintro⟨a,r1,h1,h⟩;obtain⟨k1,b1,rfl⟩:=(rdN_iff (by omega)).1 h1;obtain⟨x,r2,h2,h⟩:=bd_iff.1 h;obtain⟨k2,b2,rfl⟩:=(rdN_iff (by omega)).1 h2;obtain⟨c,r3,h3,h⟩:=bd_iff.1 h;obtain⟨k3,b3,rfl⟩:=(rdN_iff (by omega)).1 h3;obtain⟨l,r4,h4,h⟩:=bd_iff.1 h;obtain⟨m,rfl,rfl,hg,hb,rfl⟩:=(rdCode_iff _ _ _ _ _).1 h4;simp only[Except.ok.injEq,Prod.mk.injEq]at h;obtain⟨rfl,rfl⟩:=h;have he:vb x=[if ((x:Int)==1)=true then 1 else 0]:=by
   rw[vb_small (by omega)];rcases(show x=0∨x=1 by omega) with rfl|rfl<;>rfl
  have hw:gt' ⟨t,a,(x:Int)==1,l⟩=vb a++(vb x++(vb l.length++l.flatMap wb)):=by unfold gt';rw[he];simp only[Int.toNat_natCast]
  refine⟨⟨rfl,arB_iff.2 ⟨by simp,by simp;omega⟩,codeG_of k3.2 hg,hg⟩,?_,?_⟩
  ·rw[hw];exact Bt.app.2 ⟨b1,Bt.app.2 ⟨b2,Bt.app.2 ⟨b3,hb⟩⟩⟩
  ·rw[hw];simp only[List.length_append];omega
 ·rintro⟨⟨rfl,h1,h2,h3⟩,hb,rfl⟩;obtain⟨nm,ar,ex,code⟩:=g;simp only at h1 h2 h3;have ha:=arB_iff.1 h1;obtain⟨a,rfl⟩:=Int.eq_ofNat_of_zero_le ha.1;have hc:code.length≤65535:=by
   simp only[codeG,Bool.and_eq_true,decide_eq_true_eq]at h2;exact h2.1
  have he:vb (if ex then 1 else 0)=[if ex then 1 else 0]:=vb_small (by split<;>omega);have hw:gt' ⟨nm,a,ex,code⟩=vb a++(vb (if ex then 1 else 0)++(vb code.length++code.flatMap wb)):=by unfold gt';rw[he];simp only[Int.toNat_natCast]
  rw[hw]at hb ⊢;obtain⟨b1,hb⟩:=Bt.app.1 hb;obtain⟨b2,hb⟩:=Bt.app.1 hb;obtain⟨b3,b4⟩:=Bt.app.1 hb;refine⟨a,_,(rdN_iff (by omega)).2 ⟨by omega,b1,rfl⟩,bd_iff.2 ⟨if ex then 1 else 0,_,(rdN_iff (by omega)).2 ⟨by split<;>omega,b2,rfl⟩,bd_iff.2 ⟨code.length,_,(rdN_iff (by omega)).2 ⟨by omega,b3,rfl⟩,bd_iff.2 ⟨code,_,(rdCode_iff _ _ _ _ _).2 ⟨code,rfl,rfl,h3,b4,rfl⟩,?_⟩⟩⟩⟩;simp only[Except.ok.injEq,Prod.mk.injEq,List.length_append];refine⟨?_,by omega⟩;cases ex<;>rfl
theorem rdGlobs_iff{imps:List LImp}:∀(n:Nat) (got:List LGlob) (last:ByteArray) (p:Nat) (l:List LGlob) (q:Nat),rdGlobs s imps n got last p=.ok (l,q)↔∃m,l=got++m∧m.length=n∧(globsFrom imps last m=true∧∀g∈m,∀x∈g.code,IG x)∧Bt s p (m.flatMap gb)∧q=p+(m.flatMap gb).length
 |0,got,last,p,l,q=>by
  simp only[rdGlobs,Except.ok.injEq,Prod.mk.injEq];constructor
  ·rintro⟨rfl,rfl⟩;exact⟨[],by simp,rfl,⟨rfl,(fun _ h=>by cases h)⟩,Bt.nil,rfl⟩
  ·rintro⟨m,rfl,h,-,-,rfl⟩;obtain rfl:=List.length_eq_zero_iff.1 h;exact⟨by simp,rfl⟩
 |n+1,got,last,p,l,q=>by
  rw[rdGlobs,bd_iff];constructor
  ·rintro⟨t,r,h1,h2⟩;obtain⟨⟨g1,g2,g3⟩,k2,rfl⟩:=rdNameB_iff.1 h1;obtain⟨g,r2,h3,h4⟩:=bd_iff.1 h2;obtain⟨⟨rfl,a1,a2,a3⟩,k4,rfl⟩:=rdGlob_iff.1 h3;obtain⟨m,rfl,rfl,⟨hg,hi⟩,hb,rfl⟩:=(rdGlobs_iff n _ _ _ _ _).1 h4;have he:(g::m:List LGlob).flatMap gb=nb g.name++(gt' g++m.flatMap gb):=by rw[List.flatMap_cons,gb_eqR,List.append_assoc]
   refine⟨g::m,by simp,rfl,⟨?_,fun y hy=>?_⟩,?_,?_⟩
   ·show(nmB g.name && gtB g.name last && !hasN imps g.name && arB g.arity && codeG g.code && globsFrom imps g.name m)=true;rw[g1,g2,g3,a1,a2,hg];rfl
   ·rcases List.mem_cons.1 hy with rfl|hy
    ·exact a3
    ·exact hi y hy
   ·rw[he];exact Bt.app.2 ⟨k2,Bt.app.2 ⟨k4,hb⟩⟩
   ·rw[he];simp only[List.length_append];omega
  ·rintro⟨m,rfl,hm,hg,hb,rfl⟩;match m,hm,hg with
   |g::m,hm,⟨hg,hi⟩=>
    have hg':(nmB g.name && gtB g.name last && !hasN imps g.name && arB g.arity && codeG g.code && globsFrom imps g.name m)=true:=hg;simp only[Bool.and_eq_true,Bool.not_eq_true']at hg';obtain⟨⟨⟨⟨⟨g1,g2⟩,g3⟩,g4⟩,g5⟩,g6⟩:=hg';have he:(g::m:List LGlob).flatMap gb=nb g.name++(gt' g++m.flatMap gb):=by rw[List.flatMap_cons,gb_eqR,List.append_assoc]
    rw[he]at hb ⊢;obtain⟨b1,b2⟩:=Bt.app.1 hb;obtain⟨b2,b3⟩:=Bt.app.1 b2;refine⟨g.name,_,rdNameB_iff.2 ⟨⟨g1,g2,g3⟩,b1,rfl⟩,bd_iff.2 ⟨g,_,rdGlob_iff.2 ⟨⟨rfl,g4,g5,hi g (by simp)⟩,b2,rfl⟩,(rdGlobs_iff n _ _ _ _ _).2 ⟨m,by simp,by simpa using hm,⟨g6,fun y hy=>hi y (List.mem_cons_of_mem _ hy)⟩,b3,?_⟩⟩⟩;simp only[List.length_append];omega
theorem getD_tb(k:Nat):(s.data.toList.getD k 0).toNat=(tb s).getD k 0:=by
 simp only[tb,List.getD_eq_getElem?_getD,List.getElem?_map];cases s.data.toList[k]?<;>rfl
theorem bA0:bA s 0=tb s:=rfl
theorem rdMark_iff{q:Nat}:rdMark s 4 0=.ok ((),q)↔Bt s 0 [84,65,82,78]∧q=4:=by
 have h4:rdMark s 4 0=if (tb s).getD 0 0=84 then if (tb s).getD 1 0=65 then if (tb s).getD 2 0=82 then if (tb s).getD 3 0=78 then .ok ((),4) else .error (8,3) else .error (8,2) else .error (8,1) else .error (8,0):=by
  simp only[rdMark,getD_tb];rfl
 rw[h4];unfold Bt;rw[bA0];constructor
 ·intro h;split at h
  ·split at h
   ·split at h
    ·split at h
     ·cases h;refine⟨?_,rfl⟩;rename_i e0 e1 e2 e3
      match tb s,e0,e1,e2,e3 with
      |[],e0,_,_,_=>simp at e0
      |[_],_,e1,_,_=>simp at e1
      |[_,_],_,_,e2,_=>simp at e2
      |[_,_,_],_,_,_,e3=>simp at e3
      |a::b::c::d::r,e0,e1,e2,e3=>
       simp at e0 e1 e2 e3;exact⟨r,by rw[e0,e1,e2,e3];rfl⟩
     ·cases h
    ·cases h
   ·cases h
  ·cases h
 ·rintro⟨⟨r,h⟩,rfl⟩;rw[h];rfl
theorem hb_split(O:LObj):hb O=[84,65,82,78]++(nb O.name++(vb O.imps.length++(O.imps.flatMap ib++(vb O.globs.length++O.globs.flatMap gb)))):=by unfold hb hdB;simp only[List.append_assoc]
theorem rdObj_iff{O:LObj}{q:Nat}(hs:s.size<18446744073709551616):rdObj s=.ok (O,q)↔(valsG O=true∧∀g∈O.globs,∀x∈g.code,IG x)∧tb s=hb O∧q=s.size:=by
 unfold rdObj;rw[bd_iff];constructor
 ·rintro⟨_,p,h1,h⟩;obtain⟨b1,rfl⟩:=rdMark_iff.1 h1;obtain⟨nm,p,h2,h⟩:=bd_iff.1 h;obtain⟨k2,b2,rfl⟩:=rdName_iff.1 h2;obtain⟨n,p,h3,h⟩:=bd_iff.1 h;obtain⟨k3,b3,rfl⟩:=rdV_iff.1 h3;obtain⟨is,p,h4,h⟩:=bd_iff.1 h;obtain⟨m,rfl,rfl,k4,b4,rfl⟩:=(rdImps_iff _ _ _ _ _ _).1 h4;obtain⟨n2,p,h5,h⟩:=bd_iff.1 h;obtain⟨k5,b5,rfl⟩:=rdV_iff.1 h5;obtain⟨gs,p,h6,h⟩:=bd_iff.1 h;obtain⟨m2,rfl,rfl,⟨k6,k7⟩,b6,rfl⟩:=(rdGlobs_iff _ _ _ _ _ _).1 h6;split at h
  ·cases h
  ·rename_i hp
   simp only[Except.ok.injEq,Prod.mk.injEq]at h;obtain⟨rfl,rfl⟩:=h;have hB:Bt s 0 (hb ⟨nm,is,gs⟩):=by
    rw[hb_split];refine Bt.app.2 ⟨b1,?_⟩;rw[Nat.zero_add];exact Bt.app.2 ⟨b2,Bt.app.2 ⟨b3,Bt.app.2 ⟨b4,Bt.app.2 ⟨b5,b6⟩⟩⟩⟩
   have hl:(hb ⟨nm,is,gs⟩).length=4+(nb nm).length+(vb is.length).length+(is.flatMap ib).length+(vb gs.length).length+(gs.flatMap gb).length:=by
    rw[hb_split];simp only[List.length_append,List.length_cons,List.length_nil];omega
   have hle:=hB.le (Nat.zero_le _);obtain⟨r,hr⟩:=hB;rw[bA0]at hr;have hr0:r=[]:=by
    have:=congrArg List.length hr;rw[tb_len,List.length_append]at this;exact List.length_eq_zero_iff.1 (by omega)
   rw[hr0,List.append_nil]at hr;refine⟨⟨?_,k7⟩,hr,by omega⟩;show(nmB nm && impsFrom _ is && globsFrom is _ gs)=true;rw[k2,k4,k6];rfl
 ·rintro⟨⟨hV,hI⟩,ht,rfl⟩;have hB:Bt s 0 (hb O):=⟨[],by rw[bA0,ht,List.append_nil]⟩;have hlen:s.size=(hb O).length:=by rw[←ht,tb_len]
  have hl:(hb O).length=4+(nb O.name).length+(vb O.imps.length).length+(O.imps.flatMap ib).length+(vb O.globs.length).length+(O.globs.flatMap gb).length:=by
   rw[hb_split];simp only[List.length_append,List.length_cons,List.length_nil];omega
  have hl1:∀l:List LImp,l.length≤(l.flatMap ib).length:=fun l=>by
   induction l with
   |nil=>simp
   |cons a r ih=>
    rw[List.flatMap_cons,List.length_append,List.length_cons];have:=vb_pos a.arity.toNat;have hi:(ib a).length=(nb a.name).length+(vb a.arity.toNat).length:=by unfold ib;rw[List.length_append]
    omega
  have hl2:∀l:List LGlob,l.length≤(l.flatMap gb).length:=fun l=>by
   induction l with
   |nil=>simp
   |cons a r ih=>
    rw[List.flatMap_cons,List.length_append,List.length_cons];have:=vb_pos a.arity.toNat;have hi:(vb a.arity.toNat).length≤(gb a).length:=by rw[gb_eqR,List.length_append];unfold gt';rw[List.length_append];omega
    omega
  have m1:=hl1 O.imps;have m2:=hl2 O.globs;rw[hb_split]at hB;obtain⟨b1,hB⟩:=Bt.app.1 hB;obtain⟨b2,hB⟩:=Bt.app.1 hB;obtain⟨b3,hB⟩:=Bt.app.1 hB;obtain⟨b4,hB⟩:=Bt.app.1 hB;obtain⟨b5,b6⟩:=Bt.app.1 hB;have hV':(nmB O.name && impsFrom ⟨#[]⟩ O.imps && globsFrom O.imps ⟨#[]⟩ O.globs)=true:=hV;simp only[Bool.and_eq_true]at hV';refine⟨(),_,rdMark_iff.2 ⟨b1,rfl⟩,bd_iff.2 ⟨O.name,_,rdName_iff.2 ⟨hV'.1.1,b2,rfl⟩,bd_iff.2 ⟨O.imps.length,_,rdV_iff.2 ⟨by omega,b3,rfl⟩,bd_iff.2 ⟨O.imps,_,(rdImps_iff _ _ _ _ _ _).2 ⟨O.imps,rfl,rfl,hV'.1.2,b4,rfl⟩,bd_iff.2 ⟨O.globs.length,_,rdV_iff.2 ⟨by omega,b5,rfl⟩,bd_iff.2 ⟨O.globs,_,(rdGlobs_iff _ _ _ _ _ _).2 ⟨O.globs,rfl,rfl,⟨hV'.2,hI⟩,b6,rfl⟩,?_⟩⟩⟩⟩⟩⟩;have hq:4+(nb O.name).length+(vb O.imps.length).length+(O.imps.flatMap ib).length+(vb O.globs.length).length+(O.globs.flatMap gb).length=s.size:=by omega
  rw[if_neg (by omega),hq]
end
end Go.Proofs.YtglihimiidiacaaGreatDoor
namespace Go.Proofs.YtglihimiidiacaaGreatDoor
open Go.RowKit
theorem toU8_tb(s:ByteArray):toU8 (tb s)=s.data.toList:=by
 unfold toU8 tb;rw[List.map_map];conv=>rhs;rw[←List.map_id s.data.toList]
 exact List.map_congr_left fun b _=>by simp
theorem tb_toBA{l:List Nat}(h:∀b∈l,b<256):tb (toBA l)=l:=by
 unfold tb;rw[toBA_list,toU8,List.map_map];conv=>rhs;rw[←List.map_id l]
 exact List.map_congr_left fun b hb=>by
  have:=h b hb;simp;omega
theorem tb_body(s:ByteArray):tb (bodyOf s)=(tb s).take (s.size-4):=by
 unfold bodyOf;rw[tb_ext,List.drop_zero,Nat.sub_zero]
theorem last4(L:List Nat)(n:Nat)(h:L.length=n+4):L.drop n=[L.getD n 0,L.getD (n+1) 0,L.getD (n+2) 0,L.getD (n+3) 0]:=by
 have hg:∀k,L.getD (n+k) 0=(L.drop n).getD k 0:=fun k=>by simp only[List.getD_eq_getElem?_getD,List.getElem?_drop]
 have h0:=hg 0;rw[Nat.add_zero]at h0;rw[h0,hg 1,hg 2,hg 3];have hl:(L.drop n).length=4:=by rw[List.length_drop];omega
 match L.drop n,hl with
 |[a,b,c,d],_=>rfl
theorem sum_file{s:ByteArray}(h4:4≤s.size):sumIs s↔tb s=tb (bodyOf s)++sumB (tb (bodyOf s)):=by
 have hl:(tb s).length=(s.size-4)+4:=by rw[tb_len];omega
 have hsp:tb s=tb (bodyOf s)++(tb s).drop (s.size-4):=by rw[tb_body,List.take_append_drop]
 have hd:=last4 (tb s) (s.size-4) hl;have hc:crc (toU8 (tb (bodyOf s)))=crc (bodyOf s).data.toList:=by rw[toU8_tb]
 have hk:∀k,sumAt s k↔(tb s).getD (s.size-4+k) 0=crc (bodyOf s).data.toList / 256 ^ k % 256:=fun k=>by unfold sumAt;rw[getD_tb]
 have hB:sumB (tb (bodyOf s))=[crc (bodyOf s).data.toList % 256,crc (bodyOf s).data.toList / 256 % 256,crc (bodyOf s).data.toList / 65536 % 256,crc (bodyOf s).data.toList / 16777216 % 256]:=by unfold sumB;rw[hc]
 generalize crc (bodyOf s).data.toList=C at*;constructor
 ·intro h;have k0:=(hk 0).1 (h 0 (by omega));have k1:=(hk 1).1 (h 1 (by omega));have k2:=(hk 2).1 (h 2 (by omega));have k3:=(hk 3).1 (h 3 (by omega));rw[Nat.add_zero,Nat.pow_zero,Nat.div_one]at k0;rw[k0,k1,k2,k3]at hd;rw[hB];exact hsp.trans (by rw[hd])
 ·intro h k hk4;rw[hk];have he:(tb s).drop (s.size-4)=sumB (tb (bodyOf s)):=List.append_cancel_left (hsp.symm.trans h);rw[hd,hB]at he;simp only[List.cons.injEq,and_true]at he;rcases(show k=0∨k=1∨k=2∨k=3 by omega) with rfl|rfl|rfl|rfl
  ·rw[Nat.add_zero,Nat.pow_zero,Nat.div_one];exact he.1
  ·exact he.2.1
  ·exact he.2.2.1
  ·exact he.2.2.2
theorem ig_of{O:LObj}(hV:valsG O=true)(hR:RangeO O):∀g∈O.globs,∀x∈g.code,IG x:=fun g hg x hx=>⟨((GoodO.of hV).globs g hg).2.2.2 x hx,hR g hg x hx⟩
theorem hb4(O:LObj):4≤(hb O).length:=by rw[hb_split,List.length_append];simp only[List.length_cons,List.length_nil];omega
theorem hb_small{O:LObj}(hL:(hb O).length+4≤100000):O.imps.length<140737488355328∧O.globs.length<140737488355328:=by
 have h1:∀l:List LImp,l.length≤(l.flatMap ib).length:=fun l=>by
  induction l with
  |nil=>simp
  |cons a r ih=>
   rw[List.flatMap_cons,List.length_append,List.length_cons];have:=vb_pos a.arity.toNat;have hi:(ib a).length=(nb a.name).length+(vb a.arity.toNat).length:=by unfold ib;rw[List.length_append]
   omega
 have h2:∀l:List LGlob,l.length≤(l.flatMap gb).length:=fun l=>by
  induction l with
  |nil=>simp
  |cons a r ih=>
   rw[List.flatMap_cons,List.length_append,List.length_cons];have:=vb_pos a.arity.toNat;have hi:(vb a.arity.toNat).length≤(gb a).length:=by rw[gb_eqR,List.length_append];unfold gt';rw[List.length_append];omega
   omega
 have m1:=h1 O.imps;have m2:=h2 O.globs;rw[hb_split]at hL;simp only[List.length_append]at hL;omega
def fileOf(O:LObj):ByteArray:=toBA (hb O++sumB (hb O))
theorem sumB_len(l:List Nat):(sumB l).length=4:=rfl
theorem file_size(O:LObj):(fileOf O).size=(hb O).length+4:=by unfold fileOf;rw[toBA_size,List.length_append,sumB_len]
theorem file_tb{O:LObj}(hV:valsG O=true)(hR:RangeO O)(hL:(hb O).length+4≤100000):tb (fileOf O)=hb O++sumB (hb O):=by
 have hs:=hb_small hL;refine tb_toBA fun b hb'=>?_;rcases List.mem_append.1 hb' with h|h
 ·exact hb_lt O (GoodO.of hV) hR hs.1 hs.2 b h
 ·unfold sumB at h;simp only[List.mem_cons,List.not_mem_nil,or_false]at h;rcases h with rfl|rfl|rfl|rfl<;>exact Nat.mod_lt _ (by omega)
theorem enc_dec{O:LObj}(hV:valsG O=true)(hR:RangeO O)(hL:(hb O).length+4≤100000):docD (fileOf O)=match sBad (O.imps.length+O.globs.length) O.globs 0 with|some (e,k,i)=>.error ((12+e:Nat),(k:Int),(i:Int))|none=>.ok O:=by
 have hz:=file_size O;have h4:=hb4 O;have ht:=file_tb hV hR hL;have hb':tb (bodyOf (fileOf O))=hb O:=by rw[tb_body,ht,hz,Nat.add_sub_cancel,List.take_left]
 have hs:sumIs (fileOf O):=(sum_file (by omega)).2 (by rw[hb',ht]);have hsz:(bodyOf (fileOf O)).size=(hb O).length:=by rw[←tb_len,hb']
 have hr:=(rdObj_iff (s:=bodyOf (fileOf O)) (O:=O) (q:=(bodyOf (fileOf O)).size) (by omega)).2 ⟨⟨hV,ig_of hV hR⟩,hb',rfl⟩;match h5:sBad (O.imps.length+O.globs.length) O.globs 0 with
 |some (e,k,i)=>rw[docD_bad (by omega) (by omega) hs hr h5];rfl
 |none=>rw[docD_ok (by omega) (by omega) hs hr h5]
end Go.Proofs.YtglihimiidiacaaGreatDoor
namespace Go.Proofs.YtglihimiidiacaaGreatDoor
open Go.RowKit Go.Sort
def gapN(n:Nat):Bool:=n==32||n==10
def brkN(n:Nat):Bool:=n==40||n==41
theorem gapN_iff(n:Nat):gapN n=true↔n=32∨n=10:=by simp[gapN]
theorem brkN_iff(n:Nat):brkN n=true↔n=40∨n=41:=by simp[brkN]
def skp(s:ByteArray)(p:Nat):Nat:=if h:p<s.size then (if gapN s[p].toNat=true then skp s (p+1) else p) else p
termination_by s.size-p
theorem skp_gap{s:ByteArray}{p:Nat}(h:p<s.size)(hg:gapN s[p].toNat=true):skp s p=skp s (p+1):=by rw[skp,dif_pos h,if_pos hg]
theorem skp_stop{s:ByteArray}{p:Nat}(h:p<s.size)(hg:gapN s[p].toNat=false):skp s p=p:=by rw[skp,dif_pos h,if_neg (by simp[hg])]
theorem skp_end{s:ByteArray}{p:Nat}(h:s.size≤p):skp s p=p:=by rw[skp,dif_neg (by omega)]
theorem skp_spec(s:ByteArray):∀(n p:Nat),s.size-p≤n→p≤skp s p∧(p≤s.size→skp s p≤s.size)∧(∀h:skp s p<s.size,gapN s[skp s p].toNat=false)
 |0,p,hn=>by
  rw[skp_end (by omega)];exact⟨Nat.le_refl _,id,fun h=>by omega⟩
 |n+1,p,hn=>by
  by_cases h:p<s.size
  ·cases hg:gapN s[p].toNat with
   |true=>
    have e:=skp_gap h hg;obtain⟨h1,h2,h3⟩:=skp_spec s n (p+1) (by omega);refine⟨by rw[e];omega,fun _=>by rw[e];exact h2 (by omega),?_⟩;intro hh;have e2:s[skp s p].toNat=(s[skp s (p+1)]'(by rw[←e];exact hh)).toNat:=by congr 2
    rw[e2];exact h3 _
   |false=>
    have e:=skp_stop h hg;refine⟨by omega,fun _=>by omega,fun hh=>?_⟩;have e2:s[skp s p].toNat=s[p].toNat:=by congr 2
    rw[e2];exact hg
  ·have e:=skp_end (s:=s) (p:=p) (by omega);refine⟨by omega,fun _=>by omega,fun hh=>by omega⟩
theorem skp_ge(s:ByteArray)(p:Nat):p≤skp s p:=(skp_spec s _ p (Nat.le_refl _)).1
theorem skp_not{s:ByteArray}{p:Nat}(h:skp s p<s.size):gapN s[skp s p].toNat=false:=(skp_spec s _ p (Nat.le_refl _)).2.2 h
theorem skp_idem(s:ByteArray)(p:Nat):skp s (skp s p)=skp s p:=by
 by_cases h:skp s p<s.size
 ·exact skp_stop h (skp_not h)
 ·exact skp_end (by omega)
def wnd(s:ByteArray)(q:Nat):Nat:=if h:q<s.size then (if gapN s[q].toNat=true∨brkN s[q].toNat=true then q else wnd s (q+1)) else q
termination_by s.size-q
theorem wnd_more{s:ByteArray}{q:Nat}(h:q<s.size)(hg:gapN s[q].toNat=false)(hb:brkN s[q].toNat=false):wnd s q=wnd s (q+1):=by rw[wnd,dif_pos h,if_neg (by simp[hg,hb])]
theorem wnd_stop{s:ByteArray}{q:Nat}(h:q<s.size)(hg:gapN s[q].toNat=true∨brkN s[q].toNat=true):wnd s q=q:=by rw[wnd,dif_pos h,if_pos hg]
theorem wnd_end{s:ByteArray}{q:Nat}(h:s.size≤q):wnd s q=q:=by rw[wnd,dif_neg (by omega)]
theorem wnd_spec(s:ByteArray):∀(n q:Nat),s.size-q≤n→q≤wnd s q∧(q≤s.size→wnd s q≤s.size)
 |0,q,hn=>by rw[wnd_end (by omega)];exact⟨Nat.le_refl _,id⟩
 |n+1,q,hn=>by
  by_cases h:q<s.size
  ·by_cases hg:gapN s[q].toNat=true∨brkN s[q].toNat=true
   ·rw[wnd_stop h hg];exact⟨Nat.le_refl _,id⟩
   ·rw[wnd_more h (by cases hx:gapN s[q].toNat<;>simp_all) (by cases hx:brkN s[q].toNat<;>simp_all)];obtain⟨h1,h2⟩:=wnd_spec s n (q+1) (by omega);exact⟨by omega,fun _=>h2 (by omega)⟩
  ·rw[wnd_end (by omega)];exact⟨Nat.le_refl _,id⟩
theorem wnd_ge(s:ByteArray)(q:Nat):q≤wnd s q:=(wnd_spec s _ q (Nat.le_refl _)).1
theorem wnd_le{s:ByteArray}{q:Nat}(h:q≤s.size):wnd s q≤s.size:=(wnd_spec s _ q (Nat.le_refl _)).2 h
def tokE(s:ByteArray)(q:Nat):Nat:=if wnd s q=q∧q<s.size then q+1 else wnd s q
theorem tokE_le{s:ByteArray}{q:Nat}(h:q≤s.size):tokE s q≤s.size:=by unfold tokE;split;omega;exact wnd_le h
theorem tokE_gt{s:ByteArray}{q:Nat}(h:q<s.size):q<tokE s q:=by
 unfold tokE;split
 ·omega
 ·have:=wnd_ge s q;omega
def tokA(s:ByteArray)(p:Nat):Nat:=skp s p
def nxt(s:ByteArray)(p:Nat):Nat:=tokE s (skp s p)
def tokT(s:ByteArray)(p:Nat):ByteArray:=s.extract (tokA s p) (nxt s p)
theorem tokA_skp(s:ByteArray)(p:Nat):tokA s (skp s p)=tokA s p:=skp_idem s p
theorem nxt_skp(s:ByteArray)(p:Nat):nxt s (skp s p)=nxt s p:=by unfold nxt;rw[skp_idem]
theorem tokT_skp(s:ByteArray)(p:Nat):tokT s (skp s p)=tokT s p:=by unfold tokT;rw[tokA_skp,nxt_skp]
theorem nxt_gt{s:ByteArray}{p:Nat}(h:tokA s p<s.size):p<nxt s p:=by
 have h1:=skp_ge s p;have h2:=tokE_gt (s:=s) (q:=skp s p) h;unfold nxt;omega
abbrev Pr(α:Type):=Except (Nat×Nat) (α×Nat)
end Go.Proofs.YtglihimiidiacaaGreatDoor
namespace Go.Proofs.YtglihimiidiacaaGreatDoor
open Go.RowKit Go.Sort
theorem isBracket_any(n:Nat)(w:World):Calls Tryz.prog 115 #[.int .u8 (n:Int)] w fun e w'=>e=.returned (.bool (brkN n))∧w'=w:=by
 go_enter Tryz.func115,Tryz.ntmps115;go_wp2;all_goals
  go_ret;refine⟨ret_bool ?_,rfl⟩;have e1:((n:Int)==40)=(n==40):=by rw[Bool.eq_iff_iff,beq_iff_eq,beq_iff_eq];omega
  have e2:((n:Int)==41)=(n==41):=by rw[Bool.eq_iff_iff,beq_iff_eq,beq_iff_eq];omega
  unfold brkN;rw[←e1,←e2];try simp_all
theorem isGap_any(n:Nat)(w:World):Calls Tryz.prog 116 #[.int .u8 (n:Int)] w fun e w'=>e=.returned (.bool (gapN n))∧w'=w:=by
 go_enter Tryz.func116,Tryz.ntmps116;go_wp2;all_goals
  go_ret;refine⟨ret_bool ?_,rfl⟩;have e1:((n:Int)==32)=(n==32):=by rw[Bool.eq_iff_iff,beq_iff_eq,beq_iff_eq];omega
  have e2:((n:Int)==10)=(n==10):=by rw[Bool.eq_iff_iff,beq_iff_eq,beq_iff_eq];omega
  unfold gapN;rw[←e1,←e2];try simp_all
def wlen(d:ByteArray):Nat:=match d[0]? with|some b=>if brkN b.toNat=true then 1 else wnd d 0|none=>0
theorem wlen_brk{d:ByteArray}(h:0<d.size)(hb:brkN d[0].toNat=true):wlen d=1:=by unfold wlen;rw[getElem?_pos d 0 h];simp[hb]
theorem wlen_word{d:ByteArray}(h:0<d.size)(hb:brkN d[0].toNat=false):wlen d=wnd d 0:=by unfold wlen;rw[getElem?_pos d 0 h];simp[hb]
set_option maxRecDepth 100000 in
set_option maxHeartbeats 4000000 in
theorem wordLength_any(d:ByteArray)(w:World)(h0:0<d.size)(hs:d.size≤2000):Calls Tryz.prog 66 #[.string d] w fun e w'=>e=.returned (.int .i64 (wlen d:Int))∧w'=w:=by
 cases hb:brkN d[0].toNat with
 |true=>
  have HW:=hid (wlen_brk h0 hb);go_enter Tryz.func66,Tryz.ntmps66;go_wp2_with (first|(go_at_call 115;refine(isBracket_any _ _).mono ?_;rintro e w' ⟨rfl,rfl⟩))
  go_ret;exact⟨by rw[HW.out];rfl,rfl⟩
 |false=>
  have HW:=hid (wlen_word h0 hb);go_enter Tryz.func66,Tryz.ntmps66;go_wp2_with (first|(go_at_call 115;refine(isBracket_any _ _).mono ?_;rintro e w' ⟨rfl,rfl⟩))
  go_loop [3] (fun i=>∃k:Nat,k≤d.size∧i=.int .i64 k∧Hid (wnd d k=wnd d 0)) (fun i=>d.size-(intOf i).toNat)
  case atStart=>exact⟨0,Nat.zero_le _,rfl,rfl⟩
  case round=>
   obtain⟨k,hk,rfl,HA⟩:=hrel;by_cases hlt:k<d.size
   ·have h1:(0:Int)≤(k:Int):=by omega
    have h2:(k:Int)<(d.size:Int):=by omega
    have HM:=hid (wnd_more (s:=d) (q:=k) hlt);have HS:=hid (wnd_stop (s:=d) (q:=k) hlt);cases hb1:brkN d[k].toNat with
    |true=>
     go_wp2_with (first|(go_at_call 115;refine(isBracket_any _ _).mono ?_;rintro e w' ⟨rfl,rfl⟩))
     go_ret;exact⟨by rw[HW.out,←HA.out,HS.out (Or.inr hb1)];rfl,rfl⟩
    |false=>
     cases hg1:gapN d[k].toNat with
     |true=>
      go_wp2_with (first|(go_at_call 115;refine(isBracket_any _ _).mono ?_;rintro e w' ⟨rfl,rfl⟩)|(go_at_call 116;refine(isGap_any _ _).mono ?_;rintro e w' ⟨rfl,rfl⟩))
      go_ret;exact⟨by rw[HW.out,←HA.out,HS.out (Or.inl hg1)];rfl,rfl⟩
     |false=>
      go_wp2_with (first|(go_at_call 115;refine(isBracket_any _ _).mono ?_;rintro e w' ⟨rfl,rfl⟩)|(go_at_call 116;refine(isGap_any _ _).mono ?_;rintro e w' ⟨rfl,rfl⟩))
      exact⟨⟨k+1,by omega,by go_num,by show _=_;rw[←HM.out hg1 hb1,HA.out]⟩,by simp[intOf];omega⟩
   ·have hge:¬(k:Int)<(d.size:Int):=by omega
    go_wp2;go_ret;exact⟨by rw[HW.out,←HA.out,wnd_end (by omega)];rfl,rfl⟩
end Go.Proofs.YtglihimiidiacaaGreatDoor
namespace Go.Proofs.YtglihimiidiacaaGreatDoor
open Go.RowKit Go.Sort
def toks(s:ByteArray)(p:Nat):List (ByteArray×Nat):=if _h:tokA s p<s.size then (tokT s p,tokA s p)::toks s (nxt s p) else [(⟨#[]⟩,s.size)]
termination_by s.size-p
decreasing_by
 have h1:=nxt_gt _h;have h2:=skp_ge s p;unfold tokA at _h;omega
theorem toks_cons{s:ByteArray}{p:Nat}(h:tokA s p<s.size):toks s p=(tokT s p,tokA s p)::toks s (nxt s p):=by rw[toks,dif_pos h]
theorem toks_end{s:ByteArray}{p:Nat}(h:¬tokA s p<s.size):toks s p=[(⟨#[]⟩,s.size)]:=by rw[toks,dif_neg h]
theorem toks_skp(s:ByteArray)(p:Nat):toks s (skp s p)=toks s p:=by
 rw[toks,tokA_skp,tokT_skp,nxt_skp];conv=>rhs;rw[toks]
theorem toks_gap{s:ByteArray}{p:Nat}(h:p<s.size)(hg:gapN s[p].toNat=true):toks s (p+1)=toks s p:=by
 rw[←toks_skp s (p+1),←toks_skp s p,skp_gap h hg]
theorem ext_get(s:ByteArray)(a k:Nat)(h:k<(s.extract a s.size).size)(h':a+k<s.size):(s.extract a s.size)[k]=s[a+k]:=by
 simp[ByteArray.getElem_extract]
theorem wnd_ext(s:ByteArray)(a:Nat)(ha:a≤s.size):∀(n k:Nat),s.size-(a+k)≤n→a+k≤s.size→wnd (s.extract a s.size) k+a=wnd s (a+k)
 |0,k,hn,hk=>by
  rw[wnd_end (by rw[ByteArray.size_extract];omega),wnd_end (by omega)];omega
 |n+1,k,hn,hk=>by
  by_cases h:a+k<s.size
  ·have h1:k<(s.extract a s.size).size:=by rw[ByteArray.size_extract];omega
   have e:=ext_get s a k h1 h;by_cases hg:gapN s[a+k].toNat=true∨brkN s[a+k].toNat=true
   ·rw[wnd_stop h1 (by rw[e];exact hg),wnd_stop h hg];omega
   ·have g1:gapN s[a+k].toNat=false:=by cases hx:gapN s[a+k].toNat<;>simp_all
    have g2:brkN s[a+k].toNat=false:=by cases hx:brkN s[a+k].toNat<;>simp_all
    rw[wnd_more h1 (by rw[e];exact g1) (by rw[e];exact g2),wnd_more h g1 g2];exact wnd_ext s a ha n (k+1) (by omega) (by omega)
  ·rw[wnd_end (by rw[ByteArray.size_extract];omega),wnd_end (by omega)];omega
theorem wlen_gap{s:ByteArray}{a:Nat}(h:a<s.size)(hg:gapN s[a].toNat=true):wlen (s.extract a s.size)=0:=by
 have h1:0<(s.extract a s.size).size:=by rw[ByteArray.size_extract];omega
 have e:=ext_get s a 0 h1 (by omega);have hb:brkN s[a].toNat=false:=by rw[gapN_iff]at hg;cases hb:brkN s[a].toNat with|false=>rfl|true=>rw[brkN_iff]at hb;omega
 have e2:(s.extract a s.size)[0].toNat=s[a].toNat:=by rw[e];rfl
 rw[wlen_word h1 (by rw[e2];exact hb)];have:=wnd_ext s a (by omega) _ 0 (Nat.le_refl _) (by omega);have h3:wnd s (a+0)=a:=wnd_stop h (Or.inl hg);omega
theorem wlen_tok{s:ByteArray}{a:Nat}(h:a<s.size)(hg:gapN s[a].toNat=false):a+wlen (s.extract a s.size)=tokE s a:=by
 have h1:0<(s.extract a s.size).size:=by rw[ByteArray.size_extract];omega
 have e:=ext_get s a 0 h1 (by omega);have e2:(s.extract a s.size)[0].toNat=s[a].toNat:=by rw[e];rfl
 cases hb:brkN s[a].toNat with
 |true=>
  rw[wlen_brk h1 (by rw[e2];exact hb)];unfold tokE;rw[if_pos ⟨wnd_stop h (Or.inr hb),h⟩]
 |false=>
  rw[wlen_word h1 (by rw[e2];exact hb)];have:=wnd_ext s a (by omega) _ 0 (Nat.le_refl _) (by omega);have h3:a<wnd s a:=by
   rw[wnd_more h hg hb];have:=wnd_ge s (a+1);omega
  unfold tokE;rw[if_neg (by omega)];show a+_=wnd s a;have h4:wnd s (a+0)=wnd s a:=rfl;omega
def wC(x:ByteArray×Nat):List Value:=[.string x.1,.int .i64 (x.2:Int)]
abbrev WordsO(w:World)(lo:Nat)(v:Value)(l:List (ByteArray×Nat)):Prop:=RowS wC (fun _=>[]) (fun _ _=>True) 176 2 w lo v l
theorem okW:OkFr (α:=ByteArray×Nat) (fun _=>[]) (fun _ _=>True):=fun _ _ _ _ _ _=>trivial
theorem Tryz.wordI:(Tryz.prog.info? 176).map (fun i=>(i.zero,i.size,i.bytes))=some (some (.agg #[.string ⟨#[]⟩,.int .i64 0]),2,24):=by kernel_rfl
structure CutSt (s:ByteArray) (w wr:World) (at':Nat) (l:List (ByteArray×Nat)) (vp:Option Addr) (vc:Nat):Prop where
 le:at'≤s.size
 row:WordsO wr w.heap.size (.slice vp l.length vc) l
 eq:l++toks s at'=toks s 0
 len:l.length≤at'
 low:Below w.heap.size w wr
theorem CutSt.gap{s:ByteArray}{w wr:World}{a:Nat}{l:List (ByteArray×Nat)}{vp:Option Addr}{vc:Nat}(h:CutSt s w wr a l vp vc)(ha:a<s.size)(hg:gapN s[a].toNat=true):CutSt s w wr (a+1) l vp vc:=
 ⟨by omega,h.row,by rw[toks_gap ha hg];exact h.eq,by have:=h.len;omega,h.low⟩
theorem RowS.pushN{α:Type}{cells:α→List Value}{ok:World→α→Prop}{e:TypeId}{size:Nat}(hok:OkFr (fun _=>[]) ok){w w2:World}{lo:Nat}{v:Value}{xs:List α}{ob:Obj}(h:RowS cells (fun _=>[]) ok e size w lo v xs)(hlo:lo≤w.heap.size){x:α}(hx:ok (w.alloc ob) x)
 (hg:(w.alloc ob).grownBy w2 v.ownBlock) {g c:Nat} (hat:v.ownBlock=some g∨g=(w.alloc ob).heap.size) (hlt:g<w2.heap.size)
 (hown:w2.ownsRow 0 e size (.slice (some ⟨g,0,none⟩) (xs.length+1) c) (xs.length+1) (xs.flatMap cells++cells x)):RowS cells (fun _=>[]) ok e size w2 lo (.slice (some ⟨g,0,none⟩) (xs.length+1) c) (xs++[x]):=by
 have hb:Below w.heap.size w (w.alloc ob):=(Below.refl _ _).alloc (Nat.le_refl _) _;exact h.push hok hlo (fun b hb'=>hb.block b (h.rg b hb').2) hb.size hx (fun b hb'=>by cases hb') List.nodup_nil hg rfl hat hlt hown
theorem below_push{w0 w w2:World}{v:Value}{ob:Obj}{lo:Nat}(hb:Below lo w0 w)(hlo:lo≤w.heap.size)(hv:∀b,v.ownBlock=some b→lo≤b)(hg:(w.alloc ob).grownBy w2 v.ownBlock):Below lo w0 w2:=
 (hb.alloc hlo ob).grown hg (by simp;omega) hv
end Go.Proofs.YtglihimiidiacaaGreatDoor
namespace Go.Proofs.YtglihimiidiacaaGreatDoor
open Go.RowKit Go.Sort
theorem CutSt.word{s:ByteArray}{w wr w2:World}{a n:Nat}{l:List (ByteArray×Nat)}{vp:Option Addr}{vc:Nat}{ob:Obj}(h:CutSt s w wr a l vp vc)(ha:a<s.size)(hg:gapN s[a].toNat=false)(hn:wlen (s.extract a s.size)=n)
 (hgr:(wr.alloc ob).grownBy w2 (Value.slice vp l.length vc).ownBlock) {g c:Nat} (hat:(Value.slice vp l.length vc).ownBlock=some g∨g=(wr.alloc ob).heap.size) (hlt:g<w2.heap.size)
 (hown:w2.ownsRow 0 176 2 (.slice (some ⟨g,0,none⟩) (l.length+1) c) (l.length+1) (l.flatMap wC++[.string (s.extract a (a+n)),.int .i64 (a:Int)])):
 CutSt s w w2 (a+n) (l++[(s.extract a (a+n),a)]) (some ⟨g,0,none⟩) c:=by
 subst hn;have e1:=wlen_tok ha hg;have e2:skp s a=a:=skp_stop ha hg;have e3:nxt s a=a+wlen (s.extract a s.size):=by unfold nxt;rw[e2,←e1]
 have e4:tokA s a=a:=e2;have e5:=tokE_gt (s:=s) (q:=a) ha;have e6:=tokE_le (s:=s) (q:=a) (by omega);have hl:(l++[(s.extract a (a+wlen (s.extract a s.size)),a)]).length=l.length+1:=by simp
 have hlo:w.heap.size≤wr.heap.size:=h.low.size;refine⟨by omega,?_,?_,by have:=h.len;omega,below_push h.low hlo (fun b hb=>(h.row.rg b (List.mem_append_left _ (mem_vB.2 hb))).1) hgr⟩
 ·rw[hl];exact h.row.pushN okW hlo trivial hgr hat hlt hown
 ·rw[←h.eq,toks_cons (s:=s) (p:=a) (by omega),List.append_assoc,e3,e4];unfold tokT;rw[e3,e4];rfl
def CutRes(s:ByteArray)(w:World)(e:Ending)(w':World):Prop:=Below w.heap.size w w'∧∃g c,e=.returned (.slice (some ⟨g,0,none⟩) (toks s 0).length c)∧WordsO w' w.heap.size (.slice (some ⟨g,0,none⟩) (toks s 0).length c) (toks s 0)
theorem CutSt.fin{s:ByteArray}{w wr w2:World}{l:List (ByteArray×Nat)}{vp:Option Addr}{vc:Nat}{ob:Obj}(h:CutSt s w wr s.size l vp vc)
 (hgr:(wr.alloc ob).grownBy w2 (Value.slice vp l.length vc).ownBlock) {g c:Nat} (hat:(Value.slice vp l.length vc).ownBlock=some g∨g=(wr.alloc ob).heap.size) (hlt:g<w2.heap.size)
 (hown:w2.ownsRow 0 176 2 (.slice (some ⟨g,0,none⟩) (l.length+1) c) (l.length+1) (l.flatMap wC++[.string ⟨#[]⟩,.int .i64 (s.size:Int)])):
 CutRes s w (.returned (.slice (some ⟨g,0,none⟩) (l.length+1) c)) w2:=by
 have hlo:w.heap.size≤wr.heap.size:=h.low.size;have e:toks s 0=l++[(⟨#[]⟩,s.size)]:=by
  rw[←h.eq,toks_end (s:=s) (p:=s.size)];have:=skp_ge s s.size;unfold tokA;omega
 have hl:(l++[((⟨#[]⟩,s.size):ByteArray×Nat)]).length=l.length+1:=by simp
 refine⟨below_push h.low hlo (fun b hb=>(h.row.rg b (List.mem_append_left _ (mem_vB.2 hb))).1) hgr,g,c,?_,?_⟩
 ·rw[e,hl]
 ·rw[e,hl];exact h.row.pushN okW hlo trivial hgr hat hlt hown
set_option maxRecDepth 100000 in
set_option maxHeartbeats 4000000 in
theorem cut_any(s:ByteArray)(w:World)(hs:s.size≤2000):Calls Tryz.prog 39 #[.string s] w fun e w'=>CutRes s w e w':=by
 obtain⟨ii,hii,hij⟩:=Option.map_eq_some_iff.1 Tryz.wordI;simp only[Prod.mk.injEq]at hij;obtain⟨hi0,hi1,hi2⟩:=hij;have HR0:Hid (CutSt s w w 0 [] none 0):=⟨Nat.zero_le _,RowS.nil _ _,rfl,Nat.zero_le _,Below.refl _ _⟩;go_enter Tryz.func39,Tryz.ntmps39;go_wp2;go_loopw [3,4] (fun lv av wr=>∃(l:List (ByteArray×Nat)) (a:Nat) (vp:Option Addr) (vc:Nat),lv=.slice vp l.length vc∧av=.int .i64 (a:Int)∧Hid (CutSt s w wr a l vp vc)) (fun _ av _=>s.size-(intOf av).toNat)
 case atStart=>exact⟨[],0,none,0,rfl,rfl,HR0.out⟩
 case round=>
  clear HR0;obtain⟨l,a,vp,vc,rfl,rfl,HC⟩:=hrel;rename World=>wr
  have hle:=HC.out.le;have hln:=HC.out.len;by_cases hlt:a<s.size
  ·have h0:(0:Int)≤(a:Int):=by omega
   have h1:(a:Int)<(s.size:Int):=by omega
   have hx:(s.extract a s.size).size=s.size-a:=by rw[ByteArray.size_extract];omega
   have HWL:=hid (fun w=>wordLength_any (s.extract a s.size) w (by omega) (by omega));cases hg:gapN s[a].toNat with
   |true=>
    have HX:=hid (HC.out.gap hlt hg);have HN:=hid (wlen_gap hlt hg);clear hg;go_wp2_with (first|(go_at_call 66;refine(HWL.out _).mono ?_;rintro e w' ⟨rfl,rfl⟩;rw[HN.out]))
    exact⟨⟨l,a+1,vp,vc,rfl,by go_num,HX.out⟩,by simp[intOf];omega⟩
   |false=>
    obtain⟨n,hn⟩:∃n,wlen (s.extract a s.size)=n:=⟨_,rfl⟩;have hn1:a+n=tokE s a:=by rw[←hn];exact wlen_tok hlt hg
    have hn2:=tokE_gt (s:=s) (q:=a) hlt;have hn3:=tokE_le (s:=s) (q:=a) (by omega);have hn4:0<n:=by omega
    have hn5:a+n≤s.size:=by omega
    clear hn1 hn2 hn3;have HG:=hid hg;have HN:=hid hn;clear hg hn;have i1:(0:Int)<(n:Int):=by omega
    have i2:(0:Int)≤(a:Int)+(n:Int):=by omega
    have i3:(a:Int)+(n:Int)≤(s.size:Int):=by omega
    have i4:(a:Int)≤(a:Int)+(n:Int):=by omega
    go_wp2_with (first
     |(go_at_call 66;refine(HWL.out _).mono ?_;rintro e w' ⟨rfl,rfl⟩;rw[HN.out])
     |(at_builtin;refine wpList_append_lies _ rfl (.tmp 16) (.tmp 25) 113 rfl 0 176 ii _ 2 24 Tryz.underlying113 hii hi0 hi1 hi2 rfl (by omega) (.slice vp l.length vc) l.length (l.flatMap wC) rfl (HC.out.row.own.alloc _) ⟨w'.heap.size,0,none⟩ 1 1 [.string (s.extract a (a+n)),.int .i64 (a:Int)] rfl rfl (by simpa using World.news_of_block (heap_alloc_new w' (Obj.cells #[.string (s.extract a (a+n)),.int .i64 (a:Int)] 176))) (by intro u hu;simp at hu;rcases hu with rfl|rfl<;>rfl) (by omega) (by unfold maxLen;omega) (by omega) (Nat.zero_le _) _ rfl ?_;intro g1 k1 w7 hown hgrow hat hlt1;have HNX:=hid (HC.out.word hlt HG.out HN.out hgrow hat hlt1 hown);clear hown hgrow hat hlt1))
    exact⟨⟨_,a+n,_,_,by rw[List.length_append];rfl,by go_num,HNX.out⟩,by simp[intOf];omega⟩
  ·obtain rfl:a=s.size:=by omega
   have hge:¬(s.size:Int)<(s.size:Int):=by omega
   go_wp2_with (first
    |(at_builtin;refine wpList_append_lies _ rfl (.tmp 31) (.tmp 35) 113 rfl 0 176 ii _ 2 24 Tryz.underlying113 hii hi0 hi1 hi2 rfl (by omega) (.slice vp l.length vc) l.length (l.flatMap wC) rfl (HC.out.row.own.alloc _) ⟨wr.heap.size,0,none⟩ 1 1 [.string ⟨#[]⟩,.int .i64 (s.size:Int)] rfl rfl (by simpa using World.news_of_block (heap_alloc_new wr (Obj.cells #[.string ⟨#[]⟩,.int .i64 (s.size:Int)] 176))) (by intro u hu;simp at hu;rcases hu with rfl|rfl<;>rfl) (by omega) (by unfold maxLen;omega) (by omega) (Nat.zero_le _) _ rfl ?_;intro g1 k1 w7 hown hgrow hat hlt1;have HNX:=hid (HC.out.fin hgrow hat hlt1 hown);clear hown hgrow hat hlt1))
   go_ret;exact HNX.out
end Go.Proofs.YtglihimiidiacaaGreatDoor
namespace Go.Proofs.YtglihimiidiacaaGreatDoor
open Go.RowKit Go.Sort
structure SY (w:World) (adr:Nat→Addr):Prop where
 sy:w.cell? ⟨2,0,none⟩=some (.iface 443 (.pointer (some (adr 12))))
 dp:w.cell? ⟨3,0,none⟩=some (.iface 443 (.pointer (some (adr 13))))
 tw:w.cell? ⟨5,0,none⟩=some (.iface 443 (.pointer (some (adr 14))))
 nm:w.cell? ⟨4,0,none⟩=some (.iface 443 (.pointer (some (adr 5))))
 lg:w.cell? ⟨1,0,none⟩=some (.iface 443 (.pointer (some (adr 4))))
 es:∃ev,w.cell? ⟨25,0,none⟩=some ev∧(ev=.nilIface∨∃te pe,ev=.iface te pe)
 er:∃ev,w.cell? ⟨26,0,none⟩=some ev∧(ev=.nilIface∨∃te pe,ev=.iface te pe)
theorem SY.keep{w w':World}{adr:Nat→Addr}(h:SY w adr)(hb:Below w.heap.size w w'):SY w' adr:=by
 obtain⟨e1,k1,l1⟩:=h.es;obtain⟨e2,k2,l2⟩:=h.er;exact⟨cell_keep hb h.sy,cell_keep hb h.dp,cell_keep hb h.tw,cell_keep hb h.nm,cell_keep hb h.lg,⟨e1,cell_keep hb k1,l1⟩,⟨e2,cell_keep hb k2,l2⟩⟩
section
variable {w w':World} {P W:Nat} {s:ByteArray} {p nest:Nat} {gv:Value}
end
end Go.Proofs.YtglihimiidiacaaGreatDoor
namespace Go.Proofs.YtglihimiidiacaaGreatDoor
open Go.RowKit Go.Sort
theorem toL_inj{a b:ByteArray}(h:a.toList=b.toList):a=b:=by
 rw[ByteArray.toList_eq,ByteArray.toList_eq]at h;exact Go.WideShapes.bytes_inj h
end Go.Proofs.YtglihimiidiacaaGreatDoor
namespace Go.Proofs.YtglihimiidiacaaGreatDoor
open Go.RowKit Go.Sort
def digN(n:Nat):Bool:=decide (48≤n) && decide (n≤57)
end Go.Proofs.YtglihimiidiacaaGreatDoor
namespace Go.Proofs.YtglihimiidiacaaGreatDoor
open Go.RowKit Go.Sort
def dgs(d:ByteArray)(i n:Nat):Option Nat:=if h:i<d.size then (if digN d[i].toNat=true then dgs d (i+1) (10*n+(d[i].toNat-48)) else none) else some n
termination_by d.size-i
theorem dgs_step{d:ByteArray}{i n:Nat}(h:i<d.size)(hd:digN d[i].toNat=true):dgs d i n=dgs d (i+1) (10*n+(d[i].toNat-48)):=by rw[dgs,dif_pos h,if_pos hd]
theorem dgs_bad{d:ByteArray}{i n:Nat}(h:i<d.size)(hd:digN d[i].toNat=false):dgs d i n=none:=by rw[dgs,dif_pos h,if_neg (by simp[hd])]
theorem dgs_end{d:ByteArray}{i n:Nat}(h:d.size≤i):dgs d i n=some n:=by rw[dgs,dif_neg (by omega)]
def negB(s:ByteArray):Bool:=match s[0]? with|some b=>decide (b.toNat=45)|none=>false
def zeroB(d:ByteArray):Bool:=match d[0]? with|some b=>decide (b.toNat=48)|none=>false
def absP(s:ByteArray):ByteArray:=if negB s=true then s.extract 1 s.size else s
def wholeP(s:ByteArray):Option Int:=
 if (absP s).size=0∨(zeroB (absP s)=true∧¬s=⟨#[48]⟩)∨19<(absP s).size then none else
  match dgs (absP s) 0 0 with
  |none=>none
  |some n=>if negB s=true then (if n≤9223372036854775808 then some (-(n:Int)) else none) else (if n<9223372036854775808 then some (n:Int) else none)
end Go.Proofs.YtglihimiidiacaaGreatDoor
namespace Go.Proofs.YtglihimiidiacaaGreatDoor
open Go.RowKit Go.Sort
abbrev Nms:=List (ByteArray×Nat)
end Go.Proofs.YtglihimiidiacaaGreatDoor
namespace Go.Proofs.YtglihimiidiacaaGreatDoor
open Go.RowKit Go.Sort
inductive Ex where
 |num (n:Int)
 |name (g:Bool) (t:ByteArray) (pl:Nat)
 |call (parts:List Ex)
 |lets (r:Bool) (ns:Nms) (es:List Ex) (body:Ex)
 |con (tag:Nat) (fs:List Ex)
 |case (e:Ex) (brs:List (Nat×Nms×Ex))
 |op (k:Nat) (l r:Ex)
section
variable (s:ByteArray) (E:Nat→Pr Ex)
end
def Fwd{α:Type}(s:ByteArray)(r:Nat→Pr α)(k:Nat):Prop:=∀p,p≤s.size→∀a q,r p=.ok (a,q)→p+k≤q∧q≤s.size
section
variable {s:ByteArray} {E:Nat→Pr Ex} (hE:Fwd s E 1)
include hE
end
end Go.Proofs.YtglihimiidiacaaGreatDoor
namespace Go.Proofs.YtglihimiidiacaaGreatDoor
open Go.RowKit Go.Sort
def NZ{α:Type}(r:Nat→Pr α):Prop:=∀p c a,r p=.error (c,a)→c≠0
def Skp{α:Type}(s:ByteArray)(r:Nat→Pr α):Prop:=∀p,r (skp s p)=r p
section
variable {s:ByteArray} {E:Nat→Pr Ex} (hZ:NZ E)
include hZ
end
section
variable {s:ByteArray} {E:Nat→Pr Ex} (hK:Skp s E)
include hK
end
end Go.Proofs.YtglihimiidiacaaGreatDoor
