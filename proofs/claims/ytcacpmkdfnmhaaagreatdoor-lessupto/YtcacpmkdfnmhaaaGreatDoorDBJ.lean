import Derived.Test.YtcacpmkdfnmhaaaGreatDoorWlJ
import Derived.Test.YtcacpmkdfnmhaaaGreatDoorD9J
set_option linter.unusedSimpArgs false
set_option maxRecDepth 100000
set_option maxHeartbeats 8000000
open And renaming intro->Aq4
open Go renaming Calls->Av,Value->X,World->Q
open Go.ByteArray renaming toList_eq->Aq0
open Go.Ending renaming returned->F
open Go.IntKind renaming i64->C
open Go.Obj renaming cells->AO
open Go.Proofs.Tryz renaming prog->Aa
open Go.Value renaming agg->T,bool->A,int->V,slice->W,string->S,tuple->R
open List renaming length->L
open Option renaming none->N,some->I
namespace Go.Proofs.YtcacpmkdfnmhaaaGreatDoor
open Go.RowKit Go.Sort
variable{w s m:Nat}{o wm v0:Int}{wh:List Bx}{v nl:ByteArray}{ws:ByteArray->Bool}{h w1:List ByteArray}{U:List (ByteArray×Int)}{n6:KU}{wl:Type}{wq:Bx}{wc:List IT}{vx:List DD}{wd:List DT}{n:World}{b i:Value}{w7:List GG}{wi:List Value}{wz:List B0}{n3:Gc}{d:List Bt}{wa:List As}{G va:Option Addr}
theorem Aop(a:Ik w s o wm v0)(j:w<=65535):s<21/\(s≠0->0<=o/\o<=65535)/\FQ s o wm=false/\v0=wm+CN s o:=by
 let ⟨e,a⟩:=a
 split at a;case h_16=>
  obtain⟨d,c,rfl,f,g,h,i⟩:=a;have b:((d:Int)*256+c) % 256=c:=O1;refine⟨O1,λ_=>O1,?_,?_⟩
  ·simp[FQ,D5,CN,b];omega
  ·simp[CN,b];omega
 all_goals first
  |exact a.elim
  |(refine⟨O1,λ_=>O1,?_,?_⟩
    ·simp[FQ,D5,CN];omega
    ·simp[CN];omega)
theorem TR:∀b (c:List Nat),c.Nodup->(∀d∈c,d<b)->L c<=b
 |0,[],_,_=>Ac _
 |0,a::_,_,h=>absurd (h a O2) nofun
 |b+1,c,hd,h=>by
  have:=TR b (c.erase b) (hd.erase b) λd e=>by
   grind
  grind
theorem Sd.gJ{v:Int}(D:Sd w v wh)(ap:w<=65535)(ao:(L wh)<=65535)(G:0<=v/\v<=20):(∃h,Sg wh v h)/\(∀e∈wh,∃b,Fg e b)/\(∀e∈wh,-9223372036854775808<=e.a/\e.a<=9223372036854775807)/\∀e∈wh,e.op=1->e.a<(w:Int):=by
 obtain⟨ak,h,al,aa,ab⟩:=D;have H:∀{f n},h[f]?=I n->h.getD f 0=n:=λD=>by rw[Ata,D];rfl
 have E:∀a (p:a<L wh),∃b:Nat,Fg wh[a] b/\(-9223372036854775808<=wh[a].a/\wh[a].a<=9223372036854775807)/\(b=1->wh[a].a<(w:Int))/\(b≠0->0<=wh[a].a/\wh[a].a<=65535)/\0<=h.getD a 0/\h.getD a 0<=1000/\FQ b wh[a].a (h.getD a 0)=false/\(EX b wh[a].a wh[a].alts a).length<=256/\∀j∈EX b wh[a].a wh[a].alts a,∃c:Nat,j=c/\c<L wh/\h.getD c 0=h.getD a 0+CN b wh[a].a:=λa p=>by
  obtain⟨n,ad⟩:∃n,h[a]?=I n:=⟨_,AA O1⟩;obtain⟨ag,f,ar,r,m,ae⟩:=ab a wh[a] n (AA p) ad;rw[H ad];have M:∀c∈sc wh[a] a,c<L wh/\h.getD c 0=ag:=λc q=>⟨by have:=(Are.1 (ae c q)).1;omega,H (ae c q)⟩;obtain⟨b,K⟩:=AZ ar;obtain⟨e,u⟩:∃e,wh[a]=e:=⟨_,rfl⟩;rw[u]at f r m M K ⊢;obtain⟨a5,s,t⟩:=e;simp only at f r m K ⊢;subst K;rw[A9]at f;obtain⟨av,O,aw,ax⟩:=Aop f ap;have au:∀j∈EX b s t a,∃c:Nat,j=c/\c∈sc ⟨b,s,t⟩ a:=λj i=>by
   unfold EX at i;unfold sc;simp only;split at i
   ·cases i
   ·rename_i af
    rw[if_neg af];split at i
    ·rename_i B
     rw[if_pos B];have:=O O1;exact⟨s.toNat,by rw[Aq.1 i];omega,O2⟩
    ·rename_i B
     rw[if_neg B];split at i
     ·rename_i x
      rw[if_pos x];obtain⟨g,hb,rfl⟩:=AK.1 i;have:=(m x).2.2 g hb;exact⟨g.tgt.toNat,O1,AK.2 ⟨g,hb,rfl⟩⟩
     ·rename_i x
      rw[if_neg x];exact⟨a+1,by rw[Aq.1 i];omega,O2⟩
  have ac:(L t)<=256:=by
   by_cases d:(b:Int)=17
   ·obtain⟨a6,ay,U⟩:=m d;have az:=TR 256 (t.map λg=>g.tag.toNat) (by
     refine Asi.2 ((Asi.1 ay).imp_of_mem fun {s g} G hb hne he=>hne ?_);have:=U s G;have:=U g hb;omega) λc q=>by
     obtain⟨g,hb,rfl⟩:=AK.1 q;have:=U g hb;omega
    rwa[Ax]at az
   ·rw[r d];simp
  have aq:b≠17->t=[]:=λd=>r O1;refine⟨b,⟨rfl,av,aq,ac,?_,?_,λg hb=>?_⟩,?_,λd=>?_,O,f.1.1,f.1.2.1,aw,?_,λj i=>?_⟩
  ·have y:=f.2;simp only;split at y;case h_16=>
    obtain⟨c,b,rfl,al,aa,ab,E⟩:=y;simp[Jm,IY,BC,F5];omega
   case h_18=>exact .inr ⟨O4,.inr ⟨O4,y.1,λ_=>(m rfl).1⟩⟩
   all_goals first
    |exact y.elim
    |(simp[Jm,IY,BC,F5];done)
    |(have:=f.1;simp[Jm,IY,BC,F5];omega)
  ·by_cases d:(b:Int)=17
   ·exact Asi.1 (m d).2.1
   ·simp only;rw[r d];simp
  ·by_cases d:(b:Int)=17
   ·have a7:=(m d).2.2 g hb;have:=(M g.tgt.toNat (by unfold sc;simp only;rw[if_neg O1,if_neg O1,if_pos d];exact Arh hb)).1;omega
   ·simp only at hb;rw[r d]at hb;cases hb
  ·by_cases d:b=0
   ·subst d;have:=f.2;exact⟨this.1,by have:=this.2.1;omega⟩
   ·have:=O d;omega
  ·subst d;exact f.2.2.1
  ·unfold EX;split
   ·simp
   ·split
    ·simp
    ·split
     ·simpa using ac
     ·simp
  ·obtain⟨c,rfl,q⟩:=au j i;obtain⟨am,an⟩:=M c q;exact⟨c,rfl,am,by rw[an,ax]⟩
 refine⟨⟨h,Aq8.2 ak,ao,G,H aa,λa p=>?_⟩,λe u=>?_,λe u=>?_,λe u d=>?_⟩
 ·obtain⟨b,k,-,-,z,Y,a0,a1,a2,a3⟩:=E a p;have a4:=Aps b wh[a].a k.l z;refine⟨b,k.o,k.l,z,k.a,Y,a0,a1,a2,λj i=>?_⟩;obtain⟨c,ah,ai,aj⟩:=a3 j i;exact⟨c,ah,ai,aj,O1,O1⟩
 all_goals
  obtain⟨a,p,rfl⟩:=Ari u;obtain⟨b,k,z,Y,-⟩:=E a p
 ·exact⟨b,k⟩
 ·exact z
 ·exact Y (by have:=k.o;omega)
theorem Wr:∀a b,b<10 ^ (a+1)->(Lib.decDigits b).length<=a+1/\∀d∈Lib.decDigits b,F0 d.toNat=true
 |a,b,h=>by
  have g:∀c,c<10->F0 ((UInt8.ofNat (48+c)).toNat)=true:=λc i=>by
   have:(48+c) % 256=48+c:=O1;simp[F0,Ly,this];omega
  rw[Lib.decDigits];split
  ·grind
  ·cases a with
   |zero=>omega
   |succ a=>
    let ⟨e,f⟩:=Wr a (b / 10) O1
    grind
theorem Pw(a:CE v=true):Cx v=true:=by
 rw[<-Yj]at a;grind
theorem Nw.nm{t:ByteArray}(i:Nw t w)(m:w<10000):Cx t=true:=by
 let ⟨d,f,e⟩:=i
 have l:=(Jo f).2.2;have g:=Pw f;let ⟨k,h⟩:=Wr 3 w O1
 rw[Lib.itoa_nonneg]at e;have n:t.size=d.size+((Lib.decDigits w).length+1):=by
  show t.data.size=d.data.size+_;rw[<-Ar6,e];simp
 simp only[Cx,Aqx,decide_eq_true_eq,E6,Ark]at g ⊢;let ⟨⟨⟨o,p⟩,q⟩,j⟩:=g
 refine⟨⟨⟨O1,O1⟩,?_⟩,λc b=>?_⟩
 ·cases hw:d.data.toList with
  |nil=>have:(L d.data.toList)=d.size:=Ar6;grind
  |cons a r=>grind
 ·rw[e]at b;rcases Ag.1 b with b|b
  ·exact j c b
  ·rcases AW.1 b with rfl|b
   ·decide
   ·exact h c b
theorem Ru.at(b:Ru ws h w1 U n6){a:ByteArray}(f:a∈n6.kn):a∈h\/∃i,i<L n6.kn/\Nw a i:=by
 let ⟨i,d,e⟩:=Ari f
 rcases Asb i (L h) with c|c
 ·let ⟨j,g⟩:=b.kp
  grind
 ·exact .inr ⟨i,d,b.kf i a c O6⟩
theorem Ru.nm{d:ByteArray->Bool}{c g:List ByteArray}{A:List (ByteArray×Int)}{u:KU}(b:Ru d c g A u)(f:∀t∈c,CE t=true){t:ByteArray}(e:t∈u.kn):Cx t=true:=by
 rcases b.at e with a|⟨i,h,a⟩
 ·exact Pw (f t a)
 ·have:=b.th;unfold mu at this;exact a.nm O1
theorem VO(b:Ca v nl<=0)(a:v≠nl):Ca v nl<0:=by
 have:=mt (Kb v nl).1 a;omega
theorem Aqh(b:Cx v=true):Ca ⟨#[]⟩ v<0:=by
 have c:0<v.size:=by simp[Cx,decide_eq_true_eq]at b;omega
 let ⟨⟨d⟩⟩:=v
 cases d with
 |nil=>simp[ByteArray.size]at c
 |cons a r=>simp[Ca,Lib.compareBytes]
theorem Apb(a b:ByteArray):D8 a b=true↔Ca b a<0:=by
 unfold D8 Ca;rw[Pj,Aq0,Aq0];have c:=Oj a.data.toList b.data.toList;have d:=OH a.data.toList b.data.toList;grind
theorem WC{f:wl->ByteArray}{b:List wl}(g:b.Pairwise λd e=>Ca (f d) (f e)<0)(h:∀i∈b,Cx (f i)=true)(a:Nat)(c:a<L b):D8 (f b[a]) (HZ (b.map f) a)=true:=by
 rw[Apb];cases a with
 |zero=>exact Aqh (h _ (Ao c))
 |succ a=>
  rw[<-Mt O1];exact Ase.1 g a (a+1) O1 c .refl
theorem Ano(a:Fg wq w):zz wq<=iy wq:=by
 have b:=a.l;unfold zz iz iy;rw[a.o,A9];clear a;rcases L3 w b with rfl|rfl|rfl|rfl|rfl|rfl|rfl|rfl|rfl|rfl|rfl|rfl|rfl|rfl|rfl|rfl|rfl|rfl|rfl|rfl|rfl;all_goals simp[Jm,IY,BC,F5]
theorem Aok{O:BA}(h:∀g∈O.Bs,∀c∈g.code,∃d,Fg c d):fz O<=25+18*L O.Bu+22*L O.Bs+(O.Bs.map λg=>cb g.code).sum:=by
 have i:=Ll (f:=gz) (g:=λg=>22+cb g.code) λg j=>by
  have:=Ll (f:=zz) λc l=>by let ⟨d,k⟩:=h g j c l;exact Ano k
  unfold gz cb;omega
 have e:∀b:List Bt,(b.map λg=>22+cb g.code).sum=22*L b+(b.map λg=>cb g.code).sum:=λb=>by
  induction b with
  |nil=>rfl
  |cons a r ih=>grind
 rw[e]at i;unfold fz;omega
structure YM (e:List IT) (c:List DD) (b:BA):Prop where
 g:Gd b
 r:∀g∈b.Bs,∀x∈g.code,-9223372036854775808<=x.a/\x.a<=9223372036854775807
 l:(L b.Bu)+L b.Bs<10000
 f:fz b+4<=100000
 il:(L b.Bu)=L e
 ii:∀x∈e,(⟨x.1.1,(x.2:Int)⟩:Dd)∈b.Bu
 no:∀g∈b.Bs,g.exp=false->ES g.name=true
 ex:∀g∈b.Bs,g.exp=true->∃d∈c,d.1.1=g.name/\(L d.2.1:Int)=g.arity
 n:b.Bs.countP (·.exp)=L c
theorem Aaj(b c:List ByteArray)(a:Bx):iy (Ja b c a)=iy a:=by
 unfold Ja;split
 ·rfl
 ·rfl
theorem Zh:∀b:List Bt,20*(b.map λa=>cb a.code).sum<=Je b
 |[]=>Ac _
 |a::r=>by
  have:=Zh r;simp[Je]at this ⊢;omega
theorem Nw.has(a:Nw v w):ES v=true:=by
 obtain⟨b,-,a⟩:=a;simp[ES,a]
theorem Aaw(a:CE v=true):ES v=false:=by
 have:=(Jo a).2.1;simp only[ES,Asq,beq_iff_eq];grind
theorem Vo{l:List (ByteArray×Int)}(g:Db v=.ok (nl,wc,vx))(H:wd.map CY=vx)(m:Ka w wc wd n b i l n6 h w7):YM wc vx ⟨nl,BK l,(w7.map (C8 n6.kn (n6.kn.take (L l)++h))).map Cj⟩:=by
 obtain⟨aW,aX,a7⟩:=SO g;obtain⟨am,⟨Gn,s⟩,-⟩:=SR a7;obtain⟨aw,az,a0⟩:=m.r;obtain⟨q,ao⟩:=Ru.any aw _ (Vq g H m.lp) az;rw[a0]at q ao;simp only at s am;have ak:(u0 l wd).kn.Perm (Gn.map (·.1)):=by
  rw[s.gn];refine List.Perm.append ?_ ?_
  ·have:=m.lp.map (·.1);simpa[ia,Aro]using this
  ·rw[<-H,Aqz];exact .refl _
 have ad:∀j∈(u0 l wd).kn,CE j=true:=λj o=>by
  have:=ak.mem_iff.1 o;rw[s.gn]at this;rcases Ag.1 this with g|g
  ·obtain⟨c,e,rfl⟩:=AK.1 g;exact(s.i c e).1
  ·obtain⟨c,e,rfl⟩:=AK.1 g;exact(s.d c e).1
 have al:=q.nodup (ak.nodup_iff.2 s.nd) ad;have K:pa n6=n6.gs.map λc=>(c.name,c.arity):=by unfold pa;rw[ao];simp
 have y:=q.nn;rw[K,Aqz]at y;have y:n6.kn=l.map (·.1)++n6.gs.map (·.name):=y;have aT:(L n6.kn)=L l+L n6.gs:=by rw[y];simp
 have aB:=q.th;have aV:440*L n6.kn<=mu n6:=by unfold mu;omega
 have aR:(L w7)=L n6.gs:=by simpa using m.gp.length_eq
 have ab:(n6.kn.take (L l)++h).Perm n6.kn:=by
  have:=(At6 (n6.kn.take (L l))).append m.sp;rwa[Asw]at this
 obtain⟨p,a9⟩:∃p,p=n6.kn.take (L l)++h:=⟨_,rfl⟩;rw[<-a9]at ab ⊢;rw[y,A8]at al;obtain⟨aI,aJ,aK⟩:=al;have aS:((w7.map (C8 n6.kn p)).map Cj).map (·.name)=(w7.map Cj).map (·.name):=by simp[Cj,C8,Aro]
 have a4:=m.gp.map (·.name);have x:∀d∈(w7.map (C8 n6.kn p)).map Cj,Cx d.name=true/\0<=d.arity/\d.arity<=20/\d.exp=!ES d.name/\(d.name,d.arity)∈pa n6/\(∃t,Sg d.code d.arity t)/\(∀c∈d.code,∃m,Fg c m)/\(∀c∈d.code,-9223372036854775808<=c.a/\c.a<=9223372036854775807)/\∀c∈d.code,c.op=1->c.a<(L n6.kn:Int):=λd k=>by
  obtain⟨G,B,rfl⟩:=AK.1 k;obtain⟨c,e,rfl⟩:=AK.1 B;have M:=m.gp.mem_iff.1 (Arh e);obtain⟨-,ar,au,aL,aM⟩:=q.gd _ M;have a1:=aM.re rfl (λj o=>ab.mem_iff.2 o) ab.length_eq;have a2:(Cj (C8 n6.kn p c)).code=(Cj c).code.map (Ja n6.kn p):=by simp[Cj,C8,ED,Aro]
  have ah:=GM (f:=λc:Bt=>20*cb c.code+9*L c.code) M;have aP:=Gp (f:=iy) (m:=1) (l:=(Cj c).code) λc _=>by unfold iy;split;omega;split;omega;split<;>omega
  have aQ:(Cj c).code.length<=cb (Cj c).code:=by unfold cb;omega
  unfold Je at aB;have a8:((Cj c).name,(Cj c).arity)∈pa n6:=by rw[K];exact AK.2 ⟨_,M,rfl⟩
  have ai:=a1.gJ O1 (by rw[Ax];omega) ⟨ar,au⟩;rw[<-a2]at ai;exact⟨q.nm ad (by rw[y];exact Ag.2 (.inr (AK.2 ⟨_,M,rfl⟩))),ar,au,aL,a8,ai⟩
 have a6:∀c∈l,∃G∈wc,ia G=c:=λc e=>AK.1 (m.lp.mem_iff.1 e);have aj:∀c∈BK l,Cx c.name=true/\0<=c.arity/\c.arity<=20:=λc e=>by
  obtain⟨G,B,rfl⟩:=AK.1 e;obtain⟨av,ae,rfl⟩:=a6 G B;obtain⟨E,U⟩:=s.i av ae;exact⟨Pw E,by simp[ia],by simp only[ia];omega⟩
 obtain⟨aN,ac⟩:=q.ap;have an:∀j∈aN.map (·.1),∃D,Nw j D:=λj o=>by
  obtain⟨aD,a5,rfl⟩:=Ari o;refine⟨_,q.kf ((u0 l wd).kn.length+aD) _ O1 ?_⟩;rw[q.nn,<-ac,AJ,<-AH];have u:l.map (·.1)++(wd.map λt=>(t.1.1,(L t.2.2.1:Int))).map (·.1)=(u0 l wd).kn:=by simp[u0,Aro]
  rw[u,Ar8 O1];simp only[Nat.add_sub_cancel_left];exact AA a5
 refine⟨⟨Pw am,aj,λaf aa=>WC (f:=Dd.name) ?_ (λc e=>(aj c e).1) af aa,λd k=>?_,λaf aa=>WC (f:=Bt.name) ?_ (λc e=>(x c e).1) af aa⟩,λd k=>(x d k).2.2.2.2.2.2.2.1,by simp only[BK,Ax];omega,?_,by simpa[BK]using m.lp.length_eq,λc e=>AK.2 ⟨ia c,m.lp.mem_iff.2 (Arh e),rfl⟩,λd k Y=>?_,λd k Y=>?_,?_⟩
 ·exact Asi.2 ((m.ls.and (Asi.1 aI)).imp λg=>VO g.1 g.2)
 ·obtain⟨E,U,aq,-,r,aG,aH,-,aE⟩:=x d k;refine⟨E,U,aq,λG B=>?_,aH,aG,λD z ah=>?_⟩
  ·obtain⟨av,ae,rfl⟩:=AK.1 B;rw[K]at r;obtain⟨aO,aC,u⟩:=AK.1 r;exact aK _ (Arh ae) _ (AK.2 ⟨aO,aC,congrArg Prod.fst u⟩)
  ·have:=aE D z ah;simp only[BK,Ax];omega
 ·have:=a4.nodup_iff.2 aJ;rw[Aqz]at this;exact Asi.2 (Asi.2 ((m.gz.and (Asi.1 this)).imp λg=>VO g.1 g.2))
 ·have E:=Aok (O:=⟨nl,BK l,(w7.map (C8 n6.kn p)).map Cj⟩) λd k=>(x d k).2.2.2.2.2.2.1;have U:(((w7.map (C8 n6.kn p)).map Cj).map λd=>cb d.code).sum=(n6.gs.map λd=>cb d.code).sum:=by
   rw[<-(m.gp.map λd=>cb d.code).sum_nat];simp[Cj,C8,ED,cb,Aro,Aaj]
  have aq:=Zh n6.gs;have aF:(BK l).length=L l:=by simp[BK]
  simp only[aF,Ax,U]at E;omega
 ·have:=(x d k).2.2.2.1;rw[Y]at this;simpa using this.symm
 ·obtain⟨-,-,-,ag,r,-⟩:=x d k;rw[Y]at ag;rw[<-ac]at r;rcases Ag.1 r with r|r
  ·obtain⟨t,a3,u⟩:=AK.1 r;exact⟨CY t,H▸Arh a3,congrArg Prod.fst u,congrArg Prod.snd u⟩
  ·obtain⟨D,z⟩:=an d.name (AK.2 ⟨_,r,rfl⟩);rw[z.has]at ag;cases ag
 ·have ax:((w7.map (C8 n6.kn p)).map Cj).countP (·.exp)=(w7.map Cj).countP (·.exp):=by simp[List.countP_map,Cj,C8,Aro]
  have ay:n6.gs.countP (·.exp)=((pa n6).map (·.1)).countP λj=>!ES j:=by
   rw[K,Aqz,List.countP_map];exact List.countP_congr λc e=>by simp[(q.gd c e).2.2.2.1]
  show((w7.map (C8 n6.kn p)).map Cj).countP (·.exp)=_;rw[ax,m.gp.countP_eq,ay,<-ac,AJ,List.countP_append,List.countP_eq_length.2,List.countP_eq_zero.2,<-H]
  ·simp
  ·intro j o;obtain⟨D,z⟩:=an j o;simp[z.has]
  ·intro j o;rw[Aqz]at o;rw[Aaw (ad j (Ag.2 (.inr o)))];rfl
theorem LA(e:n.ownsRow 0 w s b m wi):∃f c,b=W f m c/\∀i,i<m->∃d,f=I ⟨d,0,N⟩/\∀a,a<m*s->n.cell? ⟨d,a,N⟩=wi[a]?:=by
 rcases At3 m with rfl|h
 ·obtain⟨f,c,rfl⟩:=BW e;simp
 ·obtain⟨d,c,rfl,-,-⟩:=World.ownsRow.form e h;exact⟨_,c,rfl,λ_ _=>⟨d,rfl,λa g=>e.cellAt a g⟩⟩
theorem Amh(h:n.ownsRow 0 140 2 b (L wz) (wz.flatMap FI))(k:(L wz)<=65535):Ez n b wz:=by
 obtain⟨j,f,rfl,i⟩:=LA h;refine⟨j,f,rfl,by unfold short;omega,λd c=>?_⟩;obtain⟨g,rfl,e⟩:=i d c;refine⟨g,0,rfl,?_⟩;rw[Aqy,e _ O1,e _ O1];exact Ju (λa:B0=>Value.int C a.tag) (λa=>Value.int C a.tgt) wz d c
theorem Aoi(l:(cA b n3).h n)(m:(aA n3).h n)(r:(L n3)<=65535)(o:∀c∈n3,L c.1.alts<=65535):D9 n b (n3.map (·.1)):=by
 obtain⟨q,g,rfl,p⟩:=LA l;refine⟨q,g,O2,by unfold short;simp;omega,λe d=>?_⟩;rw[Ax]at d;obtain⟨k,rfl,f⟩:=p e d;refine⟨k,0,n3[e].2,rfl,?_⟩;let ⟨h,i,j⟩:=Nf (λc:Bx×X=>Value.int C c.1.op) (λc=>Value.int C c.1.a) (λc=>c.2) n3 e d
 rw[Aqy,f _ O1,f _ O1,f _ O1,AN];exact⟨h,i,j,Amh (m _ (Ao d)) (o _ (Ao d))⟩
theorem Zz{s:Q}(m:Sp w s (gA i w7::(gL w7++[pA 74 2 b (L U) (U.flatMap Dr)])))(p:Gd ⟨v,BK U,w7.map Cj⟩)(K:(L U)+L w7<10000):EK s (T #[S v,b,i]) ⟨v,BK U,w7.map Cj⟩:=by
 refine⟨b,i,rfl,by have:=RF p.n;unfold maxLen;omega,?_,?_⟩
 ·obtain⟨r,h,rfl,q⟩:=LA (m.mem (A:=pA 74 2 b (L U) (U.flatMap Dr)) O2);refine⟨r,h,by simp[BK],by unfold short;simp[BK];omega,λd g=>?_⟩;have o:=RF (p.i _ (Ao g)).1;have f:d<L U:=by simpa[BK]using g
  obtain⟨l,rfl,e⟩:=q d f;refine⟨l,0,rfl,?_⟩;let ⟨j,k⟩:=Ju (λc:ByteArray×Int=>Value.string c.1) (λc=>Value.int C c.2) U d f
  rw[Aqy,e _ O1,e _ O1];simp[BK]at o ⊢;exact⟨j,k,by unfold maxLen;omega⟩
 ·obtain⟨r,h,rfl,q⟩:=LA (m.mem (A:=gA i w7) O2);refine⟨r,h,O2,by unfold short;simp;omega,λd g=>?_⟩;obtain⟨G,-,-,-,u,⟨_,H⟩,-⟩:=p.g _ (Ao g);have o:=RF G;have f:d<L w7:=by simpa using g
  obtain⟨l,rfl,e⟩:=q d f;refine⟨l,0,w7[d].cv,rfl,?_⟩;let ⟨j,k,y,z⟩:=SV (λc:GG=>Value.string c.nm) (λc=>Value.int C c.ar) (λc=>Value.bool c.ex) (λc=>c.cv) w7 d f
  rw[Aqy,e _ O1,e _ O1,e _ O1,e _ O1];have t:∀A∈[cA w7[d].cv w7[d].cs,aA w7[d].cs],A.h s:=λA B=>m.mem (Be _ (Ag.2 (.inl (AP.2 ⟨_,Ao f,B⟩))));have x:=H.m;simp only[AN,Cj,Ax]at o u x ⊢;exact⟨j,k,y,z,Aoi (t _ O2) (t (aA w7[d].cs) (Be _ (Aqu ..))) x λc E=>by
   let ⟨M,D⟩:=u c.1 (Arh E)
   have:=D.a;omega,by unfold maxLen;omega⟩
def He(a:List UInt8):ByteArray:=⟨(a++Jr (Kg a)).toArray⟩
theorem Ac3(a:List UInt8):(He a).size=L a+4:=by
 show(a++Jr (Kg a)).toArray.size=_;simp[Jr]
theorem Amd(a:List UInt8):(He a).extract 0 (L a)=⟨a.toArray⟩/\(He a).extract (L a) (L a+4)=JJ ⟨a.toArray⟩:=by
 constructor
 ·apply Asa;simp[He,List.extract]
 ·apply Asa;simp[He,JJ,List.extract,Jr]
structure Ob (c:ByteArray) (b:List (ByteArray×Int)) (a:List Bt):Prop where
 i:Oi c b a
 g:Gd ⟨c,BK b,a⟩
 n:(L b)+L a<10000
 s:∀x∈a,So ((L b:Int)+(L a:Int)) x
 z:(oU c b a).length<=99996
def ObA(h:Nat)(j:Q)(nm:ByteArray)(b:List (ByteArray×Int))(g:List Bt)(i:X):Prop:=∃(f d:Option Addr) (e c:Nat) (a:List GG),i=T #[S nm,W f (L b) e,W d (L a) c]/\a.map Cj=g/\Sp h j (gA (W d (L a) c) a::(gL a++[pA 74 2 (W f (L b) e) (L b) (b.flatMap Dr)]))
theorem ObA.bE{c:Nat}{w e:Q}{nm:ByteArray}{b:List (ByteArray×Int)}{a:List Bt}{d:X}(j:ObA c w nm b a d)(hb:Below w.heap.size w e):ObA c e nm b a d:=by
 let ⟨n,h,m,g,i,f,k,l⟩:=j
 exact⟨n,h,m,g,i,f,k,l.bE hb⟩
theorem ObA.cell{b j:Nat}{e u:X}(k:ObA w n v U d e)(hb:b<w):ObA w (n.setCell ⟨b,j,N⟩ u) v U d e:=by
 let ⟨p,h,o,g,i,f,l,a⟩:=k
 exact⟨p,h,o,g,i,f,l,a.fr O2 λc m=>Az _ _ _ _ (show c≠b by have:=(a.rg c m).1;omega)⟩
theorem ObA.at{f:Nat}{w:Q}(c:ObA f w v U d b)(a:Ob v U d):EK w b ⟨v,BK U,d⟩:=by
 obtain⟨l,i,k,h,j,rfl,rfl,e⟩:=c;have:=a.n;rw[Ax]at this;exact Zz e a.g this
theorem Sp.left{M:List As}(a:Sp w n (wa++M)):Sp w n wa:=
 ⟨a.z,λb c=>a.h b (Ad _ c),by have:=a.nd;simp[fp,AE,A8]at this;exact this.1,λe d=>a.rg e (by simp only[fp,AE,Ag];exact .inl d)⟩
theorem Akz(a:Q)(b:List UInt8):Bo a.heap.size a [] (a.alloc (.cells #[S ⟨b.toArray⟩,V C 0] 134)) [eA a.heap.size ⟨b.toArray⟩ b]:=by
 exact(Sp.b2 ⟨Ac _,λ_ c=>(by cases c),by simp[fp],λ_ c=>by cases c⟩).box _ rfl ⟨0,⟨Ak _,rfl⟩,⟨O2,O2,O2⟩⟩
theorem ObA.of{lo:Nat}{nm:ByteArray}{r:List UInt8}(a:Sp lo n (gA (W va (L w7) m) w7::(gL w7++[pA 74 2 (W G (L U) s) (L U) (U.flatMap Dr),eA w v r])))(b:w7.map Cj=d):ObA lo n nm U d (T #[S nm,W G (L U) s,W va (L w7) m]):=by
 refine⟨G,va,s,m,w7,rfl,b,Sp.left (M:=[eA w v r]) ?_⟩;simpa using a
theorem Ae2{a:Q}(c:Ob v U d)(f:ObA w a v U d b)(i:Cu a):Av Aa 43 #[b] a λe k=>e=F .nilIface/\Below a.heap.size a k:=by
 obtain⟨o,l,rfl,-,h,g⟩:=f.at c;have m:=c.n;have j:(BK U).length=L U:=by simp[BK]
 exact Uz i h g (by rw[j];exact c.s) O6
theorem Abw{w:Q}{nm:ByteArray}{l:List (ByteArray×Int)}{gl:List Bt}(y:Cu w)(aG:21<w.heap.size)(af:Ob nm l gl):Av Aa 21 #[S (He (oU nm l gl))] w λt am=>∃(d b:Option Addr) (c a ae:Nat),t=F (R #[T #[S nm,W d (L l) c,W b ae a],.nilIface])/\(∃lo,w.heap.size<=lo/\ObA lo am nm l gl (T #[S nm,W d (L l) c,W b ae a]))/\Below w.heap.size w am:=by
 have ap:=O0 af;obtain⟨ak,aj,aP,al,aQ⟩:=af;have ad:=O0 y;have a4:4<=(oU nm l gl).length:=by simp[oU]
 obtain⟨ay,az⟩:=Amd (oU nm l gl);have a0:=Ac3 (oU nm l gl);have ao:=O0 λa5=>(Ae w.heap.size w).alloc (Ac _) a5;have aq:=O0 (Aq4 ak (Aq4 aj al));generalize hbs:oU nm l gl=bs at*;have aF:(⟨bs.toArray⟩:ByteArray).size=L bs:=rfl;have ac:=O0 (λw=>Yi ⟨bs.toArray⟩ w O1);have D:=O0 hbs;have aM:¬(100000:Int)<((He bs).size:Int):=O1;have aN:4<=L bs:=a4;generalize He bs=s at*;have a2:((s.size:Int)-4).toNat=L bs:=O1;have aD:(0:Int)<=(s.size:Int)-4:=O1;have aE:(s.size:Int)-4<=(s.size:Int):=O1;have a3:s.size-4=L bs:=O1;have h:O9 ((s.extract 0 (s.size-4)=⟨bs.toArray⟩/\s.extract 0 ((s.size:Int)-4).toNat=⟨bs.toArray⟩)/\s.extract (s.size-4) s.size=JJ ⟨bs.toArray⟩/\s.extract ((s.size:Int)-4).toNat s.size=JJ ⟨bs.toArray⟩):=by
  grind
 by_cases aO:(s.size:Int)<8
 ·omega
 ·clear y ak aj al ay az a2 hbs a0 a3;go_enter Tryz.func21,Tryz.ntmps21;go_upto_region 6 with fail
  have aa:=O0 (CB.new w (S ⟨#[]⟩) (W N 0 0) (W N 0 0) 41);have B:=O0 (ao.o (AO #[S ⟨#[]⟩,W N 0 0,W N 0 0] 41));generalize w.alloc (AO #[S ⟨#[]⟩,W N 0 0,W N 0 0] 41)=W1 at*;go_cut [32] (λax a9=>ax=A false/\O9 (Below W1.heap.size W1 a9))
  case first=>
   go_region_with ((go_at_call 41;(first|rw[h.o.1.1]|rw[h.o.1.2]);refine(ac.o _).mono ?_;rintro t f ⟨rfl,ah⟩;have i:=O0 ah;clear ah))
   all_goals go_wp2_with fail
   all_goals go_meet
   all_goals exact⟨by(first|rw[h.o.2.1]|rw[h.o.2.2]);simp,((Ae _ _).drew).trans i.o⟩
  case rest=>
   obtain⟨rfl,i⟩:=hcut;rename Q=>f
   have r:=O0 (aa.o.bE i.o);have o:O9 (Below w.heap.size w f):=B.o.trans (i.o.mono B.o.size);have O:=r.o.lt;clear aa B i ac;go_upto_region 9 with fail
   first|rw[h.o.1.1]|rw[h.o.1.2]
   have G:=O0 (Akz f bs);generalize f.alloc (.cells #[S ⟨bs.toArray⟩,V C 0] 134)=W2 at*;have H:=G.o.lw ⟨Ac _,λ_ e=>(by cases e),by simp[fp],λ_ e=>by cases e⟩;have an:=O0 (o.o.trans (H.mono o.o.size));have aB:=O0 (r.o.bE H);have k:=Aae (lo:=f.heap.size) (w:=W2) (E:=f.heap.size) (s:=⟨bs.toArray⟩) (nm:=nm) (l:=l) (gl:=gl) O1 (by rw[D.o];rfl) (ad.o.bE an.o) O1 (by rw[D.o];exact G.o.s) aq.o.1;rw[D.o]at k;have k:=O0 k;have au:=O0 λz (hb:Below f.heap.size f z)=>r.o.bE hb;clear r H;have ar:=O0 (λ(w:Q) lo v (e:ObA lo w nm l gl v) y=>Ae2 ap.o e y);go_wp2_with (first
    |(go_at_call 42;refine k.o.mono ?_;rintro t z ⟨aJ,aC,g,rfl,ai,ag⟩;have m:=G.o.trans ag;obtain⟨b,a,rfl⟩:=BW (m.mem (.head _));obtain⟨d,c,rfl⟩:=BW (m.mem (.tail _ (Ag.2 (.inr (.head _)))));have x:=ObA.of (nm:=nm) m.s ai;have K:=m.lw ⟨Ac _,λ_ e=>(by cases e),by simp[fp],λ_ e=>by cases e⟩;have q:=O0 (o.o.trans (K.mono o.o.size));have U:=O0 (x.bE ((Ae _ _).alloc (Ac _) (.cells #[S nm,W d (L l) c,W b (L g) a] 41)));have aw:=O0 (ar.o _ _ _ U.o (ad.o.bE (q.o.alloc q.o.size _)));have ab:=O0 (au.o z K);have aH:=ab.o.lt;clear ag m ai k x K)
    |(go_at_call 43;refine aw.o.mono ?_;rintro t w5 ⟨rfl,n⟩;have Y:=O0 n;have M:=(ab.o.bE ((Ae _ _).alloc (Ac _) (.cells #[S nm,W d (L l) c,W b (L g) a] 41))).bE n;obtain⟨aR,aS,aT,k0,aK,aL⟩:=id M;have av:=O0 M;obtain⟨aV,aW⟩:=Ea n;have aI:z.heap.size<w5.heap.size:=(by have:=n.size;simp at this;omega);clear n M))
   obtain⟨a6,a7,a8,-,-,-⟩:=av.o.put (S nm) (W d (L l) c) (W b (L g) a);refine AV (v:=R #[T #[S nm,W d (L l) c,W b (L g) a],.nilIface]) (by simp[results,Tryz.results21,go_sem,a6,a7,a8]) rfl ?_;have x:=(((U.o.bE Y.o).cell (j:=0) (u:=S nm) O).cell (j:=1) (u:=W d (L l) c) O).cell (j:=2) (u:=W b (L g) a) O;have a1:=(q.o.alloc q.o.size (.cells #[S nm,W d (L l) c,W b (L g) a] 41)).trans (Y.o.mono O5);exact⟨d,b,c,a,L g,rfl,⟨_,O1,x⟩,((a1.setCell (p:=⟨w.heap.size,0,N⟩) (Ac _) _).setCell (p:=⟨w.heap.size,1,N⟩) (Ac _) _).setCell (p:=⟨w.heap.size,2,N⟩) (Ac _) _⟩
theorem Aol(a:Q):
 Below a.heap.size a ((a.alloc (AO #[S ⟨#[]⟩,W N 0 0,W N 0 0] 41)).alloc (AO #[V C 0,V C 0] 47))/\
 CB ((a.alloc (AO #[S ⟨#[]⟩,W N 0 0,W N 0 0] 41)).alloc (AO #[V C 0,V C 0] 47)) a.heap.size (S ⟨#[]⟩) (W N 0 0) (W N 0 0)/\
 Fx ((a.alloc (AO #[S ⟨#[]⟩,W N 0 0,W N 0 0] 41)).alloc (AO #[V C 0,V C 0] 47)) (a.heap.size+1) (V C 0) (V C 0):=by
 refine⟨bA.alloc O2 _,(CB.new a _ _ _ _).bE bA,?_⟩;have b:=Fx.new (a.alloc (AO #[S ⟨#[]⟩,W N 0 0,W N 0 0] 41)) (V C 0) (V C 0) 47;simp_all
theorem Adi{w:Q}{a:ByteArray}(K:Cu w)(an:21<w.heap.size)(H:Ob a U d):Av Aa 12 #[S (He (oU a U d))] w λm ai=>∃(h e:Option Addr) (g b c:Nat),m=F (R #[T #[S a,W h (L U) g,W e c b],V C 0,T #[V C 0,V C 0]])/\(∃i,w.heap.size<=i/\ObA i ai a U d (T #[S a,W h (L U) g,W e c b]))/\Below w.heap.size w ai:=by
 obtain⟨t,ac,ab⟩:=Aol w;have y:=O0 (Abw (w:=(w.alloc (AO #[S ⟨#[]⟩,W N 0 0,W N 0 0] 41)).alloc (AO #[V C 0,V C 0] 47)) (K.bE t) O5 H);have x:=O0 t;have ak:=O0 ac;have z:=O0 ab;generalize He (oU a U d)=f at*;clear K t ac ab H;go_enter Tryz.func12,Tryz.ntmps12;go_wp2_with (first
  |(go_at_call 21;refine y.o.mono ?_;rintro m p ⟨h,e,g,b,c,rfl,⟨i,aa,G⟩,n⟩;have aj:=O0 n;have al:=O0 (ak.o.bE n);have r:=O0 (z.o.bX (n.block _ z.o.lt));have u:=O0 (Aq4 aa G);clear n G aa y))
 have ao:=r.o.lt;have l:=O0 ((Ae p.heap.size p).alloc (Ac _) (AO #[S a,W h (L U) g,W e c b] 41));have s:=O0 (al.o.bE l.o);have k:=O0 (r.o.bX (l.o.block _ r.o.lt));have q:=O0 (CB.new p (S a) (W h (L U) g) (W e c b) 41);generalize p.alloc (AO #[S a,W h (L U) g,W e c b] 41)=X at*;obtain⟨aH,aI,aJ,k0,av,aw⟩:=id s.o;obtain⟨aD,aE,aN,aO⟩:=id k.o;obtain⟨a6,a7,a8,a0,a1,a2⟩:=id q.o;have ap:=q.o.lt;have aq:=s.o.lt;have ar:=k.o.lt;have E:O9 (Below X.heap.size X X.drew):=(Ae _ _).drew;go_region_with (first
  |(go_at_call 17;refine(Re _).mono ?_;rintro m aR ⟨rfl,rfl⟩)
  |(go_at_call 18;refine(V0 _).mono ?_;rintro m am ⟨rfl,O⟩;have j:O9 (Below X.heap.size X am):=E.o.trans (O.mono E.o.size);have D:=O0 (s.o.bE j.o);have B:=O0 (k.o.bX (j.o.block _ k.o.lt));obtain⟨aK,aL,aM,ax,ay,az⟩:=id D.o;obtain⟨aF,aG,aP,aQ⟩:=id B.o;obtain⟨a9,aB,aC,a3,a4,a5⟩:=id (O0 (q.o.bE j.o)).o;clear O))
 all_goals go_wp2
 all_goals(obtain⟨ad,ae,af,ag,ah⟩:=Aal D.o B.o O1 (S a) (W h (L U) g) (W e c b) (V C 0) (V C 0);unfold Ic at ad ae af ag ah)
 all_goals refine AV (v:=R #[T #[S a,W h (L U) g,W e c b],V C 0,T #[V C 0,V C 0]]) (by simp[results,Tryz.results12,go_sem,ad,ae,af,ag,ah]) rfl ?_
 all_goals(have M:=l.o.trans (j.o.mono l.o.size);have Y:=x.o.trans (aj.o.mono x.o.size))
 all_goals refine⟨h,e,g,b,c,rfl,?_,Abd (Y.trans (M.mono Y.size)) (Ac _) (As8 _) _ _ _ _ _⟩
 all_goals(have au:w.heap.size+2<=i:=by have:=u.o.1;simpa using this)
 all_goals exact⟨i,O1,(((((u.o.2.bE M).cell O1).cell O1).cell O1).cell O1).cell O1⟩
end Go.Proofs.YtcacpmkdfnmhaaaGreatDoor
