import Derived.Test.YtcacpmkdfnmhaaaGreatDoorTdJ
set_option linter.unusedSimpArgs false
set_option maxRecDepth 100000
set_option maxHeartbeats 8000000
open And renaming intro->Aq4
open Except renaming error->P
open Go renaming Calls->Av,Value->X,World->Q
open Go.Act renaming eval->A4
open Go.Ending renaming returned->F
open Go.IntKind renaming i64->C
open Go.Proofs.Tryz renaming prog->Aa
open Go.Value renaming agg->T,bool->A,int->V,pointer->J,slice->W,string->S,tuple->R
open List renaming length->L
open Option renaming none->N,some->I
namespace Go.Proofs.YtcacpmkdfnmhaaaGreatDoor
open Go.RowKit Go.Sort
variable{we:List BA}{nz:BA}{w s m j:Nat}{wq:Bx}{wh:List Bx}{o:Int}{n5:Nat->Int}{v:ByteArray}{f:Nat->Addr}{n p H:World}{G:Option Addr}{wa w0:List As}{b:Value}{h:List ByteArray}{vg:Obj}
theorem Qk(a:wq.op≠1):Ft we nz w wq=wq:=by unfold Ft;rw[if_neg a]
theorem Ajc(d:List BA)(c:BA)(e:Nat)(b:Bx):D5 (Ft d c e b).op.toNat (Ft d c e b).a=D5 b.op.toNat b.a/\CN (Ft d c e b).op.toNat (Ft d c e b).a=CN b.op.toNat b.a:=by
 by_cases f:b.op=1
 ·rw[(Lg d c e b).1,f];exact⟨rfl,rfl⟩
 ·rw[Qk f];omega
theorem Af7(c:List BA)(b:BA)(d:Nat)(a:Bx)(f:Nat):IP (Ft c b d a) f=IP a f:=by
 by_cases e:a.op=1
 ·unfold IP;rw[(Lg c b d a).1,(Lg c b d a).2,e];rfl
 ·rw[Qk e]
theorem Lx.mv(d:Lx wh o n5)(b:List BA)(a:BA)(c:Nat):Lx (wh.map (Ft b a c)) o n5:=by
 refine⟨by rw[Ax];exact d.pos,by rw[Ax];exact d.len,d.start,λv m=>?_,λf g j=>?_⟩
 ·obtain⟨e,l,rfl⟩:=AK.1 m;let ⟨q,r⟩:=d.ins e l
  refine⟨by rw[(Lg b a c e).1];exact q,?_⟩;rw[(Lg b a c e).1,(Lg b a c e).2];by_cases i:e.op=1
  ·grind
  ·rw[Qk i];exact r
 ·rw[Ax]at g;let ⟨s,h,t⟩:=d.go f g j
  rw[AN];let ⟨n,p⟩:=Ajc b a c wh[f]
  refine⟨s,?_,λu k=>?_⟩
  ·unfold FQ at h ⊢;rw[n,p,(Lg b a c wh[f]).1];exact h
  ·rw[Af7]at k;grind
theorem W4(b:List BA):∀c d,(KV b c d).length=(c.map λa=>L a.Bs).sum
 |[],_=>rfl
 |a::r,d=>by
  rw[KV,Ay,Ax,W4 b r,Aqv,Ar9]
theorem Zq(d:List BA):∀f g,∀c∈KV d f g,∃a∈f,∃e,∃h∈a.Bs,c=Qn d a e h/\e+L a.Bs<=g+(f.map λa=>L a.Bs).sum
 |[],_,c,b=>by cases b
 |a::r,g,c,b=>by
  rcases Ag.1 b with b|b
  ·grind
  ·let ⟨i,k,e,h,l,j,m⟩:=Zq d r _ c b
   grind
theorem W8{e:ByteArray}:∀{d:List Bt} {b a:Nat} {c:Int},IZ e d b=I (a,c)->b<=a/\a<b+L d
 |g::r,b,a,c,h=>by
  rw[IZ]at h;rw[AM];split at h
  ·cases h;omega
  ·have:=W8 h;omega
theorem TA{j:ByteArray}:∀{f:List BA} {e b a g:Nat} {d:Int},Hc j f e b=I (a,g,d)->b<=a/\a<b+(f.map λc=>L c.Bs).sum
 |c::r,e,b,a,g,d,h=>by
  rw[Hc]at h;rw[Aqv,Ar9];split at h
  ·rename_i l k i
   cases h;have:=W8 i;omega
  ·have:=TA h;omega
theorem Za(p:GO we v)(q:∀b∈we,Gb b):(∃n,CC (Ek we) n)/\0<=Fv we v/\Fv we v<((Ek we).length:Int):=by
 let ⟨af,ai,u⟩:=p.e
 have O:=p.s;have y:∀b∈we,Gt we b=false:=λb d=>by
  obtain⟨i,l,rfl⟩:=Ari d;exact TC p.m i l
 have U:∀b∈we,∀c∈b.Bs,∀i∈c.code,-9223372036854775808<=i.a/\i.a<=9223372036854775807:=λb d c f i l=>by
  obtain⟨ae,-,o⟩:=q b d;exact((o.i.x c f).i i l).i
 have w:=λb d=>(q b d).sound;have aa:(Ek we).length=(we.map λb=>L b.Bs).sum:=W4 we we 0;have hb:Dl we (L we)=(we.map λb=>L b.Bs).sum:=by unfold Dl;simp
 have E:(Ek we).length<=200000:=by
  have:=UE w;omega
 have t:∀g∈Ek we,∃b∈we,∃e,∃c∈b.Bs,g=Qn we b e c/\e+L b.Bs<=(Ek we).length:=λg j=>by
  let ⟨b,d,e,c,f,k,G⟩:=Zq we we 0 g j
  grind
 have D:∀c (p:c<(Ek we).length),∃n,Lx (Ek we)[c].code (Ek we)[c].arity n:=λc f=>by
  obtain⟨b,d,e,g,j,k,-⟩:=t _ (Ao f);obtain⟨-,n,B⟩:=(q b d).eC g j;rw[k];exact⟨n,B.mv we b e⟩
 refine⟨⟨λc=>if f:c<(Ek we).length then Classical.choose (D c f) else λ_=>0,E,λc f=>?_,λc f=>?_,λc f i l=>?_⟩,?_,?_⟩
 ·obtain⟨b,d,e,g,j,k,-⟩:=t _ (Ao f);rw[k];exact((q b d).eC g j).1
 ·grind
 ·let ⟨b,d,e,g,j,k,G⟩:=t _ (Ao f)
  rw[k]at l;obtain⟨h,H,rfl⟩:=AK.1 (show i∈g.code.map (Ft we b e) from l);by_cases o:h.op=1
  ·have Y:=((w b d).ix g j h H).g o;have ad:0<=La we b e h.a/\La we b e h.a<((Ek we).length):=by
    unfold La;split
    ·rename_i ab
     have x:h.a.toNat<L b.Bu:=O1;rw[AA x];simp[Option.bind_some];have r:=y b d;unfold Gt at r;rw[Asq]at r;have ac:=r b.Bu[h.a.toNat] (Ao x);cases hx2:HE we b.Bu[h.a.toNat].name with
     |none=>grind
     |some z=>
      let ⟨ag,ah,K⟩:=z
      have:=TA hx2;simp only;omega
    ·omega
   have M:(Ft we b e h).a=La we b e h.a:=by unfold Ft;rw[if_pos o]
   omega
  ·rw[Qk o];grind
 ·unfold Fv;grind
 ·unfold Fv;rw[u];have:=TA u;simp only;omega
structure Hf (a:Q) (b:Nat->Addr):Prop where
 s:DP a b
 y:SY a b
 r:LB a a.heap.size
def Tx(l:ByteArray)(h:BA):Prop:=∃(g:ByteArray) (f:List IT) (d:List DT) (k:Nat) (m:Q) (j i:X) (b:List (ByteArray×Int)) (a:KU) (c:List ByteArray) (e:List GG),Db l=.ok (g,f,d.map CY)/\Ka k f d m j i b a c e/\h=⟨g,BK b,(e.map (C8 a.kn (a.kn.take (L b)++c))).map Cj⟩
structure OM where
 nm:ByteArray
 ip:Option Addr
 ic:Nat
 l:List (ByteArray×Int)
 gp:Option Addr
 gc:Nat
 gs:List GG
abbrev Nx(a:OM):List X:=[S a.nm,W a.ip (L a.l) a.ic,W a.gp (L a.gs) a.gc]
def Jn(a:OM):List As:=gA (W a.gp (L a.gs) a.gc) a.gs::(gL a.gs++[pA 74 2 (W a.ip (L a.l) a.ic) (L a.l) (a.l.flatMap Dr)])
abbrev JR(a:OM):BA:=⟨a.nm,BK a.l,a.gs.map Cj⟩
theorem Hf.bE{w d:Q}{c:Nat->Addr}(a:Hf w c)(hb:Below w.heap.size w d):Hf d c:=⟨a.s.bE hb,a.y.bE hb,a.r.t.bE hb,Aj a.r.l hb.size,λf e=>a.r.b f (hb.trans (e.mono hb.size))⟩
theorem Hf.k{w:Q}(a:Hf w f):Jc w f:=⟨a.s.c,a.s.o,a.s.ne⟩
theorem Tx.gb(a:Tx v nz):Gb nz:=by
 obtain⟨m,j,g,l,n,k,i,d,e,f,h,c,b,rfl⟩:=a;exact⟨d,rfl,Adj (Vo c rfl b)⟩
theorem EK.len{p:Option Addr}(a:EK n (T #[S v,W p w s,W G m j]) nz):v=nz.name/\w=L nz.Bu/\m=L nz.Bs:=by
 obtain⟨h,g,d,-,⟨i,b,e,-⟩,⟨k,c,f,-⟩⟩:=a;grind
theorem Alq{s:ByteArray}(m:Hf n f):Av Aa 10 #[S s] n λl j=>Below n.heap.size n j/\((∃c k,c≠0/\(∃M,Db s=P M)/\l=F (R #[T #[S ⟨#[]⟩,W N 0 0,W N 0 0],V C c,V C k]))\/∃a i h e d,Tx s a/\l=F (R #[T #[S a.name,W i (L a.Bu) h,W e (L a.Bs) d],V C 0,V C 0])/\EK j (T #[S a.name,W i (L a.Bu) h,W e (L a.Bs) d]) a):=by
 apply (Af6 (λG _ _ _=>.of λ_=>Vb G 30 0 rfl) m.s m.y m.r λu t x b=>Ad7 b).mono;rintro l j ⟨hb,b⟩;refine⟨hb,?_⟩;match hp:Db s with
 |P (c,k)=>
  rw[hp]at b;exact .inl ⟨c,k,by have:=RE hp;omega,⟨_,rfl⟩,b⟩
 |.ok (u,t,x)=>
  rw[hp]at b;obtain⟨i,h,e,O,d,rfl,K,z,H,v,w,B,-,rfl,p⟩:=b;have q:=Vo hp rfl p;have o:=Zz p.s q.g (by have:=q.l;simpa[BK]using this);obtain⟨-,D,E⟩:=o.len;rw[D,E]at o ⊢;exact .inr ⟨_,i,h,e,d,⟨u,t,z,K,j,_,_,H,v,w,B,hp,p,rfl⟩,rfl,o⟩
theorem Bo.join{g:Nat}{L1:List As}(e:Bo w n wa p L1)(hb:Below p.heap.size p H)(d:Sp g H w0)(l:p.heap.size<=g):Bo w n wa H (L1++w0):=by
 have c:=e.bE hb;have m:=e.s.z;have o:=e.af.size;refine⟨c.af,⟨c.s.z,λf i=>(Ag.1 i).elim (c.s.h f) (d.h f),?_,λb a=>?_⟩,λb a=>?_⟩
 ·simp only[fp,AE,A8];exact⟨c.s.nd,d.nd,λh j b hb k=>by have:=(e.s.rg h j).2;have:=(d.rg b hb).1;omega⟩
 all_goals
  simp only[fp,AE,Ag]at a;rcases a with a|a
 ·exact c.s.rg b a
 ·have:=d.rg b a;omega
 ·exact c.nb b a
 ·have:=(d.rg b a).1;omega
variable{vd:List OM}
theorem Ap1(g:Sp w n (pA 41 3 b (L vd) (vd.flatMap Nx)::vd.flatMap Jn))(r:∀a∈vd,Ob a.nm a.l (a.gs.map Cj))(x:(L vd)<=10000000):Iq n b (vd.map JR):=by
 obtain⟨v,j,rfl,t⟩:=LA (g.mem (.head _));refine⟨v,j,O2,by unfold short;simp;omega,λc s=>?_⟩;have e:c<L vd:=by simpa using s
 obtain⟨q,rfl,f⟩:=t c e;let ⟨m,o,p⟩:=Nf (λa:OM=>Value.string a.nm) (λa=>W a.ip (L a.l) a.ic) (λa=>W a.gp (L a.gs) a.gc) vd c e
 let ⟨h,i,k⟩:=List.append_of_mem (Ao e)
 have d:=Sp.right (M:=[_]) g;replace d:Sp w n (vd.flatMap Jn):=d
 rw[show vd.flatMap Jn=h.flatMap Jn++(Jn vd[c]++i.flatMap Jn) from(congrArg (λu:List OM=>u.flatMap Jn) k).trans O2]at d;have l:(BK vd[c].l).length=vd[c].l.length:=by simp[BK]
 simp only[AN,JR,l,Ax];exact⟨q,0,_,_,_,_,rfl,by rw[Aqy,f _ O1];exact m,by rw[Aqy,f _ O1];exact o,by rw[Aqy,f _ O1];exact p,((show ObA w n vd[c].nm vd[c].l (vd[c].gs.map Cj) _ from⟨_,_,_,_,_,rfl,rfl,(Sp.right d).left⟩).at (r _ (Ao e)))⟩
theorem Ahm:ET 37 41 3 64:=.of Tryz.underlying37 rfl rfl O1 O1
def Mg(f:Q)(e:Option Addr)(d:List ByteArray):Prop:=∀a (g:a<L d),∃b c,e=I ⟨b,c,N⟩/\f.cell? ⟨b,c+a,N⟩=I (.string d[a])
theorem Mg.bE{w:Q}(d:Mg w G h)(hb:Below w.heap.size w n):Mg n G h:=λi e=>by
 let ⟨a,o,c,b⟩:=d i e
 exact⟨a,o,c,Bn hb b⟩
def OG(c:List ByteArray)(b:List BA):Prop:=L b=L c/\∀a (d:a<L c) (e:a<L b),Tx c[a] b[a]
def MK(d:Q)(c:List ByteArray)(f:X)(e:Nat)(wr:Q):Prop:=∃a:List OM,L a=e/\(∀b (g:b<L a) (h:b<L c),Tx c[b] (JR a[b]))/\(∀x∈a,Ob x.nm x.l (x.gs.map Cj))/\Bo d.heap.size d [] wr (pA 41 3 f (L a) (a.flatMap Nx)::a.flatMap Jn)
def Xw(e f:Q)(d:List ByteArray)(c:ByteArray)(h:Ending):Prop:=Below e.heap.size e f/\((∃b:Int,b≠0/\h=F (R #[J N,V C b,A true])/\((∃l∈d,∃m,Db l=P m)\/∃a,OG d a/\¬GO a c))\/∃a g j i b,OG d a/\(∀k∈a,Gb k)/\GO a c/\h=F (R #[J (I ⟨g,0,N⟩),V C 0,A true])/\R2 f g (W j i b) (V C (Fv a c))/\Ed e.heap.size f (W j i b) (Ek a))
theorem MK.next{wr w2:Q}{c:Nat}{x:OM}(o:∀a (d:a<L vd) e,Tx h[a] (JR vd[a]))(m:∀x∈vd,Ob x.nm x.l (x.gs.map Cj))(g:Bo n.heap.size n [] wr (pA 41 3 b (L vd) (vd.flatMap Nx)::vd.flatMap Jn))(hb:Below wr.heap.size wr H)(f:Sp w H (Jn x))(i:wr.heap.size<=w)(p:(L vd)<L h)(q:Tx h[L vd] (JR x))(k:Ob x.nm x.l (x.gs.map Cj))(j:Df (H.alloc vg) 41 3 b (W (I ⟨s,0,N⟩) (L vd+1) c) (L vd+1) (vd.flatMap Nx++Nx x) w2):MK n h (W (I ⟨s,0,N⟩) (L vd+1) c) (L vd+1) w2:=by
 refine⟨vd++[x],O2,λa d e=>?_,λt r=>?_,?_⟩
 ·grind
 ·grind
 ·simpa using(((g.join hb f i).bE ((Ae _ _).alloc (Ac _) vg)).cP (L1:=[]) j)
theorem MK.last(e:∀a (c:a<L vd) d,Tx h[a] (JR vd[a]))(b:(L vd)=L h):OG h (vd.map JR):=⟨by simpa using b,λa c d=>by
 grind⟩
theorem UI{ts:List ByteArray}{entry:ByteArray}{tp:Option Addr}{tc:Nat}(aH:Hf n f)(aR:Mg n tp ts)(bE:(L ts)<=1048576)(br:entry.size<=maxLen):Av Aa 5 #[W tp (L ts) tc,S entry] n λu b1=>Xw n b1 ts entry u:=by
 have l:=O0 λh (hb:Below n.heap.size n h)=>aH.bE hb;have ba:=O0 λh (hb:Below n.heap.size n h)=>aR.bE hb;clear aH aR;go_enter Tryz.func5,Tryz.ntmps5;go_wp2;go_loopw [7,8] (λbw au wr=>∃p:Nat,p<=L ts/\au=V C (p:Int)/\O9 (MK n ts bw p wr)) (λ_ au _=>L ts-(intOf au).toNat)
 case atStart=>exact⟨0,Ak _,rfl,[],rfl,λbG bq=>absurd bq O2,λx j=>(by cases j),Jv (Sp.b2 ⟨Ac _,λb5 i=>(by cases i),As9,λp ab=>(by cases ab)⟩)⟩
 case round=>
  obtain⟨p,ab,rfl,az⟩:=hrel;rename Q=>wr
  obtain⟨g,rfl,aL,v,o⟩:=az.o;have b:O9 (Below n.heap.size n wr):=⟨o.af.os,o.af.tape,o.af.output,o.af.size,λp ab=>o.af.block p ab (by simp[fp])⟩;have a7:=O0 aL;have G:=O0 v;have H:=O0 o;clear az aL v o;by_cases ap:(L g)<L ts
  ·have bB:(0:Int)<=(L g:Int):=O1;have bC:(L g:Int)<(L ts:Int):=O1;obtain⟨b7,a,rfl,b0⟩:=ba.o wr b.o _ ap;have E:=O0 (Alq (s:=ts[L g]) (l.o wr b.o));obtain⟨bO,ar⟩:∃av,ts[L g]=av:=⟨_,rfl⟩;rw[ar]at E b0;have a5:=O0 ar;have bb:=O0 (Ao ap);clear ar;go_wp2_with (first
    |(go_at_call 10;refine E.o.mono ?_;rintro u q ⟨B,⟨c,b6,aa,j,rfl⟩|⟨⟨ag,bH,bm⟩,bu,bs,bo,bk,al,rfl,i⟩⟩;(·have bf:=O0 j;have k:=O0 (b.o.trans (B.mono b.o.size));clear B j E;go_wp2;go_ret3;exact⟨k.o.alloc k.o.size _,.inl ⟨c,aa,rfl,.inl ⟨_,bb.o,by rw[a5.o];exact bf.o⟩⟩⟩);obtain⟨ae,aF,z⟩:=al.gb;simp only at aF z;subst aF;have bc:=O0 al;have ai:=O0 z;have d:=O0 B;have k:=O0 (b.o.trans (B.mono b.o.size));have ah:=O0 i;have ax:=O0 (λh (hb:Below q.heap.size q h)=>Aho (i.bE hb) (l.o _ (k.o.trans (hb.mono k.o.size))).r.t (l.o _ (k.o.trans (hb.mono k.o.size))).k z.i z.z);have a6:=O0 (λa=>CB.new q (S ag) (W bu (BK ae).length bs) (W bo (L bm) bk) a);clear B al i z E)
    |(go_at_call 11;refine(ax.o _ bA).mono ?_;rintro u aV ⟨rfl,w⟩;have am:Below q.heap.size q aV:=(((Ae q.heap.size q).alloc (Ac _) _).trans (w.mono O2));replace d:=O0 (d.o.trans (am.mono d.o.size));have y:=O0 (b.o.trans (d.o.mono b.o.size));replace ah:=O0 (ah.o.bE am);have be:=O0 ((a6.o 41).bE w);have aw:=O0 (Adi (l.o _ y.o).r.t (l.o _ y.o).r.l ai.o);clear w am ax a6)
    |(go_at_call 12;refine aw.o.mono ?_;rintro u e ⟨ad,M,ac,K,bn,rfl,⟨bJ,aO,i⟩,Y⟩;have aN:=i.at ai.o;obtain⟨bv,bp,bt,bl,O,aG,rfl,aQ⟩:=i;obtain⟨⟨rfl,rfl⟩,rfl,rfl,rfl⟩:(ad=bv/\ac=bt)/\M=bp/\bn=L O/\K=bl:=(by simpa using aG);have aW:=O0 (Aw d.o.size aO);have aj:=O0 aQ;replace d:=O0 (d.o.trans (Y.mono d.o.size));obtain⟨a8,aB,aD,-,-,-⟩:=be.o.bE Y;have a9:=λa=>alloc_old e a _ _ _ a8;have aC:=λa=>alloc_old e a _ _ _ aB;have aE:=λa=>alloc_old e a _ _ _ aD;have bh:=λa D=>alloc_old _ D _ _ _ (a9 a);have bi:=λa D=>alloc_old _ D _ _ _ (aC a);have bj:=λa D=>alloc_old _ D _ _ _ (aE a);have a4:=O0 (λh (hb:Below e.heap.size e h)=>Akl _ _ _ h ((ah.o.bE Y).bE hb) (aN.bE hb));simp only[Ax]at a4;have aX:=O0 (λa=>CB.new e (S ag) (W ad (L ae) ac) (W M (L O) K) a);clear Y aN aG aQ aO aw)
    |(go_at_call 13;have U:Below e.heap.size e ((e.alloc (.cells #[S ag,W ad (L ae) ac,W M (L O) K] 41)).alloc (.cells #[V C 0,V C 0] 47)):=(bA.alloc O2 _);(with_reducible refine(a4.o _ U).mono ?_);rintro u b2 ⟨rfl,ao⟩;have an:Below e.heap.size e b2:=U.trans (ao.mono U.size);replace aj:=O0 (aj.o.bE an);replace d:=O0 (d.o.trans (an.mono d.o.size));obtain⟨bL,bM,bN,-⟩:=((aX.o 41).bE bA).bE ao;have aZ:=O0 ((H.o.bE d.o).mem (.head _));clear ao an U a9 aC aE bh bi bj a8 aB aD)
    |(at_builtin;refine HT Ahm (aZ.o.alloc _) (AL _ _) (m:=1) (c:=1) (s:=.tmp 63) (x:=.tmp 65) (by simp[A4];done) (by simp[A4];done) rfl rfl rfl (by intro bP aS;simp at aS;rcases aS with rfl|rfl|rfl<;>rfl) O1 O1 ?_;intro b9 b8 w5 aP;have aY:=O0 aP;clear aP))
   exact⟨⟨L g+1,O1,by go_num,MK.next (x:=⟨ag,ad,ac,ae,M,K,O⟩) a7.o G.o H.o d.o aj.o aW.o ap (by rw[a5.o];exact bc.o) ai.o aY.o⟩,by simp[intOf];omega⟩
  ·have aT:(L g)=L ts:=O1;have bD:¬(L g:Int)<(L ts:Int):=O1;have ay:O9 (∀ak∈g.map JR,Gb ak):=λak v=>by
    obtain⟨x,j,rfl⟩:=AK.1 v;exact⟨x.l,rfl,G.o x j⟩
   have aM:SL (g.map JR):=λak v=>by
    obtain⟨x,j,rfl⟩:=AK.1 v;have:=(G.o x j).n;have:(BK x.l).length=L x.l:=by simp[BK]
    show(x.gs.map Cj).length*56<=_/\(BK x.l).length*24<=_;omega
   have aJ:=Ap1 H.o.s G.o O1;obtain⟨bK,bI,rfl,-⟩:=LA (H.o.mem (.head _));have a1:=O0 (An4 aJ aM br (l.o _ b.o).r.t (l.o _ b.o).s ay.o);have a0:=O0 (MK.last a7.o aT);rw[aT]at a1;clear aJ aM;go_wp2_with (first
    |(go_at_call 14;(with_reducible refine a1.o.mono ?_);rintro u aV ⟨w,⟨aq,c,x,aa,rfl⟩|⟨aq,bg,bz,bx,c,rfl,-,aK,aI⟩⟩<;>(have y:=O0 (b.o.trans (w.mono b.o.size));have a2:=O0 aq;clear w aq);rotate_left;(·have a3:=O0 (Aq4 aK (aI.low b.o.size));clear aK aI;go_wp2;go_ret3;exact⟨y.o,.inr ⟨_,bg,bz,bx,c,a0.o,ay.o,a2.o,rfl,a3.o.1,a3.o.2⟩⟩)))
   go_ret3
   exact⟨y.o,.inl ⟨c,aa,congrArg (λav=>Ending.returned (R #[J N,V C c,A av])) (bne_iff_ne.2 aa),.inr ⟨_,a0.o,a2.o⟩⟩⟩
end Go.Proofs.YtcacpmkdfnmhaaaGreatDoor
