import Derived.Test.YtcacpmkdfnmhaaaGreatDoorRefEncJ
import Derived.Deep.Slices
set_option linter.unusedSimpArgs false
set_option maxRecDepth 100000
set_option maxHeartbeats 4000000
open Go renaming Calls->Av,TypeId->AX,Value->X,World->Q
open Go.Ending renaming returned->F
open Go.IntKind renaming i64->C
open Go.Proofs.Tryz renaming prog->Aa
open Go.Value renaming agg->T,int->V,ownBlock->Bi,pointer->J,slice->W,string->S
open List renaming length->L
open Option renaming none->N,some->I
namespace Go.Proofs.YtcacpmkdfnmhaaaGreatDoor
open Go.RowKit Go.Sort
variable{n p H:World}{nz:BA}{v:ByteArray}{b i:Value}{wl:Type}{we:List BA}{w s m j:Nat}{wj:TypeId}{wi vf:List Value}{vi sq:Nat->Prop}{wz:List B0}{sr:Nat->Value}{vy:Option Nat}{wp:List (List Value)}{wh:List Bx}{wf:List Int}
def Ip(e:Q)(j:Option Addr)(b:List BA):Prop:=
 ∀a (k:a<L b),∃c d i h g f,j=I ⟨c,d,N⟩/\e.cell? ⟨c,d+a*3,N⟩=I (.string b[a].name)/\e.cell? ⟨c,d+a*3+1,N⟩=I (.slice i b[a].Bu.length h)/\e.cell? ⟨c,d+a*3+2,N⟩=I (.slice g b[a].Bs.length f)/\EK e (T #[.string b[a].name,.slice i b[a].Bu.length h,.slice g b[a].Bs.length f]) b[a]
def Iq(e:Q)(d:X)(a:List BA):Prop:=∃b c,d=W b (L a) c/\short (L a)/\Ip e b a
theorem Ip.bE{w c:Q}{b:Option Addr}{a:List BA}(h:Ip w b a)(hb:Below w.heap.size w c):Ip c b a:=λi n=>by
 let ⟨d,o,q,p,g,f,e,j,k,l,m⟩:=h i n
 exact⟨d,o,q,p,g,f,e,Bn hb j,Bn hb k,Bn hb l,m.bE hb⟩
theorem Iq.bE{w d:Q}{c:X}{b:List BA}(a:Iq w c b)(hb:Below w.heap.size w d):Iq d c b:=by
 let ⟨h,e,f,g,a⟩:=a
 exact⟨h,e,f,g,a.bE hb⟩
theorem EK.Bs(a:EK n (T #[S v,b,i]) nz):En n b nz.Bu/\HD n i nz.Bs:=by
 obtain⟨ia,d,c,-,e,f⟩:=a;grind
def BO{b:Type}(a:Nat->b->Bool):List b->Nat->Option Nat
 |[],_=>N
 |x::r,k=>if a k x then I k else BO a r (k+1)
theorem LF(c:Nat->wl->Bool)(b:List wl){a:Nat}(d:a<L b):BO c (b.drop a) a=if c a b[a] then I a else BO c (b.drop (a+1)) (a+1):=by
 rw[A3 d,BO]
theorem Mw(d:Nat->wl->Bool)(b:List wl){a:Nat}(c:(L b)<=a):BO d (b.drop a) a=none:=by
 rw[Arz c,BO]
theorem TC{f:Type}{e:Nat->f->Bool}:∀{d:List f} {b:Nat},BO e d b=N->∀a c,e (b+a) d[a]=false
 |x::r,b,h,a,c=>by
  rw[BO]at h;split at h
  ·cases h
  ·rename_i g
   cases a with
   |zero=>simpa using g
   |succ j=>
    have:=TC h j (by simpa using c);grind
def IZ(a:ByteArray):List Bt->Nat->Option (Nat×Int)
 |[],_=>N
 |g::r,n=>if g.exp && decide (g.name=a) then I (n,g.arity) else IZ a r (n+1)
def Hc(b:ByteArray):List BA->Nat->Nat->Option (Nat×Nat×Int)
 |[],_,_=>N
 |O::r,k,n=>match IZ b O.Bs n with
  |some (m,a)=>I (m,k,a)
  |none=>Hc b r (k+1) (n+L O.Bs)
def HE(a:List BA)(b:ByteArray):Option (Nat×Nat×Int):=Hc b a 0 0
def Dl(b:List BA)(c:Nat):Nat:=((b.take c).map λa=>L a.Bs).sum
theorem OI(a:w<L we):Dl we (w+1)=Dl we w+we[w].Bs.length:=by
 unfold Dl;rw[Au a,AJ,Atr];simp
def Gt(b:List BA)(a:BA):Bool:=a.Bu.any λc=>(HE b c.name).isNone
def I0(d:List BA)(c:BA):Bool:=c.Bu.any λb=>decide ((match HE d b.name with|some (_,_,a)=>a|none=>0)≠b.arity)
def Np(a:BA):Nat:=(a.Bs.map λb=>L b.code).sum
def sz(a:List BA):Nat:=(a.map Np).sum
def La(c:List BA)(a:BA)(d:Nat)(b:Int):Int:=
 if b<(L a.Bu:Int) then (match (a.Bu[b.toNat]?).bind λe=>HE c e.name with|some (f,_,_)=>(f:Int)|none=>-1) else (d:Int)+b-(L a.Bu:Int)
def Ft(d:List BA)(c:BA)(e:Nat)(b:Bx):Bx:=if b.op=1 then {b with a:=La d c e b.a} else b
def Qn(c:List BA)(b:BA)(d:Nat)(a:Bt):Bt:={a with code:=a.code.map (Ft c b d)}
def KV(a:List BA):List BA->Nat->List Bt
 |[],_=>[]
 |O::r,n=>O.Bs.map (Qn a O n)++KV a r (n+L O.Bs)
def Ek(a:List BA):List Bt:=KV a a 0
def Fv(a:List BA)(b:ByteArray):Int:=match HE a b with|some (c,_,_)=>(c:Int)|none=>-1
structure Lt (a:List BA):Prop where
 n:(L a)<=8
 g:∀O∈a,L O.Bs*56<=140737488351232/\L O.Bu*24<=140737488351232
theorem Lt.base{b:List BA}(c:Lt b):∀a,a<=L b->Dl b a<=a*140737488355328
 |0,_=>by simp[Dl]
 |a+1,hk=>by
  have:=c.base a O1;have:=(c.g b[a] (Ao _)).1;rw[OI O1];omega
theorem Tz(c:n.ownsRow w wj s b m wi)(hb:Below n.heap.size n p):p.ownsRow w wj s b m wi:=FC c λa d=>hb.block a (by
 rcases c.2 with⟨f,-⟩|⟨e,g,h,rfl,-,i,-⟩
 ·subst f;simp[vB,Bi]at d
 ·obtain rfl:a=e:=by simpa[vB,Bi]using d
  grind)
theorem N3(d:n.ownsRow w wj s b m wi)(a:b.ownBlock=I j):w<=j:=by
 rcases d.2 with⟨e,-⟩|⟨c,g,h,rfl,f,-⟩
 ·subst e;cases a
 ·obtain rfl:c=j:=by simpa[Bi]using a
  exact f
theorem Ib(a:n.ownsRow w wj s b m wi):n.ownsRow 0 wj s b m wi:=⟨a.1,by
 rcases a.2 with c|⟨g,d,e,f,-,h⟩
 ·exact .inl c
 grind⟩
def Qv(g:Nat->Prop)(f:Q)(i:X)(b:List B0):Prop:=∃e h,i=W e (L b) h/\short (L b)/\∀a (j:a<L b),∃c d,g c/\e=I ⟨c,d,N⟩/\f.cell? ⟨c,d+a*2,N⟩=I (.int C b[a].tag)/\f.cell? ⟨c,d+a*2+1,N⟩=I (.int C b[a].tgt)
theorem Ez.x{w':Q}{v:X}{l:List B0}(f:Ez n v l)(hb:Below n.heap.size n w'):Qv (λb=>b<n.heap.size) w' v l:=by
 let ⟨o,c,d,j,h⟩:=f
 refine⟨o,c,d,j,λk i=>?_⟩;let ⟨b,m,e,a,g⟩:=h k i
 exact⟨b,m,AG a,e,Bn hb a,Bn hb g⟩
theorem DA(a:p.heap[w]?=n.heap[w]?)(c:n.cell? ⟨w,s,N⟩=I b):p.cell? ⟨w,s,N⟩=I b:=by rw[Ai a];exact c
theorem Qv.fr(g:Qv vi n b wz)(i:∀a,vi a->a<n.heap.size->sq a/\p.heap[a]?=n.heap[a]?):Qv sq p b wz:=by
 let ⟨s,cap,e,l,j⟩:=g
 refine⟨s,cap,e,l,λo k=>?_⟩;let ⟨a,r,m,f,c,h⟩:=j o k
 let ⟨q,d⟩:=i a m (AG c)
 exact⟨a,r,q,f,DA d c,DA d h⟩
structure Gr (a wr:Q) (b:AX) (d:Nat) (e:X) (c:Nat) (f:List X):Prop where
 low:Below a.heap.size a wr
 row:wr.ownsRow a.heap.size b d e c f
theorem Gr.next{wr w2:Q}(a:Gr n wr wj w b s wi)(hb:Below wr.heap.size wr H)(f:H.grownBy w2 b.ownBlock){d:X}{c:Nat}{e:List X}(h:w2.ownsRow n.heap.size wj w d c e):Gr n w2 wj w d c e:=by
 have:=a.low.size;have:=hb.size;refine⟨(a.low.trans (hb.mono ?_)).grown f ?_ λk g=>N3 a.row g,h⟩<;>omega
theorem ofn(b:s≠m):(⟨w,s,N⟩:Addr)≠⟨w,m,N⟩:=λa=>b (congrArg Addr.off a)
theorem Lg(c:List BA)(b:BA)(d:Nat)(a:Bx):(Ft c b d a).op=a.op/\(Ft c b d a).alts=a.alts:=by unfold Ft;grind
structure FB (b:Q) (a e:Nat) (d:Nat->X):Prop where
 c:∀j,j<e->b.cell? ⟨a,j,N⟩=I (d j)
 fz:∀j,b.frozen? ⟨a,j,N⟩=false
 lt:a<b.heap.size
theorem FB.bX{w':Q}(a:FB n w s sr)(d:w'.heap[w]?=n.heap[w]?)(f:n.heap.size<=w'.heap.size):FB w' w s sr:=
 ⟨λb e=>by rw[Ai d];exact a.c b e,λb=>by rw[AD d];exact a.fz b,Aj a.lt f⟩
theorem FB.bE{w:Q}{a:Nat}(b:FB w a s sr)(hb:Below w.heap.size w n):FB n a s sr:=b.bX (hb.block a b.lt) hb.size
theorem FB.set{b:Nat}(c:FB n b w sr){a j:Nat}(d:b≠a)(u:X):FB (n.setCell ⟨a,j,N⟩ u) b w sr:=c.bX (Az _ _ _ _ d) O2
theorem FB.grown(a:FB n w s sr)(b:n.grownBy p vy)(d:vy≠I w):FB p w s sr:=a.bX (b.block w a.lt (λc=>d c.symm)) b.size
def C5(b:Nat)(d:List X)(c:List (List X))(a:Nat):X:=((c[a / b]?.getD d)[a % b]?).getD .nilIface
theorem Rj(a:s / w≠L wp):C5 w wi (wp++[vf]) s=C5 w wi wp s:=by
 unfold C5;grind
theorem LK(a:s / w<L wp):C5 w wi wp s=(wp[s / w][s % w]?).getD .nilIface:=by
 unfold C5;grind
theorem II(a:s / w=L wp):C5 w wi (wp++[vf]) s=(vf[s % w]?).getD .nilIface:=by
 rw[LK O5];simp[a]
theorem Fp{w:Q}{b a:Nat}{y:X}(c:a≠s):(w.setCell ⟨b,a,N⟩ y).cell? ⟨b,s,N⟩=w.cell? ⟨b,s,N⟩:=Af _ _ _ _ (ofn c)
theorem FB.fM{k:Nat}(a:FB n w (s*2) (C5 2 wi wp))(i:(L wp)=k)(j:k<s)(f g:X):FB ((n.setCell ⟨w,k*2,N⟩ f).setCell ⟨w,k*2+1,N⟩ g) w (s*2) (C5 2 wi (wp++[[f,g]])):=by
 subst i;refine⟨λb h=>?_,λb=>by simp[An];exact a.fz b,by simpa using a.lt⟩;by_cases e:b=L wp*2+1
 ·subst e;rw[Am _ _ _ (show World.cell? _ _=I (C5 2 wi wp (L wp*2+1)) by rw[Fp O1];exact(a.c (L wp*2+1) O1)),II O1,show(L wp*2+1) % 2=1 by omega];rfl
 ·rw[Fp (Asg e)];by_cases d:b=L wp*2
  ·subst d;rw[Am _ _ _ (a.c (L wp*2) O1),II O1,show(L wp*2) % 2=0 by omega];rfl
  ·rw[Fp (Asg d),a.c b h,Rj O1]
theorem FB.cV(a:FB n w (s*3) (C5 3 wi wp))(k:(L wp)=m)(l:m<s)(g h i:X):FB (((n.setCell ⟨w,m*3,N⟩ g).setCell ⟨w,m*3+1,N⟩ h).setCell ⟨w,m*3+2,N⟩ i) w (s*3) (C5 3 wi (wp++[[g,h,i]])):=by
 subst k;refine⟨λb j=>?_,λb=>by simp[An];exact a.fz b,by simpa using a.lt⟩;by_cases f:b=L wp*3+2
 ·subst f;rw[Am _ _ _ (show World.cell? _ _=I (C5 3 wi wp (L wp*3+2)) by rw[Fp O1,Fp O1];exact(a.c (L wp*3+2) O1)),II O1,show(L wp*3+2) % 3=2 by omega];rfl
 ·rw[Fp (Asg f)];by_cases e:b=L wp*3+1
  ·subst e;rw[Am _ _ _ (show World.cell? _ _=I (C5 3 wi wp (L wp*3+1)) by rw[Fp O1];exact(a.c (L wp*3+1) O1)),II O1,show(L wp*3+1) % 3=1 by omega];rfl
  ·rw[Fp (Asg e)];by_cases d:b=L wp*3
   ·subst d;rw[Am _ _ _ (a.c (L wp*3) O1),II O1,show(L wp*3) % 3=0 by omega];rfl
   ·rw[Fp (Asg d),a.c b j,Rj O1]
theorem FB.made(d:Q)(a:Array X)(c:Nat)(f:AX)(e:0<a.size):FB (d.alloc (.cells (madeCells a c) f)) d.heap.size c (C5 a.size a.toList []):=by
 refine⟨λb g=>Cb _ _ _ _ _ ?_,λb=>O2,O2⟩;have h:b % a.size<a.size:=Nat.mod_lt _ e;unfold C5 madeCells;grind
def NM(a:B0):List X:=[V .u8 a.tag,V .u16 a.tgt]
def QA:List X:=[V .u8 0,V .u16 0]
def MA(c:Nat)(e:Q)(d:X)(a:List B0):Prop:=∃b,c<=b/\d=W (I ⟨b,0,N⟩) (L a) (L a)/\FB e b (L a*2) (C5 2 QA (a.map NM))
theorem MA.bE{b:Nat}{w d:Q}{c:X}{a:List B0}(f:MA b w c a)(hb:Below w.heap.size w d):MA b d c a:=by
 let ⟨e,g,h,i⟩:=f
 exact⟨e,g,h,i.bE hb⟩
theorem MA.set{a:Nat}{e:Q}{d:X}{c:List B0}(g:MA a e d c){b j:Nat}(l:b<a)(u:X):MA a (e.setCell ⟨b,j,N⟩ u) d c:=by
 let ⟨f,h,i,k⟩:=g
 exact⟨f,h,i,k.set O1 u⟩
theorem MA.low(c:MA w n b wz)(g:s<=w):MA s n b wz:=by
 let ⟨a,f,d,e⟩:=c
 exact⟨a,O1,d,e⟩
theorem Tryz.fu:(Aa.info? 360).map (λa=>(a.zero,a.size,a.bytes))=I (I (T #[V .u8 0,V .u16 0]),2,4):=O3
theorem Ap4(a:Nat)(i:a<=65536)(b:Q):(Instr.makeSlice 289 (V C (a:Int)) (V C (a:Int))).run Aa b=.ok (W (I ⟨b.heap.size,0,N⟩) a a) (b.alloc (.cells (madeCells #[V .u8 0,V .u16 0] (a*2)) 360)):=by
 let ⟨h,d,c⟩:=AB.1 Tryz.fu
 simp[Aq2]at c;let ⟨e,f,g⟩:=c
 rw[run_make b 289 360 h _ Tryz.underlying289 d e C C a a O1 O1 (by rw[g];omega) O1,f];rfl
theorem Am8(a:List B0)(o:X)(b:Q)(j:Ez b o a)(x:(L a)<=65536)(n:∀g∈a,0<=g.tag/\g.tag<256/\0<=g.tgt/\g.tgt<65536):
 Av Aa 145 #[o] b λv p=>Below b.heap.size b p/\∃i,v=F (W (I ⟨i,0,N⟩) (L a) (L a))/\MA b.heap.size p (W (I ⟨i,0,N⟩) (L a) (L a)) a:=by
 obtain⟨ad,E,rfl,ab,m⟩:=j.open;have r:=O0 m;have q:=O0 (λk (w:k<L a)=>n a[k] (Ao _));have aa:=Ap4 (L a) x;clear j m n;go_enter Tryz.func145,Tryz.ntmps145;go_wp2;go_loopw [11] (λh wr=>∃k:Nat,k<=L a/\h=V C (k:Int)/\O9 (Below b.heap.size b wr/\FB wr b.heap.size (L a*2) (C5 2 QA ((a.take k).map NM)))) (λh _=>L a-(intOf h).toNat)
 case atStart=>exact⟨0,Ak _,rfl,bA,FB.made b _ _ _ O2⟩
 case round=>
  obtain⟨k,w,rfl,d⟩:=hrel;rename Q=>wr
  by_cases f:k<L a
  ·have O:(0:Int)<=(k:Int):=O1;have U:(k:Int)<(L a:Int):=O1;obtain⟨z,ac,rfl,B,D⟩:=r.o _ d.o.1 k f;obtain⟨ae,af,ag,ah⟩:=q.o k f;have hb:Below wr.heap.size wr (wr.alloc (.cells #[.int C a[k].tag,.int C a[k].tgt] 140)):=bA;have e:=d.o.2.bE hb;have G:=e.c (k*2) O1;have H:=e.c (k*2+1) O1;have K:=e.fz (k*2);have M:=e.fz (k*2+1);have t:=O0 (e.fM (k:=k) O5 f (.int .u8 a[k].tag) (.int .u16 a[k].tgt));have u:O9 ((a.take (k+1)).map NM=(a.take k).map NM++[[.int .u8 a[k].tag,.int .u16 a[k].tgt]]):=by
    show _=_;rw[Au f,AJ];rfl
   have y:=d.o.1.size;have s:=O0 d.o.1;have ai:IntKind.u8.wrap a[k].tag=a[k].tag:=by unfold IntKind.wrap;simp[IntKind.bits,IntKind.signed];omega
   have aj:IntKind.u16.wrap a[k].tgt=a[k].tgt:=by unfold IntKind.wrap;simp[IntKind.bits,IntKind.signed];omega
   clear hb e d;generalize a[k].tag=tg at*;generalize a[k].tgt=tt at*;go_wp2;exact⟨⟨k+1,O1,by go_num,((s.o.alloc y _).setCell (Ac _) _).setCell (Ac _) _,by rw[u.o];exact t.o⟩,by simp[intOf];omega⟩
  ·obtain rfl:k=L a:=O1;have Y:¬(L a:Int)<(L a:Int):=O1;go_wp2;go_ret;have l:=d.o.2;rw[AQ]at l;exact⟨d.o.1,_,rfl,_,Ac _,rfl,l⟩
def MG(b:Bx×X):List X:=[V C b.1.op,V C b.1.a,b.2]
def RW:List X:=[V C 0,V C 0,W N 0 0]
def MC(f:Nat)(d:Q)(g:X)(b:List Bx):Prop:=∃a,∃c:List (Bx×X),f<=a/\g=W (I ⟨a,0,N⟩) (L b) (L b)/\c.map (·.1)=b/\FB d a (L b*3) (C5 3 RW (c.map MG))/\∀e∈c,MA (a+1) d e.2 e.1.alts
theorem MC.bE{b:Nat}{w d:Q}{c:X}{a:List Bx}(g:MC b w c a)(hb:Below w.heap.size w d):MC b d c a:=by
 let ⟨e,f,h,i,j,k,l⟩:=g
 exact⟨e,f,h,i,j,k.bE hb,λn m=>(l n m).bE hb⟩
theorem MC.low(d:MC w n b wh)(g:s<=w):MC s n b wh:=by
 let ⟨a,c,f,e⟩:=d
 exact⟨a,c,O1,e⟩
theorem MA.grown{a:Nat}{f g:Q}{e:X}{c:List B0}{d:Option Nat}(i:MA a f e c)(m:f.grownBy g d)(o:∀b,d=I b->b<a):MA a g e c:=by
 let ⟨h,j,k,l⟩:=i
 exact⟨h,j,k,l.grown m λn=>by grind⟩
theorem MC.grown{b:Nat}{g h:Q}{f:X}{d:List Bx}{e:Option Nat}(l:MC b g f d)(c:g.grownBy h e)(t:∀a,e=I a->a<b):MC b h f d:=by
 let ⟨i,j,m,n,o,p,q⟩:=l
 exact⟨i,j,m,n,o,p.grown c (λk=>by grind),λs r=>(q s r).grown c λa k=>by grind⟩
def NE(h:Q)(g:X)(b:List Int):Prop:=∃e f,g=W e (L b) f/\∀a (i:a<L b),∃c d,e=I ⟨c,d,N⟩/\h.cell? ⟨c,d+a,N⟩=I (.int C b[a])
theorem NE.bE{w:Q}(f:NE w b wf)(hb:Below w.heap.size w n):NE n b wf:=by
 let ⟨k,c,d,h⟩:=f
 refine⟨k,c,d,λi j=>?_⟩;let ⟨a,o,e,g⟩:=h i j
 exact⟨a,o,e,Bn hb g⟩
structure Mv (c:Nat) (b:Bx):Prop where
 g:b.op=1->0<=b.a/\b.a<(c:Int)
 l:(L b.alts)<=65536
 a:∀x∈b.alts,0<=x.tag/\x.tag<256/\0<=x.tgt/\x.tgt<65536
def Gu(c:List Int)(b:Bx):Bx:=if b.op=1 then {b with a:=c[b.a.toNat]?.getD 0} else b
theorem Tryz.e6:(Aa.info? 292).map (λa=>(a.zero,a.size,a.bytes))=I (I (T #[V C 0,V C 0,W N 0 0]),3,40):=O3
theorem Al8(a:Nat)(i:a<=65536)(b:Q):(Instr.makeSlice 88 (V C (a:Int)) (V C (a:Int))).run Aa b=.ok (W (I ⟨b.heap.size,0,N⟩) a a) (b.alloc (.cells (madeCells #[V C 0,V C 0,W N 0 0] (a*3)) 292)):=by
 let ⟨h,d,c⟩:=AB.1 Tryz.e6
 simp[Aq2]at c;let ⟨e,f,g⟩:=c
 rw[run_make b 88 292 h _ Tryz.underlying88 d e C C a a O1 O1 (by rw[g];omega) O1,f];rfl
structure Qd (b:List Bx) (d:List Int) (a wr:Q) (c:Nat):Prop where
 low:Below a.heap.size a wr
 l:∃L:List (Bx×X),L.map (·.1)=(b.take c).map (Gu d)/\FB wr a.heap.size (b.length*3) (C5 3 RW (L.map MG))/\∀x∈L,MA (a.heap.size+1) wr x.2 x.1.alts
theorem Qd.next{wr w5:Q}{k:Nat}(j:Qd wh wf n wr k)(h:k<L wh)(hb:Below wr.heap.size wr w5){e:X}(u:MA (n.heap.size+1) w5 e wh[k].alts){op a:Int}(p:Gu wf wh[k]=⟨op,a,wh[k].alts⟩):
 (∃r s t,w5.cell? ⟨n.heap.size,k*3,N⟩=I r/\w5.cell? ⟨n.heap.size,k*3+1,N⟩=I s/\w5.cell? ⟨n.heap.size,k*3+2,N⟩=I t)/\(∀q,w5.frozen? ⟨n.heap.size,q,N⟩=false)/\Qd wh wf n (((w5.setCell ⟨n.heap.size,k*3,N⟩ (V C op)).setCell ⟨n.heap.size,k*3+1,N⟩ (V C a)).setCell ⟨n.heap.size,k*3+2,N⟩ e) (k+1):=by
 let ⟨i,f,g,l,m⟩:=j
 have o:(L f)=k:=by have:=congrArg List.length g;grind
 have b:=l.bE hb;refine⟨⟨_,_,_,b.c _ O1,b.c _ O1,b.c _ O1⟩,b.fz,?_⟩;refine⟨(((i.trans (hb.mono i.size)).setCell .refl _).setCell .refl _).setCell .refl _,f++[(⟨op,a,wh[k].alts⟩,e)],?_,?_,λx d=>?_⟩
 ·rw[AJ,Au h,AJ,g];simp[p]
 ·rw[AJ];exact b.cV (by simp[o]) h _ _ _
 ·refine((?_:MA _ w5 x.2 x.1.alts).set (Ar2 _) _|>.set (Ar2 _) _).set (Ar2 _) _;rcases Ag.1 d with d|d
  ·exact(m x d).bE hb
  grind
theorem Aow(b:List Bx)(ab:X)(e:List Int)(al:X)(f:Q)(ae:D9 f ab b)(G:NE f al e)(a3:(L b)<=65536)(ai:∀a5∈b,Mv (L e) a5):
 Av Aa 97 #[ab,al] f λi m=>Below f.heap.size f m/\∃U,i=F (W (I ⟨U,0,N⟩) (L b) (L b))/\MC f.heap.size m (W (I ⟨U,0,N⟩) (L b) (L b)) (b.map (Gu e)):=by
 obtain⟨be,aJ,rfl,aW,ag⟩:=ae.open;obtain⟨bb,aZ,rfl,s⟩:=id G;have ar:=O0 ag;have av:=O0 G;have aq:=O0 (λc (a2:c<L b)=>ai b[c] (Ao _));have aV:=Al8 (L b) a3;clear ae ag ai G s;go_enter Tryz.func97,Tryz.ntmps97;go_wp2;go_loopw [13] (λO wr=>∃c:Nat,c<=L b/\O=V C (c:Int)/\O9 (Qd b e f wr c)) (λO _=>L b-(intOf O).toNat)
 case atStart=>exact⟨0,Ak _,rfl,bA,[],rfl,FB.made f _ _ _ O2,λam t=>by cases t⟩
 case round=>
  obtain⟨c,a2,rfl,h⟩:=hrel;rename Q=>wr
  by_cases M:c<L b
  ·have aQ:(0:Int)<=(c:Int):=O1;have E:(c:Int)<(L b:Int):=O1;obtain⟨aH,bc,y,ax,x,rfl,z,B,az,H⟩:=ar.o _ h.o.low c M;obtain⟨D,ac,ad⟩:=aq.o c M;have aX:=h.o.low.size;have n:=O0 (λaa (hb:Below wr.heap.size wr aa)=>(Am8 b[c].alts _ aa (H.bE hb) ac ad));have o:=O0 (λw5 (hb:Below wr.heap.size wr w5) (ay:X) (q:MA (f.heap.size+1) w5 ay b[c].alts) op a he=>h.o.next M hb q (op:=op) (a:=a) he);obtain⟨aG,aF,i,-,-⟩:=H.open;have K:ax=b[c].alts.length:=by injection i
   have au:=O0 h.o.low;have a1:f.heap.size+1<=wr.heap.size:=by
    obtain⟨Y,-,af,-⟩:=h.o.l;have:=af.lt;omega
   clear H h i;obtain⟨⟨op,a,d⟩,t⟩:∃am,b[c]=am:=⟨_,rfl⟩;rw[t]at z B D n o K;dsimp only at z B D n o K;clear t ac ad;subst K;go_upto_region 4 with fail
   go_cut [7,6] (λa9 a6 g=>a9=J (I ⟨wr.heap.size,0,N⟩)/\a6=V C (c:Int)/\g=wr.alloc (.cells #[V C op,V C a,W y (L d) x] 138))
   case first=>
    go_wp2;go_meet
    simp
   case rest=>
   obtain⟨rfl,rfl,rfl⟩:=hcut;go_step
   go_step
   go_cut [] (λg=>O9 (C3 g wr.heap.size (V C op) (V C (Gu e ⟨op,a,d⟩).a) (W y (L d) x)/\Below wr.heap.size wr g))
   case first=>
    by_cases aj:op=1
    ·subst aj;obtain⟨aR,aS⟩:=D rfl;obtain⟨k,rfl⟩:∃k:Nat,a=(k:Int):=⟨a.toNat,O1⟩;have q:k<L e:=O1;obtain⟨bf,aI,i,s⟩:=av.o.bE au.o;cases i;obtain⟨nb,ba,rfl,a7⟩:=s k q;have aY:=λa8=>alloc_old wr a8 _ _ _ a7;have w:O9 ((Gu e ⟨1,(k:Int),d⟩).a=e[k]):=by
      show _=_;unfold Gu;simp[q]
     clear s;go_wp2;go_meet
     rw[w.o];exact⟨C3.new wr _ _ _ _,bA⟩
    ·have w:O9 ((Gu e ⟨op,a,d⟩).a=a):=by
      show _=_;unfold Gu;simp[aj]
     go_wp2;go_meet
     rw[w.o];exact⟨C3.new wr _ _ _ _,bA⟩
   case rest=>
    rename Q=>g
    obtain⟨aB,aC,aD,-⟩:=hcut.o.1;have v:=O0 hcut.o.2;have ao:O9 (Gu e ⟨op,a,d⟩=⟨op,(Gu e ⟨op,a,d⟩).a,d⟩):=by
     show _=_;unfold Gu;split<;>rfl
    generalize (Gu e ⟨op,a,d⟩).a=a' at*;have an:=O0 (n.o g.drew v.o.drew);have ak:=v.o.size;have aE:g.drew.cell? ⟨wr.heap.size,0,N⟩=_:=aB;have aw:=O0 (λw5 (j:Below g.drew.heap.size g.drew w5) (u:Nat) (r:MA g.drew.heap.size w5 (W (I ⟨u,0,N⟩) (L d) (L d)) d)=>o.o w5 (v.o.drew.trans (j.mono ak)) _ (r.low (Aw a1 ak)) op a' ao.o);clear hcut z B az o n;go_upto_region 7 with fail
    go_region_held_law (λm=>m.cell? ⟨wr.heap.size,0,N⟩=I (V C op)/\m.cell? ⟨wr.heap.size,1,N⟩=I (V C a')/\m.cell? ⟨wr.heap.size,2,N⟩=I (W y (L d) x)) (refine⟨?_,?_,?_⟩<;>(first|assumption|(rw[World.cell?_setCell_far _ _ _ _ O5,World.cell?_setCell_far _ _ _ _ O5,World.cell?_setCell_far _ _ _ _ O5];assumption)))
     (first
      |(go_at_call 145;refine an.o.mono ?_;rintro i w5 ⟨j,u,rfl,r⟩;have bg:=Bn j aE;have bh:=Bn j aC;have bi:=Bn j aD;obtain⟨⟨bj,bk,bl,aK,aL,aM⟩,p,ah⟩:=aw.o w5 j u r;have aN:=p (c*3);have aO:=p (c*3+1);have aP:=p (c*3+2);have ap:=O0 ah;clear j r p ah))
    all_goals(try go_wp2)
    all_goals go_roundw
    all_goals first
     |exact⟨c+1,O1,rfl,ap.o⟩
     |(simp[intOf];omega)
  ·obtain rfl:c=L b:=O1;have aT:¬(L b:Int)<(L b:Int):=O1;go_wp2;go_ret;obtain⟨a4,Y,E,af,a0⟩:=h.o;rw[AQ]at E;refine⟨a4,_,rfl,_,Y,Ac _,O2,E,by grind,a0⟩
end Go.Proofs.YtcacpmkdfnmhaaaGreatDoor
