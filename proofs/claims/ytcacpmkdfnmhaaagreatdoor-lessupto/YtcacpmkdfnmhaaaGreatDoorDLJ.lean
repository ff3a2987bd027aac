import Derived.Test.YtcacpmkdfnmhaaaGreatDoorDBJ
import Derived.Laws.Concat
set_option linter.unusedSimpArgs false
set_option maxRecDepth 100000
set_option maxHeartbeats 8000000
open And renaming intro->Aq4
open Go renaming Calls->Av,TypeId->AX,Value->X,World->Q
open Go.Act renaming eval->A4
open Go.Ending renaming returned->F
open Go.IntKind renaming i64->C
open Go.Proofs.Tryz renaming prog->Aa,underlying9->Bg
open Go.Value renaming agg->T,bool->A,iface->Z,int->V,pointer->J,slice->W,string->S,tuple->R
open Go.World renaming news_of_block->A1
open List renaming length->L
open Option renaming none->N,some->I
namespace Go.Proofs.YtcacpmkdfnmhaaaGreatDoor
open Go.RowKit Go.Sort Go.Lib
variable{n p H:World}{w s m j:Nat}{b i:Value}{wi:List Value}{wg:Array Oper}{xj:List Oper}{w6:Oper}{wn:Act}{w4:Exit->Act->World->Prop}{wa w0:List As}{K:List UInt8}{wq:Bx}{wl vq:Type}{nt:Bt}{v:ByteArray}{U:List (ByteArray×Int)}{d:List Bt}{f:Nat->Addr}
abbrev wB(b:Nat)(e:X)(g:List UInt8):As:=⟨b::vB e,λf=>f.cell? ⟨b,0,N⟩=I e/\f.frozen? ⟨b,0,N⟩=false/\f.ownsRow 0 5 1 e (L g) (cu g),λa _ d=>(AW.1 d).elim (λi=>i▸cells_of_cell a.1) λd=>.ca a.2.2 d,λa _ c=>⟨by rw[Ai (c _ (.head _))];exact a.1,by rw[AD (c _ (.head _))];exact a.2.1,FC a.2.2 λh hb=>c h (.tail _ hb)⟩⟩
def Le(e b:Nat)(g:Q)(a:List As)(c:List UInt8)(d:Ending)(h:Q):Prop:=d=F (R #[])/\∃f,Bo e g a h [wB b f c]
theorem World.ownsRow.gD(a:n.ownsRow w s m b j wi):n.ownsRow 0 s m b j wi:=⟨a.1,a.2.imp id λ⟨e,c,d,s,_,a⟩=>⟨e,c,d,s,Ak _,a⟩⟩
theorem Ajb(q:n.ownsRow 0 5 1 b w wi)(d:ByteArray){ty:AX}(x:0<w+d.size)(Y:w+d.size<=1000000):∃f h c,(Builtin.append_ #[95,9] ty #[b,S d]).run Aa n=.ok (W (I ⟨f,0,N⟩) (w+d.size) h) c/\Df n 5 1 b (W (I ⟨f,0,N⟩) (w+d.size) h) (w+d.size) (wi++strCells d) c:=by
 let ⟨D,u,v⟩:=AB.1 Tryz.b1
 simp[Aq2]at v;let ⟨y,z,B⟩:=v
 have t:∀{E:Option Nat} {c:Q},n.grownBy c E->(∀a,E=I a->a∈vB b)->AF (vB b) n c:=λg j=>⟨g.os,g.tape,g.output,g.size,λa p M=>g.block a p λe=>M (j a e.symm)⟩;have nb:∀{f h s:Nat} {c:Q},c.ownsRow 0 5 1 (W (I ⟨f,0,N⟩) s h) s (wi++strCells d)->(f∈vB b\/n.heap.size<=f)->∀a∈vB (W (I ⟨f,0,N⟩) s h),(a∈vB b\/n.heap.size<=a)/\a<c.heap.size:=λO H a p=>by
  obtain rfl:=Aq.1 p;exact⟨H,(YN O).1⟩
 rcases q.2 with⟨r,K⟩|⟨f,G,U,r,-⟩
 ·subst r;obtain⟨aa,c,j,i,o,-⟩:=run_append_own_string n n.heap.size 95 9 ty 5 D Tryz.underlying95 Bg u y z B (W N 0 0) w wi ⟨q.1,.inl ⟨rfl,K⟩⟩ d O8 O1 .refl;obtain⟨m,l,rfl,g,-⟩:=i.form x;have k:=World.ownsRow.gD i;exact⟨m,l,c,j,k,t o λa e=>(by cases e),nb k (.inr g)⟩
 ·subst r;let ⟨m,l,c,j,i,o,k⟩:=Avh n 0 95 9 ty 5 D Tryz.underlying95 Bg u y z B f w G wi q d x O1 (Ak _)
  exact⟨m,l,c,j,i,t o λa e=>BM.2 e,nb i (k.imp (λe=>by simp[DV,e]) λe=>Aso e.symm)⟩
theorem X1(j:n.ownsRow 0 5 1 b w wi){s:ByteArray}{y x:Operand}(l:wn.eval y=b)(m:wn.eval x=S s)(g:w6.guard=N)(i:w6.op=.call {callee:=.builtin .append,args:=#[y,x],argTypes:=#[95,9]})(k:0<w+s.size)(h:w+s.size<=1000000)(e:∀c a d,Df n 5 1 b (W (I ⟨c,0,N⟩) (w+s.size) a) (w+s.size) (wi++strCells s) d->wpList Aa wg w4 xj (wn.put w6.dst (W (I ⟨c,0,N⟩) (w+s.size) a)) d):wpList Aa wg w4 (w6::xj) wn n:=by
 refine wpList_plain g λq f=>?_;let ⟨c,a,d,o,p⟩:=Ajb (ty:=w6.type) j s k h
 unfold Oper.wp execOp;simp only[i,resolve,invoke,builtin,Sem.run_bind,Sem.run_pure,Result.andThen_ok,Ato,Aqv,Ars,l,m,o];exact f _ _ (e c a d p)
theorem Bo.em{a:Nat}{L1:List As}{bt:List UInt8}(f:Bo w n wa p (wB a b K::L1)){m:Nat}(v:(L bt)=m)(c:Df p 5 1 b i m (cu bt) H):H.cell? ⟨a,0,N⟩=I b/\H.frozen? ⟨a,0,N⟩=false/\Bo w n wa (H.setCell ⟨a,0,N⟩ i) (wB a i bt::L1):=by
 subst v;let ⟨r,t,y⟩:=f.mem (.head _)
 have u:=(f.s.rg a (HU (.head _) (.head _))).2;have k:=λh=>by
  have:=f.s.nd;simp[fp,AC,A8,Arf]at this;exact this.1.1 h
 have e:=c.af.block a u k;have l:=λh=>(c.nb a h).1.elim k O1;have j:=(Ai e).trans r;have q:=(AD e).trans t;refine⟨j,q,Bo.cI (L1:=[]) f ((c.af.mono λd hb=>.tail _ hb).set (.inl (.head _)) _) ⟨Am _ _ _ j,by simp_all,FC c.own λd hb=>Az _ _ _ _ (show d≠a from λe=>l (e▸hb))⟩ (Arf.2 ⟨l,Gf _⟩) λx g=>?_⟩;rcases AW.1 g with rfl|g
 ·exact⟨.inl (.head _),by have:=c.af.size;simp;omega⟩
 ·let ⟨o,d⟩:=c.nb x g
  exact⟨o.imp (.tail _) id,by simpa using d⟩
theorem Ae3(a:ByteArray):strCells a=cu a.data.toList:=rfl
theorem ZA{a:Nat}{s:ByteArray}(d:Sp w n [wB a b K])(c:0<L K+s.size)(u:s.size<=16)(t:(L K)<=100000):Av Aa 82 #[J (I ⟨a,0,N⟩),S s] n (Le w a n [wB a b K] (K++s.data.toList)):=by
 have i:=O0 d.b2;obtain⟨p,q,e⟩:=d.mem (A:=wB a b K) (.head _);obtain⟨v,j,rfl⟩:=BW e;have h:=O0 e;have r:(L K:Int)<=100000:=O1;clear d e;go_enter Tryz.func82,Tryz.ntmps82;go_wp2_with (first
  |(at_builtin;refine X1 h.o (s:=s) (y:=.tmp 14) (x:=.tmp 15) rfl rfl rfl rfl c O1 ?_;intro m j z c;obtain⟨k,l,f⟩:=i.o.em (bt:=K++s.data.toList) (by simp;rfl) (by rw[Se,<-Ae3];exact c);have g:=O0 f;clear c f))
 refine bF ?_ O2 rfl rfl;exact⟨rfl,_,g.o⟩
theorem Ye{g n:Nat}{k:Q}(h:Sp w k [wB g b K])(aa:n<18446744073709551616)(aj:(L K)<=100000):Av Aa 133 #[J (I ⟨g,0,N⟩),V .u64 n] k (Le w g k [wB g b K] (K++vn n)):=by
 have v:=O0 h.b2;obtain⟨O,U,B⟩:=h.mem (A:=wB g b K) (.head _);obtain⟨ab,c,rfl⟩:=BW B;have ah:¬(100000:Int)<(L K:Int):=O1;clear h B;go_enter Tryz.func133,Tryz.ntmps133;go_wp2;go_loopw [1] (λr wr=>∃(a m:Nat) (E:X) (d:List UInt8),r=V .u64 (m:Int)/\m<18446744073709551616/\a<=9/\O9 (m=n / 128 ^ a/\L d=L K+a/\d++vu (9-a) m=K++vn n/\Bo w k [wB g (W ab (L K) c) K] wr [wB g E d])) (λr _=>(intOf r).toNat)
 case atStart=>exact⟨0,n,_,K,rfl,aa,O1,O2,rfl,rfl,v.o⟩
 case round=>
  obtain⟨a,m,E,d,rfl,ai,af,f⟩:=hrel;rename Q=>wr
  obtain⟨y,z,e⟩:=f.o.2.2.2.mem (.head _);have u:=O0 e;obtain⟨ak,ad,rfl⟩:=BW e;have t:=O0 f.o.2.1;have ae:(L d)<=100100:=by rw[t.o];omega
  clear e v O U;by_cases D:m<128
  ·have Y:¬(128:Int)<=(m:Int):=O1;have q:=O0 (show d++[UInt8.ofNat m]=K++vn n by rw[<-f.o.2.2.1,OY D]);have l:=O0 (show [Value.int .u8 (m:Int)]=cu [UInt8.ofNat m] from WL (x:=(m:Int)) O1 O1);go_wp2_with (first
    |(at_builtin;refine HT UN (u.o.alloc _) (AL _ _) (m:=1) (c:=1) (s:=.tmp 31) (x:=.tmp 34) (by rfl) (by rfl) rfl rfl rfl (by intro ac j;simp at j;subst j;rfl) O1 O1 ?_;intro M H w5 i;obtain⟨y,z,e⟩:=Bo.em (m:=L d+1) (bt:=d++[UInt8.ofNat m]) (f.o.2.2.2.bE bA) O2 (by rw[Se,<-l.o];exact i);have p:=O0 e;clear i e))
   refine bF ?_ O2 rfl rfl;exact⟨rfl,_,q.o▸p.o⟩
  ·have Y:(128:Int)<=(m:Int):=O1;have ag:a<=8:=by
    rcases Asb a 9 with h|h
    ·omega
    ·obtain rfl:a=9:=O1;have:=f.o.1;omega
   have q:=O0 (show(d++[UInt8.ofNat (m % 128+128)])++vu (9-(a+1)) (m / 128)=K++vn n by rw[<-f.o.2.2.1,show 9-a=(9-(a+1))+1 by omega,UJ D];simp);have G:=O0 (show m / 128=n / 128 ^ (a+1) by rw[f.o.1,At9,At5]);have l:=O0 (show [Value.int .u8 ((m:Int) % 128+128)]=cu [UInt8.ofNat (m % 128+128)] from(WL (x:=(m:Int) % 128+128) O1 O1).trans (by rw[show((m:Int) % 128+128).toNat=m % 128+128 by omega]));go_wp2_with (first
    |(at_builtin;refine HT UN (u.o.alloc _) (AL _ _) (m:=1) (c:=1) (s:=.tmp 16) (x:=.tmp 21) (by simp[A4];done) (by simp[A4];done) rfl rfl rfl (by intro ac j;simp at j;subst j;rfl) O1 O1 ?_;intro M H w5 i;obtain⟨y,z,e⟩:=Bo.em (m:=L d+1) (bt:=d++[UInt8.ofNat (m % 128+128)]) (f.o.2.2.2.bE bA) O2 (by rw[Se,<-l.o];exact i);have p:=O0 e;clear i e))
   exact⟨⟨a+1,m / 128,_,_,O2,O1,O1,G.o,by have:=t.o;simp;omega,q.o,p.o⟩,by simp[intOf];omega⟩
theorem HS{n:Nat}{a:Q}(d:Sp w a [wB s b K])(h:n<9223372036854775808)(f:(L K)<=100000):Av Aa 84 #[J (I ⟨s,0,N⟩),V C n] a (Le w s a [wB s b K] (K++vn n)):=by
 go_enter Tryz.func84,Tryz.ntmps84;go_wp2_with (first|(apply (O0 (Ye (n:=n) d O1 f)).o.mono;rintro g i ⟨rfl,e⟩;have c:=O0 e))
 refine bF ?_ O2 rfl rfl;exact⟨rfl,c.o⟩
theorem Ti{a:Nat}{d:Q}{s:ByteArray}(i:Sp w d [wB a b K])(j:s.size<=16)(l:(L K)<100000):Av Aa 83 #[J (I ⟨a,0,N⟩),S s] d (Le w a d [wB a b K] (K++(vn s.size++s.data.toList))):=by
 go_enter Tryz.func83,Tryz.ntmps83;go_wp2_with (first
  |(apply (O0 (HS (n:=s.size) i O1 O1)).o.mono;rintro h p ⟨rfl,m,c⟩;have e:=O0 c;have g:=O0 (ZA c.s (by simp[OY (show s.size<128 by omega)];omega) j (by simp[OY (show s.size<128 by omega)];omega)))
  |(apply g.o.mono;rintro h q ⟨rfl,k,c⟩;have f:=O0 (e.o.trans c)))
 refine bF ?_ O2 rfl rfl;exact⟨rfl,k,by have:=f.o;grind⟩
theorem An2{a:Int}(c:Q)(f:-9223372036854775808<=a)(g:a<=9223372036854775807):Av Aa 208 #[V C a] c λb d=>b=F (V .u64 (fo a))/\d=c:=by
 by_cases e:0<=a
 ·have b:(fo a)=2*a:=by unfold fo;grind
  go_wp2;go_ret;simp_all
 ·have b:(fo a)=-2*a-1:=by unfold fo;grind
  go_wp2;go_ret;exact⟨by show Ending.returned (V .u64 (2*-(a+1)+1))=_;grind,rfl⟩
abbrev rB(c:Nat)(f:List X):As:=⟨[c],λg=>∃b fr,g.heap[c]?=I (.cells f.toArray b fr),λ⟨_,_,a⟩ _ e=>Aq.1 e▸⟨_,a,rfl⟩,λ⟨b,fr,a⟩ _ d=>⟨b,fr,(d _ (.head _)).trans a⟩⟩
theorem DO{i:Nat}(a:(rB w wi).h n)(c:wi[i]?=I b):n.cell? ⟨w,i,N⟩=I b:=by
 let ⟨d,fr,a⟩:=a
 have:=A1 a i b O1;rwa[show(⟨w,0,N⟩:Addr).add i=⟨w,i,N⟩ by simp[Addr.add];omega]at this
theorem Bo.rb(c:Bo w n wa p w0)(b:List X)(a:AX):Bo w n wa (p.alloc (.cells b.toArray a)) (rB p.heap.size b::w0):=c.box _ rfl ⟨a,_,AL _ _⟩
theorem Akg{l:Q}{a0:X}(a5:Cu l)(a4:Ez l a0 wq.alts)(al:Below l.heap.size l p)(z:Sp l.heap.size p [wB w b K])(aS:Fi wq)(aC:(K++sU wq).length<=100000):Av Aa 134 #[J (I ⟨w,0,N⟩),T #[V C wq.op,V C wq.a,a0]] p (Le l.heap.size w p [wB w b K] (K++sU wq)):=by
 obtain⟨ae,ak,rfl,bp,a8⟩:=a4.open;obtain⟨⟨aD,aV⟩,y,ah,O,U,ai⟩:=aS;obtain⟨bq,a,d⟩:=wq;obtain⟨c,rfl⟩:=AZ aD;simp only[A9]at*;have D:c<21:=O1;obtain⟨bf,bg,bh,bi,-,-,bj,bk⟩:=Lb c D;have ay:=O0 z;have aO:O9 (∀u,Below l.heap.size p u->u.cell? ⟨21,c*7+0,N⟩=I (V C (BC c 0))):=λu hb=>Bn (al.trans hb) (a5.row c 0 D O1);have aK:O9 (∀u,Below l.heap.size p u->Mn u ae d):=λu hb=>a8 u (al.trans hb);have Y:=O0 (z.b2.rb [V C c,V C a,W ae (L d) ak] 138);have bb:=DO (i:=0) (Y.o.mem (.head _)) rfl;have ad:(L K)<=100000/\(K++vn c).length<=100000/\(K++(vn c++sV ⟨c,a,d⟩)).length<=100000:=by
  simp only[sU,A9,Ay]at aC ⊢;omega
 have r:=O0 (HS (n:=c) (Sp.right (M:=[_]) Y.o.s) O1 ad.1);have aa:O9 (∀m k,Bo l.heap.size (p.alloc (.cells #[V C c,V C a,W ae (L d) ak] 138)) [wB w b K] m [wB w k (K++vn c)]->Bo l.heap.size p [wB w b K] m [rB p.heap.size [V C c,V C a,W ae (L d) ak],wB w k (K++vn c)]/\m.cell? ⟨21,c*7+0,N⟩=I (V C (BC c 0))):=λm k f=>by
  have a3:=Y.o.trans (f.frame (M:=[_]) Y.o.s);exact⟨a3,aO.o _ (a3.lw ay.o)⟩
 have an:=ad.2.1;have a7:=ad.2.2;have a2:sU ⟨c,a,d⟩=vn c++sV ⟨c,a,d⟩:=rfl;rw[a2];generalize hsv:sV ⟨c,a,d⟩=sv at*;have aw:=O0 a7;clear z a5 aD aV a4 a8 ad aC al a2 a7;have j:BC c 0=0\/BC c 0=1\/BC c 0=2\/BC c 0=3:=O1;rcases j with j|j|j|j
 ·have g:sv=[]:=by rw[<-hsv];simp[sV,j]
  subst g;have v:=O0 j;clear O U ai ah j hsv;go_enter Tryz.func134,Tryz.ntmps134;go_wp2_with (first
   |(go_at_call 84;refine r.o.mono ?_;rintro g m ⟨rfl,k,e⟩;obtain⟨f,q⟩:=aa.o m k e;have aj:=DO (i:=0) (f.mem (.head _)) rfl;have t:=O0 f;have x:=O0 q;clear e q r f)
   |(go_at_call 207;refine(JP c 0 _ D (by have:=x.o;rw[v.o]at this;exact this)).mono ?_;rintro g ag ⟨rfl,rfl⟩))
  refine bF ?_ (by first|exact .inr rfl|exact .inl rfl) rfl rfl;exact⟨rfl,k,by rw[A2];exact t.o.tail⟩
 ·have g:sv=vn (fo a):=by rw[<-hsv];simp[sV,j]
  subst g;have v:=O0 j;have aL:=O0 λp=>An2 (a:=a) p y.1 y.2;have aQ:=(Rt y.1 y.2).2;clear O U ai ah j hsv y;go_enter Tryz.func134,Tryz.ntmps134;go_wp2_with (first
   |(go_at_call 84;refine r.o.mono ?_;rintro g m ⟨rfl,k,e⟩;obtain⟨f,q⟩:=aa.o m k e;have aj:=DO (i:=0) (f.mem (.head _)) rfl;have a1:=DO (i:=1) (f.mem (.head _)) rfl;have G:=O0 (Ye (n:=fo a) (Sp.right (M:=[_]) f.s) aQ an);have t:=O0 f;have x:=O0 q;clear e q r f)
   |(go_at_call 207;refine(JP c 1 _ D (by have:=x.o;rw[v.o]at this;exact this)).mono ?_;rintro g ag ⟨rfl,rfl⟩)
   |(go_at_call 208;refine(aL.o _).mono ?_;rintro g ag ⟨rfl,rfl⟩)
   |(go_at_call 133;refine G.o.mono ?_;rintro g aG ⟨rfl,H,e⟩;have E:=O0 (t.o.tail.trans e);clear e))
  refine bF ?_ (by first|exact .inr rfl|exact .inl rfl) rfl rfl;exact⟨rfl,H,by rw[<-AH];exact E.o⟩
 ·have g:sv=vn a.toNat:=by rw[<-hsv];simp[sV,j]
  subst g;obtain⟨aX,aY⟩:=O j;obtain⟨n,rfl⟩:=AZ (show 0<=a by omega);have v:=O0 j;have aR:n<9223372036854775808:=O1;rw[A9]at*;clear O U ai ah j hsv y aX aY;go_enter Tryz.func134,Tryz.ntmps134;go_wp2_with (first
   |(go_at_call 84;refine r.o.mono ?_;rintro g m ⟨rfl,k,e⟩;obtain⟨f,q⟩:=aa.o m k e;have aj:=DO (i:=0) (f.mem (.head _)) rfl;have a1:=DO (i:=1) (f.mem (.head _)) rfl;have G:=O0 (HS (n:=n) (Sp.right (M:=[_]) f.s) aR an);have t:=O0 f;have x:=O0 q;clear e q r f)
   |(go_at_call 207;refine(JP c 2 _ D (by have:=x.o;rw[v.o]at this;exact this)).mono ?_;rintro g ag ⟨rfl,rfl⟩)
   |(go_at_call 84;refine G.o.mono ?_;rintro g aG ⟨rfl,H,e⟩;have E:=O0 (t.o.tail.trans e);clear e))
  refine bF ?_ (by first|exact .inr rfl|exact .inl rfl) rfl rfl;exact⟨rfl,H,by rw[<-AH];exact E.o⟩
 ·have g:sv=vn (L d)++d.flatMap aU:=by rw[<-hsv];simp[sV,j]
  subst g;obtain⟨⟨bx,bz⟩,-,a6⟩:=U j;have v:=O0 j;have aJ:=O0 a6;have bl:(K++vn c++vn (L d)).length<=100000:=by have:=aw.o;simp only[Ay]at this ⊢;omega
  clear O U ai ah j hsv y a6;go_enter Tryz.func134,Tryz.ntmps134;go_wp2_with (first
   |(go_at_call 84;refine r.o.mono ?_;rintro g m ⟨rfl,k,e⟩;obtain⟨f,q⟩:=aa.o m k e;have aj:=DO (i:=0) (f.mem (.head _)) rfl;have a1:=DO (i:=2) (f.mem (.head _)) rfl;have G:=O0 (HS (n:=L d) (Sp.right (M:=[_]) f.s) O1 an);have t:=O0 f;have x:=O0 q;clear e q r f)
   |(go_at_call 207;refine(JP c 3 _ D (by have:=x.o;rw[v.o]at this;exact this)).mono ?_;rintro g ag ⟨rfl,rfl⟩)
   |(go_at_call 84;refine G.o.mono ?_;rintro g aG ⟨rfl,H,e⟩;have am:=t.o.trans (e.frame (M:=[_]) t.o.s);have b3:=DO (i:=2) (am.mem (.head _)) rfl;have E:=O0 am.tail;clear e am))
  go_loopw [36] (λaq wr=>∃(h:Nat) (av:X),aq=V C h/\h<=L d/\O9 (Bo l.heap.size p [wB w b K] wr [wB w av (K++vn c++vn (L d)++(d.take h).flatMap aU)])) (λaq _=>L d-(intOf aq).toNat)
  case atStart=>exact⟨0,H,rfl,Ak _,by show Bo _ _ _ _ _;simpa using E.o⟩
  case round=>
   obtain⟨h,av,rfl,bm,ab⟩:=hrel;rename Q=>wr
   by_cases ao:h<L d
   ·obtain⟨aZ,ba,rfl,bt,bu⟩:=aK.o _ (ab.o.lw ay.o) h ao;have bn:(0:Int)<=(h:Int):=O1;have bo:(h:Int)<(L d:Int):=O1;obtain⟨aE,br,aF,bs⟩:=aJ.o _ (Ao ao);have az:O9 ((d.take (h+1)).flatMap aU=(d.take h).flatMap aU++aU d[h]):=by show _=_;rw[Au ao,AE];simp
    have ap:(K++vn c++vn (L d)++(d.take h).flatMap aU++aU d[h]).length<=100000:=by
     have aP:=aw.o;have B:=congrArg (λaT=>(aT.flatMap aU).length) (Asw (h+1) d);simp only[AE,az.o,Ay]at aP B ⊢;omega
    generalize d[h]=wq at*;obtain⟨af,ar⟩:=wq;obtain⟨af,rfl⟩:=AZ aE;obtain⟨ar,rfl⟩:=AZ aF;simp only at*;have ac:=O0 (ab.o.rb [V C af,V C ar] 140);have bc:=DO (i:=0) (ac.o.mem (.head _)) rfl;have ax:=O0 (HS (n:=af) (Sp.right (M:=[_]) ac.o.s) O1 (by simp only[aU,Ay]at ap ⊢;omega));have aB:(K++vn c++vn (L d)++(d.take h).flatMap aU++vn af).length<=100000:=by simp only[aU,A9,Ay]at ap ⊢;omega
    have aM:=O0 aB;clear aE aF ap aB ab;go_wp2_with (first
     |(go_at_call 84;refine ax.o.mono ?_;rintro g bw ⟨rfl,bv,e⟩;have B:=ac.o.trans (e.frame (M:=[_]) ac.o.s);have be:=DO (i:=1) (B.mem (.head _)) rfl;have aH:=O0 B.tail;have aN:=O0 (HS (n:=ar) B.tail.s O1 aM.o);clear e B ax)
     |(go_at_call 84;refine aN.o.mono ?_;rintro g aW ⟨rfl,au,e⟩;have aI:=O0 (aH.o.trans e);clear e))
    go_roundw
    case rel=>
     have a9:Bo l.heap.size p [wB w b K] aW [wB w au (K++vn c++vn (L d)++(d.take (h+1)).flatMap aU)]:=by
      rw[az.o];simpa[AH,aU]using aI.o
     first
     |exact⟨h+1,au,by go_num,O1,a9⟩
     |((repeat apply Exists.intro);exact⟨⟨h+1,au,by go_num,O1,a9⟩,rfl⟩)
    case measure=>simp[intOf];omega
   ·obtain rfl:h=L d:=O1;go_wp2;refine bF ?_ (by first|exact .inr rfl|exact .inl rfl) rfl rfl;have z:=ab.o;rw[AQ]at z;exact⟨rfl,av,by simpa[AH]using z⟩
theorem RH(c:wl->List vq){b:List wl}{a:Nat}(d:a<L b):(b.take (a+1)).flatMap c=(b.take a).flatMap c++c b[a]:=by rw[Au d,AE];simp
theorem Sl(b:wl->List vq)(a:List wl)(c:Nat):((a.take c).flatMap b).length<=(a.flatMap b).length:=by
 have d:=congrArg (λa=>(a.flatMap b).length) (Asw c a);grind
theorem Adv{h:Q}{aj:X}(an:Cu h)(am:D9 h aj nt.code)(ak:Below h.heap.size h p)(j:Sp h.heap.size p [wB w b K])(aD:Gi nt)(k:(K++gU nt).length<100000):Av Aa 85 #[J (I ⟨w,0,N⟩),T #[S nt.name,V C nt.arity,A nt.exp,aj]] p (Le h.heap.size w p [wB w b K] (K++gU nt)):=by
 obtain⟨aE,a6,rfl,bg,ao⟩:=am.open;obtain⟨au,⟨ai,aL⟩,ba,aq⟩:=aD;obtain⟨d,aK,g,a⟩:=nt;obtain⟨n,rfl⟩:=AZ ai;simp only at*;have f:K++gU ⟨d,n,g,a⟩=K++(vn d.size++d.data.toList)++vn n++vn (if g then 1 else 0)++vn (L a)++a.flatMap sU:=by simp[gU,gV]
 rw[f]at k ⊢;have aC:=(J4 au).2;have ae:=O0 j;have O:=O0 ao;have U:=O0 ak;have az:=O0 aq;have a1:=O0 an;have m:=O0 (j.b2.rb [S d,V C n,A g,W aE (L a) a6] 77);have aW:=DO (i:=0) (m.o.mem (.head _)) rfl;have a7:(L K)<100000:=by simp only[Ay]at k;omega
 have a8:(K++(vn d.size++d.data.toList)).length<=100000:=by simp only[Ay]at k ⊢;omega
 have a9:(K++(vn d.size++d.data.toList)++vn n).length<=100000:=by simp only[Ay]at k ⊢;omega
 have Y:=O0 k;have aa:=O0 (Ti (s:=d) (Sp.right (M:=[_]) m.o.s) aC a7);clear j am ao ak aq an k f au ai;go_enter Tryz.func85,Tryz.ntmps85;go_upto_if 16 with(first
  |(go_at_call 83;refine aa.o.mono ?_;rintro f bl ⟨rfl,bi,e⟩;have q:=m.o.trans (e.frame (M:=[_]) m.o.s);have aX:=DO (i:=1) (q.mem (.head _)) rfl;have af:=O0 q;have ab:=O0 (HS (n:=n) (Sp.right (M:=[_]) q.s) O1 a8);clear e q aa)
  |(go_at_call 84;refine ab.o.mono ?_;rintro f aw ⟨rfl,bj,e⟩;have r:=af.o.trans (e.frame (M:=[_]) af.o.s);have aY:=DO (i:=2) (r.mem (.head _)) rfl;have b3:=DO (i:=3) (r.mem (.head _)) rfl;have x:=O0 r;clear e r ab))
 go_cut [4] (λH aG=>H=V C ((if g then 1 else 0:Nat):Int)/\aG=aw)
 case first=>
  cases g;all_goals go_wp2_with fail
  all_goals go_meet
  all_goals exact⟨rfl,rfl⟩
 case rest=>
  obtain⟨rfl,f⟩:=hcut;subst f;rename Q=>aw
  have bb:(if g then 1 else 0:Nat)<=1:=by cases g<;>simp
  generalize (if g then 1 else 0:Nat)=eb at*;have aB:(K++(vn d.size++d.data.toList)++vn n++vn eb).length<=100000:=by have:=Y.o;simp only[Ay]at this ⊢;omega
  have ac:=O0 (HS (n:=eb) (Sp.right (M:=[_]) x.o.s) O1 a9);go_wp2_with (first
   |(go_at_call 84;refine ac.o.mono ?_;rintro f bm ⟨rfl,bk,e⟩;have t:=x.o.trans (e.frame (M:=[_]) x.o.s);have b4:=DO (i:=3) (t.mem (.head _)) rfl;have ag:=O0 t;have ad:=O0 (HS (n:=L a) (Sp.right (M:=[_]) t.s) O1 aB);clear e t ac)
   |(go_at_call 84;refine ad.o.mono ?_;rintro f w5 ⟨rfl,aF,e⟩;have l:=ag.o.trans (e.frame (M:=[_]) ag.o.s);have aZ:=DO (i:=3) (l.mem (.head _)) rfl;have a0:=O0 l.tail;clear e l ad))
  go_loopw [28] (λE wr=>∃(c:Nat) (G:X),E=V C c/\c<=L a/\O9 (Bo h.heap.size p [wB w b K] wr [wB w G (K++(vn d.size++d.data.toList)++vn n++vn eb++vn (L a)++(a.take c).flatMap sU)])) (λE _=>L a-(intOf E).toNat)
  case atStart=>exact⟨0,aF,rfl,Ak _,by show Bo _ _ _ _ _;simpa using a0.o⟩
  case round=>
   obtain⟨c,G,rfl,bc,v⟩:=hrel;rename Q=>wr
   by_cases u:c<L a
   ·have D:=U.o.trans (v.o.lw ae.o);obtain⟨aN,aS,a5,a4,a3,rfl,bo,bp,aJ,-⟩:=O.o _ D c u;obtain⟨aO,aT,aV,aR,aP,f,aH,aI,ax,B⟩:=O.o _ (Ae _ _) c u;cases f;have z:=(Bn D ax).symm.trans aJ;simp only[Option.some.injEq]at z;rw[z]at B;have be:(0:Int)<=(c:Int):=O1;have bf:(c:Int)<(L a:Int):=O1;have y:=O0 ((v.o.rb [.int C a[c].op,.int C a[c].a,W a5 a4 a3] 138).tail);have ah:=O0 (RH sU u);have ar:(K++(vn d.size++d.data.toList)++vn n++vn eb++vn (L a)++(a.take c).flatMap sU++sU a[c]).length<=100000:=by
     have l:=Y.o;have al:=Sl sU a (c+1);rw[ah.o]at al;simp only[Ay]at l al ⊢;omega
    have a2:=O0 (Akg a1.o B (U.o.trans (y.o.lw ae.o)) y.o.s (az.o _ (Ao u)) ar);clear B z aH aI ax D ar;generalize a[c]=H at*;obtain⟨bh,aM,aQ⟩:=H;go_wp2_with (first
     |(go_at_call 134;refine a2.o.mono ?_;rintro f bn ⟨rfl,av,e⟩;have ay:=O0 (y.o.trans e);clear e))
    go_roundw
    case rel=>
     have ap:=ah.o▸(AH _ _ _)▸ay.o;first
     |exact⟨c+1,av,by go_num,O1,ap⟩
     |((repeat apply Exists.intro);exact⟨⟨c+1,av,by go_num,O1,ap⟩,rfl⟩)
    case measure=>simp[intOf];omega
   ·obtain rfl:c=L a:=O1;go_wp2;refine bF ?_ (by first|exact .inr rfl|exact .inl rfl) rfl rfl;have j:=v.o;rw[AQ]at j;exact⟨rfl,G,j⟩
theorem Aj1{W:Nat}{f w:Q}(a7:Cu f)(aT:EK f b ⟨v,BK U,d⟩)(a2:Below f.heap.size f w)(m:Sp f.heap.size w [wB W (.slice N 0 0) []])(ab:Oi v U d)(aa:(oU v U d).length<100000):Av Aa 40 #[J (I ⟨W,0,N⟩),b] w (Le f.heap.size W w [wB W (.slice N 0 0) []] (oU v U d)):=by
 obtain⟨bq,bm,rfl,bp,a6,a5⟩:=aT;obtain⟨an,am,rfl,bn,a9⟩:=a6.open;obtain⟨ao,ai,rfl,bo,a8⟩:=a5.open;have aB:(BK U).length=L U:=by simp[BK]
 have aJ:O9 (∀G,Below f.heap.size f G->∀a (m:a<L U),∃q t,an=I ⟨q,t,N⟩/\G.cell? ⟨q,t+a*2,N⟩=I (.string U[a].1)/\G.cell? ⟨q,t+a*2+1,N⟩=I (.int C U[a].2)):=λG hb a aC=>by
  obtain⟨q,t,e,a3,o,-⟩:=a9 G hb a (by show a<(BK U).length;omega);simp only[BK,AN]at a3 o;exact⟨q,t,e,a3,o⟩
 simp only[aB]at*;have e:oU v U d=[84,65,82,78]++(vn v.size++v.data.toList)++vn (L U)++U.flatMap iU++vn (L d)++d.flatMap gU:=by simp[oU]
 rw[e]at aa ⊢;have aY:=(J4 ab.n).2;have ag:=O0 m;have aI:=O0 a8;have ad:=O0 a2;have ah:=O0 ab;have aN:=O0 a7;obtain⟨b5,b6⟩:=ab.z;have ac:=O0 (m.b2.rb [S v,.slice an (L U) am,.slice ao (L d) ai] 41);have aX:([84,65,82,78]++(vn v.size++v.data.toList):List UInt8).length<=100000:=by simp only[Ay]at aa ⊢;omega
 have ae:=O0 aa;have af:=O0 (ZA (s:=⟨#[84,65,82,78]⟩) (Sp.right (M:=[_]) ac.o.s) O4 O4 O2);have ax:O9 (([]:List UInt8)++(⟨#[84,65,82,78]⟩:ByteArray).data.toList=[84,65,82,78]):=rfl;rw[ax.o]at af;clear m a6 a5 a8 a9 a2 ab a7 aa e aB ax;go_enter Tryz.func40,Tryz.ntmps40;go_wp2_with (first
  |(go_at_call 82;refine af.o.mono ?_;rintro e bu ⟨rfl,bs,c⟩;have o:=ac.o.trans (c.frame (M:=[_]) ac.o.s);have be:=DO (i:=0) (o.mem (.head _)) rfl;have a0:=O0 o;have K:=O0 (Ti (s:=v) (Sp.right (M:=[_]) o.s) aY O2);clear c o af)
  |(go_at_call 83;refine K.o.mono ?_;rintro e bv ⟨rfl,bt,c⟩;have Y:=a0.o.trans (c.frame (M:=[_]) a0.o.s);have bf:=DO (i:=1) (Y.mem (.head _)) rfl;have a1:=O0 Y;have az:=O0 (HS (n:=L U) (Sp.right (M:=[_]) Y.s) O1 aX);clear c Y K)
  |(go_at_call 84;refine az.o.mono ?_;rintro e bw ⟨rfl,aZ,c⟩;have aj:=a1.o.trans (c.frame (M:=[_]) a1.o.s);have b4:=DO (i:=1) (aj.mem (.head _)) rfl;have aM:=O0 aj;clear c aj az))
 go_loopw [22] (λp wr=>∃(a:Nat) (u:X),p=V C a/\a<=L U/\O9 (Bo f.heap.size w [wB W (.slice N 0 0) []] wr [rB w.heap.size [S v,.slice an (L U) am,.slice ao (L d) ai],wB W u ([84,65,82,78]++(vn v.size++v.data.toList)++vn (L U)++(U.take a).flatMap iU)])) (λp _=>L U-(intOf p).toNat)
 case atStart=>exact⟨0,aZ,rfl,Ak _,by show Bo _ _ _ _ _;simpa using aM.o⟩
 case round=>
  obtain⟨a,u,rfl,aC,h⟩:=hrel;rename Q=>wr
  have j:=ad.o.trans (h.o.lw ag.o);by_cases l:a<L U
  ·obtain⟨aP,aQ,rfl,au,av⟩:=aJ.o _ j a l;have aV:(0:Int)<=(a:Int):=O1;have aW:(a:Int)<(L U:Int):=O1;have y:=O0 (RH iU l);obtain⟨aD,br⟩:=ah.o.a _ (Ao l);have ap:=(ah.o.i a (by simpa using l)).1;rw[AN]at ap;have r:([84,65,82,78]++(vn v.size++v.data.toList)++vn (L U)++(U.take a).flatMap iU++iU U[a]).length<100000:=by
    have ak:=ae.o;have g:=Sl iU U (a+1);rw[y.o]at g;simp only[Ay]at ak g ⊢;omega
   generalize U[a]=x at*;obtain⟨E,O⟩:=x;obtain⟨O,rfl⟩:=AZ aD;simp only at*;have k:=O0 (h.o.rb [S E,V C O] 74);have bg:=DO (i:=0) (k.o.mem (.head _)) rfl;have ay:=O0 (Ti (s:=E) (Sp.right (M:=[_,_]) k.o.s) (J4 ap).2 (by simp only[iU,Ay]at r ⊢;omega));have aK:=O0 (show([84,65,82,78]++(vn v.size++v.data.toList)++vn (L U)++(U.take a).flatMap iU++(vn E.size++E.data.toList)).length<=100000 by simp only[iU,Ay]at r ⊢;omega);clear aD ap r h j;go_wp2_with (first
    |(go_at_call 83;refine ay.o.mono ?_;rintro e bb ⟨rfl,aq,c⟩;have g:=k.o.trans (c.frame (M:=[_,_]) k.o.s);have bh:=DO (i:=1) (g.mem (.head _)) rfl;have H:=O0 g.tail;have K:=O0 (HS (n:=O) g.tail.tail.s O1 aK.o);clear c g ay)
    |(go_at_call 84;refine K.o.mono ?_;rintro e bc ⟨rfl,ar,c⟩;have aG:=O0 (H.o.trans (c.frame (M:=[_]) H.o.s));clear c))
   go_roundw
   case rel=>
    have D:Bo f.heap.size w [wB W (.slice N 0 0) []] bc [rB w.heap.size [S v,.slice (I ⟨aP,aQ,N⟩) (L U) am,.slice ao (L d) ai],wB W ar ([84,65,82,78]++(vn v.size++v.data.toList)++vn (L U)++(U.take (a+1)).flatMap iU)]:=by
     rw[y.o];simpa[AH,iU]using aG.o
    first
    |exact⟨a+1,ar,by go_num,O1,D⟩
    |((repeat apply Exists.intro);exact⟨⟨a+1,ar,by go_num,O1,D⟩,rfl⟩)
   case measure=>simp[intOf];omega
  ·obtain rfl:a=L U:=O1;have B:=h.o;rw[AQ]at B;have aw:=O0 B;have bj:=DO (i:=2) (B.mem (.head _)) rfl;have aL:=O0 (HS (n:=L d) (Sp.right (M:=[_]) B.s) O1 (by have:=ae.o;simp only[Ay]at this ⊢;omega));clear B j h;go_wp2_with (first
    |(go_at_call 84;refine aL.o.mono ?_;rintro e bx ⟨rfl,ba,c⟩;have al:=aw.o.trans (c.frame (M:=[_]) aw.o.s);have bk:=DO (i:=2) (al.mem (.head _)) rfl;have aH:=O0 al.tail;clear c al))
   go_loopw [43] (λp wr=>∃(a:Nat) (u:X),p=V C a/\a<=L d/\O9 (Bo f.heap.size w [wB W (.slice N 0 0) []] wr [wB W u ([84,65,82,78]++(vn v.size++v.data.toList)++vn (L U)++U.flatMap iU++vn (L d)++(d.take a).flatMap gU)])) (λp _=>L d-(intOf p).toNat)
   case atStart=>exact⟨0,ba,rfl,Ak _,by show Bo _ _ _ _ _;simpa using aH.o⟩
   case round=>
    obtain⟨a,u,rfl,aC,h⟩:=hrel;rename Q=>wr
    by_cases l:a<L d
    ·have j:=ad.o.trans (h.o.lw ag.o);obtain⟨q,t,aS,aR,cc,e,au,av,aE,aF,a4,-⟩:=aI.o _ (Ae _ _) a l;cases e;have bz:=Bn j au;have b0:=Bn j av;have b1:=Bn j aE;have b2:=Bn j aF;have aV:(0:Int)<=(a:Int):=O1;have aW:(a:Int)<(L d:Int):=O1;have k:=O0 ((h.o.rb [.string d[a].name,.int C d[a].arity,.bool d[a].exp,.slice aS aR cc] 77).tail);have y:=O0 (RH gU l);have r:([84,65,82,78]++(vn v.size++v.data.toList)++vn (L U)++U.flatMap iU++vn (L d)++(d.take a).flatMap gU++gU d[a]).length<100000:=by
      have ak:=ae.o;have g:=Sl gU d (a+1);rw[y.o]at g;simp only[Ay]at ak g ⊢;omega
     have aO:=O0 (Adv aN.o a4 (ad.o.trans (k.o.lw ag.o)) k.o.s (ah.o.x _ (Ao l)) r);clear au av aE aF a4 j r;generalize d[a]=x at*;obtain⟨E,O,bl,bi⟩:=x;go_wp2_with (first
      |(go_at_call 85;refine aO.o.mono ?_;rintro e bb ⟨rfl,aq,c⟩;have H:=O0 (k.o.trans c);clear c))
     go_roundw
     case rel=>
      have D:=y.o▸(AH _ _ _)▸H.o;first
      |exact⟨a+1,aq,by go_num,O1,D⟩
      |((repeat apply Exists.intro);exact⟨⟨a+1,aq,by go_num,O1,D⟩,rfl⟩)
     case measure=>simp[intOf];omega
    ·obtain rfl:a=L d:=O1;go_wp2;refine bF ?_ (by first|exact .inr rfl|exact .inl rfl) rfl rfl;have m:=h.o;rw[AQ]at m;exact⟨rfl,u,m⟩
theorem Oi.ek(f:Oi v U d):MD ⟨v,BK U,d⟩=true:=by
 have y:∀c b,b+c=(BK U).length->Fq (HZ (U.map (·.1)) b) ((BK U).drop b)=true:=by
  intro c;induction c with
  |zero=>intro b m;rw[Arz O1];rfl
  |succ c ih=>
   intro b m;have e:b<(BK U).length:=O1;have o:b<L U:=by simpa[BK]using e
   let ⟨j,k⟩:=f.i b (by simpa using o)
   have l:=f.a _ (Ao o);have h:=ih (b+1) O1;rw[<-Mt o]at h;rw[AN]at j k;rw[Vm _ _ _ e];simp[BK,AN]at h ⊢;simp[j,k,Jl,l,h]
 have x:∀c b,b+c=L d->FO (BK U) (HZ (d.map (·.name)) b) (d.drop b)=true:=by
  intro c;induction c with
  |zero=>intro b m;rw[Arz O1];rfl
  |succ c ih=>
   intro b m;have e:b<L d:=O1;let ⟨j,k⟩:=f.g b (by simpa using e)
   obtain⟨-,l,s,t⟩:=f.x _ (Ao e);have h:=ih (b+1) O1;rw[<-Mt e]at h;rw[AN]at j k;have u:Fs (BK U) d[b].name=false:=by
    simp[Fs,Asq,decide_eq_true_eq,Kb];intro q p r;obtain⟨B,z,rfl⟩:=AK.1 p;exact f.d B z _ (Ao e) r
   have w:Ie d[b].code=true:=by
    simp[Ie,Aqx,decide_eq_true_eq,Ark];exact⟨s,λq p=>Tq (t q p)⟩
   rw[Vw _ _ _ _ e];simp[j,k,Jl,l,h,u,w]
 simp[MD,Aqx];exact⟨⟨f.n,(y _ 0 (Aqy _))⟩,(x _ 0 (Aqy _))⟩
theorem Aor(d:n.ownsRow 0 5 1 b (L K) (cu K))(f:0<L K):(convert 95 9 b).run Aa n=.ok (S ⟨K.toArray⟩) n:=by
 obtain⟨a,e,rfl,-,-⟩:=World.ownsRow.form d f;refine run_convert_bytes_back n 95 9 5 ⟨a,0,N⟩ e K Tryz.underlying95 Tryz.underlying5 Bg λc g=>?_;rw[show(⟨a,0,N⟩:Addr).add c=⟨a,c,N⟩ by simp[Addr.add];omega,d.cellAt c O1,Arc,AA g];rfl
theorem VU(d:AX)(a:Q):Sp a.heap.size (a.alloc (.cells #[W N 0 0] d)) [wB a.heap.size (W N 0 0) []]:=((Sp.b2 (L:=[]) ⟨Ac _,λA b=>(by cases b),As9,λe c=>(by cases c)⟩).box (A:=wB a.heap.size (W N 0 0) []) _ rfl ⟨O2,O2,Aq7 _ _ _ _⟩).s
theorem Alf{w:Q}{j:List (ByteArray×Int)}(r:EK w b ⟨v,BK j,d⟩)(s:Cu w)(h:Jc w f)(t:Oi v j d)(ap:(oU v j d).length<=99996):Av Aa 20 #[b] w λg e=>g=F (R #[S (He (oU v j d)),.nilIface])/\Below w.heap.size w e:=by
 have H:O9 (∀e,Below w.heap.size w e->Av Aa 39 #[b] e λg ac=>g=F (Mh true (CX (f 0)))/\Below e.heap.size e ac):=λe hb=>t.ek▸UH _ b (CX (f 0)) e (r.bE hb) (s.bE hb) ((h.bE hb).c 0 O1) ⟨_,_,rfl⟩;have B:=O0 r;have E:=O0 s;have O:=O0 t;obtain⟨l,k,rfl,-,-,-⟩:=r;have G:O9 (0<(oU v j d).length):=by show _<_;simp[oU]
 have K:=O0 λ(a:Q) (hb:Below w.heap.size w a)=>Aj1 (W:=a.heap.size) (w:=a.alloc (.cells #[.slice N 0 0] 131)) (E.o.bE hb) (B.o.bE hb) bA (VU _ a) O.o O1;generalize hu:oU v j d=U at*;have p:O9 (Below w.heap.size w (w.alloc (.cells #[S v,l,k] 41))):=bA;have z:O9 (He U=⟨U.toArray⟩++JJ ⟨U.toArray⟩):=by
  rfl
 have D:=O0 λw=>Yi ⟨U.toArray⟩ w (by show U.toArray.size<=_;simp;omega);have al:=λw=>run_string_add_sum (P:=Aa) w ⟨U.toArray⟩ (JJ ⟨U.toArray⟩) (by show U.toArray.size+4<=_;grind);have aq:¬(99996:Int)<(L U:Int):=O1;clear s h t hu;go_enter Tryz.func20,Tryz.ntmps20;go_wp2_with (first
  |(go_at_call 39;refine(H.o _ p.o).mono ?_;rintro g a ⟨rfl,i⟩;have n:O9 (Below w.heap.size w a):=p.o.trans (i.mono p.o.size);have M:=O0 (K.o a n.o);simp only[Mh,if_true];have Y:=Bn i (Cb w #[S v,l,k] 41 0 _ rfl);have aa:=Bn i (Cb w #[S v,l,k] 41 1 _ rfl);have ab:=Bn i (Cb w #[S v,l,k] 41 2 _ rfl);have af:=λm=>alloc_old a m _ _ _ Y;have ag:=λm=>alloc_old a m _ _ _ aa;have ah:=λm=>alloc_old a m _ _ _ ab;have ao:=i.size;have an:w.heap.size<a.heap.size:=(by have:(w.alloc (.cells #[S v,l,k] 41)).heap.size=w.heap.size+1:=O2;omega);clear i)
  |(go_at_call 40;refine M.o.mono ?_;rintro g ad ⟨rfl,au,h⟩;obtain⟨aj,ak,q⟩:=h.mem (.head _);obtain⟨ar,ai,rfl⟩:=BW q;have am:=Aor q G.o;have u:O9 (Below w.heap.size w ad):=n.o.trans ((((Ae a.heap.size a).alloc (Ac _) _).trans (h.lw (VU _ a))).mono n.o.size);clear h q)
  |(go_at_call 41;refine(D.o _).mono ?_;rintro g ae ⟨rfl,x⟩;have y:O9 (Below w.heap.size w ae):=u.o.trans (x.mono u.o.size);clear x))
 go_ret2
 exact⟨by rw[z.o];rfl,y.o⟩
theorem Aho(g:EK n b ⟨v,BK U,d⟩)(l:Cu n)(k:Jc n f)(p:Oi v U d)(q:(oU v U d).length<=99996):Av Aa 11 #[b] n λc e=>c=F (R #[S (He (oU v U d)),V C 0])/\Below n.heap.size n e:=by
 have i:=O0 λe (hb:Below n.heap.size n e)=>Alf (g.bE hb) (l.bE hb) (k.bE hb) p q;obtain⟨r,j,rfl,-,-,-⟩:=g;have a:O9 (Below n.heap.size n (n.alloc (.cells #[S v,r,j] 41))):=bA;go_enter Tryz.func11,Tryz.ntmps11;go_wp2_with (first
  |(apply (i.o _ a.o).mono;rintro c s ⟨rfl,m⟩;have h:O9 (Below n.heap.size n s):=a.o.trans (m.mono a.o.size))
  |(apply (Re _).mono;rintro c t ⟨rfl,rfl⟩))
 go_ret2
 exact⟨rfl,h.o⟩
end Go.Proofs.YtcacpmkdfnmhaaaGreatDoor
namespace Go.Proofs.YtcacpmkdfnmhaaaGreatDoor
open Go.RowKit Go.Sort
variable{b:Value}{nz:BA}{f:Nat->Addr}{n:World}{we:List BA}
def Gb(a:BA):Prop:=∃b,a.Bu=BK b/\Ob a.name b a.Bs
theorem Ah5{a:Q}(q:EK a b nz)(r:Cu a)(B:Jc a f)(e:Gb nz):Av Aa 95 #[b] a λg d=>g=F .nilIface/\Below a.heap.size a d:=by
 let ⟨t,p,e⟩:=e
 let ⟨nm,Y,U⟩:=nz
 simp at p e;subst p;have w:O9 (∀d,Below a.heap.size a d->Av Aa 39 #[b] d λg E=>g=F (Mh true (CX (f 0)))/\Below d.heap.size d E):=λd hb=>e.i.ek▸UH _ b (CX (f 0)) d (q.bE hb) (r.bE hb) ((B.bE hb).c 0 O1) ⟨_,_,rfl⟩;obtain⟨k,j,rfl,-,z,y⟩:=id q;have x:(BK t).length=L t:=by simp[BK]
 have v:=O0 λd (hb:Below a.heap.size a d)=>Uz (nm:=nm) (r.bE hb) (z.bE hb) (y.bE hb) (x▸e.s) (by have:=e.n;grind);have m:O9 (Below a.heap.size a (a.alloc (.cells #[S nm,k,j] 41))):=bA;go_enter Tryz.func95,Tryz.ntmps95;go_wp2_with (first
  |(apply (w.o _ m.o).mono;rintro g G ⟨rfl,h⟩;have l:O9 (Below a.heap.size a G):=m.o.trans (h.mono m.o.size);simp only[Mh,if_true];have K:=Bn h (Cb a #[S nm,k,j] 41 0 _ rfl);have M:=Bn h (Cb a #[S nm,k,j] 41 1 _ rfl);have O:=Bn h (Cb a #[S nm,k,j] 41 2 _ rfl);clear h)
  |(apply (v.o _ l.o).mono;rintro g H ⟨rfl,D⟩;have u:O9 (Below a.heap.size a H):=l.o.trans (D.mono l.o.size)))
 go_ret;exact⟨rfl,u.o⟩
theorem An8(x:Iq n b we)(m:Cu n)(l:Jc n f)(i:∀w∈we,Gb w):Av Aa 44 #[b] n λh d=>h=F .nilIface/\Below n.heap.size n d:=by
 obtain⟨B,K,rfl,y,j⟩:=x;have t:O9 (∀d,Below n.heap.size n d->Ip d B we):=λd hb=>j.bE hb;have v:=O0 m;have u:=O0 l;have s:=O0 i;unfold short at y;clear j m l i;go_wp2;go_loopw [7] (λg wr=>∃a,a<=L we/\g=V C a/\O9 (Below n.heap.size n wr)) (λg _=>L we-(intOf g).toNat)
 case atStart=>exact⟨0,Ak _,rfl,Ae _ _⟩
 case round=>
  obtain⟨a,ab,rfl,c⟩:=hrel;rename Q=>wr
  by_cases p:a<L we
  ·have U:0<=a:=O1;have Y:a<L we:=O1;obtain⟨D,ae,ad,ac,O,M,rfl,E,G,H,k⟩:=t.o _ c.o a p;have e:=c.o.size;have r:=O0 (λz=>Ah5 (k.bE ((Ae _ _).alloc .refl z)) (v.o.bE (c.o.alloc e _)) (u.o.bE (c.o.alloc e _)) (s.o _ (Ao p)));clear k;go_wp2_with (first
    |(go_at_call 95;apply (r.o _).mono;rintro h af ⟨rfl,o⟩;have q:=O0 ((c.o.alloc e _).trans (o.mono O5));clear o))
   go_roundw
   case rel=>exact⟨a+1,O1,rfl,q.o⟩
   case measure=>simp[intOf];omega
  ·obtain rfl:a=L we:=O1;have aa:¬(L we)<L we:=O1;go_wp2;go_ret;exact⟨rfl,c.o⟩
end Go.Proofs.YtcacpmkdfnmhaaaGreatDoor
namespace Go.Proofs.YtcacpmkdfnmhaaaGreatDoor
open Go.RowKit Go.Sort Go.Lib
variable{wq:Bx}{w:Nat}{v:ByteArray}{wc:List IT}{vx:List DD}{U:List (ByteArray×Int)}{d:List Bt}
theorem Wv(a:Nat)(b:a<21):(BC a 0=2->Jm a=BC a 1/\IY a=BC a 2/\Jm a<=IY a)/\(BC a 0≠2->IY a<Jm a):=by
 rcases L3 a b with rfl|rfl|rfl|rfl|rfl|rfl|rfl|rfl|rfl|rfl|rfl|rfl|rfl|rfl|rfl|rfl|rfl|rfl|rfl|rfl|rfl;all_goals decide
theorem Yp(b:Fg wq w)(h:-9223372036854775808<=wq.a/\wq.a<=9223372036854775807):Fi wq:=by
 let ⟨r,c,s,f,hb,i,g⟩:=b
 have d:wq.op.toNat=w:=O1;let ⟨k,l,m,n,o,e,p,q⟩:=Lb w c
 let ⟨t,j⟩:=Wv w c
 refine⟨O1,h,?_,?_,?_,?_⟩
 ·grind
 ·grind
 ·rw[d];intro b;have:=j O1;rcases hb with hb|⟨-,hb|⟨-,-,hb⟩⟩
  ·omega
  ·omega
  ·exact⟨⟨hb (e.1 b),f⟩,i,g⟩
 grind
theorem Hj{n j:Nat}(a:n<128 ^ (j+1)):(vn n).length<=j+1:=UF 9 j n a
theorem Abh(d:Fg wq w)(h:-9223372036854775808<=wq.a/\wq.a<=9223372036854775807):(sU wq).length<=zz wq:=by
 have q:=Yp d h;let ⟨z,l,M,K,hb,O,k⟩:=d
 have e:wq.op.toNat=w:=O1;let ⟨r,s,t,u,o,p,v,x⟩:=Lb w l
 let ⟨U,Y⟩:=Wv w l
 have y:=Hj (n:=w) (j:=0) O1;simp only[sU,sV,zz,iz,e,Ay];split
 ·rename_i f
  have:=Hj (n:=fo wq.a) (j:=9) (by have:=(Rt h.1 h.2).2;omega);grind
 ·split
  ·rename_i f i
   have g:=q.b (e▸i);rw[e]at g;have:=Hj (n:=wq.a.toNat) (j:=2) O1;grind
  ·split
   ·rename_i f i g
    rw[if_neg (λd=>f (o.2 d)),if_pos (p.1 g)];have:=Hj (n:=L wq.alts) (j:=1) O1;have B:∀c:List B0,(∀b∈c,0<=b.tag/\b.tag<=255/\0<=b.tgt/\b.tgt<=65535)->(c.flatMap aU).length<=5*L c:=λc=>by
     induction c with
     |nil=>simp
     |cons b c ih=>
      intro hb;have D:=hb b (.head _);have E:=ih λm k=>hb m (.tail _ k);have G:=Hj (n:=b.tag.toNat) (j:=1) O1;have H:=Hj (n:=b.tgt.toNat) (j:=2) O1;grind
    grind
   grind
theorem SG(a:Cx v=true):(vn v.size++v.data.toList).length<=17:=by
 have:=J4 a;have:=Hj (n:=v.size) (j:=0) O1;have:(L v.data.toList)=v.size:=rfl;grind
theorem OV{e:Type}(b:e->List UInt8)(d:e->Nat):∀a:List e,(∀c∈a,(b c).length<=d c)->(a.flatMap b).length<=(a.map d).sum
 |[],_=>.refl
 |c::a,h=>by
  have:=OV b d a λg f=>h g (.tail _ f);grind
theorem Adj(H:YM wc vx ⟨v,BK U,d⟩):Ob v U d:=by
 obtain⟨e,s,p,y,-,-,-,-,-⟩:=H;simp only at s p y;have t:(BK U).length=L U:=by simp[BK]
 rw[t]at p;have g:=e.g;simp only at g;have M:Gl (U.map (·.1)):=λk z=>by
  have h:k<(BK U).length:=by grind
  have m:=(e.i _ (Ao h)).1;have l:=e.il k h;rw[show(BK U).map (·.name)=U.map (·.1) by simp[BK]]at l;simpa[BK]using Aq4 m l
 have K:Gl (d.map (·.name)):=λk z=>by
  have h:k<L d:=by simpa using z
  have m:=(g _ (Ao h)).1;have l:=e.gl k h;grind
 have w:∀a∈d,∀c∈a.code,Fi c:=λa b c f=>by
  obtain⟨O,q⟩:=(g a b).2.2.2.2.1 c f;exact Yp q (s a b c f)
 have u:∀a∈U,Cx a.1=true/\0<=a.2/\a.2<=20:=λa b=>e.i ⟨a.1,a.2⟩ (AK.2 ⟨a,b,rfl⟩);have x:∀a∈d,Gi a:=λa b=>by
  obtain⟨B,D,E,-,-,⟨G,o⟩,-⟩:=g a b;exact⟨B,⟨D,E⟩,o.m,w a b⟩
 refine⟨⟨e.n,O1,M,λa b=>(u a b).2,K,x,λa b c f=>(g c f).2.2.2.1 ⟨a.1,a.2⟩ (AK.2 ⟨a,b,rfl⟩)⟩,e,p,λa b=>?_,?_⟩
 ·obtain⟨-,-,-,-,-,⟨G,o⟩,af⟩:=g a b;exact Ait o (w a b) λc f ag=>by grind
 ·have m:=SG e.n;have l:=Hj (n:=L U) (j:=1) O1;have ab:=Hj (n:=L d) (j:=1) O1;have ac:=OV iU (λ_=>18) U λa b=>by
   obtain⟨r,Y,aa⟩:=u a b;have:=SG r;have:=Hj (n:=a.2.toNat) (j:=0) O1;simp only[iU,Ay]at*;omega
  have ad:=OV gU gz d λa b=>by
   obtain⟨r,Y,aa,ah⟩:=x a b;have:=SG r;have:=Hj (n:=a.arity.toNat) (j:=0) O1;have:=Hj (n:=if a.exp then 1 else 0) (j:=0) (by split<;>omega);have:=Hj (n:=L a.code) (j:=2) O1;have:=OV sU zz a.code λc f=>by
    obtain⟨O,q⟩:=(g a b).2.2.2.2.1 c f;exact Abh q (s a b c f)
   simp only[gU,gV,gz,Ay]at*;omega
  have ae:(U.map λ_=>18).sum=18*L U:=by rw[List.map_const',List.sum_replicate_nat,Nat.mul_comm]
  simp only[fz,t]at y;simp only[oU,Ay,AM,Bb]at*;omega
end Go.Proofs.YtcacpmkdfnmhaaaGreatDoor
namespace Go.Proofs.YtcacpmkdfnmhaaaGreatDoor
open Go.RowKit Go.Sort
variable{wq:Bx}{w s:Nat}{nz:BA}{n:World}{b i:Value}{f:Nat->Addr}{we:List BA}{v:ByteArray}
theorem Aek(b:s∈IP wq w):∃c∈EX wq.op wq.a wq.alts w,c.toNat=s:=by
 unfold IP at b;unfold EX;split at b
 ·cases b
 ·split at b
  ·grind
  ·split at b
   ·grind
   simp_all
theorem Gb.eC(d:Gb nz):∀b∈nz.Bs,(0<=b.arity/\b.arity<=20)/\∃h,Lx b.code b.arity h:=λb f=>by
 obtain⟨G,-,d⟩:=d;obtain⟨-,-,-,-,-,⟨j,c⟩,-⟩:=d.g.g b f;refine⟨c.a,λe=>j.getD e 0,c.p,c.m,c.s,λw t=>(Ao4 (Tq ((d.i.x b f).i w t))).l,λe q y=>?_⟩;obtain⟨u,k,B,-,-,D,m,n,-,o⟩:=c.i e q;have l:b.code[e].op.toNat=u:=O1;rw[l];refine⟨m,n,λK r=>?_⟩;obtain⟨x,g,rfl⟩:=Aek r;rw[k]at g;obtain⟨v,rfl,s,E,-⟩:=o x g;obtain⟨H,-,-,-,-,z,-⟩:=c.i v s;grind
theorem Gb.sound(f:Gb nz):PE nz:=by
 let ⟨w,q,f⟩:=f
 have l:=f.i.ek;simp[MD,Aqx]at l;have v:∀e∈nz.Bs,∀d∈e.code,d.op=1->0<=d.a/\d.a<L nz.Bu+L nz.Bs/\d.a<=65535:=λe g d h i=>by
  have t:=((f.i.x e g).i d h).b (by rw[i];rfl);have u:=(f.g.g e g).2.2.2.2.2.2 d h i;have r:BC (1:Int).toNat 1=0:=rfl;have s:=(Lb 1 O1).2.2.2.1;grind
 refine⟨(W9 l.2).2,λe g d h=>?_,λe g d h i=>by grind,λe g=>?_⟩
 ·let ⟨x,k⟩:=(f.g.g e g).2.2.2.2.1 d h
  exact⟨λi=>by grind,by have:=k.a;omega,λn m=>by have:=k.c n m;omega⟩
 ·obtain⟨-,-,-,-,-,⟨o,j⟩,-⟩:=f.g.g e g;exact⟨j.p,by have:=j.m;omega⟩
structure R2 (b:Q) (a:Nat) (c d:X):Prop where
 c0:b.cell? ⟨a,0,N⟩=I c
 c1:b.cell? ⟨a,1,N⟩=I d
 f:∀j,b.frozen? ⟨a,j,N⟩=false
theorem R2.lt(a:R2 n w b i):w<n.heap.size:=AG a.c0
theorem R2.bX{w':Q}(c:R2 n w b i)(e:w'.heap[w]?=n.heap[w]?):R2 w' w b i:=by
 have g:=λd=>Ai (a:=⟨w,d,N⟩) e;exact⟨by rw[g];exact c.c0,by rw[g];exact c.c1,λd=>by rw[AD e];exact c.f d⟩
theorem R2.bE{w:Q}{a:Nat}(c:R2 w a b i)(hb:Below w.heap.size w n):R2 n a b i:=c.bX (hb.block a c.lt)
theorem R2.drew(a:R2 n w b i):R2 n.drew w b i:=⟨a.c0,a.c1,a.f⟩
theorem R2.new(a:Q)(b c:X)(d:AX):R2 (a.alloc (.cells #[b,c] d)) a.heap.size b c:=⟨Cb a #[b,c] d 0 _ rfl,Cb a #[b,c] d 1 _ rfl,λe=>O2⟩
theorem R2.put(a:R2 n w b i)(c d:X):R2 ((n.setCell ⟨w,0,N⟩ c).setCell ⟨w,1,N⟩ d) w c d:=
 ⟨by rw[Fp O1];exact Am _ _ _ a.c0,Am _ _ _ (by rw[Fp O1];exact a.c1),λe=>by simp[An];exact a.f e⟩
def Gz:X:=T #[W N 0 0,V C 0]
theorem YB:Kl f (Du we (L we)) we=match BO (λ_=>Gt we) we 0 with
 |some b=>Gv (f 15) 0 (b:Int)
 |none=>Q8 f 16 (BO (λ_=>I0 we) we 0):=by
 unfold Kl;rw[show(λ_:Nat=>GA (Du we (L we)))=λ_=>Gt we from funext λ_=>funext λa=>VX we a,show(λ_:Nat=>GS (Du we (L we)))=λ_=>I0 we from funext λ_=>funext λa=>VK we a]<;>rfl
structure GO (b:List BA) (c:ByteArray):Prop where
 l:(L b)<=8
 d:BO (IB b) b 0=N
 m:BO (λ_=>Gt b) b 0=N
 a:BO (λ_=>I0 b) b 0=N
 e:∃n who,HE b c=I (n,who,0)
 s:sz b<=200000
def Nv(b:Nat->Addr)(c:X):Prop:=(∃a d:Nat,(a=14\/a=15\/a=16)/\c=Gv (b a) 0 (d:Int))\/∃a:Nat,(a=17\/a=18)/\c=CX (b a)
theorem Nv.told(e:DP n f)(a:Nv f b):∃d g,d≠0/\Told n b d 0 g:=by
 rcases a with⟨c,h,a,rfl⟩|⟨c,a,rfl⟩
 ·exact⟨_,_,by rcases a with rfl|rfl|rfl<;>decide,Ahi e c O1 0 _⟩
 ·exact⟨_,_,by rcases a with rfl|rfl<;>decide,Ak4 e c O1⟩
def LkR(k:Nat->Addr)(a:List BA)(b:ByteArray)(c:Q)(e:Ending)(i:Q):Prop:=Below c.heap.size c i/\((¬GO a b/\∃h j,Nv k (Z h j)/\e=F (R #[Gz,Z h j]))\/GO a b/\∃g f d,e=F (R #[T #[W g f d,V C (Fv a b)],.nilIface])/\Ed c.heap.size i (W g f d) (Ek a))
theorem Aj2{v:X}{j:ByteArray}(g:Iq n v we)(aQ:SL we)(a8:j.size<=maxLen)(aP:Cu n)(aO:DP n f)(a6:∀w∈we,Gb w):
 Av Aa 23 #[v,S j] n (LkR f we j n):=by
 have ak:=O0 (λa (hb:Below n.heap.size n a)=>g.bE hb);have bm:=O0 (λa (hb:Below n.heap.size n a)=>aP.bE hb);have p:=O0 (λa (hb:Below n.heap.size n a)=>aO.bE hb);obtain⟨Y,ap,rfl,b0,-⟩:=id g;unfold short at b0;have bq:=O0 aQ;have bg:=O0 a6;have am:=O0 (λw B=>(a6 w B).sound);clear g aP aO aQ a6;have aR:Below n.heap.size n (n.alloc (.cells #[W N 0 0,V C 0] 55)):=bA;have av:=O0 aR;have aJ:O9 (R2 (n.alloc (.cells #[W N 0 0,V C 0] 55)) n.heap.size (W N 0 0) (V C 0)):=R2.new ..;have bJ:16<n.heap.size:=AG ((p.o n (Ae _ _)).c 17 O1);have bK:17<n.heap.size:=AG ((p.o n (Ae _ _)).c 18 O1);clear aR;by_cases bH:8<L we
 ·have D:O9 (¬GO we j):=λg=>by have:=g.l;omega
  have b5:(8:Int)<(L we:Int):=O1;have bv:=(p.o _ av.o).c 18 O1;simp only[CX,Hi,Ar4,Ar3]at bv;go_enter Tryz.func23,Tryz.ntmps23;go_wp2;go_region
  all_goals(try go_wp2)
  all_goals
   obtain⟨q,t,-⟩:=aJ.o;have br:(n.alloc (.cells #[W N 0 0,V C 0] 55)).drew.cell? ⟨n.heap.size,0,N⟩=_:=q;have bs:(n.alloc (.cells #[W N 0 0,V C 0] 55)).drew.cell? ⟨n.heap.size,1,N⟩=_:=t;refine AV (v:=R #[Gz,CX (f 18)]) (by simp[results,Tryz.results23,go_sem,br,bs,Gz,CX]) rfl ?_;exact⟨av.o.drew,.inl ⟨D.o,_,_,.inr ⟨_,O1,rfl⟩,rfl⟩⟩
 ·have bt:Lt we:=⟨O1,bq.o⟩;have ay:=O0 bt;have b5:¬(8:Int)<(L we:Int):=O1;have bn:O9 (∀a,Below n.heap.size n a->Av Aa 44 #[W Y (L we) ap] a λc h=>c=F .nilIface/\Below a.heap.size a h):=λa hb=>An8 (ak.o a hb) (bm.o a hb) ⟨(p.o a hb).c,(p.o a hb).o,(p.o a hb).ne⟩ bg.o;have bp:O9 (∀a,Below n.heap.size n a->Av Aa 45 #[W Y (L we) ap] a λc h=>Below a.heap.size a h/\((BO (IB we) we 0≠N/\∃G M,Nv f (Z G M)/\c=F (R #[.map N,Z G M]))\/BO (IB we) we 0=N/\∃i b,c=F (R #[.map (I i),.nilIface])/\XM h i b (Du we (L we)))):=λa hb=>(Afx we _ a f (ak.o a hb) ay.o (p.o a hb)).mono λc h aD=>by
   obtain⟨u,ah⟩:=aD;refine⟨u,?_⟩;cases hD:BO (IB we) we 0 with
   |some k=>rw[hD]at ah;exact .inl ⟨nofun,_,_,.inl ⟨14,k,O1,rfl⟩,ah⟩
   |none=>grind
  have bo:O9 (∀a i b,Below n.heap.size n a->XM a i b (Du we (L we))->Av Aa 46 #[W Y (L we) ap,.map (I i)] a λc h=>Below a.heap.size a h/\((¬(BO (λ_=>Gt we) we 0=N/\BO (λ_=>I0 we) we 0=N)/\∃G M,Nv f (Z G M)/\c=F (Z G M))\/(BO (λ_=>Gt we) we 0=N/\BO (λ_=>I0 we) we 0=N)/\c=F .nilIface)):=λa i b hb aF=>(Am2 we _ a f i b _ (ak.o a hb) aF (p.o a hb)).mono λc h aD=>by
   obtain⟨u,ah⟩:=aD;refine⟨ah,?_⟩;rw[YB]at u;cases hM:BO (λ_=>Gt we) we 0 with
   |some k=>rw[hM]at u;exact .inl ⟨nofun,_,_,.inl ⟨15,k,O1,rfl⟩,u⟩
   |none=>
    rw[hM]at u;cases hA:BO (λ_=>I0 we) we 0 with
    |some k=>rw[hA]at u;exact .inl ⟨nofun,_,_,.inl ⟨16,k,O1,rfl⟩,u⟩
    |none=>rw[hA]at u;exact .inr ⟨⟨rfl,rfl⟩,u⟩
  have aI:O9 (∀a,Below n.heap.size n a->Av Aa 47 #[W Y (L we) ap] a λc h=>c=F (V C (sz we:Int))/\Below a.heap.size a h):=λa hb=>Adf we _ a (ak.o a hb) ay.o λw B a2 a9=>((am.o w B).ne a2 a9).2;have ag:=O0 (PJ we j);go_enter Tryz.func23,Tryz.ntmps23;go_upto_region 12 with(first
   |(go_at_call 44;refine(bn.o _ av.o).mono ?_;rintro c bB ⟨rfl,a7⟩;have ai:=O0 (av.o.trans (a7.mono O2):Below n.heap.size n bB);have bz:=aJ.o.bE a7;have a0:=O0 bz;clear a7)
   |(go_at_call 45;refine(bp.o _ ai.o).mono ?_;rintro c aX ⟨ac,⟨aC,G,M,ar,rfl⟩|⟨aC,i,nx,rfl,aW⟩⟩;(·have az:=O0 aC;have ax:=O0 ar;clear ar;have aa:=O0 (ai.o.trans (ac.mono ai.o.size):Below n.heap.size n aX);obtain⟨u0,b7,ad⟩:=a0.o.bE ac;have al:=O0 (a0.o.bE ac);have b8:=ad 0;have b9:=ad 1;clear ac ad;go_wp2;obtain⟨q,t,-⟩:=al.o.put (W N 0 0) (V C 0);refine AV (v:=R #[Gz,Z G M]) (by simp[results,Tryz.results23,go_sem,q,t,Gz]) rfl ?_;exact⟨(aa.o.setCell (Ac _) _).setCell (Ac _) _,.inl ⟨λg=>az.o g.d,_,_,ax.o,rfl⟩⟩);have az:=O0 aC;have aa:=O0 (ai.o.trans (ac.mono ai.o.size):Below n.heap.size n aX);have aL:=O0 aW;have al:=O0 (a0.o.bE ac);clear ac aW)
   |(go_at_call 46;refine(bo.o _ _ _ aa.o aL.o).mono ?_;rintro c H ⟨O,⟨aB,G,M,ar,rfl⟩|⟨aB,rfl⟩⟩;(·have aj:=O0 aB;have ax:=O0 ar;clear ar;have e:=O0 (aa.o.trans (O.mono aa.o.size):Below n.heap.size n H);obtain⟨u0,b7,ad⟩:=al.o.bE O;have z:=O0 (al.o.bE O);have b8:=ad 0;have b9:=ad 1;clear O ad;go_wp2;obtain⟨q,t,-⟩:=z.o.put (W N 0 0) (V C 0);refine AV (v:=R #[Gz,Z G M]) (by simp[results,Tryz.results23,go_sem,q,t,Gz]) rfl ?_;exact⟨(e.o.setCell (Ac _) _).setCell (Ac _) _,.inl ⟨λg=>aj.o ⟨g.m,g.a⟩,_,_,ax.o,rfl⟩⟩);have aj:=O0 aB;have e:=O0 (aa.o.trans (O.mono aa.o.size):Below n.heap.size n H);have z:=O0 (al.o.bE O);have an:=O0 (aL.o.bE O);clear O))
  cases hE:HE we j with
  |none=>
   rw[hE]at ag;have D:O9 (¬GO we j):=λg=>by obtain⟨b,aY,c⟩:=g.e;grind
   have E:=an.o.look j a8;rw[ag.o]at E;simp only[Hx,C6,As1,Option.map_none]at E;obtain⟨aZ,ba,y⟩:=z.o.bE ((Ae _ _).alloc (Ac _) (.cells #[V C 0,V C 0] 147));have bb:=y 0;have bc:=y 1;have U:=((p.o _ e.o).bE ((Ae _ _).alloc (Ac _) (.cells #[V C 0,V C 0] 147))).c 17 O1;simp only[CX,Hi,Ar4,Ar3]at U;have aS:=λK=>(World.cell?_setCell_far (H.alloc (.cells #[V C 0,V C 0] 147)) ⟨n.heap.size,0,N⟩ ⟨16,0,N⟩ K O5).trans U;clear hE y;go_wp2;go_region
   all_goals(try go_wp2)
   all_goals
    obtain⟨q,t,-⟩:=(R2.put (z.o.bE ((Ae _ _).alloc (Ac _) (.cells #[V C 0,V C 0] 147))) (W N 0 0) (V C 0)).drew;refine AV (v:=R #[Gz,CX (f 17)]) (by simp[results,Tryz.results23,go_sem,q,t,Gz,CX]) rfl ?_;exact⟨(((e.o.alloc e.o.size _).setCell (Ac _) _).setCell (Ac _) _).drew,.inl ⟨D.o,_,_,.inr ⟨_,O1,rfl⟩,rfl⟩⟩
  |some r=>
   obtain⟨b,aY,ao⟩:=r;rw[hE]at ag;have bj:O9 (Fv we j=(b:Int)):=by show _=_;unfold Fv;rw[hE]
   simp only[Ati]at ag;by_cases bu:ao=0
   ·subst bu;have bf:=O0 hE;have E:=an.o.look j a8;rw[ag.o]at E;simp only[Hx,C6,As0]at E;obtain⟨aZ,ba,y⟩:=z.o.bE ((Ae _ _).alloc (Ac _) (.cells #[V C (b:Int),V C 0] 147));have bb:=y 0;have bc:=y 1;have U:=((p.o _ e.o).bE ((Ae _ _).alloc (Ac _) (.cells #[V C (b:Int),V C 0] 147))).c 17 O1;simp only[CX,Hi,Ar4,Ar3]at U;have aS:=λK=>(World.cell?_setCell_far (H.alloc (.cells #[V C (b:Int),V C 0] 147)) ⟨n.heap.size,0,N⟩ ⟨16,0,N⟩ K O5).trans U;clear hE y;by_cases bI:200000<sz we
    ·have D:O9 (¬GO we j):=λg=>by have:=g.s;omega
     have ib:(200000:Int)<(sz we:Int):=O1;go_wp2_with (first
      |(go_at_call 47;refine(aI.o _ (e.o.alloc e.o.size _)).mono ?_;rintro c ae ⟨rfl,x⟩;have ab:=O0 ((e.o.alloc e.o.size _).trans (x.mono (by have:=e.o.size;simp;omega)):Below n.heap.size n ae);have au:=(z.o.bE bA).bE x;have a1:=O0 au;have aH:=O0 ((R2.new H (V C (b:Int)) (V C 0) 147).bE x);obtain⟨bC,bD,af⟩:=au;have bE:=af 0;have bG:=af 1;have aq:=(p.o _ ab.o).c 18 O1;simp only[CX,Hi,Ar4,Ar3]at aq;have bw:=λK=>(World.cell?_setCell_far ae ⟨n.heap.size,0,N⟩ ⟨17,0,N⟩ K O6).trans aq;have aM:=O0 ((an.o.bE bA).bE x);clear x af))
     go_region
     all_goals(try go_wp2)
     all_goals
      obtain⟨q,t,-⟩:=(R2.put a1.o (W N 0 0) (V C 0)).drew;refine AV (v:=R #[Gz,CX (f 18)]) (by simp[results,Tryz.results23,go_sem,q,t,Gz,CX]) rfl ?_;exact⟨((ab.o.setCell (Ac _) _).setCell (Ac _) _).drew,.inl ⟨D.o,_,_,.inr ⟨_,O1,rfl⟩,rfl⟩⟩
    ·have D:O9 (GO we j):=⟨O1,az.o,aj.o.1,aj.o.2,⟨b,aY,bf.o⟩,O1⟩;have ib:¬(200000:Int)<(sz we:Int):=O1;have bi:O9 (∀a i nx,Below n.heap.size n a->XM a i nx (Du we (L we))->Av Aa 48 #[W Y (L we) ap,.map (I i)] a λc h=>Below a.heap.size a h/\∃Y b aN,c=F (W Y b aN)/\Ed a.heap.size h (W Y b aN) (Ek we)):=λa i nx hb aF=>by
      have u:=Ae1 we _ i nx _ a (ak.o a hb) aF ay.o (λw B a2 a9=>((am.o w B).ne a2 a9).2) (Aw (UE am.o) O1) λw B=>(am.o w B).ix;have ah:Ek we=E1 (Du we (L we)) we 0:=XE λw B=>⟨am.o w B,by
       obtain⟨b2,bx,rfl⟩:=Ari B;exact TC aj.o.1 b2 bx⟩
      rw[ah];exact u
     go_upto_region 17 with(first
      |(go_at_call 47;refine(aI.o _ (e.o.alloc e.o.size _)).mono ?_;rintro c ae ⟨rfl,x⟩;have ab:=O0 ((e.o.alloc e.o.size _).trans (x.mono (by have:=e.o.size;simp;omega)):Below n.heap.size n ae);have au:=(z.o.bE bA).bE x;have a1:=O0 au;have aH:=O0 ((R2.new H (V C (b:Int)) (V C 0) 147).bE x);obtain⟨bC,bD,af⟩:=au;have bE:=af 0;have bG:=af 1;have aq:=(p.o _ ab.o).c 18 O1;simp only[CX,Hi,Ar4,Ar3]at aq;have bw:=λK=>(World.cell?_setCell_far ae ⟨n.heap.size,0,N⟩ ⟨17,0,N⟩ K O6).trans aq;have aM:=O0 ((an.o.bE bA).bE x);clear x af))
     have bL:=z.o.lt;have b6:ae.drew.cell? ⟨H.heap.size,0,N⟩=I (V C (b:Int)):=aH.o.c0;have bh:=O0 (bi.o ae.drew i nx ab.o.drew (aM.o.bE (Ae _ _).drew));have aK:=O0 a1.o.drew;have b1:=ab.o.size;have aE:=aK.o.lt;clear E;go_region_held_law (λh=>h.cell? ⟨H.heap.size,0,N⟩=I (V C (b:Int))) (first|assumption|(rw[World.cell?_setCell_far _ _ _ _ O5,World.cell?_setCell_far _ _ _ _ O5];omega))
      (first
       |(go_at_call 48;refine bh.o.mono ?_;rintro c w5 ⟨aw,a5,a4,a3,rfl,aT⟩;have bN:=Bn aw b6;have be:=O0 (ab.o.drew.trans (aw.mono b1):Below n.heap.size n w5);have aV:=aK.o.bE aw;have bl:=O0 aV;obtain⟨bP,bQ,aG⟩:=aV;have bR:=aG 0;have bS:=aG 1;have bk:=O0 aT;clear aw aT aG))
     all_goals(try go_wp2)
     all_goals
      obtain⟨q,t,-⟩:=bl.o.put (W a5 a4 a3) (V C (b:Int));refine AV (v:=R #[T #[W a5 a4 a3,V C (b:Int)],.nilIface]) (by simp[results,Tryz.results23,go_sem,q,t]) rfl ?_;exact⟨(be.o.setCell (Ac _) _).setCell (Ac _) _,.inr ⟨D.o,a5,a4,a3,by rw[bj.o],((bk.o.set aE _).set aE _).low (Atq aE)⟩⟩
   ·have D:O9 (¬GO we j):=λg=>by obtain⟨bM,bO,c⟩:=g.e;grind
    have E:=an.o.look j a8;rw[ag.o]at E;simp only[Hx,C6,As0]at E;obtain⟨aZ,ba,y⟩:=z.o.bE ((Ae _ _).alloc (Ac _) (.cells #[V C (b:Int),V C ao] 147));have bb:=y 0;have bc:=y 1;have U:=((p.o _ e.o).bE ((Ae _ _).alloc (Ac _) (.cells #[V C (b:Int),V C ao] 147))).c 17 O1;simp only[CX,Hi,Ar4,Ar3]at U;have aS:=λK=>(World.cell?_setCell_far (H.alloc (.cells #[V C (b:Int),V C ao] 147)) ⟨n.heap.size,0,N⟩ ⟨16,0,N⟩ K O5).trans U;clear hE y;go_wp2;go_region
    all_goals(try go_wp2)
    all_goals
     obtain⟨q,t,-⟩:=(R2.put (z.o.bE ((Ae _ _).alloc (Ac _) (.cells #[V C (b:Int),V C ao] 147))) (W N 0 0) (V C 0)).drew;refine AV (v:=R #[Gz,CX (f 17)]) (by simp[results,Tryz.results23,go_sem,q,t,Gz,CX]) rfl ?_;exact⟨(((e.o.alloc e.o.size _).setCell (Ac _) _).setCell (Ac _) _).drew,.inl ⟨D.o,_,_,.inr ⟨_,O1,rfl⟩,rfl⟩⟩
theorem Ahf(c b:X)(a:Q):Sem.run Aa (Instr.field 47 (T #[c,b]) 1) a=.ok b a:=O3
theorem An4(p:Iq n b we)(ad:SL we)(ae:v.size<=maxLen)(x:Cu n)(q:DP n f)(w:∀ac∈we,Gb ac):
 Av Aa 14 #[b,S v] n λe t=>Below n.heap.size n t/\((¬GO we v/\∃a M:Int,a≠0/\e=F (R #[J N,V C a,V C M]))\/GO we v/\∃j s K a,e=F (R #[J (I ⟨j,0,N⟩),V C 0,V C 0])/\n.heap.size<=j/\R2 t j (W s K a) (V C (Fv we v))/\Ed n.heap.size t (W s K a) (Ek we)):=by
 have aa:=O0 (Aj2 p ad ae x q w);obtain⟨s,ai,rfl,-⟩:=id p;have ah:=Ahf;have ab:=O0 λc (hb:Below n.heap.size n c)=>q.bE hb;clear p x q w;go_enter Tryz.func14,Tryz.ntmps14;go_wp2_with (first
  |(go_at_call 23;refine aa.o.mono ?_;rintro e c ⟨g,⟨r,aj,ak,D,rfl⟩|⟨r,m,l,k,rfl,E⟩⟩;(·unfold Gz;have i:=O0 r;have d:=O0 g;obtain⟨a,M,B,H⟩:=D.told (ab.o c g);have u:=O0 H;have U:=O0 B;clear g D H B;go_wp2_with (first
   |(go_at_call 17;refine(u.o.kind _ bA).mono ?_;rintro e ag ⟨rfl,y⟩;have h:=O0 (bA.trans (y.mono O2):Below c.heap.size c ag);clear y)
   |(go_at_call 18;refine(u.o.place _ h.o).mono ?_;rintro e w5 ⟨rfl,z⟩;have O:=O0 (d.o.trans ((h.o.trans (z.mono h.o.size)).mono d.o.size));clear z));go_ret3;exact⟨O.o,.inl ⟨i.o,_,_,U.o,rfl⟩⟩);have i:=O0 r;have Y:=O0 E;have d:=O0 g;clear g E))
 go_ret3
 have af:=d.o.size;refine⟨(d.o.alloc af _).alloc O5 _,.inr ⟨i.o,?_⟩⟩;have G:=R2.new (c.alloc (.cells #[W m l k,V C (Fv we v)] 55)) (W m l k) (V C (Fv we v)) 57;rw[Asz]at G;exact⟨_,m,l,k,rfl,O1,G,(Y.o.bE bA).bE bA⟩
end Go.Proofs.YtcacpmkdfnmhaaaGreatDoor
