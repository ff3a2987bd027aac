import Derived.Test.YtnghccjoicmabaaGreatDoorPzEJ
import Derived.Test.YtnghccjoicmabaaGreatDoorPz1J
import Derived.Laws.OwnMore
import Derived.Deep.Upon
set_option maxRecDepth 100000
set_option maxHeartbeats 8000000
open Except renaming error->P
open Go renaming Calls->Adg,TypeId->Ad5,Value->X,World->Q,maxLen->Aed,wpList_append_lies->Adl
open Go.Ending renaming returned->F
open Go.IntKind renaming i64->C
open Go.Obj renaming cells->Adi
open Go.Proofs.Tryz renaming prog->Acs
open Go.Value renaming agg->T,bool->A,iface->Z,int->V,ownBlock->Ad6,pointer->J,slice->W,string->S,tuple->R
open Go.World renaming news_of_block->Adu
namespace Go.Proofs.YtnghccjoicmabaaGreatDoor
open Go.RowKit Go.Sort
variable{n p h:World}{v b d w x:Nat}{o:Nat->Addr}{s wn:ByteArray}{m q j:Value}{l nq:Av}{G:List IT}{D:List DT}{sw:Pr (IT ⊕ ((ByteArray×Nat)×Av×Ex))}{ns:Ending}{xe:IT ⊕ ((ByteArray×Nat)×Av×Ex)}{y:List ByteArray}{w2:Bool}{vb:List (TypeId×Value)}{L:Option Addr}{e:Cc}{t:List Nat}{r:KS}{M:TypeId}{wb:List Value}{n7:List (Value×Value)}{s6:TypeId×Value}{nv:Obj}{wc:Array Oper}{w4:Oper}{wj:Act}{vv:Act->World->Prop}{w6:Exit->Act->World->Prop}{vp:Prop}{nh:ByteArray×Nat}{s5:Unit}
theorem Oi{w:Q}{g:Nat}(e f:ByteArray)(p:Nat)(I:w.heap.size=p)(H:PB n w g o)(r:PS w g v s b m d)(x:b<=s.size)(L:e≠⟨#[]⟩):
 Adg Acs 55 #[J (some ⟨g,0,none⟩),W (some ⟨p,0,none⟩) 2 2] (w.alloc (.cells #[S e,S f] 9)) λq i=>Mu (BA s [e,f] b) g w o (λl i=>f≠⟨#[]⟩->l<=s.size/\PS i g v s l m d) q i:=by
 subst I;have u:Below w.heap.size w (w.alloc (.cells #[S e,S f] 9)):=bA;have t:EF g w (w.alloc (.cells #[S e,S f] 9)):=EF.cI u;have K:Pm (w.alloc (.cells #[S e,S f] 9)) g (W (some ⟨w.heap.size,0,none⟩) 2 2) [e,f]:=⟨w.heap.size,0,2,rfl,Aej r.lt,λk h=>by
  match k,h with
  |0,_=>simp
  |1,_=>simp
  |k+2,h=>simp at h;omega⟩
 refine(Jc (H.ef t) (r.below u) x K (by simp) (λk h=>?_)).mono ?_
 ·grind
 ·rintro q i ⟨G,j⟩;refine⟨t.trans G,?_⟩;match hr:BA s [e,f] b with
  |P (c,a)=>grind
  |.ok ((),l)=>
   rw[hr]at j;refine⟨j.1,λM=>⟨?_,j.2 λab Y=>?_⟩⟩
   ·let ⟨O,y,z,B⟩:=Ac hr
    let ⟨U,N,D,E⟩:=Ac B
    have aa:=Aj M y (Aj L b x O y z).2 U N D;cases E;omega
   grind
abbrev GZ(a:DT):(ByteArray×Nat)×Av×Ex:=(a.1,a.2.2.1,a.2.2.2.2.1)
abbrev DD:=(ByteArray×Nat)×Av×Ex
def GJ{c:Type}(b:Av->List IT->List DD->Nat->Pr c)(a:Av)(f:List IT)(e:List DD)(h:IT ⊕ DD)(g:Nat):Pr c:=match h with|.inl i=>b (a++[i.1]) (f++[i]) e g|.inr d=>b (a++[d.1]) f (e++[d]) g
def KW(a:ByteArray):Nat->Av->List IT->List ((ByteArray×Nat)×Av×Ex)->Nat->Pr (List IT×List ((ByteArray×Nat)×Av×Ex))
 |0,_,_,_,p=>P (2,p)
 |f+1,G,im,df,p=>if Ag a p=Ax then pb (pG a G (decide (df.length=0)) (AC a p)) λc b=>GJ (KW a f) G im df c b
  else pb (BA a [Ae,⟨#[]⟩] p) λ_ b=>.ok ((im,df),b)
theorem V3.eg(b:V3 n w m q j)(c:X):V3 (n.setCell ⟨w,0,none⟩ c) w c q j:=by
 have d:∀a,a≠0->(n.setCell ⟨w,0,none⟩ c).cell? ⟨w,a,none⟩=n.cell? ⟨w,a,none⟩:=λa e=>Acy _ _ _ _ (Au (Aa7 e));exact⟨Ac6 _ _ _ b.c0,by rw[d _ (by omega)];exact b.c1,by rw[d _ (by omega)];exact b.c2,λa=>by rw[Ac3];exact b.f a⟩
theorem L3.cQ(a:L3 w v s o n b m l G D sw ns p)(c:sw=P (d,x)):ns=F (Z 107 (KQ o (Dm d) x))/\EF w n p/\XO p b m:=by
 subst c;exact⟨a.2.1,a.1,a.2.2⟩
theorem L3.isOk{t:Ending}(a:L3 w v s o n b m l G D sw t p)(u:sw=.ok (xe,d)):t=F .nilIface/\∃e q f h r g,BN w v s n p b m e q f d h r g/\e.length=l.length+1/\∀c,GJ (KW s c) l G (D.map GZ) xe d=KW s c e q (f.map GZ) d/\q.length+f.length=G.length+D.length+1:=by
 subst u;match xe,a with
 |.inl i,a=>
  obtain⟨-,j,h,r,g,k⟩:=a;exact⟨j,_,_,_,_,_,_,k,by simp,λc=>⟨rfl,by simp;omega⟩⟩
 |.inr (x,ns,y),a=>
  obtain⟨-,j,h,r,g,B,E,z,k⟩:=a;exact⟨j,_,_,_,_,_,_,k,by simp,λc=>⟨by unfold GJ;simp,by simp;omega⟩⟩
def DP(a:ByteArray)(c:Nat):Pr (ByteArray×List IT×List ((ByteArray×Nat)×Av×Ex)):=pb (BA a [Ax,Y7] c) λ_ d=>pb (Cq a [] d) λg e=>pb (KW a (a.size+1) [] [] [] e) λb f=>.ok ((g.1,b.1,b.2),f)
theorem IQ:IB s (Cq s y) 1:=by
 intro d b i h c;let ⟨f,e,a,g⟩:=Ac c
 have:=BH d b f e a;grind
theorem XR(q:w<=s.size)(a:pG s l w2 w=.ok (xe,v)):w+1<=v/\v<=s.size:=by
 unfold pG at a;split at a
 ·rename_i x
  have k0:=Dw q (by rw[x.1];decide);let ⟨t,m,b,a⟩:=Ac a
  let ⟨n,d,g,b⟩:=Ac b
  have j:=IQ (AC s w) k0.2 n d g;let ⟨o,e,h,b⟩:=Ac b
  have k:=B7 d j.2 o e h;let ⟨p,f,i,b⟩:=Ac b
  have r:=Aj (by decide) e k.2 p f i;grind
 ·let ⟨t,m,b,a⟩:=Ac a
  have k0:=Aj (by decide) w q t m b;let ⟨E,D,c,a⟩:=Ac a
  let ⟨n,d,g,c⟩:=Ac c
  have j:=IQ m k0.2 n d g;let ⟨o,e,h,c⟩:=Ac c
  have k:=BU d j.2 o e h;let ⟨p,f,i,c⟩:=Ac c
  have r:=Dq s 30 e k.2 p f i;let ⟨z,y,u,c⟩:=Ac c
  have B:=Aj (by decide) f r.2 z y u;grind
theorem PS.drew(a:PS n w v s b m d):PS n.drew w v s b m d:=a.dT rfl rfl
theorem PB.drew(a:PB n p w o):PB n p.drew w o:=⟨a.s,⟨a.b.os,a.b.tape,a.b.output,a.b.size,a.b.block⟩,a.e⟩
theorem Ii(a:EF w n.drew p):EF w n p:=⟨a.os,a.tape,a.output,a.size,a.block⟩
def Yp(j:Nat)(l:Nat->Addr)(d:Q)(k:Pr (ByteArray×List IT×List ((ByteArray×Nat)×Av×Ex)))(h:Ending)(e:Q):Prop:=EF j d e/\match k with
 |P (c,a)=>∃b n o p m q r,h=F (R #[T #[S b,W n o p,W m q r],Ll l (Dm c) a])
 |.ok ((b,im,df),_)=>∃i g f,h=F (R #[T #[S b,i,g],.nilIface])/\Jl e d.heap.size i im/\Ie e d.heap.size g f/\f.map GZ=df
theorem PU{B w:Q}{k ah:Nat}(bm:s.size<=2000)(bN:EO B k ah o s)(bi:PB B w k o)(ai:PS w k ah s b (W none 0 0) 0)(bQ:b<=s.size):
 Adg Acs 27 #[J (some ⟨k,0,none⟩)] w λh aD=>Yp k o w (DP s b) h aD:=by
 have bO:=ai.lt;have cf:=ai.el;obtain⟨p,L⟩:∃p,p=w.alloc (.cells #[S ⟨#[]⟩,W none 0 0,W none 0 0] 72):=⟨_,rfl⟩;obtain⟨ay,bn⟩:∃ay,ay=p.alloc (.cells #[S ⟨#[]⟩,W none 0 0,W none 0 0] 72):=⟨_,rfl⟩;have bo:p.heap.size=w.heap.size+1:=by rw[L];simp
 have b6:ay.heap.size=w.heap.size+2:=by simp_all
 have az:Hid (Below w.heap.size w p):=by rw[L];exact bA
 have aG:Hid (Below p.heap.size p ay):=by rw[bn];exact bA
 have au:Hid (V3 p w.heap.size (S ⟨#[]⟩) (W none 0 0) (W none 0 0)):=by rw[L];exact⟨by simp,by simp,by simp,λbU=>by simp⟩
 have aK:Hid (V3 ay (w.heap.size+1) (S ⟨#[]⟩) (W none 0 0) (W none 0 0)):=by rw[bn,<-bo];exact⟨by simp,by simp,by simp,λbU=>by simp⟩
 have a0:=hid (bi.ef (EF.cI az.out));have aQ:=hid (Oi Ax Y7 (w.heap.size+2) b6 ((bi.ef (EF.cI az.out)).ef (EF.cI aG.out)) ((ai.below az.out).below aG.out) bQ (by decide));have aI:Hid (EF k p ay):=EF.cI aG.out;have ar:Hid (EF k w p):=EF.cI az.out;have a5:=Aej bO;have O:Hid (w.heap.size+1≠k):=by show _≠_;omega
 subst bn;have bW:=Fy;have bw:=hid bo;clear bi ai b6 bo;match D:BA s [Ax,Y7] b with
 |P (c,a)=>
  have U:Hid (DP s b=P (c,a)):=by show pb _ _=_;rw[D,AG]
  have aL:=hid D;clear D;subst L;go_enter Tryz.func27,Tryz.ntmps27;go_wp2_with (first
   |(go_at_call 55;refine aQ.out.mono ?_;rintro h aX e;obtain⟨rfl,G⟩:=e.cQ aL.out;have N:=hid (aI.out.trans G);have t:=hid (au.out.ef N.out a5);obtain⟨aR,aS,aT,f⟩:=id t.out;have aU:=f 0;have aV:=f 1;have aW:=f 2;obtain⟨a8,a9,aB,M⟩:=aK.out.ef G O.out;clear e G f M))
  obtain⟨ab,ac,ad,-⟩:=t.out.put (S ⟨#[]⟩) (W none 0 0) (W none 0 0);refine Adc (v:=R #[T #[S ⟨#[]⟩,W none 0 0,W none 0 0],Z 107 (KQ o (Dm c) a)]) (by simp[results,Tryz.results27,go_sem,ab,ac,ad]) rfl ?_;exact⟨Hr (ar.out.trans N.out) (Acu _),by rw[U.out];exact⟨_,_,_,_,_,_,_,rfl⟩⟩
 |.ok ((),q1)=>
  have aL:=hid D;match aj:Cq s [] q1 with
  |P (c,a)=>
   have U:Hid (DP s b=P (c,a)):=by show pb _ _=_;rw[D,Ai,aj,AG]
   have bb:=hid aj;clear D aj;subst L;go_enter Tryz.func27,Tryz.ntmps27;go_wp2_with (first
    |(go_at_call 55;refine aQ.out.mono ?_;rintro h aX e;obtain⟨rfl,G,a7⟩:=e.isOk aL.out;obtain⟨bl,a6⟩:=a7 (by decide);have N:=hid (aI.out.trans G);have aO:=hid (aK.out.ef G O.out);have aM:=hid a6;have aH:=hid (a0.out.ef N.out);clear e G a6 a7)
    |(go_at_call 56;refine(C0 [] bm (by simp) aH.out aM.out bl (⟨none,0,rfl,λai=>absurd rfl ai⟩:B0 aX (W none 0 0) [])).mono ?_;rintro h aE e;obtain⟨rfl,an⟩:=e.cQ bb.out;have aq:=hid (N.out.trans an);have t:=hid ((au.out.ef aq.out a5).cJ ((Acv _ _).alloc (Acu _) (Adi #[S ⟨#[]⟩,V C 0] 115)));obtain⟨aR,aS,aT,f⟩:=id t.out;have aU:=f 0;have aV:=f 1;have aW:=f 2;obtain⟨a8,a9,aB,M⟩:=(aO.out.ef an O.out).cJ ((Acv _ _).alloc (Acu _) (Adi #[S ⟨#[]⟩,V C 0] 115));clear e an f M))
   obtain⟨ab,ac,ad,-⟩:=t.out.put (S ⟨#[]⟩) (W none 0 0) (W none 0 0);refine Adc (v:=R #[T #[S ⟨#[]⟩,W none 0 0,W none 0 0],Z 107 (KQ o (Dm c) a)]) (by simp[results,Tryz.results27,go_sem,ab,ac,ad]) rfl ?_;exact⟨Hr (ar.out.trans (aq.out.trans (EF.cI bA))) (Acu _),by rw[U.out];exact⟨_,_,_,_,_,_,_,rfl⟩⟩
  |.ok (x,q2)=>
   have bb:=hid aj;have U:Hid (DP s b=pb (KW s (s.size+1) [] [] [] q2) λK H=>.ok ((x.1,K.1,K.2),H)):=by show pb _ _=_;rw[D,Ai,aj,Ai]
   clear D aj;subst L;go_enter Tryz.func27,Tryz.ntmps27;go_wp2_with (first
    |(go_at_call 55;refine aQ.out.mono ?_;rintro h aX e;obtain⟨rfl,G,a7⟩:=e.isOk aL.out;obtain⟨bl,a6⟩:=a7 (by decide);have N:=hid (aI.out.trans G);have aO:=hid (aK.out.ef G O.out);have aM:=hid a6;have aH:=hid (a0.out.ef N.out);clear e G a6 a7)
    |(go_at_call 56;refine(C0 [] bm (by simp) aH.out aM.out bl (⟨none,0,rfl,λai=>absurd rfl ai⟩:B0 aX (W none 0 0) [])).mono ?_;rintro h aE e;obtain⟨v,rfl,an,rfl,bR,b3⟩:=e.isOk bb.out;have aq:=hid ((N.out.trans an).trans (EF.cI ((Acv _ _).alloc (Acu _) (Adi #[S x.1,V C (x.2:Int)] 115))));have aP:=hid ((aO.out.ef an O.out).cJ ((Acv _ _).alloc (Acu _) (Adi #[S x.1,V C (x.2:Int)] 115)));obtain⟨a8,a9,aB,M⟩:=id aP.out;have co:=M 0;have bx:Hid (PS (aE.alloc (Adi #[S x.1,V C (x.2:Int)] 115)) k ah s q2 (W none 0 0) 0):=b3.below bA;clear e an b3 M))
   obtain⟨ag,bj⟩:∃ag,w.heap.size+1=ag:=⟨_,rfl⟩;obtain⟨p,L⟩:∃p,p=w.alloc (.cells #[S ⟨#[]⟩,W none 0 0,W none 0 0] 72):=⟨_,rfl⟩;rw[<-L]at aq au ar a0 bw;rw[bj]at aP O;have bt:Hid (BN k ah s p ((aE.alloc (Adi #[S x.1,V C (x.2:Int)] 115)).setCell ⟨ag,0,none⟩ (S x.1)) ag (S x.1) [] [] [] q2 (W none 0 0) (W none 0 0) (W none 0 0)):=by
    have cj:=bw.out;exact⟨bR,bx.out.dc O.out (by omega),aP.out.eg _,AZ.nil _ _,AZ.nil _ _,AZ.nil _ _,λr h=>(by cases h),λr h=>(by cases h),λr h=>(by cases h),EJ aq.out (by omega),by omega,by omega,by omega⟩
   rw[bj];clear bx aP aQ N aO aM aH aK aI aG az aq;go_loopw [] (λwr=>∃(j:Av) (q:List IT) (l:List DT) (n:Nat) (a2 bp bg:X),Hid (j.length<=n/\q.length+l.length=j.length)/\Hid (DP s b=pb (KW s (s.size+1-j.length) j q (l.map GZ) n) λK H=>.ok ((x.1,K.1,K.2),H))/\Hid (BN k ah s p wr ag (S x.1) j q l n a2 bp bg)) (λwr=>s.size+1-Cx wr ⟨k,1,none⟩)
   case atStart=>exact⟨[],[],[],q2,_,_,_,⟨Ac0 _,rfl⟩,U.out,bt.out⟩
   case round=>
    clear bt U;obtain⟨j,q,l,n,a2,bp,bg,a1,U,z⟩:=hrel;rename Q=>wr
    have al:=z.out.hq;have ba:=hid (A1 z.out.ps al);have cd:=Ac5 a1.out.1 al;by_cases ap:Ag s n=Ax
    ·have bD:=FC IU ap;have aZ:Hid (Ag s n≠⟨#[]⟩):=by show _≠_;rw[ap];decide
     have bk:=AK al;have ch:=(Dw al aZ.out).1;have bz:Hid (DP s b=pb (pG s j (decide (l.length=0)) (AC s n)) λbr H=>pb (GJ (KW s (s.size-j.length)) j q (l.map GZ) br H) λK bq=>.ok ((x.1,K.1,K.2),bq)):=by
      show _=_;rw[U.out,show s.size+1-j.length=(s.size-j.length)+1 by omega,KW,if_pos ap,Adf,UY]
     have bv:=hid (λaE (aj:BN k ah s p aE ag (S x.1) j q l (AC s n) a2 bp bg)=>Np bm bN (by omega) (by have:=a1.out.2;omega) (by have:=a1.out.2;omega) a0.out aj);clear ap bj L;match hg:pG s j (decide (l.length=0)) (AC s n) with
     |P (c,a)=>
      have aN:Hid (DP s b=P (c,a)):=by show _=_;rw[bz.out,hg,AG]
      have be:=hid hg;clear hg;go_wp2_with (first
       |(go_at_call 57;refine ba.out.mono ?_;rintro h I ⟨rfl,ak⟩;have ae:=hid ak;clear ak)
       |(go_at_call 58;refine(Bv (z.out.ps.below ae.out) al).mono ?_;rintro h bV ⟨rfl,a3,a4⟩;have aY:=hid (z.out.move ((EF.cI (E:=k) ae.out).trans a3) bk (a4 aZ.out));clear a3 a4)
       |(go_at_call 59;refine(bv.out _ aY.out).mono ?_;intro h ax e;obtain⟨rfl,y,aa,b7,b8,Y,b9,bB,bP⟩:=e.cQ be.out;have af:=hid y;have t:=hid (au.out.ef y a5);obtain⟨aR,aS,aT,f⟩:=id t.out;have aU:=f 0;have aV:=f 1;have aW:=f 2;obtain⟨a8,a9,aB,M⟩:=bP;clear e y f M))
      obtain⟨ab,ac,ad,-⟩:=t.out.put (S x.1) (W aa b7 b8) (W Y b9 bB);refine Adc (v:=R #[T #[S x.1,W aa b7 b8,W Y b9 bB],Z 107 (KQ o (Dm c) a)]) (by simp[results,Tryz.results27,go_sem,ab,ac,ad]) rfl ?_;exact⟨Hr (ar.out.trans af.out) (Acu _),by rw[aN.out];exact⟨_,_,_,_,_,_,_,rfl⟩⟩
     |.ok (br,H)=>
      have be:=hid hg;have ci:n+1<=H:=by
       have:=XR bk hg;omega
      have bC:Hid (DP s b=pb (GJ (KW s (s.size-j.length)) j q (l.map GZ) br H) λK bq=>.ok ((x.1,K.1,K.2),bq)):=by show _=_;rw[bz.out,hg,Ai]
      clear hg;go_wp2_with (first
       |(go_at_call 57;refine ba.out.mono ?_;rintro h I ⟨rfl,ak⟩;have ae:=hid ak;clear ak)
       |(go_at_call 58;refine(Bv (z.out.ps.below ae.out) al).mono ?_;rintro h bV ⟨rfl,a3,a4⟩;have aY:=hid (z.out.move ((EF.cI (E:=k) ae.out).trans a3) bk (a4 aZ.out));clear a3 a4)
       |(go_at_call 59;refine(bv.out _ aY.out).mono ?_;intro h ax e;obtain⟨rfl,bs,bS,bE,bM,bT,bG,b1,b5,b4⟩:=e.isOk be.out;have am:=hid b1;have aJ:=hid b5;have bu:=hid b4;clear e b1 b5 b4))
      refine⟨⟨bs,bS,bE,H,bM,bT,bG,⟨?_,?_⟩,?_,am⟩,?_⟩
      ·rw[aJ.out];have:=a1.out.1;omega
      ·rw[aJ.out,(bu.out 0).2,a1.out.2]
      ·show _=_;rw[bC.out,(bu.out _).1,aJ.out,show s.size+1-(j.length+1)=s.size-j.length by omega]
      ·obtain⟨bZ,bX,rfl⟩:=am.out.g.slice;obtain⟨ca,bY,rfl⟩:=z.out.g.slice;have bH:Cx ax ⟨k,1,none⟩=bs.length:=by unfold Cx;rw[am.out.ps.c1];rfl
       have bI:Cx wr ⟨k,1,none⟩=j.length:=by unfold Cx;rw[z.out.ps.c1];rfl
       rw[bH,bI,aJ.out];omega
    ·have bD:=Fz IU ap;have aN:Hid (DP s b=pb (BA s [Ae,⟨#[]⟩] n) λ_ H=>.ok ((x.1,q,l.map GZ),H)):=by
      show _=_;rw[U.out,show s.size+1-j.length=(s.size-j.length)+1 by omega,KW,if_neg ap,UY];rfl
     obtain⟨aa,aw,rfl⟩:=z.out.i.slice;obtain⟨Y,av,rfl⟩:=z.out.d.slice;clear ap L;go_upto_region 14 with(first
      |(go_at_call 57;refine ba.out.mono ?_;rintro h I ⟨rfl,ak⟩;have ae:=hid ak;clear ak))
     have u:Hid (BN k ah s p I ag (S x.1) j q l n a2 (W aa q.length aw) (W Y l.length av)):=z.out.move (EF.cI ae.out) al (z.out.ps.below ae.out);obtain⟨a8,a9,aB,M⟩:=id u.out.m;have cl:=λaC=>alloc_old I aC _ _ _ a8;have cm:=λaC=>alloc_old I aC _ _ _ a9;have cn:=λaC=>alloc_old I aC _ _ _ aB;clear M;have b0:Hid (Adg Acs 55 #[J (some ⟨k,0,none⟩),W (some ⟨I.heap.size,0,none⟩) 2 2] (I.alloc (Adi #[S ⟨#[41]⟩,S ⟨#[]⟩] 9)).drew λh aD=>Mu (BA s [Ae,⟨#[]⟩] n) k I.drew o (λn aD=>(⟨#[]⟩:ByteArray)≠⟨#[]⟩->n<=s.size/\PS aD k ah s n a2 0) h aD):=Oi (w:=I.drew) Ae ⟨#[]⟩ I.heap.size rfl (a0.out.ef u.out.ef).drew u.out.ps.drew al (by decide);match h5:BA s [Ae,⟨#[]⟩] n with
     |P (c,a)=>
      have bf:Hid (DP s b=P (c,a)):=by show _=_;rw[aN.out,h5,AG]
      have bc:=hid h5;clear h5;go_region_with ((go_at_call 55;refine b0.out.mono ?_;rintro h ax e;obtain⟨rfl,y⟩:=e.cQ bc.out;have af:=hid (Ii y);have am:=hid (V3.ef u.out.m (Ii y) O.out);obtain⟨bJ,bK,bL,bh⟩:=id am.out;have t:=hid (au.out.ef (u.out.ef.trans (Ii y)) a5);obtain⟨aR,aS,aT,f⟩:=id t.out;have aU:=f 0;have aV:=f 1;have aW:=f 2;clear e y f bh))
      all_goals(try go_wp2)
      all_goals
       obtain⟨ab,ac,ad,-⟩:=t.out.put (S x.1) (W aa q.length aw) (W Y l.length av);refine Adc (v:=R #[T #[S x.1,W aa q.length aw,W Y l.length av],Z 107 (KQ o (Dm c) a)]) (by simp[results,Tryz.results27,go_sem,ab,ac,ad]) rfl ?_;exact⟨Hr (ar.out.trans (u.out.ef.trans af.out)) (Acu _),by rw[bf.out];exact⟨_,_,_,_,_,_,_,rfl⟩⟩
     |.ok ((),q5)=>
      have bf:Hid (DP s b=.ok ((x.1,q,l.map GZ),q5)):=by show _=_;rw[aN.out,h5,Ai]
      have bc:=hid h5;clear h5;go_region_with ((go_at_call 55;refine b0.out.mono ?_;rintro h ax e;obtain⟨rfl,y,-⟩:=e.isOk bc.out;have af:=hid (Ii y);have am:=hid (V3.ef u.out.m (Ii y) O.out);obtain⟨bJ,bK,bL,bh⟩:=id am.out;have t:=hid (au.out.ef (u.out.ef.trans (Ii y)) a5);obtain⟨aR,aS,aT,f⟩:=id t.out;have aU:=f 0;have aV:=f 1;have aW:=f 2;clear e y f bh))
      all_goals(try go_wp2)
      all_goals
       obtain⟨ab,ac,ad,-⟩:=t.out.put (S x.1) (W aa q.length aw) (W Y l.length av);refine Adc (v:=R #[T #[S x.1,W aa q.length aw,W Y l.length av],.nilIface]) (by simp[results,Tryz.results27,go_sem,ab,ac,ad]) rfl ?_;refine⟨Hr (ar.out.trans (u.out.ef.trans af.out)) (Acu _),?_⟩;rw[bf.out];have ce:w.heap.size<ag:=by omega
       have ck:=af.out.size;have b2:∀r,r≠w.heap.size->(((ax.setCell ⟨w.heap.size,0,none⟩ (S x.1)).setCell ⟨w.heap.size,1,none⟩ (W aa q.length aw)).setCell ⟨w.heap.size,2,none⟩ (W Y l.length av)).heap[r]?=ax.heap[r]?:=λr ao=>by rw[Ac4 _ _ _ _ ao,Ac4 _ _ _ _ ao,Ac4 _ _ _ _ ao]
       refine⟨_,_,l,rfl,?_,?_,rfl⟩
       ·refine(u.out.i.fr Ky (by simp;omega) λr ao=>?_).low (by omega);have D:=u.out.i.rg r ao;rw[b2 r (by omega),af.out.block r D.2 (by omega)]
       ·refine(u.out.d.fr B5 (by simp;omega) λr ao=>?_).low (by omega);have D:=u.out.d.rg r ao;rw[b2 r (by omega),af.out.block r D.2 (by omega)]
def J4(g:Q)(f:X)(es:List (Ad5×X)):Prop:=∃d e,f=W d es.length e/\(es≠[]->∃b c,d=some ⟨b,c,none⟩/\∀a (h:a<es.length),g.cell? ⟨b,c+a,none⟩=some (.iface es[a].1 es[a].2))
theorem J4.cJ{w:Q}(c:J4 w m vb)(d:Below w.heap.size w n):J4 n m vb:=by
 obtain⟨j,a,rfl,e⟩:=c;refine⟨j,a,rfl,λg=>?_⟩;obtain⟨b,o,rfl,h⟩:=e g;exact⟨b,o,rfl,λi f=>Aa d (h i f)⟩
def FE(a:X×X):List X:=[a.1,a.2]
abbrev JN(d:Q)(b:Nat)(c:X)(a:List (X×X)):Prop:=AZ FE (λ_=>[]) (λ_ _=>True) 163 2 d b c a
theorem Y2:FI (α:=X×X) (λ_=>[]) (λ_ _=>True):=λ_ _ _ _ _ _=>trivial
theorem Tryz.eJ:(Acs.info? 163).map (λa=>(a.zero,a.size,a.bytes))=some (some (T #[.nilIface,W none 0 0]),2,40):=by kernel_rfl
def Cl(b:List (Ad5×X)):List (X×X):=b.map λa=>(Z a.1 a.2,W none 0 0)
structure JZ (c:List (Ad5×X)) (b wr:Q) (a:Nat) (e:Option Addr) (d:Nat):Prop where
 le:a<=c.length
 row:JN wr b.heap.size (W e a d) (Cl (c.take a))
 low:Below b.heap.size b wr
theorem JZ.next{wr w2:Q}{ob:Obj}(b:JZ vb n wr w L v)(i:w<vb.length)(d:(wr.alloc ob).grownBy w2 (W L w v).ownBlock){a c:Nat}(g:(W L w v).ownBlock=some a\/a=(wr.alloc ob).heap.size)(k:a<w2.heap.size)(l:w2.ownsRow 0 163 2 (W (some ⟨a,0,none⟩) (w+1) c) (w+1) ((Cl (vb.take w)).flatMap FE++[.iface vb[w].1 vb[w].2,W none 0 0])):JZ vb n w2 (w+1) (some ⟨a,0,none⟩) c:=by
 have e:=b.low.size;have j:(Cl (vb.take w)).length=w:=by unfold Cl;grind
 have m:Cl (vb.take (w+1))=Cl (vb.take w)++[(.iface vb[w].1 vb[w].2,W none 0 0)]:=by
  unfold Cl;rw[Ade i,Adq];rfl
 refine⟨by omega,?_,Em b.low e (λf h=>(b.row.rg f (Acw _ (Ah.2 h))).1) d⟩;have:=b.row.dR Y2 e trivial d g k (x:=(.iface vb[w].1 vb[w].2,W none 0 0)) (by rw[j];exact l);grind
theorem F3(b:List (Ad5×X))(x:X)(c:Q)(L:J4 c x b)(aj:b.length<=100000):Adg Acs 287 #[x] c λi z=>Below c.heap.size c z/\∃y,i=F y/\JN z c.heap.size y (Cl b):=by
 obtain⟨am,ac,rfl,n⟩:=L;have B:=hid n;obtain⟨aa,U,q⟩:=Adb.1 Tryz.eJ;simp only[Aeb]at q;obtain⟨M,N,O⟩:=q;have G:Hid (JZ b c c 0 none 0):=⟨Ac0 _,AZ.nil _ _,Acv _ _⟩;clear n;go_enter Tryz.func287,Tryz.ntmps287;go_wp2;go_loopw [3,8] (λab g wr=>∃(a:Nat) (f:Option Addr) (e:Nat),a<=b.length/\ab=W f a e/\g=V C (a:Int)/\Hid (JZ b c wr a f e)) (λ_ g _=>b.length-(intOf g).toNat)
 case atStart=>grind
 case round=>
  clear G;obtain⟨a,f,e,ai,rfl,rfl,d⟩:=hrel;rename Q=>wr
  by_cases r:a<b.length
  ·have af:(0:Int)<=(a:Int):=by omega
   have ag:(a:Int)<(b.length:Int):=by omega
   have Y:b≠[]:=λi=>by grind
   obtain⟨ad,al,rfl,w⟩:=B.out Y;have K:=Aa d.out.low (w a r);have h:=hid (λw2 ob=>d.out.next (w2:=w2) (ob:=ob) r);have m:(Cl (b.take a)).length=a:=by unfold Cl;grind
   have E:Hid (wr.ownsRow 0 163 2 (W f a e) a ((Cl (b.take a)).flatMap FE)):=by
    have:=d.out.row.own;rw[m]at this;exact this
   obtain⟨j,k,o⟩:∃H I,b[a]=(H,I):=⟨_,_,rfl⟩;rw[o]at K h;clear w o m;generalize (Cl (b.take a)).flatMap FE=XS at*;go_wp2_with (first
    |(at_builtin;refine Adl _ rfl (.tmp 12) (.tmp 15) 261 rfl 0 163 aa _ 2 40 Tryz.underlying261 U M N O rfl (by omega) (W f a e) a XS rfl (E.out.alloc _) ⟨wr.heap.size,0,none⟩ 1 1 [Z j k,W none 0 0] rfl rfl (by simpa using Adu (Adp wr (Adi #[Z j k,W none 0 0] 163))) (by intro an v;simp at v;rcases v with rfl|rfl<;>rfl) (by omega) (by unfold Aed;omega) (by omega) (Ac0 _) _ rfl ?_;intro ae ak ao t p l s;have D:=hid (h.out _ _ p l s t);clear t p l s))
   exact⟨⟨a+1,_,_,by omega,rfl,by go_num,D.out⟩,by simp[intOf];omega⟩
  ·obtain rfl:a=b.length:=by omega
   have ah:¬(b.length:Int)<(b.length:Int):=by omega
   go_wp2;go_ret;have u:=d.out.row;rw[Ad9]at u;exact⟨d.out.low,_,rfl,u⟩
structure Do (a:Cc) (c d:Nat) (g:List X) (b:KS->KS) (f:Nat):Prop where
 call:∀{B w st wr},At a B w st wr->st.z<=c->Adg Acs d (List.toArray (J (some ⟨a.K,0,none⟩)::g)) wr λe w'=>e=F (R #[])/\At a B w (b st) w'
 z:∀st,(b st).z<=st.z+f
theorem Gx{c:Cc}(e:Ok c)(a:Nat)(b:Int)(f:a<21):Do c 8000000000 109 [V C (a:Int),V C b] (AE a b) 1:=⟨λd g=>Xw e a b f d (by omega),λ_=>Acu _⟩
theorem At.box{wr:Q}(g:At e t n r wr)(c:Obj):∃a,At e a (wr.alloc c) r (wr.alloc c)/\(∀b∈a,(e.lo<=b/\b<wr.heap.size)/\(b∈t\/n.heap.size<=b))/\∀d f,At e a (wr.alloc c) d f->At e t n d f:=by
 obtain⟨a,-,h,i,j⟩:=g.re ((Acv _ wr).alloc .refl c);grind
theorem ZV(d:Ok e)(b:Int):Do e 8000000000 108 [V C b] (EV b) 1:=by
 refine⟨λa f=>?_,λ_=>Acu _⟩;obtain⟨g,m,k0,h,i,j,l,-⟩:=a.k;go_enter Tryz.func108,Tryz.ntmps108;go_wp2_with (refine((Gx d 5 _ (by omega)).call a f).mono ?_;rintro _ n ⟨rfl,c⟩)
 exact bF ⟨rfl,c⟩ (by simp) rfl rfl
theorem At.len{wr:Q}(a:At e t n r wr):r.loc.length<=r.z:=by obtain⟨c,⟨d,i,f,h,g,j,b⟩,-⟩:=a.cm;exact b.z.2.1
theorem Td(a:n.ownsRow 0 M w (W L v b) v wb)(f:d<=v):n.ownsRow 0 M w (W L d b) d (wb.take (d*w)):=by
 have p:d*w<=v*w:=Aaa _ f;refine⟨by rw[Aa0,a.1];omega,?_⟩;rcases a.2 with⟨c,e⟩|⟨i,g,h,c,e,j,k,l,m,o⟩
 ·grind
 grind
theorem Ja{e:Type}(c:e->List X)(d:∀b,(c b).length=2):∀(a:List e) m,(a.flatMap c).take (m*2)=(a.take m).flatMap c
 |[],m=>by simp
 |b::a,0=>rfl
 |b::a,m+1=>by
  rw[Adh,List.take_succ_cons,Adh,<-Ja c d a m,List.take_append,d b,show(m+1)*2-2=m*2 by omega,Aav (by rw[d b];omega)]
theorem At.e5{wr:Q}(i:At e t n r wr):∃c b,r.loc.length<=b/\wr.cell? ⟨e.K,4,none⟩=some (W c r.loc.length b)/\wr.frozen? ⟨e.K,4,none⟩=false/\∀d,d<=r.loc.length->At e t n {r with loc:=r.loc.take d} (wr.setCell ⟨e.K,4,none⟩ (W c d b)):=by
 let ⟨B,⟨m,x,g,w,v,y,a⟩,p⟩:=i.cm
 have j:=a.s.mem (A:=lA w r.loc) (by simp);obtain⟨c,b,rfl⟩:=Ad j;refine⟨c,b,?_,a.k.c4,a.k.f 4,λd o=>?_⟩
 ·rcases j.2 with⟨h,H⟩|⟨G,D,E,h,-,-,I,-⟩
  ·omega
  grind
 have l:=a.s.dv.set (L1:=[]) (A':=kA e g r.AB (W c d b)) rfl rfl (a.k.set 4 (W c d b));have q:=Td (l.mem (A:=lA (W c r.loc.length b) r.loc) (by simp)) o;rw[Ja F2 (λ_=>rfl)]at q;have h:(r.loc.take d).length=d:=by grind
 exact i.turn a p m x g (W c d b) v y (l.same (L1:=[_,_]) (by cases c<;>rfl) (by grind)) a.hc a.ht (λL u=>.inl u) (by have:=a.z;unfold X7 at*;simp;omega)
theorem Ps{c:Cc}(q:Ok c)(b:Nat):∀{d g a wr},At c d g a wr->b<=a.loc.length->a.z<=8000000000->Adg Acs 139 #[J (some ⟨c.K,0,none⟩),V C (b:Int)] wr λe u=>e=F (R #[])/\At c d g (AW b a) u:=by
 intro d g a wr f r m;let ⟨E,D,x,t,B,k⟩:=f.e5
 have p:=f.len;have i:=hid ((k _ (Nat.sub_le a.loc.length b)).cJ (Acv _ _).drew);have h:Hid (AW b a=if 0<b then AE 4 (b:Int) {a with loc:=a.loc.take (a.loc.length-b)} else {a with loc:=a.loc.take (a.loc.length-b)}):=rfl;have y:=t;have o:Hid (({a with loc:=a.loc.take (a.loc.length-b)}:KS).z<=8000000000):=m;generalize a.loc.length=j at*;have v:(b:Int)<=(j:Int):=by omega
 have w:j<=8000000000:=by omega
 clear f k r m p;go_enter Tryz.func139,Tryz.ntmps139;go_upto_region 0 with(fail)
 go_region
 by_cases l:0<b
 ·have s:(0:Int)<(b:Int):=by omega
  have e:=h.out.trans (if_pos l);go_wp2_with (go_at_call 109;refine((Gx q 4 b (by omega)).call i.out o.out).mono ?_;rintro _ G ⟨rfl,n⟩)
  exact bF ⟨rfl,by rw[e];exact n⟩ (by simp) rfl rfl
 ·have s:¬(0:Int)<(b:Int):=by omega
  go_wp2;exact bF ⟨rfl,by rw[h.out.trans (if_neg l)];exact i.out⟩ (by simp) rfl rfl
abbrev OO:=Option (Nat×Nat)
def IA(c:OO)(b a:Nat):OO:=match c with|none=>some (b,a)|some (k',a')=>if a<a' then some (b,a) else some (k',a')
def H6(a:Nat->Addr):OO->X
 |none=>.nilIface
 |some (k,_)=>Z 366 (J (some (a k)))
def Il:OO->Int
 |none=>0
 |some (_,a)=>(a:Int)
structure LS (b:Q) (a:Nat) (e:X) (d:Nat->Addr) (c:OO):Prop where
 c0:b.cell? ⟨a,0,none⟩=some e
 c1:b.cell? ⟨a,1,none⟩=some (H6 d c)
 c2:b.cell? ⟨a,2,none⟩=some (V C (Il c))
 f:∀j,b.frozen? ⟨a,j,none⟩=false
variable{nt:OO}
theorem LS.lt(a:LS n w m o nt):w<n.heap.size:=Adt a.c0
theorem LS.cK(b:LS n w m o nt)(e:p.heap[w]?=n.heap[w]?):LS p w m o nt:=by
 have c:=λd=>Ac1 (a:=⟨w,d,none⟩) e;exact⟨by rw[c];exact b.c0,by rw[c];exact b.c1,by rw[c];exact b.c2,λd=>by rw[Adm e];exact b.f d⟩
theorem LS.below(a:LS n w m o nt)(b:Below n.heap.size n p):LS p w m o nt:=a.cK (b.block w a.lt)
theorem LS.put(b:LS n w m o nt)(c a:Nat):LS ((n.setCell ⟨w,1,none⟩ (Z 366 (J (some (o c))))).setCell ⟨w,2,none⟩ (V C (a:Int))) w m o (some (c,a)):=by
 refine⟨?_,?_,Ac6 _ _ _ (by rw[Acy _ _ _ _ (Au (by omega))];exact b.c2),λd=>by rw[Ac3,Ac3];exact b.f d⟩
 ·rw[Acy _ _ _ _ (Au (by omega)),Acy _ _ _ _ (Au (by omega))];exact b.c0
 ·rw[Acy _ _ _ _ (Au (by omega))];exact Ac6 _ _ _ b.c1
theorem NA(b a:Nat)(i:LS n w m o nt):
 Adg Acs 96 #[J (some ⟨w,0,none⟩),Z 366 (J (some (o b))),V C (a:Int)] n λk j=>k=F (R #[])/\EF w n j/\LS j w m o (IA nt b a):=by
 have c:=hid i;obtain⟨p,g,h,f⟩:=i;have q:=f 1;have r:=f 2;clear f;match nt,c with
 |none,c=>
  simp only[H6,Il]at g h;go_enter Tryz.func96,Tryz.ntmps96;go_wp2;refine bE ?_;exact⟨rfl,((EF.refl _ _).set _).set _,c.out.put b a⟩
 |some (k',d),c=>
  simp only[H6,Il]at g h;by_cases s:a<d
  ·have l:(a:Int)<(d:Int):=by omega
   have e:Hid (IA (some (k',d)) b a=some (b,a)):=by show _=_;unfold IA;grind
   go_enter Tryz.func96,Tryz.ntmps96;go_wp2;refine bE ?_;exact⟨rfl,((EF.refl _ _).set _).set _,by rw[e.out];exact c.out.put b a⟩
  ·have l:¬(a:Int)<(d:Int):=by omega
   have e:Hid (IA (some (k',d)) b a=some (k',d)):=by show _=_;unfold IA;grind
   go_enter Tryz.func96,Tryz.ntmps96;go_wp2;refine bE ?_;exact⟨rfl,EF.refl _ _,by rw[e.out];exact c.out⟩
def Ca(a:Q)(e:List (X×X))(d:Ending)(c:Q):Prop:=Below a.heap.size a c/\∃b,d=F b/\JN c a.heap.size b e
theorem Ca.dw(b:Ca p n7 ns h)(a:Below n.heap.size n p):Ca n n7 ns h:=by
 let ⟨c,f,d,e⟩:=b
 exact⟨a.trans (c.mono a.size),f,d,e.low a.size⟩
theorem Ca.one(a:Ca n n7 ns p):∃b,ns=F b:=⟨_,a.2.choose_spec.1⟩
theorem Ca.slice{g h:Q}{b:List (X×X)}{e:Ending}(d:Ca g b e h):∃c a,e=F (W c b.length a):=by
 let ⟨i,k,j,f⟩:=d
 obtain⟨c,a,rfl⟩:=f.slice;grind
theorem MH(c:Int)(a:Q):Adg Acs 291 #[T #[V C c]] a λb d=>Ca a [] b d:=by
 go_wp2;go_ret;exact⟨bA,_,rfl,AZ.nil _ _⟩
theorem DF(d:ByteArray)(c:Int)(a:Q):Adg Acs 271 #[T #[S d,V C c]] a λb e=>Ca a [] b e:=by
 go_wp2;go_ret;exact⟨bA,_,rfl,AZ.nil _ _⟩
theorem Mo(k:Int)(e:X)(b:List (Ad5×X))(a:Q)(f:J4 a e b)(j:b.length<=100000):Adg Acs 292 #[T #[V C k,e]] a λd l=>Ca a (Cl b) d l:=by
 obtain⟨n,m,rfl,-⟩:=id f;have h:=hid (λg=>(F3 b _ (a.alloc g) (f.cJ bA) j).mono λ_ _ c=>Ca.dw c ((Acv a.heap.size a).alloc .refl g));go_enter Tryz.func292,Tryz.ntmps292;go_wp2_with (first
  |(refine(h.out _).mono ?_;intro d p c;have i:=hid c;obtain⟨o,rfl⟩:=c.one))
 go_ret;exact i.out
theorem Na(l:Int)(a b:Ad5×X)(c:Q):Adg Acs 289 #[T #[V C l,Z a.1 a.2,Z b.1 b.2]] c λe g=>Ca c (Cl [a,b]) e g:=by
 have j:Hid (∀i,Adg Acs 287 #[W (some ⟨c.heap.size+1,0,none⟩) 2 2] ((c.alloc i).alloc (.cells #[Z a.1 a.2,Z b.1 b.2] 117)) λe g=>Ca c (Cl [a,b]) e g):=by
  intro i;refine(F3 [a,b] _ _ ⟨some ⟨c.heap.size+1,0,none⟩,2,rfl,λ_=>⟨c.heap.size+1,0,rfl,λh f=>?_⟩⟩ (by simp)).mono λ_ _ d=>Ca.dw d (bA.alloc (by simp) _);match h,f with
  |0,_=>simp
  |1,_=>simp
  |h+2,f=>simp at f;omega
 go_enter Tryz.func289,Tryz.ntmps289;go_wp2_with (first
  |(refine(j.out _).mono ?_;intro e n d;have k:=hid d;obtain⟨m,rfl⟩:=d.one;clear d))
 go_ret;exact k.out
abbrev BV:=Int×(Option Addr×Nat×Nat)×(Ad5×X)
def Xh(a:BV):X:=W a.2.1.1 a.2.1.2.1 a.2.1.2.2
def Yk(a:BV):X:=Z a.2.2.1 a.2.2.2
def UG(e:Q)(h:X)(b:List BV):Prop:=∃f g,h=W f b.length g/\(b≠[]->∃c d,f=some ⟨c,d,none⟩/\∀a (i:a<b.length),e.cell? ⟨c,d+a*3,none⟩=some (.int C b[a].1)/\e.cell? ⟨c,d+a*3+1,none⟩=some (Xh b[a])/\e.cell? ⟨c,d+a*3+2,none⟩=some (Yk b[a]))
theorem UG.cJ{w:Q}{bs:List BV}(g:UG w m bs)(a:Below w.heap.size w n):UG n m bs:=by
 obtain⟨j,e,rfl,h⟩:=g;refine⟨j,e,rfl,λi=>?_⟩;obtain⟨f,o,rfl,c⟩:=h i;exact⟨f,o,rfl,λd b=>⟨Aa a (c d b).1,Aa a (c d b).2.1,Aa a (c d b).2.2⟩⟩
def E2(a:Ad5×X)(c:List BV):List (X×X):=(Z a.1 a.2,W none 0 0)::c.map λb=>(Yk b,Xh b)
structure Ts (a:Ad5×X) (d:List BV) (b wr:Q) (h:Nat) (e:X) (c:Nat) (g:Option Addr) (f:Nat):Prop where
 row:JN wr (b.heap.size+1) (W g (c+1) f) (E2 a (d.take c))
 low:Below (b.heap.size+1) (b.alloc (.cells #[Z a.1 a.2,e] 237)) wr
theorem Lh(b:Ad5×X)(a:List BV):(E2 b a).length=a.length+1:=by unfold E2;simp
variable{sb:List BV}
theorem Ts.next{wr X w2:Q}{ob:Obj}(e:Ts s6 sb n wr w m v L b)(l:v<sb.length)(d:Below wr.heap.size wr X)(g:(X.alloc ob).grownBy w2 (W L (v+1) b).ownBlock){a c:Nat}(j:(W L (v+1) b).ownBlock=some a\/a=(X.alloc ob).heap.size)(p:a<w2.heap.size)(q:w2.ownsRow 0 163 2 (W (some ⟨a,0,none⟩) (v+1+1) c) (v+1+1) ((E2 s6 (sb.take v)).flatMap FE++[Yk sb[v],Xh sb[v]])):Ts s6 sb n w2 w m (v+1) (some ⟨a,0,none⟩) c:=by
 have f:n.heap.size+1<=wr.heap.size:=by have:=e.low.size;simpa using this
 have o:(E2 s6 (sb.take v)).length=v+1:=by rw[Lh,Aa0];omega
 have r:E2 s6 (sb.take (v+1))=E2 s6 (sb.take v)++[(Yk sb[v],Xh sb[v])]:=by
  unfold E2;rw[Ade l,Adq];rfl
 have h:=e.row.cJ Y2 d;refine⟨?_,Em (e.low.trans (d.mono f)) (Ac5 f d.size) (λi k=>(h.rg i (Acw _ (Ah.2 k))).1) g⟩;have:=h.dR Y2 (Ac5 f d.size) trivial g j p (x:=(Yk sb[v],Xh sb[v])) (by rw[o];exact q);grind
theorem KF(a:Ad5×Value)(E:Value)(b:List BV)(c:Q)(I:UG c E b)(a3:b.length<=100000):Adg Acs 288 #[T #[Z a.1 a.2,E]] c λi y=>Ca c (E2 a b) i y:=by
 obtain⟨f,e,rfl,L⟩:=id I;have ae:=hid L;obtain⟨ar,ap,O⟩:=Adb.1 Tryz.eJ;simp only[Aeb]at O;obtain⟨am,an,ao⟩:=O;have z:Hid (Adg Acs 287 #[W (some ⟨c.heap.size+1,0,none⟩) 1 1] ((c.alloc (.cells #[Z a.1 a.2,W f b.length e] 237)).alloc (.cells #[Z a.1 a.2] 117)) λi y=>Ca (c.alloc (.cells #[Z a.1 a.2,W f b.length e] 237)) (Cl [a]) i y):=by
  refine(F3 [a] _ _ ⟨some ⟨c.heap.size+1,0,none⟩,1,rfl,λ_=>⟨c.heap.size+1,0,rfl,λac t=>?_⟩⟩ (by simp)).mono λ_ _ k=>Ca.dw k bA;match ac,t with
  |0,_=>simp
  |ac+1,t=>simp only[Aea,Ae5]at t;omega
 clear L I;go_enter Tryz.func288,Tryz.ntmps288;go_wp2_with (first
  |(go_at_call 287;refine z.out.mono ?_;intro i ax k;have B:=hid k;obtain⟨h,g,rfl⟩:=k.slice;have ad:=Aa k.1 (show(c.alloc (.cells #[Z a.1 a.2,W f b.length e] 237)).cell? ⟨c.heap.size,1,none⟩=some (W f b.length e) by simp);clear k))
 have m:(Cl [a]).length=1:=rfl;have D:Hid (Ts a b c ax c.heap.size (W f b.length e) 0 h g):=by
  obtain⟨r,a6,ak,al⟩:=B.out;cases ak;refine⟨?_,?_⟩
  ·rw[List.take_zero];have:=al;rw[show(c.alloc (.cells #[Z a.1 a.2,W f b.length e] 237)).heap.size=c.heap.size+1 by simp]at this;exact this
  ·rw[show(c.alloc (.cells #[Z a.1 a.2,W f b.length e] 237)).heap.size=c.heap.size+1 by simp]at r;exact r
 rw[m];clear m B z;go_loopw [3,13] (λau u wr=>∃(d:Nat) (h:Option Addr) (g:Nat),d<=b.length/\au=W h (d+1) g/\u=V C (d:Int)/\Hid (Ts a b c wr c.heap.size (W f b.length e) d h g)) (λ_ u _=>b.length-(intOf u).toNat)
 case atStart=>exact⟨0,h,g,Ac0 _,rfl,rfl,D.out⟩
 case round=>
  clear D ad;obtain⟨d,h,g,a2,rfl,rfl,l⟩:=hrel;rename Q=>wr
  by_cases j:d<b.length
  ·have a0:(0:Int)<=(d:Int):=by omega
   have r:(d:Int)<(b.length:Int):=by omega
   have aq:b≠[]:=λi=>by rw[i]at j;simp at j
   obtain⟨ay,a4,rfl,n⟩:=ae.out aq;have s:Below c.heap.size c wr:=((Acv c.heap.size c).alloc (Acu _) _).trans (l.out.low.mono (Afa _));have aj:=Aa s (n d j).1;have G:=Aa s (n d j).2.1;have H:=Aa s (n d j).2.2;have o:=hid (λX w2 ob=>l.out.next (X:=X) (w2:=w2) (ob:=ob) j);have m:(E2 a (b.take d)).length=d+1:=by rw[Lh,Aa0];omega
   have ag:Hid (wr.ownsRow 0 163 2 (W h (d+1) g) (d+1) ((E2 a (b.take d)).flatMap FE)):=by
    have:=l.out.row.own;rw[m]at this;exact this
   obtain⟨ai,⟨x,w,v⟩,p,q,M⟩:∃(aw:Int) (av:Option Addr×Nat×Nat) (a ah:_),b[d]=(aw,av,a,ah):=⟨_,_,_,_,rfl⟩;rw[M]at aj G H o;simp only[Xh,Yk]at G H o;clear n M m;generalize (E2 a (b.take d)).flatMap FE=XS at*;go_wp2_with (first
    |(at_builtin;refine Adl _ rfl (.tmp 17) (.tmp 23) 261 rfl 0 163 ar _ 2 40 Tryz.underlying261 ap am an ao rfl (by omega) (W h (d+1) g) (d+1) XS rfl ((ag.out.alloc _).alloc _) ⟨wr.heap.size+1,0,none⟩ 1 1 [Z p q,W x w v] rfl rfl (by simpa using Adu (Adp (wr.alloc (Adi #[V C ai,W x w v,Z p q] 240)) (Adi #[Z p q,W x w v] 163))) (by intro a5 ab;simp at ab;rcases ab with rfl|rfl<;>rfl) (by omega) (by unfold Aed;omega) (by omega) (Ac0 _) _ rfl ?_;intro az ad a7 Y N K U;have af:=hid (o.out _ _ _ bA N K U Y);clear Y N K U))
   exact⟨⟨d+1,_,_,by omega,rfl,by go_num,af.out⟩,by simp[intOf];omega⟩
  ·obtain rfl:d=b.length:=by omega
   have a1:¬(b.length:Int)<(b.length:Int):=by omega
   go_wp2;go_ret;have aa:=l.out.row;rw[Ad9]at aa;exact⟨((Acv c.heap.size c).alloc (Acu _) _).trans (l.out.low.mono (Afa _)),_,rfl,aa.low (Afa _)⟩
def MR(a:Ad5×X):X:=Z a.1 a.2
theorem J4.cS{a:Q}{n:Nat}{es:List (Ad5×X)}(b:a.ownsRow 0 117 1 (W (some ⟨w,0,none⟩) n v) n (es.map MR))(d:n=es.length):J4 a (W (some ⟨w,0,none⟩) n v) es:=by
 subst d;refine⟨_,v,rfl,λ_=>⟨w,0,rfl,λe c=>?_⟩⟩;rw[Aey,b.cellAt e (by omega),Aa1,Ad0 c];rfl
theorem KV(a:Ad5×X)(t:X)(es:List (Ad5×X))(b:Q)(H:J4 b t es)(m:es≠[])(am:es.length<=99999):Adg Acs 290 #[T #[Z a.1 a.2,t]] b λe p=>Ca b (Cl (a::es)) e p:=by
 obtain⟨ao,u,rfl,v⟩:=H;obtain⟨i,j,rfl,z⟩:=v m;obtain⟨ai,ae,B⟩:=Adb.1 Tryz.ee;simp only[Aeb]at B;obtain⟨ab,ac,ad⟩:=B;have Y:=Ae7.2 m;obtain⟨f,U⟩:∃ah,ah=Adi #[Z a.1 a.2,W (some ⟨i,j,none⟩) es.length u] 277:=⟨_,rfl⟩;have k:Hid (Below b.heap.size b ((b.alloc f).alloc (.cells #[Z a.1 a.2] 117))):=bA.alloc (by simp) _;have s:Hid (((b.alloc f).alloc (.cells #[Z a.1 a.2] 117)).ownsRow 0 117 1 (W (some ⟨b.heap.size+1,0,none⟩) 1 1) 1 [Z a.1 a.2]):=by
  have:=World.ownsRow_lit (base:=0) (e:=117) (size:=1) (b.alloc f) #[Z a.1 a.2] 1 (Ac0 _) (by unfold Aed;omega) rfl;rw[show(b.alloc f).heap.size=b.heap.size+1 by simp]at this;exact this
 have r:Hid (∀d g,(es.map MR)[d]?=some g->((b.alloc f).alloc (.cells #[Z a.1 a.2] 117)).cell? ((⟨i,j,none⟩:Addr).add d)=some g):=by
  intro d g x;have e:(⟨i,j,none⟩:Addr).add d=⟨i,j+d,none⟩:=by unfold Addr.add;simp
  rw[e];rw[Aa1]at x;obtain⟨aj,ag,rfl⟩:=Adb.1 x;obtain⟨N,rfl⟩:=Ab5.1 ag;exact Aa k.out (z d N)
 have E:Hid (∀g∈es.map MR,g.oneCell'=true):=by
  intro g aa;obtain⟨aj,-,rfl⟩:=Adj.1 aa;rfl
 have q:Hid (∀l o h,h.ownsRow 0 117 1 (W (some ⟨l,0,none⟩) (1+es.length) o) (1+es.length) ([Z a.1 a.2]++es.map MR)->((b.alloc f).alloc (.cells #[Z a.1 a.2] 117)).grownBy h (W (some ⟨b.heap.size+1,0,none⟩) 1 1).ownBlock->
  Adg Acs 287 #[W (some ⟨l,0,none⟩) (1+es.length) o] h λe p=>Ca b (Cl (a::es)) e p):=by
  intro l o h c M;have L:=k.out.grown M (by simp;omega) (λak K=>by simp[Ad6]at K;omega);exact(F3 (a::es) _ h (J4.cS (es:=a::es) (n:=1+es.length) c (Nat.add_comm _ _)) (by simp;omega)).mono λ_ _ c=>Ca.dw c L
 have af:(es.map MR).length=es.length*1:=by simp
 rw[U]at k s r q;clear v z m;generalize es.map MR=XS at*;generalize es.length=n at*;go_enter Tryz.func290,Tryz.ntmps290;go_wp2_with (first
  |(at_builtin;refine Adl _ rfl (.tmp 5) (.tmp 7) 231 rfl 0 117 ai _ 1 16 Tryz.underlying231 ae ab ac ad rfl (by omega) (W (some ⟨b.heap.size+1,0,none⟩) 1 1) 1 [Z a.1 a.2] rfl s.out ⟨i,j,none⟩ n u XS rfl af r.out E.out Y (by unfold Aed;omega) (by omega) (Ac0 _) _ rfl ?_;intro al an h y w I O;have D:=hid (q.out _ _ _ y w);clear y w I O)
  |(go_at_call 287;refine D.out.mono ?_;intro e aq c;have G:=hid c;obtain⟨ap,rfl⟩:=c.one;clear c))
 go_ret;exact G.out
def T2:X:=W none 0 0
def Vr(b:Bool)(a:X):X:=if b then a else T2
def Hz(e:Bool)(d:X)(b:List (Ad5×X))(c:Nat):List (X×X):=(b.take c).map (λa=>(MR a,Vr e d))++(b.drop c).map (λa=>(MR a,T2))
def YR(e:Bool)(a:X)(d:List (Ad5×X))(b:Ad5×X):List (X×X):=d.map (λc=>(MR c,Vr e a))++[(MR b,a)]
theorem Jw(d:Bool)(c:X)(a:List (Ad5×X))(b:Nat):(Hz d c a b).length=a.length:=by unfold Hz;simp;omega
theorem VG(c:Bool)(b:X)(a:List (Ad5×X)):Hz c b a a.length=a.map (λd=>(MR d,Vr c b)):=by unfold Hz;simp
theorem HL(b:List (X×X)):(b.flatMap FE).length=b.length*2:=by
 induction b with
 |nil=>rfl
 |cons a b ih=>rw[Adh,Adk,ih];simp[FE];omega
theorem SD(a c:List (X×X))(b:X×X):((a++b::c).flatMap FE)[a.length*2+1]?=some b.2:=by
 rw[Ado,Aex (by rw[HL];omega),HL,show a.length*2+1-a.length*2=1 by omega];rfl
theorem Sj(a b:List (X×X))(d:X×X)(c:X):((a++d::b).flatMap FE).set (a.length*2+1) c=(a++(d.1,c)::b).flatMap FE:=by
 rw[Ado,Ado,Abb _ _ (by rw[HL];omega),HL,show a.length*2+1-a.length*2=1 by omega];rfl
theorem GI{nv:X}(a:Bool)(e:w<vb.length):∃b d,b.length=w/\Hz a nv vb w=b++(MR vb[w],T2)::d/\Hz a nv vb (w+1)=b++(MR vb[w],Vr a nv)::d:=by
 refine⟨(vb.take w).map (λc=>(MR c,Vr a nv)),(vb.drop (w+1)).map (λc=>(MR c,T2)),by simp;omega,?_,?_⟩
 ·unfold Hz;rw[Adv e];rfl
 ·unfold Hz;rw[Ade e,Adq,Aem];rfl
structure IF (e:Bool) (d:X) (b:List (Ad5×X)) (a wr:Q) (c:Nat) (g:Option Addr) (f:Nat):Prop where
 row:JN wr a.heap.size (W g b.length f) (Hz e d b c)
 low:Below a.heap.size a wr
theorem IF.own{d:Bool}{c:X}{a:List (Ad5×X)}{h wr:Q}{b:Nat}{f:Option Addr}{e:Nat}(g:IF d c a h wr b f e):wr.ownsRow 0 163 2 (W f a.length e) a.length ((Hz d c a b).flatMap FE):=by
 have:=g.row.own;rw[Jw]at this;omega
theorem IF.at_{wr:Q}(b:IF w2 m vb n wr w L v)(f:w<vb.length):∃a,L=some ⟨a,0,none⟩/\n.heap.size<=a/\wr.cell? ⟨a,w*2+1,none⟩=some T2/\wr.frozen? ⟨a,w*2+1,none⟩=false:=by
 obtain⟨a,i,c,-,-⟩:=b.own.form (by omega);simp[Value.slice.injEq,true_and]at c;obtain⟨rfl,rfl⟩:=c;refine⟨a,rfl,(b.row.rg a (Acw _ (Ah.2 rfl))).1,?_,b.own.frozenAt _⟩;obtain⟨g,h,e,d,-⟩:=GI w2 f;rw[b.own.cellAt _ (by omega),d];subst e;exact SD _ _ _
theorem IF.no{wr:Q}(a:IF false m vb n wr w L v)(d:w<vb.length):IF false m vb n wr (w+1) L v:=by
 refine⟨?_,a.low⟩;obtain⟨e,f,-,b,c⟩:=GI false d;have:=a.row;rw[b]at this;rw[c];exact this
theorem IF.f7{nv:X}{wr:Q}(a:IF true nv vb n wr w (some ⟨b,0,none⟩) v)(o:w<vb.length):IF true nv vb n (wr.setCell ⟨b,w*2+1,none⟩ nv) (w+1) (some ⟨b,0,none⟩) v:=by
 let ⟨p,q,k,i,j⟩:=GI (nv:=nv) true o
 have d:=a.own.stored (w*2+1) nv;have f:=a.row.rg b (Acw _ (Ah.2 rfl));have m:((Hz true nv vb w).flatMap FE).set (w*2+1) nv=(Hz true nv vb (w+1)).flatMap FE:=by
  rw[i,j];subst k;exact Sj _ _ _ _
 rw[m]at d;refine⟨⟨by rw[Jw];exact d.1,λ_ _=>trivial,?_,λe c=>?_⟩,a.low.grown d.2 a.low.size (λe c=>by grind)⟩
 ·have h:∀g:List (X×X),g.flatMap (λ_=>([]:List Nat))=[]:=λg=>by simp
  unfold AJ;rw[h,Ad8];exact FO _
 ·have l:e=b:=by
   unfold AJ at c;simpa[An]using c
  subst l;exact⟨f.1,by simpa using f.2⟩
theorem JN.add{w0 wr X:Q}(h:JN wr w0.heap.size (W L v w) n7)(k:n7.length=v)(f:Below w0.heap.size w0 wr)(b:Below wr.heap.size wr X)(e:(X.alloc nv).grownBy p (W L v w).ownBlock){a d:Nat}(i:(W L v w).ownBlock=some a\/a=(X.alloc nv).heap.size)(l:a<p.heap.size)(n:p.ownsRow 0 163 2 (W (some ⟨a,0,none⟩) (v+1) d) (v+1) (n7.flatMap FE++[m,q])):JN p w0.heap.size (W (some ⟨a,0,none⟩) (v+1) d) (n7++[(m,q)])/\Below w0.heap.size w0 p:=by
 have c:=f.size;have g:=h.cJ Y2 b;refine⟨?_,Em (f.trans (b.mono c)) (Ac5 c b.size) (λq j=>(g.rg q (Acw _ (Ah.2 j))).1) e⟩;subst k;exact g.dR Y2 (Ac5 c b.size) trivial e i l n
theorem LU(h:Bool)(e:Option Addr)(d c:Nat)(M:Value)(a:List (Ad5×Value))(b:Ad5×Value)(g:Q)(y:J4 g M a)(ax:a.length<=99999):Adg Acs 286 #[T #[A h,W e d c,M,Z b.1 b.2]] g λo ao=>Ca g (YR h (W e d c) a b) o ao:=by
 obtain⟨w,q,rfl,-⟩:=id y;obtain⟨al,ak,U⟩:=Adb.1 Tryz.eJ;simp only[Aeb]at U;obtain⟨ah,ai,aj⟩:=U;obtain⟨v,D⟩:∃an,an=Adi #[A h,W e d c,W w a.length q,Z b.1 b.2] 233:=⟨_,rfl⟩;have z:Below g.heap.size g (g.alloc v):=bA;have H:=hid (F3 a _ (g.alloc v) (y.cJ z) (by omega));have L:Hid (V4 (g.alloc v) g.heap.size (A h) (W e d c) (W w a.length q) (Z b.1 b.2)):=by
  subst D;exact⟨by simp,by simp,by simp,by simp,λaz=>by simp⟩
 have K:=hid z;obtain⟨n,u⟩:∃n,g.alloc v=n:=⟨_,rfl⟩;have ay:n.heap.size=g.heap.size+1:=by rw[<-u];simp
 have I:Hid (Adg Acs 287 #[W w a.length q] (g.alloc (.cells #[A h,W e d c,W w a.length q,Z b.1 b.2] 233)) λo G=>∃j i,o=F (W j a.length i)/\Hid (IF h (W e d c) a n G 0 j i)):=by
  show Adg _ _ _ _ _;rw[<-D];refine H.out.mono ?_;rintro o G ⟨N,a1,rfl,t⟩;obtain⟨j,i,rfl⟩:=t.slice;have B:(Cl a).length=a.length:=by unfold Cl;simp
  rw[B]at t ⊢;rw[u]at N t;exact⟨j,i,rfl,⟨t,N⟩⟩
 rw[u]at L K;clear y z H D u;go_enter Tryz.func286,Tryz.ntmps286;go_wp2_with (first
  |(go_at_call 287;refine I.out.mono ?_;rintro o G ⟨j,i,rfl,ad⟩))
 have B:W e d c=W e d c:=rfl;clear I B;go_loopw [10] (λE wr=>∃f:Nat,f<=a.length/\E=V C (f:Int)/\Hid (IF h (W e d c) a n wr f j i)) (λE _=>a.length-(intOf E).toNat)
 case atStart=>grind
 case round=>
  clear ad;obtain⟨f,aw,rfl,k⟩:=hrel;rename Q=>wr
  obtain⟨a2,a3,a4,a5,-⟩:=L.out.cJ k.out.low;by_cases p:f<a.length
  ·have aq:(0:Int)<=(f:Int):=by omega
   have ar:(f:Int)<(a.length:Int):=by omega
   obtain⟨l,rfl,au,cc,ap⟩:=k.out.at_ p;cases h
   ·have x:=hid (k.out.no p);go_wp2;exact⟨⟨f+1,by omega,rfl,x.out⟩,by simp[intOf];omega⟩
   ·have x:=hid (k.out.f7 p);go_wp2;exact⟨⟨f+1,by omega,rfl,x.out⟩,by simp[intOf];omega⟩
  ·obtain rfl:f=a.length:=by omega
   have av:¬(a.length:Int)<(a.length:Int):=by omega
   have ab:=hid k.out.own;have ae:Hid (∀m l f,(wr.alloc (Adi #[Z b.1 b.2,W e d c] 163)).grownBy m (W j a.length i).ownBlock->((W j a.length i).ownBlock=some l\/l=(wr.alloc (Adi #[Z b.1 b.2,W e d c] 163)).heap.size)->l<m.heap.size->m.ownsRow 0 163 2 (W (some ⟨l,0,none⟩) (a.length+1) f) (a.length+1) ((Hz h (W e d c) a a.length).flatMap FE++[Z b.1 b.2,W e d c])->Ca g (YR h (W e d c) a b) (F (W (some ⟨l,0,none⟩) (a.length+1) f)) m):=by
    intro m l f ag r p s;have:=JN.add (w0:=n) (X:=wr) k.out.row (Jw _ _ _ _) k.out.low (Acv _ _) ag r p s;rw[VG]at this;exact⟨K.out.trans (this.2.mono (by omega)),_,rfl,this.1.low (by omega)⟩
   generalize (Hz h (W e d c) a a.length).flatMap FE=XS at*;go_wp2_with (first
    |(at_builtin;refine Adl _ rfl (.tmp 22) (.tmp 28) 261 rfl 0 163 al _ 2 40 Tryz.underlying261 ak ah ai aj rfl (by omega) (W j a.length i) a.length XS rfl (ab.out.alloc _) ⟨wr.heap.size,0,none⟩ 1 1 [Z b.1 b.2,W e d c] rfl rfl (by simpa using Adu (Adp wr (Adi #[Z b.1 b.2,W e d c] 163))) (by intro a0 aa;simp at aa;rcases aa with rfl|rfl<;>rfl) .refl (by unfold Aed;omega) (by omega) (Ac0 _) _ rfl ?_;intro af am m s O r Y;have ac:=hid (ae.out m af am O r Y s);clear s O r Y))
   go_ret;exact ac.out
structure B8 (e:Q) (d:Nat) (b:X) (a:Av):Prop where
 nm:B0 e b a
 cap:∃p c,b=W p a.length c/\a.length<=c/\(p=none->c=0)
 nk:b.ownBlock≠some d
theorem B0.hk(k:B0 n m l){b:Q}(q:n.heap.size<=b.heap.size)(j:∀a,m.ownBlock=some a->a<n.heap.size->b.heap[a]?=n.heap[a]?):B0 b m l:=by
 obtain⟨s,i,rfl,o⟩:=k;refine⟨s,i,rfl,λp=>?_⟩;obtain⟨d,r,rfl,e,g⟩:=o p;have c:=j d rfl e;exact⟨d,r,rfl,Ac2 e q,λh f=>⟨by rw[Ac1 c];exact(g h f).1,by rw[Ac1 c];exact(g h f).2⟩⟩
theorem B8.ef{w:Q}{c:Nat}(a:B8 w c m l)(d:EF c w n):B8 n c m l:=
 ⟨a.nm.hk d.size λb f g=>d.block b g (λe=>a.nk (by rw[f,e])),a.cap,a.nk⟩
theorem B8.cJ{w e:Q}{b:Nat}{d:X}{c:Av}(a:B8 w b d c)(f:Below w.heap.size w e):B8 e b d c:=⟨a.nm.cJ f,a.cap,a.nk⟩
theorem B8.nil(c:Q)(b:Nat):B8 c b (W none 0 0) []:=⟨⟨none,0,rfl,λa=>absurd rfl a⟩,⟨none,0,rfl,Acu _,λ_=>rfl⟩,λa=>by cases a⟩
theorem B8.cS(a:Cu n v m l)(b:m.ownBlock≠some w):B8 n w m l:=by
 refine⟨a.nm,?_,b⟩;rcases a.own.2 with⟨rfl,f⟩|⟨e,c,d,rfl,-,-,g,-⟩
 ·grind
 grind
theorem M7(e:w<=v)(c:L=none->v=0)(f:w<=1000000):Adg Acs 98 #[W L w v] n λb d=>b=F (W L w w)/\d=n:=by
 have h:w<=v:=by omega
 have g:0<=w:=by omega
 have i:¬(w<0):=nofun;have j:¬(v<w):=by omega
 cases L with
 |none=>
  obtain rfl:=c rfl;obtain rfl:w=0:=by omega
  go_wp2;go_ret;simp
 |some a=>
  go_wp2;go_ret;simp
theorem JS(e:∀b g,n.cell? ⟨w,v+b*2,none⟩=some (.string l[b].1)/\n.cell? ⟨w,v+b*2+1,none⟩=some (V C (l[b].2:Int))):∀a c,(l.flatMap wC)[a]?=some c->n.cell? ((⟨w,v,none⟩:Addr).add a)=some c:=by
 intro a c j;have i:(l.flatMap wC).length=l.length*2:=Gg _ _ l;have h:a<l.length*2:=by
  grind
 rw[Addr.add_lit];have d:a / 2<l.length:=by omega
 have f:=Qo l (a / 2) d;grind
theorem Y8(d:Av):∀b∈d.flatMap wC,b.oneCell'=true:=by
 intro b c;obtain⟨e,-,a⟩:=Ada.1 c;simp[wC,or_false]at a;rcases a with rfl|rfl<;>rfl
theorem Iz(E:B0 n (W L l.length l.length) l)(I:L=none->l.length=0)(af:(W L l.length l.length).ownBlock≠some w)(aq:w<n.heap.size)(ai:B0 n m nq)(ah:l.length+nq.length<=100000)(j:Ad5):
 ∃c b,(Builtin.append_ #[100,100] j #[W L l.length l.length,m]).run Acs n=.ok c b/\Below n.heap.size n b/\B8 b w c (l++nq):=by
 let ⟨r,o,D⟩:=Adb.1 Tryz.dS
 simp only[Aeb]at D;let ⟨y,z,B⟩:=D
 obtain⟨al,i,rfl,aj⟩:=ai;by_cases k:nq=[]
 ·subst k;refine⟨W L l.length l.length,n,?_,Acv _ _,?_⟩
  ·refine run_append_nothing n _ _ j 115 r Tryz.underlying100 o L _ _ (Acu _) _ ?_;cases al with
   |none=>exact Src.ofNil n Tryz.underlying100 i
   |some a=>exact Src.ofSlice n Tryz.underlying100 a 0 i [] (by simp) (λh g e=>by simp at e) (λg e=>by cases e)
  ·rw[Ad8];exact⟨E,⟨L,l.length,rfl,Acu _,I⟩,af⟩
 ·obtain⟨v,N,rfl,ar,M⟩:=aj k;have au:=Ae7.2 k;have H:(nq.flatMap wC).length=nq.length*2:=Gg _ _ nq;have u:∀c b,b.ownsRow n.heap.size 115 2 c (l.length+nq.length) (l.flatMap wC++nq.flatMap wC)->n.grownBy b none->Below n.heap.size n b/\B8 b w c (l++nq):=by
   intro c b p ae;have K:Cu b n.heap.size c (l++nq):=by
    refine⟨?_,λ_ _=>trivial,?_,λd f=>?_⟩
    ·rw[Adk,Ado];exact⟨p.1,by
      rcases p.2 with⟨ab,ac⟩|⟨aa,an,ao,ab,ac,ap⟩
      ·omega
      grind⟩
    ·unfold AJ;rw[show((l++nq).flatMap λ_=>([]:List Nat))=[] by simp,Ad8];exact FO _
    ·unfold AJ at f;rw[show((l++nq).flatMap λ_=>([]:List Nat))=[] by simp,Ad8]at f;exact p.lt d (Ah.1 f)
   refine⟨(Acv _ _).grown ae (Acu _) (λd f=>by cases f),B8.cS K λO=>?_⟩;have:=(K.rg w (Acw _ (Ah.2 O))).1;omega
  have x:l.length+nq.length<=Aed:=by unfold Aed;omega
  cases L with
  |some d=>
   have ag:∀h g,(l.flatMap wC)[h]?=some g->n.cell? (d.add h)=some g:=by
    by_cases G:l=[]
    ·subst G;intro h g e;simp at e
    ·let ⟨aw,am,U,ad⟩:=E
     obtain⟨aa,av,Y,-,ak⟩:=ad G;cases U;cases Y;exact JS ak
   obtain⟨c,b,q,s,t⟩:=run_append_arg_grows (P:=Acs) n 100 j 115 r _ 2 24 Tryz.underlying100 o y z B rfl (by omega) d l.length l.length (l.flatMap wC) (Gg _ _ l) ag ⟨v,N,none⟩ nq.length i (nq.flatMap wC) H (JS M) (by omega) x (by omega);exact⟨c,b,q,u c b s t⟩
  |none=>
   obtain rfl:l=[]:=Aeo (I rfl);obtain⟨c,b,q,s,t,_⟩:=run_append_own (P:=Acs) n n.heap.size 100 j 115 r _ 2 24 Tryz.underlying100 o y z B rfl (by omega) (W none 0 0) 0 [] (Ad1 n _ _ _) ⟨v,N,none⟩ nq.length i (nq.flatMap wC) H (JS M) (Y8 nq) (by simpa using x) (by simp at ah;omega) (Acu _);exact⟨c,b,q,u c b s t⟩
theorem SE{K:Nat}{kp:Option Addr}{known ns:Av}(i:w4.guard=none)(c d:Operand)(p:w4.op=.call {callee:=.builtin .append,args:=#[c,d],argTypes:=#[100,100]})(s:wj.eval c=W kp known.length known.length)(t:wj.eval d=m)(j:B0 n (W kp known.length known.length) known)(q:kp=none->known.length=0)(k:(W kp known.length known.length).ownBlock≠some K)(h:K<n.heap.size)(o:B0 n m ns)(l:known.length+ns.length<=100000)(e:∀b a,Below n.heap.size n a->B8 a K b (known++ns)->vv (wj.put w4.dst b) a):if Region.wanted w4 (yielded wc wj.tmps)=true then Oper.wp Acs w4 wj n vv w6 else vp:=by
 rw[if_pos (by simp[Region.wanted,i])];let ⟨b,a,r,f,g⟩:=Iz j q k h o l w4.type
 unfold Oper.wp execOp;simp only[p,resolve,invoke,builtin,Sem.run_bind,Sem.run_pure,Result.andThen_ok,Acp,Aeg,Aez,s,t,r];exact e b a f g
theorem Wu:A3 s y 0=false->s∉y:=λa b=>by
 have:A3 s y 0=true:=by unfold A3;grind
 grind
theorem Cr.new{c:Nat}(f:Cr s c b)(e:c<=s.size)(a:Cq s y c=.ok (nh,v)):Cr s v 1/\v<=s.size/\c+b+ww nh.1<=v+1/\AM nh.1=true/\nh.1∉y:=by
 let ⟨j,i,d,a⟩:=Ac a
 have w:=f.name e d;have h:=BH c e j i d;split at a
 ·cases a
 ·rename_i g
  cases a;exact⟨w.1,h.2,w.2.1,w.2.2,Wu (by simpa using g)⟩
theorem RO(a:Al s wn w=.ok (s5,v)):Ag s w=wn/\v=AC s w:=by
 unfold Al at a;grind
structure WM (e:ByteArray) (a:Av) (c:List IT) (b:List DD):Prop where
 gn:a.map (·.1)=c.map (·.1.1)++b.map (·.1.1)
 nd:(a.map (·.1)).Nodup
 i:∀x∈c,AM x.1.1=true/\x.2<=20
 d:∀x∈b,AM x.1.1=true/\XF 31 x.2.2
def dW(b:List DD):Nat:=(b.map λa=>6+nW a.2.1+wt 31 a.2.2).sum
theorem Wj(b:List DD)(a:DD):dW (b++[a])=dW b+(6+nW a.2.1+wt 31 a.2.2):=by simp[dW]
theorem Y3{a:ByteArray}(y:Nat):∀(s:Nat) (r:Av) (x:List IT) (m:List DD) (h:Nat) (k:List IT×List DD) (z:Nat),h<=a.size->WM a r x m->y+x.length*11+dW m<=h->KW a s r x m h=.ok (k,z)->(∃ac,WM a ac k.1 k.2)/\y+k.1.length*11+dW k.2<=a.size
 |0,_,_,_,_,_,_,_,_,_,b=>by rw[KW]at b;cases b
 |s+1,r,x,m,h,k,z,hp,hw,hl,b=>by
  rw[KW]at b;split at b
  ·rename_i ah
   have t:=Dw hp (by rw[ah];decide);obtain⟨av,ap,f,b⟩:=Ac b;unfold pG at f;split at f
   ·rename_i n
    have G:=(Cr.z a (AC a h)).word t.2 (by rw[n.1];decide) (by rw[n.1];decide) (by rw[n.1];decide);have ai:(Ag a (AC a h)).size=6:=by rw[n.1];rfl
    have E:=AK t.2;have ag:=Agy.1 (by simpa using n.2);subst ag;obtain⟨Y,O,g,f⟩:=Ac f;obtain⟨I,U,e,g⟩:=Ac g;have j:=G.1.new E e;obtain⟨K,o,u,g⟩:=Ac g;have N:=B7 U j.2.1 K o u;have H:=j.1.tag j.2.1 u;obtain⟨q,p,v,g⟩:=Ac g;have aj:=Aj (by decide) o N.2 q p v;have aq:=H.1.want (by decide) N.2 v;cases g;cases f;have D:2<=ww I.1:=Acj _ _;refine Y3 y s _ _ _ _ k z aj.2 ⟨?_,?_,λl c=>?_,hw.d⟩ ?_ b
    ·rw[Adq,hw.gn];simp
    ·rw[Adq,Aee];exact⟨hw.nd,by simp,λl c ad M B=>by grind⟩
    ·rcases Acz.1 c with c|c
     ·exact hw.i l c
     grind
    grind
   ·obtain⟨au,O,g,f⟩:=Ac f;obtain⟨w,rfl⟩:=RO g;have G:=(Cr.z a (AC a h)).word t.2 (by rw[w];decide) (by rw[w];decide) (by rw[w];decide);have ai:(Ag a (AC a h)).size=3:=by rw[w];rfl
    have E:=AK t.2;obtain⟨Y,O,e,f⟩:=Ac f;obtain⟨I,U,u,e⟩:=Ac e;have j:=G.1.new E u;obtain⟨K,o,v,e⟩:=Ac e;have H:=j.1.names j.2.1 v;obtain⟨q,p,af,e⟩:=Ac e;obtain⟨an,aa,ae,ao,ab⟩:=w_E a 30 o q p 0 H.1 (Cr.z _ _) af;replace ab:o+0+wt 31 q<=p+ae:=ab
    obtain⟨am,al,L,e⟩:=Ac e;have ak:=Aj (by decide) p aa am al L;have ar:=ao.want (by decide) aa L;cases e;cases f;have D:2<=ww I.1:=Acj _ _;refine Y3 y s _ _ _ _ k z ak.2 ⟨?_,?_,hw.i,λl c=>?_⟩ ?_ b
    ·rw[Adq,hw.gn];simp
    ·rw[Adq,Aee];exact⟨hw.nd,by simp,λl c ad M B=>by have D:=B.trans (by simpa using M);exact j.2.2.2.2 (D▸c)⟩
    ·rcases Acz.1 c with c|c
     ·exact hw.d l c
     ·obtain rfl:=Ac9.1 c;exact⟨j.2.2.2.1,an⟩
    ·rw[Wj];show _+(dW m+(6+nW K+wt 31 q))<=_;omega
  ·cases hh:BA a [Ae,⟨#[]⟩] h with
   |error B=>rw[hh]at b;cases b
   |ok Y=>rw[hh]at b;cases b;exact⟨⟨r,hw⟩,Ac5 hl hp⟩
variable{vj:ByteArray×List IT×List DD}
theorem U9(a:DP s 0=.ok (vj,w)):AM vj.1=true/\(∃f,WM s f vj.2.1 vj.2.2)/\9+vj.2.1.length*11+dW vj.2.2<=s.size:=by
 let ⟨x,u,b,a⟩:=Ac a
 let ⟨m,d,g,b⟩:=Ac b
 have e:=Aj (by decide) 0 (Ac0 _) m d g;let ⟨y,v,h,b⟩:=Ac b
 obtain⟨c,rfl⟩:=RO h;have n:=(Cr.z s d).word e.2 (by rw[c];decide) (by rw[c];decide) (by rw[c];decide);have t:(Ag s d).size=6:=by rw[c];rfl
 cases b;let ⟨p,k,i,a⟩:=Ac a
 have o:=n.1.new (AK e.2) i;have r:2<=ww p.1:=Acj _ _;let ⟨q,l,j,a⟩:=Ac a
 have:=Y3 9 _ [] [] [] k q l o.2.1 ⟨rfl,by simp,(λ_ a=>by cases a),(λ_ a=>by cases a)⟩ (by simp[dW];omega) j;grind
def CD{e:Type}(d:Nat->Pr e):Prop:=∀c a b,d c=P (a,b)->a=2\/a=3\/a=5
theorem CO(b c:ByteArray):CD (Al b c):=by
 intro f e d a;unfold Al at a;grind
theorem ML(b:ByteArray):CD (AV b):=by
 intro e d c a;unfold AV at a;grind
theorem O0(c:ByteArray)(b:Nat):CD (Bt c b):=by
 intro f e d a;unfold Bt at a;grind
theorem Q3(b:ByteArray):CD (BB b):=by
 intro e d c a;unfold BB at a;grind
theorem LM(f:ByteArray):∀d g,CD (AU f d g)
 |0,_=>λi c b a=>by cases a;decide
 |d+1,g=>λi c b a=>by
  rw[AU]at a;split at a
  ·cases a
  ·rcases Af a with h|⟨k,j,h,e⟩
   ·exact ML f i c b h
   ·split at e
    ·cases e;decide
    ·exact LM f d _ j c b e
theorem Ni(a:ByteArray):CD (Be a):=by
 intro g c b e;rcases Af e with d|⟨i,h,d,f⟩
 ·exact CO a _ g c b d
 ·exact LM a _ _ h c b f
section
variable {s:ByteArray} {E:Nat->Pr Ex} (hZ:CD E)
include hZ
theorem Qy:∀d e,CD (BS s E d e)
 |0,_=>λg c b a=>by cases a;decide
 |d+1,e=>λg c b a=>by
  rw[BS]at a;split at a
  ·cases a
  ·rcases Af a with f|⟨j,i,f,h⟩
   ·exact hZ g c b f
   ·exact Qy d _ i c b h
theorem Li:∀d e,CD (A2 s E d e)
 |0,_=>λg c b a=>by cases a;decide
 |d+1,e=>λg c b a=>by
  rw[A2]at a;split at a
  ·cases a
  ·split at a
   ·cases a;decide
   ·rcases Af a with f|⟨j,i,f,h⟩
    ·exact hZ g c b f
    ·exact Li d _ i c b h
theorem OG:∀e g f,CD (Ba s E e g f)
 |0,_,_=>λh d c a=>by cases a;decide
 |e+1,g,f=>λh d c a=>by
  rcases Af a with b|⟨m,i,b,a⟩
  ·exact CO s _ h d c b
  rcases Af a with b|⟨n,j,b,a⟩
  ·exact ML s i d c b
  split at a
  ·cases a;decide
  rcases Af a with b|⟨o,k,b,a⟩
  ·exact hZ j d c b
  rcases Af a with b|⟨p,l,b,a⟩
  ·exact CO s _ k d c b
  split at a
  ·cases a
  ·exact OG e _ _ l d c a
theorem UK:∀e f,CD (C4 s E e f)
 |0,_=>λg d c a=>by rw[C4]at a;cases a;decide
 |e+1,f=>λg d c a=>by
  rw[C4]at a;rcases Af a with b|⟨m,h,b,a⟩
  ·exact CO s _ g d c b
  rcases Af a with b|⟨n,i,b,a⟩
  ·exact O0 s _ h d c b
  split at a
  ·cases a;decide
  rcases Af a with b|⟨o,j,b,a⟩
  ·exact Ni s i d c b
  rcases Af a with b|⟨p,k,b,a⟩
  ·exact hZ j d c b
  rcases Af a with b|⟨q,l,b,a⟩
  ·exact CO s _ k d c b
  split at a
  ·cases a
  ·exact UK e _ l d c a
theorem RM(i:Bool):CD (BE s E i):=by
 intro e d c b;rcases Af b with a|⟨k,f,a,b⟩
 ·exact CO s _ e d c a
 rcases Af b with a|⟨l,g,a,b⟩
 ·exact OG hZ _ _ _ f d c a
 rcases Af b with a|⟨m,h,a,b⟩
 ·exact CO s _ g d c a
 rcases Af b with a|⟨n,j,a,b⟩
 ·exact hZ h d c a
 cases b
theorem Y6:CD (E5 s E):=by
 intro e d c a;rcases Af a with b|⟨h,f,b,a⟩
 ·exact O0 s _ e d c b
 rcases Af a with b|⟨i,g,b,a⟩
 ·exact Li hZ _ _ f d c b
 cases a
theorem XL:CD (Da s E):=by
 intro e d c a;rcases Af a with b|⟨h,f,b,a⟩
 ·exact hZ e d c b
 rcases Af a with b|⟨i,g,b,a⟩
 ·exact UK hZ _ _ f d c b
 cases a
theorem Xs:CD (Dc s E):=by
 intro e d c b;rcases Af b with a|⟨i,f,a,b⟩
 ·exact hZ e d c a
 rcases Af b with a|⟨j,g,a,b⟩
 ·exact hZ f d c a
 rcases Af b with a|⟨k,h,a,b⟩
 ·exact Qy hZ _ _ g d c a
 cases b
theorem Xm:CD (AY s E):=by
 intro f c b a;unfold AY at a;split at a
 ·rcases Af a with d|⟨h,e,d,a⟩
  ·exact hZ _ c b d
  rcases Af a with d|⟨i,g,d,a⟩
  ·exact hZ e c b d
  cases a
 ·split at a
  ·exact RM hZ _ _ c b a
  ·split at a
   ·exact RM hZ _ _ c b a
   ·split at a
    ·exact Y6 hZ _ c b a
    ·split at a
     ·exact XL hZ _ c b a
     ·exact Xs hZ _ c b a
end
theorem Aay(e:ByteArray):∀f,CD (pE e f)
 |0=>λg c b a=>by
  rw[pE]at a;split at a
  ·cases a;decide
  ·exact Q3 e g c b a
 |f+1=>λg c b a=>by
  rw[pE]at a;split at a
  ·rcases Af a with d|⟨j,h,d,a⟩
   ·exact Xm (Aay e f) _ c b d
   rcases Af a with d|⟨k,i,d,a⟩
   ·exact CO e _ h c b d
   cases a
  ·exact Q3 e g c b a
theorem Kk(d:ByteArray):∀g,CD (BA d g)
 |[]=>λf c b a=>by cases a
 |t::r=>λf c b a=>by
  rcases Af a with e|⟨i,h,e,a⟩
  ·exact CO d _ f c b e
  ·exact Kk d r h c b a
theorem PV(c:ByteArray)(f:List ByteArray):CD (Cq c f):=by
 intro g e d a;rcases Af a with b|⟨i,h,b,a⟩
 ·exact ML c g e d b
 grind
theorem WU(c:ByteArray)(f:Av):CD (EC c f):=by
 intro g e d b;rcases Af b with a|⟨l,h,a,b⟩
 ·exact PV c _ g e d a
 rcases Af b with a|⟨m,i,a,b⟩
 ·exact Ni c h e d a
 rcases Af b with a|⟨n,j,a,b⟩
 ·exact Aay c 30 i e d a
 rcases Af b with a|⟨o,k,a,b⟩
 ·exact CO c _ j e d a
 cases b
theorem Abu(c:ByteArray)(g:Av)(j:Bool):CD (pG c g j):=by
 intro l e d b;unfold pG at b;split at b
 ·rcases Af b with a|⟨i,f,a,b⟩
  ·rcases Af a with a|⟨i,f,a,b⟩
   ·exact PV c _ _ e d a
   rcases Af b with a|⟨k,h,a,b⟩
   ·exact O0 c _ f e d a
   rcases Af b with a|⟨n,m,a,b⟩
   ·exact CO c _ h e d a
   cases b
  ·cases b
 ·rcases Af b with a|⟨i,f,a,b⟩
  ·exact CO c _ _ e d a
  rcases Af b with a|⟨k,h,a,b⟩
  ·exact WU c g f e d a
  cases b
theorem Um(f:ByteArray):∀g h l (k:List DD),CD (KW f g h l k)
 |0,_,_,_=>λm c b a=>by cases a;decide
 |g+1,h,l,k=>λm c b a=>by
  rw[KW]at a;split at a
  ·rcases Af a with e|⟨n,j,e,a⟩
   ·exact Abu f h _ _ c b e
   match n,a with
   |.inl i,a=>exact Um f g _ _ _ j c b a
   |.inr d,a=>exact Um f g _ _ _ j c b a
  ·rcases Af a with e|⟨n,j,e,a⟩
   ·exact Kk f _ m c b e
   cases a
theorem Zg(c:ByteArray):CD (DP c):=by
 intro f e d b;rcases Af b with a|⟨j,g,a,b⟩
 ·exact Kk c _ f e d a
 rcases Af b with a|⟨k,h,a,b⟩
 ·exact PV c _ g e d a
 rcases Af b with a|⟨l,i,a,b⟩
 ·exact Um c _ _ _ _ h e d a
 cases b
end Go.Proofs.YtnghccjoicmabaaGreatDoor
