import Derived.Test.YtpkbnogifdlcmaaGreatDoorTqJ
import Derived.Test.YtpkbnogifdlcmaaGreatDoorRrJ
import Derived.Test.YtpkbnogifdlcmaaGreatDoorRlJ
import Derived.Test.YtpkbnogifdlcmaaGreatDoorHiJ
set_option linter.unusedSimpArgs false
set_option maxRecDepth 100000
set_option maxHeartbeats 1000000
open And renaming intro->Aw6
open Except renaming error->P
open Go renaming Calls->Az,TypeId->A0,Value->X,World->Q,undef->Aw7
open Go.Ending renaming returned->F
open Go.IntKind renaming i64->C
open Go.Obj renaming cells->AW
open Go.Proofs.Tryz renaming prog->Aa
open Go.Value renaming agg->T,bool->A,int->V,pointer->J,slice->W,string->S,tuple->R
open List renaming length->L
open Option renaming none->N,some->I
open Or renaming inl->Be,inr->Axf
namespace Go.Proofs.YtpkbnogifdlcmaaGreatDoor
open Go.RowKit Go.Sort Go.Shelf Go.Proofs.Tryz
variable{i:List Bx}{o va:List UInt8}{c si:BE}{d zo:BA}{D:Int}{wx:Nat->Nat->Int}{w s b j wf n1 ns:Nat}{n q Y:World}{t n8:List Nat}{U:Option Addr}{vi:Nat->Int×Option Addr×Nat×Nat}{se:AR}{n2:Ending}{sg:E5}{sw:List TD}{nk:Prop}{za z0:BE->List UInt8->E5}{w4 ss:Bool}{v8:Nat->Prop}{p:Value}{wi xg:List Int}{wl:List BJ}{w1:BD}{H:List BD}{M:Nat->Addr}{m:Oy}
def Ky(a:List Bx):Nat->List Iq->List HG
 |_,[]=>[]
 |b,f::r=>⟨(b:Int),(C5 a f.g).Bj,f.at_⟩::Ky a (b+L f.s) r
theorem Vj(d:List Bx):∀b c a,Ky d c (b++[a])=Ky d c b++[⟨((c+(b.flatMap (·.s)).length:Nat):Int),(C5 d a.g).Bj,a.at_⟩]
 |[],c,a=>rfl
 |x::b,c,a=>by
  rw[Awy,Ky,Vj d b,Ky,Awy,AD,Aw];grind
structure HO (c:List Bx) (d:List UInt8) (b:BE) (a:BA):Prop where
 cells:a.cells=b.cells
 Bm:a.Bm=flat b++b.Bk.s
 base:a.fr.base=((flat b).length:Int)
 BR:a.BR=Ky c 0 b.BR
 su:a.su=b.Bt
 sm:a.sm=b.fuel
 mu:a.mu=b.used
 mm:a.mm=b.spare
 state:a.state=0
 BB:a.BB=b.BB
 text:a.text=d
structure CG (c:List Bx) (d:List UInt8) (a:BE) (b:BA):Prop extends HO c d a b where
 Bj:b.fr.Bj=(C5 c a.Bk.g).Bj
 at_:b.fr.at_=a.Bk.at_
structure Vh (c:List UInt8) (b:BE) (a:BA):Prop where
 state:a.state=2
 BB:a.BB=b.BB
 su:a.su=b.Bt
 sm:a.sm=b.fuel
 mu:a.mu=b.used
 mm:a.mm=b.spare
 text:a.text=c
structure Ach (c:List UInt8) (d:Int) (b:BE) (a:BA):Prop where
 cells:a.cells=b.cells
 Bm:a.Bm=[d]
 su:a.su=b.Bt
 sm:a.sm=b.fuel
 mu:a.mu=b.used
 mm:a.mm=b.spare
 state:a.state=1
 BB:a.BB=b.BB
 text:a.text=c
def CX(d:List Bx)(c:List UInt8)(a:AR)(b:BA):Prop:=match a.2 with
 |some v=>Ach c v a.1 b
 |none=>if a.1.B5 then Vh c a.1 b else CG d c a.1 b
theorem M9(b:c.B5=false)(l:d.state=2)(k:d.BB=D)(e:d.su=c.Bt)(f:d.sm=c.fuel)(g:d.mu=c.used)(h:d.mm=c.spare)(j:d.text=o):CX i o (B0 D c,N) d:=by
 have a:B0 D c={c with B5:=true,BB:=D}:=by unfold B0;rw[b];rfl
 rw[a];exact⟨l,k,e,f,g,h,j⟩
theorem H4(a:c.B5=false)(b:CG i o c d):CX i o (c,N) d:=by
 unfold CX;grind
theorem P9(a:D4 i c)(b:d.su=c.Bt)(e:d.sm=c.fuel):Ec d=Dt c:=by
 have:=a.Bt;unfold Ec Dt;rw[a.live,b,e,Ayw];simp;omega
theorem VY(m:Fk i wx c)(a:HO i o c d)(g:Int):CX i o (G6 g c) (G7 g d):=by
 have l:d.Bm.take d.fr.base.toNat=flat c:=by rw[a.Bm,a.base];simp
 unfold G7;simp[l];rcases Ax6 c.BR with e|⟨h,k,e⟩
 ·have f:=a.BR;have j:flat c=[]:=by unfold flat;rw[e];rfl
  rw[e]at f;rw[Qd g e,f,j];exact⟨a.cells,rfl,a.su,a.sm,a.mu,a.mm,rfl,a.BB,a.text⟩
 ·rw[Az3]at e;have f:=a.BR;have j:flat c=h.flatMap (·.s)++k.s:=by unfold flat;rw[e,Yf]
  rw[e,Vj]at f;rw[RN g e,f,j];simp only[List.getLast?_append,List.getLast?_singleton,Option.some_or,List.dropLast_concat];refine H4 m.b.live ⟨⟨a.cells,?_,?_,rfl,a.su,a.sm,a.mu,a.mm,a.state,a.BB,a.text⟩,rfl,rfl⟩
  ·show _=h.flatMap (·.s)++(k.s++[g]);simp
  ·show(((0+(h.flatMap (·.s)).length:Nat):Nat):Int)=((h.flatMap (·.s)).length);omega
theorem Aup(b a:List Int)(c:0<L a):(b++a).getLast?=a.getLast?:=by
 grind
theorem VO(b:HO i o c d)(e:0<L c.Bk.s):Fj d=B9 c ((c.Bk.s.getLast?).getD 0)/\d.Bm.getLast?=c.Bk.s.getLast?:=by
 have a:d.Bm.getLast?=c.Bk.s.getLast?:=by rw[b.Bm,Aup _ _ e]
 refine⟨?_,a⟩;unfold Fj B9;rw[a,b.cells]
theorem Akc(d:Int->Int)(c b:List Int)(a:Nat)(g:a<L b):C7 d (c++b) a=c++C7 d b a:=by
 unfold C7;have e:(c++b).length-a=L c+(L b-a):=by simp;omega
 have f:(c++b).length-1-a=L c+(L b-1-a):=O1;rw[e,f,Azg,List.drop_append];simp[Aw5,Aye]
theorem Aey(n:Dz i wx){k:List UInt8}{c:BE}{e:BA}(h:Fk i wx c)(a:HO i k c e){d:Int}(p:0<=d/\d<(L i:Int)):CX i k (if (C5 i d).BH<(L c.Bk.s:Int) then (Jv i d c,N) else G6 (c.Bk.s.headD 0) c) (Mq i d e):=by
 let ⟨q,j⟩:=Rt p
 let ⟨u,v⟩:=n.ar _ q
 have m:(i[d.toNat]?).getD ⟨⟨#[]⟩,0,false,[]⟩=C5 i d:=rfl;unfold Mq JL;rw[m];have x:JC e=L c.Bk.s-1:=by
  unfold JC;rw[a.Bm,a.base];simp;omega
 by_cases g:(C5 i d).BH<L c.Bk.s
 ·rw[j]at g ⊢;rw[if_pos g,if_neg O1];have o:LD i[d.toNat].BH.toNat e=Lz i[d.toNat].BH.toNat c:=by
   unfold LD Lz;rw[a.Bm];have w:(flat c++c.Bk.s).length-1-i[d.toNat].BH.toNat=(flat c).length+(L c.Bk.s-1-i[d.toNat].BH.toNat):=by simp;omega
   simp_all
  have r:∀f,Kv e f=(B9 c f).BB:=λf=>by unfold Kv B9;rw[a.cells]
  have t:Ft e=λf=>(B9 c f).right:=by funext f;unfold Ft B9;rw[a.cells]
  unfold Jv;rw[j];simp[o,r];split
  ·refine H4 h.b.live ⟨⟨a.cells,?_,a.base,a.BR,a.su,a.sm,a.mu,a.mm,a.state,a.BB,a.text⟩,?_,rfl⟩
   ·show C7 (Ft e) e.Bm _=flat c++C7 _ _ _;rw[a.Bm,t,Akc _ _ _ _ O1]
   grind
  ·exact M9 h.b.live rfl rfl a.su a.sm a.mu a.mm a.text
 ·rw[if_neg g,if_pos O1];have l:(e.Bm[e.fr.base.toNat]?).getD 0=c.Bk.s.headD 0:=by
   rw[a.Bm,a.base,Bd,Bi .refl,Nat.sub_self,List.headD_eq_head?_getD,List.head?_eq_getElem?]
  rw[l];exact VY h a _
theorem HO.cj(a:HO i o c d):HO i o {c with Bt:=c.Bt+1} {d with su:=d.su+1}:=
 ⟨a.cells,a.Bm,a.base,a.BR,by rw[a.su],a.sm,a.mu,a.mm,a.state,a.BB,a.text⟩
theorem Tn{d:List Bx}{m:Nat->Nat->Int}(n:Dz d m){r:List UInt8}:∀(c:Nat) {a:BE} {e:BA},Fk d m a->HO d r a e->(a.fuel-a.Bt).toNat=c->CX d r (FA d c a) (F9 (Mq d) G7 c e)
 |0,a,e,hw,h,hn=>by
  have v:=hw.b.Bt;have hb:=(Hm hw.b).1.2 O1;rw[FA,(Hm hw.b).2 hb,F9];have i:=P9 hw.b h.su h.sm;rw[hb]at i;unfold Ck;rw[i];exact M9 hw.b.live rfl rfl h.su h.sm h.mu h.mm h.text
 |c+1,a,e,hw,h,hn=>by
  have v:=hw.b.Bt;have k:a.Bt≠a.fuel:=O1;have hb:Dt a=true:=by
   cases hb:Dt a with
   |true=>rfl
   |false=>exact absurd ((Hm hw.b).1.1 hb) k
  have i:=P9 hw.b h.su h.sm;rw[hb]at i;obtain⟨B,z,o⟩:=NX hw.b hw.dD;have x:=hw.ne;obtain⟨t,u⟩:=VO h x;have q:Fk d m {a with Bt:=a.Bt+1}:=hw.cj k (s:=a.Bk.s) hw.s hw.ne O1;have f:=h.cj;have w:CN (L a.cells) a.Bk.s.dropLast:=by rw[Ayz];exact hw.s.take _
  have y:JC e=(L a.Bk.s:Int)-1:=by
   unfold JC;rw[h.Bm,h.base];simp;omega
  rw[FA,F9,if_pos hb,if_pos i,ES i];simp only[t,u,y];split
  ·rename_i j
   have:=hw.cj k (s:=a.Bk.s.dropLast++[(B9 a ((a.Bk.s.getLast?).getD 0)).left]) (w.b1 (CN.one (o.l (Be j)))) O2 O5;refine Tn n c this ⟨h.cells,?_,h.base,h.BR,f.su,h.sm,h.mu,h.mm,h.state,h.BB,h.text⟩ (by show(a.fuel-(a.Bt+1)).toNat=c;omega);show e.Bm.dropLast++_=flat a++(a.Bk.s.dropLast++_);rw[h.Bm,List.dropLast_append_of_ne_nil O6,AG]
  ·split
   ·rename_i j
    have:=hw.cj k (s:=a.Bk.s++[(B9 a ((a.Bk.s.getLast?).getD 0)).left]) (hw.s.b1 (CN.one (o.l (Axf j)))) O2 O2;refine Tn n c this ⟨h.cells,?_,h.base,h.BR,f.su,h.sm,h.mu,h.mm,h.state,h.BB,h.text⟩ (by show(a.fuel-(a.Bt+1)).toNat=c;omega);show e.Bm++_=flat a++(a.Bk.s++_);rw[h.Bm,AG]
   ·split
    ·exact M9 hw.b.live rfl rfl f.su h.sm h.mu h.mm h.text
    ·split
     ·rename_i j
      exact Aey n q f (o.g j)
     ·by_cases p:1<L a.Bk.s
      ·rw[if_pos p,if_pos O1];exact M9 hw.b.live rfl rfl f.su h.sm h.mu h.mm h.text
      ·rw[if_neg p,if_neg O1];exact VY q f _
theorem CG.next{a:BE}(b:CG i o a d)(c:Ec d=true):CG i o (BN a) (CK (Ck d)):=by
 rw[ES c];exact⟨⟨b.cells,b.Bm,b.base,b.BR,by show d.su+1=a.Bt+1;rw[b.su],b.sm,b.mu,b.mm,b.state,b.BB,b.text⟩,b.Bj,by show d.fr.at_+1=a.Bk.at_+1;rw[b.at_]⟩
theorem CG.C7(a:CG i o c d){e b:List Int}(f:b=flat c++e):CG i o (Ct e c) {d with Bm:=b}:=
 ⟨⟨a.cells,f,a.base,a.BR,a.su,a.sm,a.mu,a.mm,a.state,a.BB,a.text⟩,a.Bj,a.at_⟩
theorem Auq(b a:List Int)(c:Nat)(e:c<=L a):(b++a).take ((b++a).length-c)=b++a.take (L a-c):=by
 have d:(b++a).length-c=L b+(L a-c):=by simp;omega
 grind
theorem Ana(c a:List Int)(b:Nat)(e:b<=L a):(c++a).drop ((c++a).length-b)=a.drop (L a-b):=by
 have d:(c++a).length-b=L c+(L a-b):=by simp;omega
 simp_all
theorem XE(c a:List Int)(b:Nat)(d:b<L a):(c++a)[(c++a).length-1-b]?=a[L a-1-b]?:=by
 grind
theorem CG.drop(a:CG i o c d){n:Nat}(b:n<=L c.Bk.s):CG i o (Ct (c.Bk.s.take (L c.Bk.s-n)) c) (Cd n d):=by
 apply a.C7;rw[a.Bm];exact Auq _ _ _ b
theorem CG.push(a:CG i o c d)(x:Int):CG i o (Ct (c.Bk.s++[x]) c) (FU x d):=by
 apply a.C7;rw[a.Bm,AG]
theorem Oh(a:CG i o c d)(b:Int):I5 b d=Da b c:=by
 unfold I5 Da;rw[a.mm,a.mu,Ayw];simp;omega
theorem CG.add{t:List UInt8}(a:CG i t c d)(b:Cb):CG i t (Ff b c) (NY b d):=
 ⟨⟨by show d.cells++[b]=c.cells++[b];rw[a.cells],by show d.Bm++[(L d.cells:Int)]=flat c++(c.Bk.s++[(L c.cells:Int)]);rw[a.Bm,a.cells,AG],a.base,a.BR,a.su,a.sm,a.mu,a.mm,a.state,a.BB,a.text⟩,a.Bj,a.at_⟩
theorem CG.Ir(b:CG i o c d)(a:Nat):CG i o (GS a c) (Ir a d):=by
 induction a with
 |zero=>exact b
 |succ a ih=>exact ih.add _
theorem CG.dL(a:CG i o c d){b:Int}(e:Da b c=true):CG i o (DJ b c) (Ef b d):=by
 unfold DJ Ef;rw[Oh a,e];exact⟨⟨a.cells,a.Bm,a.base,a.BR,a.su,a.sm,by show d.mu+b=c.used+b;rw[a.mu],a.mm,a.state,a.BB,a.text⟩,a.Bj,a.at_⟩
theorem OV(e:c.B5=false)(a:CG i o c d)(b:Int):CX i o (B0 b c,N) (CY b d):=M9 e rfl rfl a.su a.sm a.mu a.mm a.text
theorem QI(e:c.B5=false){f:List Int}(a:CG i o (Ct f c) d)(b:Int):CX i o (B0 b c,N) (CY b d):=M9 e rfl rfl a.su a.sm a.mu a.mm a.text
theorem Xw(e:c.B5=false)(a:CG i o c d){b:Int}(f:Da b c=false):CX i o (B0 2 c,N) (Ef b d):=by
 unfold Ef;rw[Oh a,f];exact OV e a 2
theorem Vr(b:c.B5=false)(a:Da D c=true):(DJ D c).B5=false:=by
 unfold DJ;rwa[a]
theorem SC(j:c.B5=false){a:List Int}(e:CG i o (Ct a c) d)(f:Cb):CX i o (if Da 1 c then Ff f (Ct a (DJ 1 c)) else B0 2 c,N) (H6 f d):=by
 have g:I5 1 d=Da 1 c:=Oh e 1;unfold H6;rw[g];cases hr:Da 1 c with
 |true=>
  have h:=(e.dL hr).add f;have b:DJ 1 (Ct a c)=Ct a (DJ 1 c):=by
   unfold DJ;rw[show Da 1 (Ct a c)=Da 1 c from rfl,hr];rfl
  rw[b]at h;exact H4 (Vr j hr) h
 |false=>
  have b:Ef 1 d=CY 2 d:=by
   unfold Ef;rw[g,hr];rfl
  rw[if_neg nofun,if_neg nofun,b];exact QI j e 2
theorem Ak3(e:c.B5=false)(b:CG i o c d)(a:Nat):CX i o (if Da a c then GS a (DJ a c) else B0 2 c,N) (Mm a d):=by
 unfold Mm;rw[Oh b];cases hr:Da a c with
 |true=>
  refine H4 ?_ ((b.dL hr).Ir a);rw[if_pos rfl,MB];exact Vr e hr
 |false=>exact Xw e b hr
theorem All(b:CG i o c d)(a:Int):(d.cells[a.toNat]?).getD ⟨0,0,0,0,[]⟩=B9 c a:=by
 unfold B9;rw[b.cells]
theorem Aql(e:c.B5=false)(a:CG i o c d)(f:Int)(g:0<L c.Bk.s):CX i o (KT f c,N) (LN f ((c.Bk.s.getLast?).getD 0) d):=by
 unfold LN KT;simp[All a];have b:=a.drop g;split
 ·exact QI e b 3
 ·refine H4 e (a.C7 ?_);rw[b.Bm,Ayz];rw[AG];rfl
theorem Amn(e:c.B5=false)(a:CG i o c d)(b:List Co)(h:0<L c.Bk.s):CX i o (KG b c,N) (Mb b d):=by
 obtain⟨g,-⟩:=VO a.toHO h;unfold Mb KG;simp only[g];split
 ·exact OV e a 3
 ·cases b.find? (λf=>decide (f.tag=(B9 c ((c.Bk.s.getLast?).getD 0)).n)) with
  |some x=>exact H4 e ⟨⟨a.cells,a.Bm,a.base,a.BR,a.su,a.sm,a.mu,a.mm,a.state,a.BB,a.text⟩,a.Bj,rfl⟩
  |none=>exact OV e a 4
theorem Y5(e:CG i o c d)(f:2<=L c.Bk.s):CG i o (Ct (c.Bk.s.take (L c.Bk.s-2)) c) (Cd 1 (Cd 1 d)):=by
 have a:=(e.drop (n:=1) O1).drop (by show 1<=(c.Bk.s.take (L c.Bk.s-1)).length;grind);have b:(Ct (c.Bk.s.take (L c.Bk.s-1)) c).Bk.s.take ((Ct (c.Bk.s.take (L c.Bk.s-1)) c).Bk.s.length-1)=c.Bk.s.take (L c.Bk.s-2):=by
  show(c.Bk.s.take (L c.Bk.s-1)).take ((c.Bk.s.take (L c.Bk.s-1)).length-1)=_;grind
 rw[b]at a;exact a
theorem Auu(b:c.B5=false)(h:CG i o c d)(f:Int)(e g:Cb)(j:2<=L c.Bk.s):CX i o (LQ f (c.Bk.s.take (L c.Bk.s-2)) e g c,N) (Na f e g d):=by
 have a:=Y5 h j;unfold Na LQ;split
 ·exact QI b a 3
 ·split
  ·exact QI b a 6
  ·have:=SC b a (Gh f e.n g.n);grind
theorem Akv(f:c.B5=false)(a:CG i o c d){b:Nat}{e:Int}(g:1<=L c.Bk.s):CX i o (Ct (c.Bk.s.take (L c.Bk.s-1)) {c with cells:=c.cells.set b ⟨5,0,e,0,[]⟩},N) (Vx b e (Cd 1 d)):=by
 exact H4 f ⟨⟨by show d.cells.set b _=c.cells.set b _;rw[a.cells],(a.drop (n:=1) g).Bm,a.base,a.BR,a.su,a.sm,a.mu,a.mm,a.state,a.BB,a.text⟩,a.Bj,a.at_⟩
theorem Aul(a:CG i o c d)(h:0<L c.Bk.s):HO i o (Hp c) (Rp d):=by
 have g:c.Bk.s.dropLast++[(c.Bk.s.getLast?).getD 0]=c.Bk.s:=by
  have e:c.Bk.s≠[]:=O6;rw[List.getLast?_eq_some_getLast e];exact List.dropLast_concat_getLast e
 have b:flat (Hp c)=flat c++c.Bk.s.dropLast:=by unfold flat Hp;simp
 refine⟨a.cells,?_,?_,?_,a.su,a.sm,a.mu,a.mm,a.state,a.BB,a.text⟩
 ·show d.Bm=flat (Hp c)++[(c.Bk.s.getLast?).getD 0];rw[b,AG,g,a.Bm]
 ·show L d.Bm-1=((flat (Hp c)).length:Int);rw[b,a.Bm];simp;omega
 ·show d.BR++[d.fr]=Ky i 0 (c.BR++[{c.Bk with s:=c.Bk.s.dropLast}]);rw[Vj,a.BR];have f:d.fr=⟨d.fr.base,d.fr.Bj,d.fr.at_⟩:=rfl;rw[f,a.base,a.Bj,a.at_];unfold flat;simp
theorem Aqp(hb:Dt c=true){a:BJ}(e:FE i c=a)(b:a.op≠19)(d:a.op≠8):D6 i c=(CL a (BN c),N):=by
 unfold D6;grind
theorem QH(a:List Int)(b:1<=L a):a=a.take (L a-1)++[(a[L a-1]?).getD 0]:=by
 rcases Ax6 a with rfl|⟨c,d,rfl⟩
 ·simp at b
 ·simp
theorem Aaw(a:List Int)(b:2<=L a):a=a.take (L a-2)++[(a[L a-2]?).getD 0,(a[L a-1]?).getD 0]:=by
 rcases Ax6 a with rfl|⟨c,d,rfl⟩
 ·simp at b
 ·rcases Ax6 c with rfl|⟨c,e,rfl⟩
  ·simp at b
  ·simp
theorem Ao9(e:c.B5=false)(a:CG i o c d)(b:Cb):CX i o (if Da 1 c then Ff b (DJ 1 c) else B0 2 c,N) (H6 b d):=by
 unfold H6;rw[Oh a];cases hr:Da 1 c with
 |true=>exact H4 (Vr e hr) ((a.dL hr).add b)
 |false=>exact Xw e a hr
theorem Aly(h:c.B5=false)(b:CG i o c d)(f:Int)(a:Nat)(e:a<=L c.Bk.s):CX i o (if Da 1 c then Ff ⟨3,f,0,0,c.Bk.s.drop (L c.Bk.s-a)⟩ (Ct (c.Bk.s.take (L c.Bk.s-a)) (DJ 1 c)) else B0 2 c,N) (Jw f a d):=by
 unfold Jw;have g:d.Bm.drop (L d.Bm-a)=c.Bk.s.drop (L c.Bk.s-a):=by rw[b.Bm,Ana _ _ _ e]
 rw[g];exact SC h (b.drop e) _
theorem Auk(g:c.B5=false)(e:CG i o c d)(a:Nat)(k:a+1<=L c.Bk.s)(b:Int):CX i o (Ct (c.Bk.s.take (L c.Bk.s-1-a)++[b]) c,N) (FU b (Cd a (Cd 1 d))):=by
 have f:=(e.drop (n:=1) O1).drop (by show a<=(c.Bk.s.take (L c.Bk.s-1)).length;grind);have h:(c.Bk.s.take (L c.Bk.s-1)).take ((c.Bk.s.take (L c.Bk.s-1)).length-a)=c.Bk.s.take (L c.Bk.s-1-a):=by
  grind
 refine H4 g ?_;have j:CG i o (Ct ((c.Bk.s.take (L c.Bk.s-1)).take ((c.Bk.s.take (L c.Bk.s-1)).length-a)++[b]) c) (FU b (Cd a (Cd 1 d))):=(f.push b);grind
theorem Ael(e:c.B5=false)(a:CG i o c d)(b:Int):CX i o ({c with Bk:={c.Bk with at_:=b}},N) {d with fr:={d.fr with at_:=b}}:=
 H4 e ⟨⟨a.cells,a.Bm,a.base,a.BR,a.su,a.sm,a.mu,a.mm,a.state,a.BB,a.text⟩,a.Bj,rfl⟩
theorem Ahj(a:CG i o c d)(b:D4 i c):Fw d:=⟨by rw[a.su,a.sm];exact b.Bt,by rw[a.sm];exact b.fuel,by rw[a.mu,a.mm];exact b.used,by rw[a.mm];exact b.spare⟩
theorem Akg(a:Fw d)(b:Ec d=true):Fw (CK (Ck d)):=by
 rw[ES b];have c:1<=d.sm-d.su:=by simpa[Ec]using b
 have:=a.su;exact⟨by simp[CK];omega,a.sm,a.mu,a.mm⟩
structure Amh (a:BA):Prop where
 s:(L a.Bm)<=520000000
 c:(L a.cells)<=3000000
 d:(L a.BR)<=3000000
theorem YW(a:List Bx):∀b c,(Ky a c b).length=L b
 |[],_=>rfl
 |f::r,c=>by rw[Ky,AO,YW a r,AO]
theorem Vm(f:Dz i wx)(e:HO i o c d)(a:St i wx c):Amh d:=by
 have g:=a.size;have h:=a.b.Bt;have j:=a.b.fuel;have k:=a.b.used;have l:=a.b.spare;have m:=a.b.nc;have n:=f.Q9;have p:=a.dl;refine⟨?_,?_,?_⟩
 ·rw[e.Bm,Aw];omega
 ·rw[e.cells];omega
 ·rw[e.BR,YW];omega
theorem Akt{j:BE}(t:Dz i wx)(a:HO i o j d)(e:Fk i wx j):Wf (L i) d:=by
 have m:=Vm t a e.toSt;have hb:=m.s;have q:=e.b.Bt;have r:=e.b.fuel;have z:=e.ne;refine⟨?_,?_,?_,?_,?_,by have:=m.c;omega,?_⟩
 ·rw[a.Bm];intro y;simp_all
 ·rw[a.Bm,a.cells];intro n f;rcases Ag.1 f with f|f
  ·let ⟨p,u,v⟩:=AU.1 f
   exact(e.ds p u).1 n v
  ·exact e.s n f
 ·rw[a.cells];intro x w;have h:=e.b.cells x w;exact⟨h.l,h.g,h.k⟩
 ·rw[a.base,a.Bm,Aw];omega
 ·rw[a.sm,a.su];omega
 ·exact⟨by rw[a.su,a.sm];exact q,by rw[a.sm];exact r,by rw[a.mu,a.mm];exact e.b.used,by rw[a.mm];exact e.b.spare⟩
theorem TM{h:BA}(e:Dz i wx)(p:Ib w n b i U j vi)(m:MM w n s b h t)(a:HO i o c h)(f:Fk i wx c):Az Aa 124 #[J (I ⟨s,0,N⟩)] n λg l=>∃k,CX i o (IJ i c) k/\B2 w s b t n k (R #[]) g l:=by
 refine(Ast m p (Akt e a f) (by have:=(Vm e a f.toSt).d;omega)).mono λg l q=>⟨_,?_,q⟩;have:=Tn e (c.fuel-c.Bt).toNat f a rfl;unfold XW IJ;rw[a.sm,a.su];omega
def TP(f c d:Nat)(b:List Nat)(i:Q)(e:List Bx)(h:List UInt8)(g:AR)(j:Q):Prop:=∃a,CX e h g a/\B2 f c d b i a (R #[]) (F (R #[])) j
theorem Jj(e:AF t n q)(f:∀a∈n8,a∈t\/n.heap.size<=a)(c:B2 w s b n8 q d (R #[]) n2 Y)(g:CX i o se d):n2=F (R #[])/\O9 (TP w s b t n i o se Y):=⟨c.1,d,g,c.of e f rfl⟩
theorem Au7{au:Q}{am:Nat}{h:BA}{p:List Bx}{bg:Nat}(ao:Dz p wx)(aG:Ib w au b p U bg vi)(l:MM w au am b h t)(K:CG p o c h)(m:FR p wx c):
 Az Aa 125 #[J (I ⟨am,0,N⟩)] au λe H=>∃ai,CX p o (D6 p c) ai/\B2 w am b t au ai (R #[]) e H:=by
 have aa:=Ahj K m.b;have v:=P9 m.b K.su K.sm;cases hb:Dt c with
 |false=>
  rw[hb]at v;refine(Asl l aa v).mono λe H a=>⟨_,?_,a⟩;unfold D6;rw[hb,(Hm m.b).2 hb];exact OV m.b.live K 1
 |true=>
  rw[hb]at v;have aK:=(JX m.b).1.1 hb;have M:=Ol ao m;have a7:=Vm ao K.toHO m.toSt;have u:=K.next v;have aw:=Akg aa v;obtain⟨G,-,-,-⟩:=Sj m;obtain⟨bh,bc⟩:=Rt m.f.g;have ak:h.fr.at_=((c.Bk.at_.toNat:Nat):Int):=by rw[K.at_];have:=m.f.a.1;omega
  have ae:c.Bk.at_.toNat<L h.fr.Bj:=by rw[K.Bj];exact m.f.a.2
  have al:c.Bk.at_.toNat<=1000000000:=by
   have a1:=m.f.a.2;rw[bc]at a1;have:=(ao.Bj _ bh).len;omega
  have E:h.fr.Bj[c.Bk.at_.toNat]=FE p c:=by
   unfold FE;rw[Af m.f.a.2,Ax2];simp only[K.Bj]
  have ag:(CK (Ck h)).Bm=h.Bm:=by rw[ES v];rfl
  have ad:(CK (Ck h)).cells=h.cells:=by rw[ES v];rfl
  have ar:=K.Bm;have af:=K.cells;have ca:(L h.Bm)=(flat c).length+L c.Bk.s:=O6;have bT:=a7.s;have bU:=a7.c;have bV:=a7.d;revert E M;generalize a8:FE p c=i;generalize wx c.Bk.g.toNat c.Bk.at_.toNat=d;intro M E;obtain⟨⟨ci,cj⟩,-⟩:=M.f;obtain⟨z,ab⟩:∃z:Nat,i.op=(z:Int):=⟨i.op.toNat,O1⟩;have bu:z<21:=O1;have bt:i.op.toNat=z:=O1;obtain⟨an,bD,bE,bG,bH,bI⟩:=U8 M.f ab bu;have aN:=M.w;rw[bt]at aN;obtain⟨ac,ck⟩:=NO aN;obtain⟨bO,bP,bQ⟩:=M.dl;obtain⟨bi,bS⟩:=M.gl;have cf:(BN c).Bk.s=c.Bk.s:=rfl;have ax:=m.s;have ce:=m.b.nc;have ch:=m.b.used;have bY:(L p)<=L c.cells:=O1;have bX:=ao.Q9;by_cases a6:i.op=8
  ·have bz:0<L c.Bk.s:=by
    have:z=8:=O1;subst this;simp[DC]at ac;omega
   have b5:=Qp M m aK a6;have b0:=Aul u bz;have bb:D6 p c=IJ p (Hp (BN c)):=by
    unfold D6;grind
   rw[bb];exact Apt (λai=>CX p o (IJ p (Hp (BN c))) ai) l aa v ak ae al (E▸a6) O1 O1 O1 λH a4 q bk=>TM ao (aG.low bk) q b0 b5
  ·by_cases av:i.op=19
   ·have b6:=Q8 M m aK av;have aW:D6 p c=IJ p (BN c):=by
     unfold D6;grind
    rw[aW];have aI:=l.da;refine(YV (TP w am b t au p o (IJ p (BN c))) l aa v ak ae al (by rw[E,av];simp[Rf]) λH a4 a5 q B D _=>?_).mono λe H a=>?_
    ·rw[E,av];refine⟨λl=>O1,λl=>O1,λl=>O1,λl=>O1,λl=>O1,λl=>O1,λl=>O1,λl=>O1,λl=>O1,λ_=>?_,λl=>O1⟩;refine(TM ao (aG.low (B.low aI.2 aI.1)) q u.toHO b6).mono ?_;rintro e O ⟨ai,b1,a⟩;exact Jj B D a b1
    ·obtain⟨rfl,ai,a1,aE⟩:=a;grind
   ·rw[Aqp hb a8 av a6];by_cases bw:z=2\/z=3\/z=4\/z=5
    ·rcases bw with rfl|rfl|rfl|rfl
     ·simp[DC]at ac;have ap:=an O1;have aq:h.fr.Bj[c.Bk.at_.toNat].a=((i.a.toNat:Nat):Int):=by rw[E];omega
      have bp:i.a.toNat<L h.Bm:=O1;refine(Apa l aa v ak ae al (E▸ab) O1 aq bp).mono λe H a=>⟨_,?_,a⟩;have aX:CL i (BN c)=Ct (c.Bk.s++[(c.Bk.s[L c.Bk.s-1-i.a.toNat]?).getD 0]) (BN c):=by unfold CL;rw[ab];rfl
      have bf:h.Bm[L h.Bm-1-i.a.toNat]'(by omega)=(c.Bk.s[L c.Bk.s-1-i.a.toNat]?).getD 0:=by
       grind
      rw[aX,bf];exact H4 G (u.push _)
     ·simp[DC]at ac;have aY:CL i (BN c)=if Da 1 (BN c) then Ff ⟨2,0,(c.Bk.s[L c.Bk.s-1]?).getD 0,(c.Bk.s[L c.Bk.s-2]?).getD 0,[]⟩ (Ct (c.Bk.s.take (L c.Bk.s-2)) (DJ 1 (BN c))) else B0 2 (BN c):=by unfold CL;rw[ab];rfl
      refine(Zm l aa v ak ae al O1 O1 _ (Be ⟨O6,flat c++c.Bk.s.take (L c.Bk.s-2),(c.Bk.s[L c.Bk.s-2]?).getD 0,(c.Bk.s[L c.Bk.s-1]?).getD 0,?_,rfl⟩)).mono λe H a=>⟨_,?_,a⟩
      ·rw[ar,AG,<-Aaw c.Bk.s O1]
      ·rw[aY];exact SC G (Y5 u (by show 2<=L c.Bk.s;omega)) _
     ·simp[DC]at ac;have ap:=an O1;have aZ:CL i (BN c)=Ct (c.Bk.s.take (L c.Bk.s-1-i.a.toNat)++[(c.Bk.s[L c.Bk.s-1]?).getD 0]) (BN c):=by unfold CL;rw[ab];rfl
      refine(Zm l aa v ak ae al O1 O1 _ (Axf ⟨by rw[E];exact ab,flat c++c.Bk.s.take (L c.Bk.s-1),(c.Bk.s[L c.Bk.s-1]?).getD 0,i.a.toNat,?_,by rw[E];omega,?_,rfl⟩)).mono λe H a=>⟨_,?_,a⟩
      ·rw[ar,AG,<-QH c.Bk.s O1]
      ·rw[Aw,Awx];omega
      ·rw[aZ];exact Auk G u i.a.toNat (by show i.a.toNat+1<=L c.Bk.s;omega) _
     ·simp[DC]at ac;have ap:=an O1;have ba:CL i (BN c)=Ct (c.Bk.s.take (L c.Bk.s-1)) {BN c with cells:=c.cells.set ((c.Bk.s[L c.Bk.s-2-i.a.toNat]?).getD 0).toNat ⟨5,0,(c.Bk.s[L c.Bk.s-1]?).getD 0,0,[]⟩}:=by unfold CL;rw[ab];rfl
      have aM:=ax.at (i:=L c.Bk.s-2-i.a.toNat) O1;refine(Agl l aa v ak ae al (E▸ab) O1 (s:=flat c++c.Bk.s.take (L c.Bk.s-1)) (x:=(c.Bk.s[L c.Bk.s-1]?).getD 0) ?_ (j:=i.a.toNat) (r:=((c.Bk.s[L c.Bk.s-2-i.a.toNat]?).getD 0).toNat) (by rw[E];omega) ?_ ?_ ?_).mono λe H a=>⟨_,?_,a⟩
      ·rw[ar,AG,<-QH c.Bk.s O1]
      ·rw[Aw,Awx];omega
      ·rw[XE _ _ _ (by rw[Awx];omega),Awx,List.getElem?_take];rw[if_pos O1,show min (L c.Bk.s-1) (L c.Bk.s)-1-i.a.toNat=L c.Bk.s-2-i.a.toNat by omega];rw[Af O1]at aM ⊢;simp only[Ax2]at aM ⊢;congr 1
       omega
      ·rw[af];omega
      ·rw[ba];exact Akv G u (by show 1<=L c.Bk.s;omega)
    ·have bx:Rf h.fr.Bj[c.Bk.at_.toNat].op:=by rw[E,ab];unfold Rf;omega
     refine(YV (TP w am b t au p o (CL i (BN c),N)) l aa v ak ae al bx λH a4 a5 q B D bj=>?_).mono λe H a=>?_
     ·rw[E];have ay:(CK (Ck h)).Bm.length<=1000000000:=by rw[ag];omega
      have bl:(CK (Ck h)).cells.length<=100000000:=by rw[ad];omega
      refine⟨λe=>?_,λe=>?_,λe=>?_,λe=>?_,λe=>?_,λe=>?_,λe=>?_,λe=>?_,λe=>?_,λe=>absurd e av,λe=>?_⟩
      ·have k:CL i (BN c)=if Da 1 (BN c) then Ff ⟨1,i.a,0,0,[]⟩ (DJ 1 (BN c)) else B0 2 (BN c):=by unfold CL;rw[e];rfl
       refine(OW ⟨1,i.a,0,0,[]⟩ (W N 0 0) ⟨N,0,rfl,λi a8=>absurd a8 O2⟩ ⟨_,_,_,rfl⟩ q aw O1 O1).mono λY O a=>Jj B D a ?_;rw[k];exact Ao9 G u _
      ·have bW:=bi e;refine⟨by rw[IntKind.wrap_i32];omega,(PO i.a q O1).mono λY O a=>Jj B D a ?_⟩;have k:CL i (BN c)=Ct (c.Bk.s++[i.a]) (BN c):=by unfold CL;rw[e];rfl
       rw[k];exact H4 G (u.push i.a)
      ·obtain rfl:z=6:=O1;simp[DC]at ac;have ap:=an O1;obtain⟨j,aq⟩:∃j:Nat,i.a=(j:Int):=⟨i.a.toNat,O1⟩;have k:CL i (BN c)=Ct (c.Bk.s.take (L c.Bk.s-i.a.toNat)) (BN c):=by unfold CL;rw[e];rfl
       rw[aq];refine(PU j q (by rw[ag];omega) O1).mono λY O a=>Jj B D a ?_;rw[k,aq,Bd];exact H4 G (u.drop (n:=j) (by show j<=L c.Bk.s;omega))
      ·obtain rfl:z=7:=O1;have ap:=an O1;obtain⟨j,aq⟩:∃j:Nat,i.a=(j:Int):=⟨i.a.toNat,O1⟩;have k:CL i (BN c)=if Da i.a (BN c) then GS i.a.toNat (DJ i.a (BN c)) else B0 2 (BN c):=by unfold CL;rw[e];rfl
       rw[k,aq,Bd];exact(Atx j O1 q aw ay bl).mono λY O a=>Jj B D a (Ak3 G u j)
      ·have aJ:2<=L c.Bk.s:=by
        have:DC z i.a=2:=by unfold DC;rw[if_neg O1,if_neg O1,if_neg O1,if_neg O1,if_neg O1,if_neg O1,if_neg O1,if_neg O1,if_neg O1,if_neg O1]
        omega
       have a0:=ax.at (i:=L c.Bk.s-1) O1;have bC:=ax.at (i:=L c.Bk.s-2) O1;have k:CL i (BN c)=LQ i.op (c.Bk.s.take (L c.Bk.s-2)) (B9 c ((c.Bk.s[L c.Bk.s-2]?).getD 0)) (B9 c ((c.Bk.s[L c.Bk.s-1]?).getD 0)) (BN c):=by
        unfold CL;rw[if_neg O1,if_neg O1,if_neg O1,if_neg O1,if_neg O1,if_neg O1,if_neg O1,if_neg O1,if_neg O1,if_neg O1,if_neg O1,if_neg O1,if_neg O1];rfl
       obtain⟨x,a3⟩:∃x:Nat,(c.Bk.s[L c.Bk.s-2]?).getD 0=(x:Int):=⟨((c.Bk.s[L c.Bk.s-2]?).getD 0).toNat,O1⟩;obtain⟨y,ah⟩:∃y:Nat,(c.Bk.s[L c.Bk.s-1]?).getD 0=(y:Int):=⟨((c.Bk.s[L c.Bk.s-1]?).getD 0).toNat,O1⟩;rw[a3]at bC k;rw[ah]at a0 k;have b7:x<(CK (Ck h)).cells.length:=by rw[ad,af];omega
       have az:y<(CK (Ck h)).cells.length:=by rw[ad,af];omega
       refine(Agc i.op e q aw ay O1 (s:=flat c++c.Bk.s.take (L c.Bk.s-2)) (x:=x) (y:=y) ?_ b7 az).mono λY O a=>Jj B D a ?_
       ·rw[ag,ar,AG,<-a3,<-ah,<-Aaw c.Bk.s aJ]
       ·rw[k];have aT:(CK (Ck h)).cells[x]=B9 c (x:Int):=by
         unfold B9;rw[Bd];simp only[ad,af];rw[Af O1];rfl
        have aV:(CK (Ck h)).cells[y]=B9 c (y:Int):=by
         unfold B9;rw[Bd];simp only[ad,af];rw[Af O1];rfl
        rw[aT,aV];exact Auu G u i.op _ _ aJ
      ·obtain rfl:z=15:=O1;simp[DC]at ac;have ap:=an O1;obtain⟨n,br⟩:∃n:Nat,i.a % 256=(n:Int):=⟨(i.a % 256).toNat,O1⟩;have k:CL i (BN c)=if Da 1 (BN c) then Ff ⟨3,i.a / 256,0,0,c.Bk.s.drop (L c.Bk.s-(i.a % 256).toNat)⟩ (Ct (c.Bk.s.take (L c.Bk.s-(i.a % 256).toNat)) (DJ 1 (BN c))) else B0 2 (BN c):=by unfold CL;rw[e];rfl
       have be:i.a.tdiv 256=i.a / 256:=Int.tdiv_eq_ediv_of_nonneg ap.1;refine⟨O1,?_⟩;rw[be,k,br,Bd];have aL:=Aly G u (i.a / 256) n (by show n<=L c.Bk.s;omega);by_cases b9:(L h.Bm)=0
       ·have bs:n=0:=O1;subst bs;exact(Akl (i.a / 256) q aw O1 (by rw[ag];exact Axy b9)).mono λY O a=>Jj B D a aL
       ·exact(Awg (i.a / 256) n O1 q aw ay O1 (by rw[ag];omega) (by rw[ag];omega)).mono λY O a=>Jj B D a aL
      ·obtain rfl:z=16:=O1;simp[DC]at ac;have a0:=ax.at (i:=L c.Bk.s-1) O1;have k:CL i (BN c)=KT i.a (BN c):=by unfold CL;rw[e];rfl
       obtain⟨y,ah⟩:∃y:Nat,(c.Bk.s[L c.Bk.s-1]?).getD 0=(y:Int):=⟨((c.Bk.s[L c.Bk.s-1]?).getD 0).toNat,O1⟩;rw[ah]at a0;have az:y<(CK (Ck h)).cells.length:=by rw[ad,af];omega
       have bn:((BN c).Bk.s.getLast?).getD 0=(y:Int):=by rwa[Ayx]
       have b2:=Aql G u i.a (by show 0<L c.Bk.s;omega);rw[bn]at b2;refine(Avn i.a q ay (s:=flat c++c.Bk.s.take (L c.Bk.s-1)) (r:=y) ?_ az ?_).mono λY O a=>Jj B D a ?_
       ·rw[ag,ar,AG,<-ah,<-QH c.Bk.s O1]
       ·have b8:y<L c.cells:=O1;have:=(m.b.cells c.cells[y] (Ao b8)).fl;simp only[ad,af];omega
       ·rwa[k]
      ·obtain rfl:z=17:=O1;simp[DC]at ac;have a0:=ax.at (i:=L c.Bk.s-1) O1;have k:CL i (BN c)=KG i.alts (BN c):=by unfold CL;rw[e];rfl
       obtain⟨y,ah⟩:∃y:Nat,(c.Bk.s[L c.Bk.s-1]?).getD 0=(y:Int):=⟨((c.Bk.s[L c.Bk.s-1]?).getD 0).toNat,O1⟩;rw[ah]at a0;have az:y<(CK (Ck h)).cells.length:=by rw[ad,af];omega
       have a2:MI w H a5 i.alts:=by
        obtain⟨bK,n,bN,aO,aP⟩:=bj;obtain⟨a9,aC,aB,aR,aQ,aD,aS,aj,-⟩:=q;have aH:=aj.cd;have bq:=aj.m.at 4 rfl;have bm:(CK (Ck h)).fr.Bj=h.fr.Bj:=by rw[ES v];rfl
        rw[bm]at aH;obtain⟨bM,bJ,-,bd,bB,a2⟩:=aH.alts ae;rw[bq,bd]at aO;cases aO;rw[bB]at aP;cases aP;rw[E]at a2;exact a2
       obtain⟨bZ,bo⟩:=YQ M.f;refine(Au3 i.alts a5 a2 (λx a3=>?_) O1 q ay (s:=flat c++c.Bk.s.take (L c.Bk.s-1)) (r:=y) ?_ az).mono λY O a=>Jj B D a ?_
       ·have:=bo x a3;omega
       ·rw[ag,ar,AG,<-ah,<-QH c.Bk.s O1]
       ·rw[k];exact Amn G u i.alts (by show 0<L c.Bk.s;omega)
      ·have k:CL i (BN c)={BN c with Bk:={(BN c).Bk with at_:=i.a}}:=by unfold CL;rw[e];rfl
       obtain⟨a9,aC,aB,aR,aQ,aD,aS,aj,aF⟩:=q;refine⟨⟨_,aj.m.at 5 rfl⟩,aj.m.fz 5,{CK (Ck h) with fr:={(CK (Ck h)).fr with at_:=i.a}},by rw[k];exact Ael G u i.a,rfl,B.set ?_ _,a4,⟨a9,aC,aB,aR,aQ,aD,aS,aj.cN (i:=5) rfl O1 rfl rfl rfl rfl aj.cd,aF⟩,D⟩;exact D am (by rw[aF];exact Aw3 ..)
      ·have k:CL i (BN c)=B0 4 (BN c):=by unfold CL;rw[e];rfl
       exact(Ka 4 q).mono λY O a=>Jj B D a (by rw[k];exact OV G u 4)
     ·obtain⟨rfl,ai,a1,aE⟩:=a;exact⟨ai,a1,aE⟩
structure I3 (c:List UInt8) (b:BE) (a:BA):Prop where
 cells:a.cells=b.cells
 su:a.su=b.Bt
 sm:a.sm=b.fuel
 mu:a.mu=b.used
 mm:a.mm=b.spare
 BB:a.BB=b.BB
 text:a.text=c
theorem I3.begin(a:I3 o c d)(b:Int):HO i o (I6 b c) (S8 b d):=⟨a.cells,rfl,rfl,rfl,a.su,a.sm,a.mu,a.mm,rfl,a.BB,a.text⟩
theorem CX.state{c:BA}{d:List Bx}{e:List UInt8}{b:AR}(a:CX d e b c):(b.2=N/\b.1.B5=false/\c.state=0/\CG d e b.1 c)\/(c.state≠0/\(b.2≠N\/b.1.B5=true)):=by
 let ⟨g,f⟩:=b
 unfold CX at a;cases f with
 |some v=>exact Axf ⟨by rw[a.state];decide,Be nofun⟩
 |none=>
  simp at a;cases he:g.B5 with
  |true=>rw[he]at a;exact Axf ⟨by rw[a.state];decide,Axf rfl⟩
  |false=>rw[he]at a;exact Be ⟨rfl,rfl,a.state,a⟩
theorem CX.eJ(a:CX i o se d):d.su=se.1.Bt/\d.sm=se.1.fuel:=by
 let ⟨c,b⟩:=se
 unfold CX at a;cases b with
 |some v=>exact⟨a.su,a.sm⟩
 |none=>
  simp at a;cases he:c.B5 with
  |true=>rw[he]at a;exact⟨a.su,a.sm⟩
  |false=>rw[he]at a;exact⟨a.su,a.sm⟩
theorem Aqu(a:d.state=0)(e:zo.sm=d.sm)(b:d.su<d.sm)(c:d.su+1<=zo.su):Kt zo<Kt d:=by
 unfold Kt;grind
def EvI(a:List Bx)(c:Nat->Nat->Int)(g:List UInt8)(e:BE)(d:AR)(f:BA):Prop:=∃b,CX a g b f/\NK a b=d/\FG a c e b
theorem Ajs(h:Dz i wx)(G:Ib w n b i U j vi)(ai:MM w n s b d t)(al:I3 o c d)(aa:D4 i c){e:Int}(H:0<=e/\e<(L c.cells:Int)):
 Az Aa 72 #[J (I ⟨s,0,N⟩),V .i32 e] n λr y=>∃k,CX i o (CT i e c) k/\k.state≠0/\B2 w s b t n k (Iu k) r y:=by
 let ⟨af,aq,ar⟩:=PM h aa H
 have ab:Fk i wx (I6 e c):=TH aa H;refine(Ahf e (EvI i wx o c (CT i e c)) ai (λy ae B hb=>?_) (λy k ae D q B hb=>?_) (λk D q E=>?_)).mono λr y l=>?_
 ·apply (TM h (G.low hb) B (al.begin e) ab).mono;rintro r ao ⟨x,m,l⟩;exact⟨x,⟨_,m,af.symm,FG.after (Ku h _ ab rfl) rfl rfl (Ayu _)⟩,l⟩
 ·let ⟨ad,a,K,u⟩:=D
  rcases a.state with⟨M,O,-,f⟩|⟨au,-⟩
  ·let ⟨g,ac⟩:=ad
   simp at M O f;subst M;have p:FR i wx g:=by
    have:=u.2;grind
   apply (Au7 h (G.low hb) B f p).mono;rintro r ao ⟨x,m,l⟩;have Y:=RC h p;refine⟨x,⟨_,m,?_,Y.after u.1.1 u.1.2.1 u.1.2.2⟩,?_,l⟩
   ·rw[<-Apw h p];omega
   ·let ⟨am,an⟩:=m.eJ
    cases hbb:Dt g with
    |true=>
     have aj:=Uc h p hbb;have E:=(JX p.b).2 hbb;exact Aqu q (by rw[an,Y.1.1,f.sm]) (by rwa[f.su,f.sm]) (by rwa[am,f.su])
    |false=>
     have ag:D6 i g=(B0 1 g,N):=by unfold D6;rw[hbb,(Hm p.b).2 hbb];rfl
     have ah:B0 1 g={g with B5:=true,BB:=1}:=by unfold B0;rw[O];rfl
     rw[ag,ah]at m;have z:Vh o {g with B5:=true,BB:=1} x:=m;unfold Kt;rw[z.su,z.sm,z.state,q,f.su,f.sm];simp
  omega
 ·obtain⟨⟨ap,ac⟩,a,-,-⟩:=D;unfold CX at a;cases ac with
  |some v=>rw[a.Bm];simp
  |none=>
   simp at a;cases he:ap.B5 with
   |true=>rw[he]at a;exact absurd a.state E
   |false=>rw[he]at a;exact absurd a.state q
 ·obtain⟨k,⟨ad,a,K,-⟩,q,l⟩:=l;rcases a.state with⟨-,-,aj,-⟩|⟨-,ak⟩
  ·omega
  ·rw[Alh ak]at K;grind
def TlS(a:E5)(b:BA):Prop:=match a.2 with
 |some t1=>I3 t1 a.1 b
 |none=>b.BB=a.1.BB/\b.su=a.1.Bt/\b.mu=a.1.used
def Eb(g d e:Nat)(c:List Nat)(h:Q)(b:E5)(f:Ending)(i:Q):Prop:=∃a,TlS b a/\B2 g d e c h a (A b.2.isSome) f i
structure LL (b f:Nat) (a:List Bx) (d:Nat->Nat->Int) (i:Option Addr) (h:Nat) (e:Nat->Int×Option Addr×Nat×Nat) (c:Q):Prop where
 g:Dz a d
 im:Ib b c f a i h e
 Ph:Lib.TabBelow Aa b c "internal/strconv.uint64pow10" .u64 Lib.pow10Tab
theorem LL.low{b:Nat}{j:Q}{e:Nat}{i:List Bx}{c:Nat->Nat->Int}{h:Option Addr}{f:Nat}{d:Nat->Int×Option Addr×Nat×Nat}{k:Q}(a:LL b e i c h f d j)(hb:Below b j k):LL b e i c h f d k:=⟨a.g,a.im.low hb,a.Ph.on hb⟩
theorem Eb.of{lo:Nat}{b:Q}{M Pb:Nat}{a:List Nat}{c:List Nat}{g w':Q}{r:E5}{e:Ending}(i:AF a b g)(j:∀d∈c,d∈a\/b.heap.size<=d)(h:Eb lo M Pb c g r e w'):Eb lo M Pb a b r e w':=by
 let ⟨l,k,f⟩:=h
 exact⟨l,k,f.of i j f.1⟩
theorem Eb.ret(a:Eb w s b t n sg n2 q):n2=F (A sg.2.isSome):=by
 obtain⟨d,-,c,-⟩:=a;exact c
theorem Ai6(a:Int):0<(Lib.itoa a).length:=by
 unfold Lib.itoa;split
 ·simp
 ·rw[Lib.decDigits];split<;>simp
theorem SK(m:MM w n s b d t)(a:I3 o c d)(p:c.B5=false)(e:Oy)(i:0<e.size/\e.size<=1000000)(q:(L o)<=2000):
 Az Aa 74 #[J (I ⟨s,0,N⟩),S e] n λh j=>Eb w s b t n (Ek e.data.toList c o λr=>(c,I r)) h j:=by
 refine(Ahd e m i.1 i.2 (a.text▸q)).mono λh j f=>?_;have k:(L e.data.toList)=e.size:=rfl;unfold Qf Oz at f;rw[a.text]at f;unfold Ek;rw[k];by_cases g:(L o)+e.size<=2000
 ·rw[if_pos g];rw[decide_eq_true g,if_pos rfl]at f;exact⟨{d with text:=o++e.data.toList},⟨a.cells,a.su,a.sm,a.mu,a.mm,a.BB,rfl⟩,f⟩
 ·rw[if_neg g];rw[decide_eq_false g,if_neg nofun]at f;have l:B0 8 c={c with B5:=true,BB:=8}:=by unfold B0;rw[p];rfl
  rw[l];exact⟨CY 8 d,⟨rfl,a.su,a.mu⟩,f⟩
theorem VS{l:List Bx}:∀e {j:List TD} {g f:BE} {b d:List UInt8},Fo l e j g b=(f,I d)->L b<=L d/\(L b<=2000->L d<=2000)
 |e,[],g,f,b,d,a=>by
  have:(g,I b)=(f,I d):=by cases e<;>exact a
  grind
 |0,_::_,_,_,_,_,a=>by cases a
 |e+1,(i,c)::j,g,f,b,d,a=>by
  have n:∀i h k,Ek i h b (λm=>Fo l e k h m)=(f,I d)->L b<=L d/\(L b<=2000->L d<=2000):=λi h k a=>by
   unfold Ek at a;split at a
   ·have:=VS e a;grind
   ·cases a
  rw[Fo]at a;grind
theorem Amo(a:DK i sw c o=(si,I va)):(L o)<=L va/\(L o<=2000->L va<=2000):=VS _ a
theorem Avc{t:List UInt8}(b:Dz i wx)(e:D4 i c){a:Int}(d:0<=a/\a<(L c.cells:Int)):DK i [([],a)] c t=match EQ i a c with
 |(a1,I x)=>Ek (H1 x) a1 t λf=>DK i (F7 x) a1 f
 |(a1,N)=>(a1,N):=by
 rw[UH b e (λh g=>O6) d.1];grind
def Xz(e h i:Nat)(d:List Bx)(o:Nat->Nat->Int)(s:Option Addr)(r:Nat)(p:Nat->Int×Option Addr×Nat×Nat)(t:Nat):Prop:=∀(c:Q) (m:BA) (g:List Nat) (f:List UInt8) (b:BE) (a:Cb) (n:Option Addr) (l k:Nat),2000<=L f+t->L f<=2000->LL e i d o s r p c->MM e c h i m g->I3 f b m->D4 d b->FK (L d) (L b.cells) a->a.BB=3->E9 (λj=>e<=j/\j∉g) c (W n l k) a.BX->
 Az Aa 75 #[J (I ⟨h,0,N⟩),T #[V .u8 3,V C a.n,V .i32 a.left,V .i32 a.right,W n l k]] c λq v=>Eb e h i g c (Ek (H1 a) b f λu=>DK d (F7 a) b u) q v
def Qz(h e f:Nat)(g:List Bx)(k:Nat->Nat->Int)(o:Option Addr)(n:Nat)(l:Nat->Int×Option Addr×Nat×Nat)(p:Nat):Prop:=∀(d:Q) (j:BA) (i:List Nat) (c:List UInt8) (a:BE) (b:Int),2000<=L c+p->L c<=2000->LL h f g k o n l d->MM h d e f j i->I3 c a j->D4 g a->0<=b/\b<(L a.cells:Int)->
 Az Aa 38 #[J (I ⟨e,0,N⟩),V .i32 b] d λm q=>Eb h e f i d (DK g [([],b)] a c) m q
theorem CX.B5(a:CX i o se d)(b:se.1.B5=true)(c:se.2=N):Vh o se.1 d:=by
 let ⟨f,e⟩:=se
 unfold CX at a;grind
theorem CX.val(a:CX i o (c,I D) d):Ach o D c d:=a
theorem MM.cellOf(e:MM w n s b d t){a:Nat}(i:a<L d.cells):∃c j k fp g f,a<j/\n.cell? ⟨s,1,N⟩=I (W (I ⟨c,0,N⟩) j k)/\(n.cell? ⟨c,a*5,N⟩=I (.int .u8 d.cells[a].BB)/\n.cell? ⟨c,a*5+1,N⟩=I (.int C d.cells[a].n)/\n.cell? ⟨c,a*5+2,N⟩=I (.int .i32 d.cells[a].left)/\n.cell? ⟨c,a*5+3,N⟩=I (.int .i32 d.cells[a].right)/\n.cell? ⟨c,a*5+4,N⟩=I (W fp g f))/\E9 (λh=>w<=h/\h∉t) n (W fp g f) d.cells[a].BX:=by
 let ⟨o,q,p,G,y,r,H,e,v⟩:=e
 obtain⟨cg,cc,fp,g,f,l,z,B,D,E,m,-⟩:=e.cellAt i;have x:=e.dY i l m;have u:=e.m.at 1 rfl;grind
theorem Aqw(b2:Xz w s b i wx U j vi wf):Qz w s b i wx U j vi wf:=by
 intro K bP ah t e c aN au p ao aF x G;have u:=Avc (t:=t) p.g x G;obtain⟨az,a9⟩:∃az,DK i [([],c)] e t=az:=⟨_,rfl⟩;rw[a9]at u ⊢;have aD:=ao.da;have Y:=Ajs p.g p.im ao aF x G;obtain⟨-,ac,a7⟩:=PM p.g x G;rcases OT p.g x G with⟨aP,m,ab,ar,bC,bD,af,aa,E,b6,b9,bm⟩|⟨aa,ar,bn⟩
 ·rw[aa]at u;simp only at u;obtain⟨q,rfl⟩:∃q:Nat,m=(q:Int):=⟨m.toNat,O1⟩;generalize (EQ i c e).1=a2 at*;have aJ:(CT i c e).1={a2 with Bt:=a2.Bt-1}:=by rw[ab]
  have ap:q<L a2.cells:=O6;have l:=Int.le_trans x.Bt.1 ac.1.2.2;rw[aJ]at l;simp only at l;have a4:=E.Bt;have aX:∀av,I3 t a2 av->∃f:q<L av.cells,av.cells[q]=aP:=λav bq=>by
   have aq:q<L av.cells:=by rwa[bq.cells]
   refine⟨aq,?_⟩;rw[af];unfold B9;rw[aJ,Bd];simp only[bq.cells];grind
  have aZ:=O0 p;have aW:=O0 bm;have bb:=O0 aD;have B:=O0 u;have aY:=O0 ab;clear ao aF x p aD a7 ac bC bD af aa b6 b9 bm u a9 aJ ap G ab ar;go_enter func38,ntmps38;go_upto_region 4 with(first
   |(go_at_call 72;refine Y.mono ?_;rintro d y ⟨k,v,-,rfl,a5,bw,a8,a6⟩;rw[aY.o]at v;have a:=v.val;have bB:=a.su;rw[show Iu k=R #[V .i32 (q:Int),A true] by unfold Iu;rw[if_neg (by rw[a.state];decide),a.Bm];rfl];have ae:Ec k=true:=(by unfold Ec;rw[a.su,a.sm];grind);have aO:=MQ a8 ⟨by rw[a.su,a.sm];simp only;omega,by rw[a.sm];exact E.fuel,by rw[a.mu,a.mm];exact E.used,by rw[a.mm];exact E.spare⟩;rw[ae,ES ae]at aO;have bf:=O0 aO;have ay:I3 t a2 {k with su:=k.su+1}:=⟨a.cells,O6,a.sm,a.mu,a.mm,a.BB,a.text⟩;have aS:=O0 a5;have aT:=O0 a6;clear Y aY v a bB ae aO a5 a8 a6)
   |(go_at_call 73;refine bf.o.mono ?_;rintro d z ⟨rfl,bj,aQ,bl,bk⟩;have aj:=O0 bl;have aR:=O0 (aS.o.trans bj aT.o);have bx:=O0 λam hb=>(bk am hb).elim (aT.o am) λh=>.inr (Ay aS.o.size h);clear bf bj bl bk))
  obtain⟨aq,bt⟩:=aX _ ay;obtain⟨bN,bH,bM,fp,aL,aK,bp,bG,⟨c0,a0,a1,a3,bi⟩,aM⟩:=aj.o.cellOf aq;have bs:k.cells[q]'aq=aP:=bt;rw[bs]at c0 a0 a1 a3 aM;have bz:=O0 aM;have bp:(q:Int)<(bH:Int):=O1;have aV:=aR.o.low bb.o.2 bb.o.1;have bc:=O0 aj.o.da.1;have aI:∀{bh:Q} {d:Ending} {aw:Q},Ow z bh->Eb w s b aQ bh az d aw->Eb w s b ah K az d aw:=λb5 f=>f.of (aR.o.then b5) bx.o;obtain⟨ag,g,M,O,ax⟩:=aP;clear bs bt aq aM aX;simp only at c0 a0 a1 a3;go_cut [7] (λbJ r=>∃D:Nat,bJ=J (I ⟨D,0,N⟩)/\(r.cell? ⟨D,0,N⟩=I (V .u8 ag)/\r.cell? ⟨D,1,N⟩=I (V C g)/\r.cell? ⟨D,2,N⟩=I (V .i32 M)/\r.cell? ⟨D,3,N⟩=I (V .i32 O)/\r.cell? ⟨D,4,N⟩=I (W fp aL aK))/\O9 (Ow z r))
  case first=>
   have ak:=B7.du z (V .u8 ag) (V C g) (V .i32 M) (V .i32 O) (W fp aL aK) 197;go_wp2;go_meet
   exact⟨_,rfl,⟨ak.at 0 rfl,ak.at 1 rfl,ak.at 2 rfl,ak.at 3 rfl,ak.at 4 rfl⟩,bA⟩
  case rest=>
   clear c0 a0 a1 a3 bi bG bp;rename Q=>r
   obtain⟨D,rfl,⟨c0,a0,a1,a3,bi⟩,n⟩:=hcut;by_cases h:ag=1
   ·subst h;have aG:=aW.o.n;have bO:=Lib.itoa_length_le g aG.1 aG.2;go_wp2_with (first
     |(go_at_call 6;refine(Qe g aG.1 aG.2 r ((aZ.o.low (aV.trans (n.o.mono bc.o))).Ph.here)).mono ?_;rintro d bK ⟨rfl,bE,bI,br⟩;have bg:Ow z bK:=(by show Below _ _ _;rw[br];exact n.o.trans (Lib.below_grow _ _ n.o.size bE bI));clear br)
     |(go_at_call 74;refine(SK (aj.o.bG bg) ay E.live ⟨(Lib.itoa g).toArray⟩ (by have:=Ai6 g;show 0<(Lib.itoa g).toArray.size/\(Lib.itoa g).toArray.size<=_;rw[Ax7];omega) au).mono ?_;intro d aw f;obtain rfl:=f.ret;have al:=O0 f;clear f))
    go_ret;refine aI bg ?_;rw[B.o,show H1 ⟨1,g,M,O,ax⟩=Lib.itoa g from if_pos rfl,show F7 ⟨1,g,M,O,ax⟩=[] from if_neg O2];simp only[Qt];exact al.o
   ·by_cases a4:ag=3
    ·subst a4;have ba:=O0 (b2 r _ aQ t a2 ⟨3,g,M,O,ax⟩ fp aL aK aN au (aZ.o.low (aV.trans (n.o.mono bc.o))) (aj.o.bG n.o) ay E aW.o rfl (bz.o.fr λam h l=>⟨h,n.o.block am l⟩));go_wp2_with (first
      |(go_at_call 75;refine ba.o.mono ?_;intro d aw f;obtain rfl:=f.ret;have al:=O0 f;clear ba f))
     go_ret;refine aI n.o ?_;rw[B.o];exact al.o
    ·have bd:H1 ⟨ag,g,M,O,ax⟩=[102,117,110]/\F7 ⟨ag,g,M,O,ax⟩=[]:=by
      show _/\_;unfold H1 F7;exact⟨by rw[if_neg h,if_neg a4],if_neg a4⟩
     go_wp2_with (first
      |(go_at_call 74;refine(SK (aj.o.bG n.o) ay E.live ⟨#[102,117,110]⟩ O4 au).mono ?_;intro d aw f;obtain rfl:=f.ret;have al:=O0 f;clear f))
     go_ret;refine aI n.o ?_;rw[B.o,bd.1,bd.2];simp only[Qt];exact al.o
 ·rw[aa]at u;simp only at u;subst u;have bo:(DO (CT i c e).1,(N:Option (List UInt8))).2.isSome=false:=rfl;have aC:∀{d:Ending} {bu:Q} {aH:BA},B2 w s b ah K aH (A false) d bu->(aH.BB=(DO (CT i c e).1).BB/\aH.su=(DO (CT i c e).1).Bt/\aH.mu=(DO (CT i c e).1).used)->Eb w s b ah K (DO (CT i c e).1,N) d bu:=λf b8=>⟨_,b8,f⟩;cases hae:(CT i c e).1.B5 with
  |true=>
   have ad:(CT i c e).2=none:=by
    cases af:(CT i c e).2 with
    |none=>rfl
    |some m=>
     have l:=ac.2;rw[af]at l;have:=l.1.live;rw[hae]at this;cases this
   have an:DO (CT i c e).1=(CT i c e).1:=by
    unfold DO B0;rw[hae];split<;>rfl
   have ai:Az Aa 72 #[J (I ⟨s,0,N⟩),V .i32 c] K λd y=>d=F (R #[V .i32 0,A false])/\O9 (Eb w s b ah K (DO (CT i c e).1,N) (F (A false)) y):=by
    refine Y.mono λd y ⟨k,v,b1,aE⟩=>?_;have a:=v.B5 hae ad;have b7:Iu k=R #[V .i32 0,A false]:=by unfold Iu;rw[if_pos a.state]
    have aB:=aE.1;rw[b7]at aB;exact⟨aB,aC (aE.of AF.refl (λam hb=>Be hb) rfl) (by rw[an];exact⟨a.BB,a.su,a.mu⟩)⟩
   clear ao aF x p aD Y a7 ac aa ar bn G aN au aC ad an hae bo a9;go_enter func38,ntmps38;go_wp2_with (first
    |(go_at_call 72;refine ai.mono ?_;rintro d y ⟨rfl,B⟩;clear ai))
   go_ret;exact B.o
  |false=>
   obtain⟨m,ad⟩:∃m,(CT i c e).2=I m:=by
    cases af:(CT i c e).2 with
    |none=>
     rcases a7 with h|h
     ·exact absurd af h
     ·rw[hae]at h;cases h
    |some m=>exact⟨m,rfl⟩
   have H:D4 i (CT i c e).1:=by
    have l:=ac.2;rw[ad]at l;exact l.1
   have an:DO (CT i c e).1={(CT i c e).1 with B5:=true,BB:=1}:=by
    rw[(Hm H).2 ar];unfold B0;rw[hae];rfl
   have ab:CT i c e=((CT i c e).1,I m):=by rw[<-ad]
   have ai:Az Aa 72 #[J (I ⟨s,0,N⟩),V .i32 c] K λd y=>d=F (R #[V .i32 m,A true])/\O9 (Az Aa 73 #[J (I ⟨s,0,N⟩)] y λd z=>d=F (A false)/\O9 (Eb w s b ah K (DO (CT i c e).1,N) (F (A false)) z)):=by
    refine Y.mono λd y ⟨k,v,b1,aE⟩=>?_;rw[ab]at v;have a:=v.val;obtain⟨rfl,a5,bw,a8,a6⟩:=aE;refine⟨by unfold Iu;rw[if_neg (by rw[a.state];decide),a.Bm];rfl,?_⟩;have ae:Ec k=false:=by rwa[P9 H a.su a.sm]
    have b0:Ck k=CY 1 k:=by unfold Ck;rw[ae];rfl
    refine(MQ a8 (⟨by rw[a.su,a.sm];exact H.Bt,by rw[a.sm];exact H.fuel,by rw[a.mu,a.mm];exact H.used,by rw[a.mm];exact H.spare⟩)).mono λd z ap=>?_;rw[ae,b0]at ap;have aB:=ap.1;exact⟨aB,aC (ap.of a5 a6 rfl) (by rw[an];exact⟨rfl,a.su,a.mu⟩)⟩
   clear ao aF x p aD Y a7 ac aa ar bn G aN au aC ad an hae bo a9 H ab;go_enter func38,ntmps38;go_wp2_with (first
    |(go_at_call 72;refine ai.mono ?_;rintro d y ⟨rfl,be⟩;clear ai)
    |(go_at_call 73;refine be.o.mono ?_;rintro d z ⟨rfl,B⟩;clear be))
   go_ret;exact B.o
section
attribute [local go_sem] Oper.semAt_some
def Hq{c:List Int}(a:List (HI c)):List Int:=a.map λb=>b.1.2
theorem At2(a:List UInt8):(⟨#[40]⟩:Oy)++⟨a.toArray⟩=⟨(40::a).toArray⟩:=rfl
def RJ(p j l:Nat)(o:List Bx)(q n:Nat)(m:E5)(c:List Nat)(e:Q)(k:Prop)(i:BE->List UInt8->E5)(f:Q):Prop:=∃a b h d,(k->m=i a b)/\I3 b a h/\D4 o a/\q<=L a.cells/\n<=L b/\L b<=2000/\MM p f j l h d/\AF c e f/\∀g∈d,g∈c\/e.heap.size<=g
def RX(i c e:Nat)(f:E5)(b:List Nat)(g:Q)(d:Prop)(h:Q):Prop:=∃a:E5,(d->f=a)/\a.2.isSome=false/\Eb i c e b g a (F (A false)) h
def RG(i d f:Nat)(n:List Bx)(o k:Nat)(g:E5)(c:List Nat)(a:Q)(e:Prop)(j:BE->List UInt8->E5)(l:Q)(m:Ending)(b:Q):Prop:=∃h,m=F (A h)/\AF c a b/\O9 (KeepsFrom a.heap.size l b/\cond h (RJ i d f n o k g c a e j b) (RX i d f g c a e b))
theorem RJ.af(a:RJ w s b i j wf sg t n nk za q):AF t n q:=let ⟨_,_,_,_,_,_,_,_,_,_,_,a,_⟩:=a;a
theorem RJ.mono{Q:Prop}(c:RJ w s b i j wf sg t n nk za q)(f:∀e h,Q->nk/\za e h=z0 e h):RJ w s b i j wf sg t n Q z0 q:=
 let ⟨a,d,m,k,c,l⟩:=c
 ⟨a,d,m,k,λg=>(c (f a d g).1).trans (f a d g).2,l⟩
theorem Eb.af(a:Eb w s b t n sg n2 q):AF t n q:=let ⟨_,_,_,a,_⟩:=a;a
theorem Tz{K:BE->List UInt8->E5}{T':Nat}(a:Oy)(H:0<a.size/\a.size<=1000000)(ab:T'<=wf+a.size)(y:RJ w s b i j wf sg t n nk (λo O=>Ek a.data.toList o O (K o)) q):Az Aa 74 #[J (I ⟨s,0,N⟩),S a] q (RG w s b i j T' sg t n nk K q):=by
 let ⟨c,h,ad,U,d,E,x,D,ac,G,m,r,u⟩:=y
 refine(SK m E x.live a H G).mono λY ae g=>?_;replace d:nk->sg=Ek a.data.toList c h (K c):=d
 have aa:(L a.data.toList)=a.size:=rfl;let ⟨M,p,f,l,B3,z,B⟩:=(g.of r u)
 by_cases v:(L h)+L a.data.toList<=2000
 ·have k:∀e,Ek a.data.toList c h e=e (h++a.data.toList):=λe=>if_pos v;rw[k]at d p f;exact⟨true,f,l,m.keeps g.af _,c,_,M,B3,d,p,x,D,O6,O6,z,l,B⟩
 ·have k:∀e,Ek a.data.toList c h e=(B0 8 c,N):=λe=>if_neg v;rw[k]at d g f;exact⟨false,f,l,m.keeps g.af _,_,d,rfl,f▸g.of r u⟩
theorem Atp{X:Q}{L:List TD}(K:Qz w s b i wx U j vi ns)(r:LL w b i wx U j vi n)(u:w<=n.heap.size/\∀B∈t,w<=B)(aj:2000<=n1+ns)(M:0<=D/\D<(wf:Int))(ai:∀m∈L,m.2<(wf:Int))(E:RJ w s b i wf n1 sg t n nk (DK i (([],D)::L)) X):Az Aa 38 #[J (I ⟨s,0,N⟩),V .i32 D] X (RG w s b i wf n1 sg t n nk (DK i L) X):=by
 let ⟨z,ae,ab,y,l,aa,x,ak,al,v,k,h,q⟩:=E
 refine(K X ab y ae z D O1 v (r.low (h.low u.2 u.1)) k aa x ⟨M.1,O1⟩).mono λah an a=>?_;let ⟨ac,p,c,f,B3,G,H⟩:=(a.of h q)
 rcases Qv r.g _ (X:=[([],D)]) (L:=L) x (λm Y=>O6) (λm Y=>O6) .refl with⟨o,ag,d,e,ad,am,-⟩|⟨o,d,e,-⟩;all_goals
  rw[Ayy]at e;rw[e]at l;rw[d]at p a c
 ·have O:=Amo d;exact⟨true,c,f,k.keeps a.af _,o,ag,ac,B3,l,p,ad,O1,O1,O.2 v,G,f,H⟩
 ·exact⟨false,c,f,k.keeps a.af _,_,l,rfl,c▸a.of h q⟩
theorem E9.e9(g:E9 v8 n p wi)(o:n.cell? ⟨w,0,N⟩=I (A w4)):E9 v8 (n.setCell ⟨w,0,N⟩ (A ss)) p wi:=by
 let ⟨l,d,e,h⟩:=g
 refine⟨l,d,e,λb i=>?_⟩;let ⟨a,c,k,f,m⟩:=h b i
 refine⟨a,c,k,f,?_⟩;by_cases hb:a=w
 ·subst hb;by_cases j:c+b=0
  ·grind
  ·rwa[G4 (Aym j)]
 ·rwa[Ak (AA _ _ _ _ hb)]
theorem MM.d5{g:Nat}(a:MM w n g b d t){c:Nat}(hb:c∉t)(q:w<=c){z:Bool}(p:n.cell? ⟨c,0,N⟩=I (A z))(i:Bool):MM w (n.setCell ⟨c,0,N⟩ (A i)) g b d t:=by
 obtain⟨j,l,k,x,u,m,y,a,rfl⟩:=a;have h:Below w n (n.setCell ⟨c,0,N⟩ (A i)):=(Ae _ _).setCell q _;exact⟨j,l,k,x,u,m,y,.of (a.sp.s.fr O2 λv r=>AA _ _ _ _ (show v≠c from λo=>hb (o▸L6▸r))) (λf e=>(a.fl f e).e9 p) (λf e=>(a.dc f e).fr h) (a.cd.fr h) a.Fh a.GD,rfl⟩
theorem Eb.turn{f h i:Nat}{g:List Nat}{c d j:Q}{a:E5}{m:Option Nat}{b:Ending}(o:Eb f h i g c a b d)(u:f<=c.heap.size)(k:d.grownBy j m)(e:∀a,m=I a->c.heap.size<=a/\∃l,d.heap[a]?=I l/\l.isCells=false):Eb f h i g c a b j:=
 let ⟨v,p,t,q,n,r,s⟩:=o
 ⟨v,p,t,q.turn k λa b=>(e a b).1,n,r.turn k λa b=>⟨Ay u (e a b).1,(e a b).2⟩,s⟩
theorem Eb.box(f:Eb w s b t n sg n2 q)(c:w<=j/\j<n.heap.size/\j∉t)(k:q.cell? ⟨j,0,N⟩=I (A w4)):Eb w s b (j::t) n sg n2 (q.setCell ⟨j,0,N⟩ (A ss)):=
 let ⟨o,g,l,h,d,i,a⟩:=f
 ⟨o,g,l,(h.mono λ_=>.tail _).set (.inl (.head _)) _,d,i.d5 (λm=>(a j m).elim c.2.2 O1) c.1 k ss,λe hb=>(a e hb).imp (.tail _) id⟩
theorem RJ.turn{f i k:Nat}{g:List Nat}{o:List Bx}{b d n:Q}{q m:Nat}{l:E5}{j:Prop}{h:BE->List UInt8->E5}{s:Option Nat}(v:RJ f i k o q m l g b j h d)(K:f<=b.heap.size)(p:d.grownBy n s)(e:∀a,s=I a->b.heap.size<=a/\∃r,d.heap[a]?=I r/\r.isCells=false):RJ f i k o q m l g b j h n:=
 let ⟨u,O,M,t,w,x,y,z,B,D,E,G,H⟩:=v
 ⟨u,O,M,t,w,x,y,z,B,D,E.turn p λa c=>⟨Ay K (e a c).1,(e a c).2⟩,G.turn p λa c=>(e a c).1,H⟩
theorem RX.turn{d f h:Nat}{e:List Nat}{b c j:Q}{i:E5}{g:Prop}{l:Option Nat}(m:RX d f h i e b g c)(r:d<=b.heap.size)(q:c.grownBy j l)(s:∀a,l=I a->b.heap.size<=a/\∃k,c.heap[a]?=I k/\k.isCells=false):RX d f h i e b g j:=
 let ⟨a,n,o,p⟩:=m
 ⟨a,n,o,p.turn r q s⟩
theorem RX.fin(a:RX w s b sg t n nk q)(g:w<=j/\j<n.heap.size/\j∉t)(f:q.cell? ⟨j,0,N⟩=I (A w4)):RX w s b sg (j::t) n nk (q.setCell ⟨j,0,N⟩ (A ss)):=
 let ⟨h,c,d,e⟩:=a
 ⟨h,c,d,e.box g f⟩
theorem RX.tl(c:RX w s b sg n8 q nk Y)(h:nk)(d:AF t n q)(e:∀a∈n8,a∈t\/n.heap.size<=a):Eb w s b t n sg (F (A false)) Y:=
 let ⟨_,f,_,g⟩:=c
 f h▸g.of d e
theorem RG.tl{l f h:Nat}{e:List Nat}{r:List Bx}{c j d:Q}{B p:Nat}{i:E5}{g:Prop}{k:Ending}(b:RG l f h r B p i e c g (λq D=>(q,I D)) j k d)(m:g):∃a,k=F (A a)/\AF e c d/\O9 (KeepsFrom c.heap.size j d/\Eb l f h e c i (F (A a)) d):=by
 let ⟨a,x,w,b⟩:=b
 refine⟨a,x,w,b.o.1,?_⟩;cases a with
 |true=>
  obtain⟨E,G,z,n,v,y,-,-,-,-,u,s,t⟩:=b.o.2;rw[v m];exact⟨z,y,rfl,s,n,u,t⟩
 |false=>exact RX.tl b.o.2 m .refl λa hb=>.inl hb
theorem Zw{a:List (HI wi)}{b:HI wi}(c:Hq (a++[b])<+:xg):Hq a<+:xg/\xg.drop (L a)=b.1.2::xg.drop (a++[b]).length:=by
 obtain⟨f,rfl⟩:=c;have d:Hq (a++[b])=Hq a++[b.1.2]:=by simp[Hq]
 have e:(Hq a).length=L a:=by simp[Hq]
 grind
theorem Atm{p:List Bx}{n:Nat}(bY:∀an,an<n->Qz w s b p wx U j vi an):Xz w s b p wx U j vi n:=by
 intro e cq aa y a c x an u bu bz M m ac aJ am aV cd;have bw:H1 c=40::Lib.itoa c.n:=by unfold H1;rw[if_neg O1,if_pos aV]
 have bt:F7 c=Gu c.BX.reverse++[([41],-1)]:=by unfold F7;rw[if_pos aV]
 rw[bw,bt];generalize hR:Ek (40::Lib.itoa c.n) a y (λcy=>DK p (Gu c.BX.reverse++[([41],-1)]) a cy)=R;obtain⟨cJ,c4,cf,au⟩:=cd;cases cf;have av:=m.da;have a5:=am.n;have c9:=Lib.itoa_length_le c.n a5.1 a5.2;have aW:∀d∈aa,d<e.heap.size:=by
  obtain⟨bO,bU,bP,cx,cp,bV,c1,m,rfl⟩:=m;exact λd hb=>(m.rg d hb).2
 obtain⟨aq,al⟩:∃aq,(e.alloc (.cells #[J (I ⟨s,0,N⟩)] 102)).alloc (.cells #[V .u8 3,V C c.n,V .i32 c.left,V .i32 c.right,W x (L c.BX) u] 197)=aq:=⟨_,rfl⟩;have aK:aq.heap.size=e.heap.size+1+1:=by rw[<-al];simp
 obtain⟨l,ak⟩:∃l,aq.alloc (.cells #[A false] 4)=l:=⟨_,rfl⟩;have b2:l.heap.size=e.heap.size+1+1+1:=by rw[<-ak,Ay1,aK]
 have ai:Ow e l:=by rw[<-ak,<-al];exact(((Ae _ e).alloc (Ac _) _).alloc O2 _).alloc O5 _
 have aH:=B7.du (e.alloc (.cells #[J (I ⟨s,0,N⟩)] 102)) (V .u8 3) (V C c.n) (V .i32 c.left) (V .i32 c.right) (W x (L c.BX) u) 197;rw[Ay1]at aH;have a7:∀f,AF aa l f->f.cell? ⟨e.heap.size,0,N⟩=I (J (I ⟨s,0,N⟩))/\f.cell? ⟨e.heap.size+1,1,N⟩=I (V C c.n)/\f.cell? ⟨e.heap.size+1,4,N⟩=I (W x (L c.BX) u)/\f.cell? ⟨e.heap.size+1+1,0,N⟩=I (A false)/\f.frozen? ⟨e.heap.size+1+1,0,N⟩=false:=λf t=>by
  have a4:∀d,e.heap.size<=d->d<e.heap.size+1+1+1->f.heap[d]?=l.heap[d]?:=λd aP a9=>t.block d O1 λag=>by have:=aW d ag;omega
  have O:∀{d i v},aq.cell? ⟨d,i,N⟩=I v->l.cell? ⟨d,i,N⟩=I v:=λm=>ak▸BM _ _ _ _ _ m;refine⟨Eu (a4 _ O1 O1) (O ?_),Eu (a4 _ O1 O1) (O ?_),Eu (a4 _ O1 O1) (O ?_),Eu (a4 _ O1 O1) ?_,?_⟩
  ·rw[<-al];exact BM _ _ _ _ _ O2
  ·rw[<-al];exact aH.at 1 rfl
  ·rw[<-al];exact aH.at 4 rfl
  ·rw[<-ak,<-aK];exact(Boxed.new aq 4 (A false)).cell
  ·rw[AJ (a:=⟨e.heap.size+1+1,0,N⟩) (a4 (e.heap.size+1+1) O1 O1),<-ak,<-aK];exact Uq ..
 rw[<-al]at ak;have bc:∀f,Ow l f->Az Aa 6 #[V C c.n] f λg aL=>g=.returned (S ⟨(Lib.itoa c.n).toArray⟩)/\O9 (Ow l aL):=λf t=>(Qe c.n a5.1 a5.2 f ((M.low ((ai.trans (t.mono ai.size)).mono av.1)).Ph.here)).mono λg aL ⟨aR,an,cs,aJ⟩=>⟨aR,by rw[aJ];exact t.trans (Lib.below_grow _ _ t.size an cs)⟩;have ap:∀f,Ow l f->Az Aa 74 #[J (I ⟨s,0,N⟩),S (⟨#[40]⟩++⟨(Lib.itoa c.n).toArray⟩)] f (RG w s b p (L a.cells) (L y+1) R aa l True (DK p (Gu c.BX.reverse++[([41],-1)])) f):=λf t=>by
  rw[At2];exact Tz ⟨(40::Lib.itoa c.n).toArray⟩ (by show 0<(40::Lib.itoa c.n).toArray.size/\(40::Lib.itoa c.n).toArray.size<=_;rw[Ax7,AO];omega) (Nat.add_le_add_left (Nat.succ_le_succ (Ai _)) _) ⟨a,y,cq,aa,λ_=>hR.symm,ac,aJ,Ac _,Ac _,bz,m.bG (ai.trans (t.mono ai.size)),.bW t,λd hb=>.inl hb⟩
 have bH:=Aw6 M (Aw6 am au);obtain⟨bg,bh,-⟩:=a7 l .refl;refine(callsIn_wide (n:=9)).1 ?_;refine callsIn_of_wp_marks func75 rfl trivial ?_ rfl;simp only[ntmps75,Ax7,AO,Bc,Nat.reduceAdd,Nat.reduceSub,Axx,Ayb,Ayp,Ayh,Bb,Awy];clear m ac aJ M am au aK bz hR bw bt a5 aV aH al;gi_wp2
 have bQ:l.drew.cell? ⟨e.heap.size,0,N⟩=_:=bg;have bS:l.drew.cell? ⟨e.heap.size+1,1,N⟩=_:=bh;clear ak bg bh;refine wpIn_mono (Q:=Exit.then (λar aL=>O9 (∃ao,ar={tmps:=#[J (I ⟨s,0,N⟩),T #[V .u8 3,V C c.n,V .i32 c.left,V .i32 c.right,W x (L c.BX) u],J (I ⟨e.heap.size,0,N⟩),J (I ⟨e.heap.size+1,0,N⟩),J (I ⟨e.heap.size+1+1,0,N⟩),Aw7,Aw7,J (I ⟨s,0,N⟩),J (I ⟨e.heap.size+1,1,N⟩),V C c.n,S ⟨(Lib.itoa c.n).toArray⟩,S (⟨#[40]⟩++⟨(Lib.itoa c.n).toArray⟩),A ao,A (!ao),Aw7,Aw7,Aw7,Aw7,Aw7,Aw7,Aw7,Aw7,Aw7,Aw7,Aw7,Aw7,Aw7,Aw7,Aw7,Aw7],defers:=[]}/\O9 (∃f,RG w s b p (L a.cells) (L y+1) R aa l True (DK p (Gu c.BX.reverse++[([41],-1)])) f (.returned (A ao)) aL))) (λ_ _ _=>False)) ?_ ?_
 ·gi_region_with (first
   |(refine⟨trivial,?_⟩;gi_at_call 6;refine(callsIn_wide.2 (bc _ (Ae _ _).drew)).mono ?_;rintro g w5 ⟨rfl,aM⟩;obtain⟨c5,aO,-⟩:=a7 w5 (.bW aM.o);have bJ:=O0 (ap w5 aM.o);clear aM)
   |(refine⟨trivial,?_⟩;gi_at_call 74;refine(callsIn_wide.2 bJ.o).mono ?_;rintro g ba ⟨ao,rfl,E,bp⟩;have a0:O9 (∃f,RG w s b p (L a.cells) (L y+1) R aa l True (DK p (Gu c.BX.reverse++[([41],-1)])) f (.returned (A ao)) ba):=⟨_,_,rfl,E,bp⟩;clear E bp))
  all_goals exact⟨_,rfl,a0⟩
 ·intro g ar G ah;cases g with
  |normal=>
   obtain⟨ao,rfl,a0⟩:=ah.o;clear bc ap bQ bS;obtain⟨_,_,aR,aj,a8⟩:=a0.o;cases aR;obtain⟨k0,-,cG,b6,c6⟩:=a7 _ aj;have cD:=ai.size;have aB:AF aa e l:=.bW ai;have b2:=b2;cases ao with
   |false=>
    have bI:Eb w s b aa e R (.returned (A false)) (G.setCell ⟨e.heap.size+1+1,0,N⟩ (A false)):=(RX.fin a8.o.2 ⟨by have:=av.1;omega,O1,λag=>by have:=aW _ ag;omega⟩ b6).tl trivial aB λd hb=>(AX.1 hb).elim (λg=>.inr O1) .inl;have co:(G.setCell ⟨e.heap.size+1+1,0,N⟩ (A false)).cell? ⟨e.heap.size+1+1,0,N⟩=I (A false):=Au _ _ _ b6;clear a8 aj a0 aB;gi_wp2
    exact⟨A false,by simp[results,results75,go_sem,co],bI⟩
   |true=>
    obtain⟨bN,cz,cr,B,aO,bi,bj,bk,bl,bm,aF,-,aC⟩:=a8.o.2;obtain⟨M,am,au⟩:=bH;obtain⟨h,a2⟩:∃h,G.alloc (AW #[W x (L c.BX) u] 108)=h:=⟨_,rfl⟩;have cE:h.heap.size=G.heap.size+1:=by rw[<-a2];simp
    have a3:Ow G h:=by rw[<-a2];exact bA
    have bT:h.cell? ⟨G.heap.size,0,N⟩=I (W x (L c.BX) u):=by rw[<-a2];exact(Boxed.new G 108 (W x (L c.BX) u)).cell
    have cF:=aj.size;have bq:∀d∈B,d<G.heap.size:=by
     obtain⟨bO,bU,bP,cx,cp,bV,c1,m,rfl⟩:=aF;exact λd hb=>(m.rg d hb).2
    have aG:=aF.da;have aX:∀d,d<l.heap.size->d∉aa->d∉B:=λd aP a9 ag=>(aC d ag).elim a9 λbn=>O1;have bX:ZT h x c.BX:=λb5 bs=>by
     obtain⟨d,O,⟨-,hb⟩,g,aI⟩:=au b5 bs;have bZ:d<e.heap.size:=AL aI;refine⟨d,O,g,?_⟩;rw[Af bs];exact Bu a3 (Eu (aj.block d O1 hb) (Bu ai aI))
    have t:∀Y∈G.heap.size::Vo x (L c.BX),Y<h.heap.size/\Y∉B:=λY k=>by
     rcases AX.1 k with rfl|k
     ·exact⟨O1,λag=>by have:=bq _ ag;omega⟩
     ·cases hxf:c.BX with
      |nil=>rw[hxf]at k;cases x<;>cases k
      |cons z zs=>
       obtain⟨d,O,⟨-,hb⟩,g,aI⟩:=au 0 (by rw[hxf];simp);have bZ:d<e.heap.size:=AL aI;rw[hxf,g]at k;obtain rfl:Y=d:=Ax.1 k;exact⟨O1,aX Y O1 hb⟩
    have aQ:AF aa l h:=aj.then a3;have ay:∀f,AF B h f->f.cell? ⟨e.heap.size,0,N⟩=I (J (I ⟨s,0,N⟩))/\f.cell? ⟨e.heap.size+1+1,0,N⟩=I (A false)/\f.frozen? ⟨e.heap.size+1+1,0,N⟩=false:=λf t=>by
     obtain⟨ct,-,-,cv,cw⟩:=a7 f (aQ.trans t aC);exact⟨ct,cv,cw⟩
    have a1:w<=e.heap.size+1+1/\e.heap.size+1+1<h.heap.size/\e.heap.size+1+1∉B:=⟨by have:=av.1;omega,O1,aX _ O1 λag=>by have:=aW _ ag;omega⟩;have az:w<=h.heap.size/\∀d∈B,w<=d:=⟨by have:=aG.1;omega,aG.2⟩;have br:LL w b p wx U j vi h:=M.low ((ai.mono av.1).trans ((aj.low av.2 (by have:=av.1;omega)).trans (a3.mono aG.1)));have aT:∀D∈c.BX,0<=D/\D<(L a.cells:Int):=am.f;have c7:=am.fl;have bE:RJ w s b p (L a.cells) (L y+1) R B h (Hq ([]:List (HI c.BX))<+:c.BX.reverse) (DK p (Gu (c.BX.reverse.drop ([]:List (HI c.BX)).length)++[([41],-1)])) h:=⟨bN,cz,cr,B,λ_=>aO trivial,bi,bj,bk,bl,bm,aF.bG a3,.refl,λd hb=>.inl hb⟩;have bK:∀(D:Int) (aN:List Int) (be:Prop) (f:World),D∈c.BX->(∀D∈aN,D∈c.BX)->RJ w s b p (L a.cells) (L y+1) R B h be (DK p (([],D)::(Gu aN++[([41],-1)]))) f->_:=λD aN be f aP a9 bn=>Atp (bY (n-1) (by have:=bu;omega)) br az (by have:=bu;omega) (aT D aP) (λY k=>by
     rcases Ag.1 k with k|k
     ·obtain⟨D,aS,ah⟩:=AU.1 k;have:=aT D (a9 D aS);simp only[AX,Axw,or_false]at ah;rcases ah with rfl|rfl<;>simp only<;>omega
     ·rw[Ax.1 k];show(-1:Int)<_;omega) bn
    have bb:∀{o:E5} {g f},Eb w s b ((e.heap.size+1+1)::B) h o g f->Eb w s b aa e o g f:=λm=>m.of (aB.trans aQ λd hb=>.inl hb) λd hb=>(AX.1 hb).elim (λg=>.inr O1) λhb=>(aC d hb).imp id O1;clear a8 aj a0 aB aQ M am au aF bq aG aX aT br aC aO bi bj bk bl bm a3;gi_wp2_with (first
     |(refine⟨trivial,?_⟩;gi_at_call 128;refine(Aro Fence.wide _ trivial rfl _ _ _ _).mono ?_;rintro g cK ⟨rfl,rfl⟩))
    (try rw[a2])
    clear a2;refine wpIn_rangeFunc_ownH (F:=Fence.wide) rfl O1 (gf:=182) (lb:=#[J (I ⟨G.heap.size,0,N⟩)]) rfl trivial (enters_of func182 O3 rfl)
     (Arx Fence.wide _ trivial rfl O1 G.heap.size x u c.BX O1 h O1 bT bX) FW.trans (FW.put (λY k=>(t Y k).1)) (Ae _ _) (λ_=>rfl)
     (λ(ad:List (HI c.BX)) q=>RJ w s b p (L a.cells) (L y+1) R B h (Hq ad<+:c.BX.reverse) (DK p (Gu (c.BX.reverse.drop (L ad))++[([41],-1)])) q)
     (λu (ad:List (HI c.BX)) q=>u=.ret/\RX w s b R ((e.heap.size+1+1)::B) h (Hq ad<+:c.BX.reverse) q/\q.cell? ⟨e.heap.size+1+1,0,N⟩=I (A false))
     (λb9 f bf b8 ac M r=>ac.turn az.1 M r)
     (λu b9 f bf b8 ac M r=>⟨ac.1,ac.2.1.turn az.1 M r,cell_kept ac.2.2 M λo g=>(r o g).2⟩)
     bE
     (λH ar q=>ar={tmps:=#[J (I ⟨s,0,N⟩),T #[V .u8 3,V C c.n,V .i32 c.left,V .i32 c.right,W x (L c.BX) u],J (I ⟨e.heap.size,0,N⟩),J (I ⟨e.heap.size+1,0,N⟩),J (I ⟨e.heap.size+1+1,0,N⟩),Aw7,V .i32 H.1.2,J (I ⟨s,0,N⟩),J (I ⟨e.heap.size+1,1,N⟩),V C c.n,S ⟨(Lib.itoa c.n).toArray⟩,S (⟨#[40]⟩++⟨(Lib.itoa c.n).toArray⟩),A true,A false,J (I ⟨e.heap.size+1,4,N⟩),W x (L c.BX) u,.func (.func 182) #[] #[J (I ⟨G.heap.size,0,N⟩)],V C (H.1.1:Int),V .i32 H.1.2,Aw7,Aw7,Aw7,Aw7,Aw7,Aw7,Aw7,Aw7,Aw7,Aw7,Aw7],defers:=[]})
     (λH ar b9 f bf b8 ac M r=>ac)
     ?assign ?body ?done ?stop
    case assign=>
     rintro aZ ad H q c3 ab bW;gi_wp2
     exact bW _ _ (KeepsFrom.refl _ _) (FW.refl _ _) ab rfl
    case body=>
     rintro aZ ad H ar q cB r ab rfl cC;have bG:∀f,AF B h f->q.heap.size<=f.heap.size->FW (G.heap.size::Vo x (L c.BX)) q f:=λf m ci=>⟨ci,λY k=>by
      have k:=t Y k;rw[m.block Y k.1 k.2,ab.af.block Y k.1 k.2]⟩
     obtain⟨cl,cm,cn⟩:=ay q ab.af;have bd:∀f H,KeepsFrom h.heap.size q f->KeepsFrom h.heap.size q (f.setCell ⟨e.heap.size+1+1,0,N⟩ (A H)):=λf H m=>m.trans (.of_grownBy (grownBy_setCell' _ _ _) λb5 g=>by cases g;exact a1.2.1);have ap:=Tz (T':=L y+1) (K:=DK p (([],H.1.2)::(Gu (c.BX.reverse.drop (ad++[H]).length)++[([41],-1)]))) ⟨#[32]⟩ O4 (Nat.le_add_right _ _) (ab.mono (Q:=Hq (ad++[H])<+:c.BX.reverse) λa y m=>⟨(Zw m).1,by rw[(Zw m).2];exact Ql O4⟩);have bM:=O0 H.2;clear ab;gi_wp2_with (first
      |(refine⟨trivial,?_⟩;gi_at_call 74;refine(CallsIn.inRound aZ (callsIn_wide.2 ap)).mono ?_;rintro g w5 ⟨d,rfl,E,ae⟩;obtain⟨cj,a6,ck⟩:=ay w5 E;have c2:=O0 E;clear E;cases d)
      |(refine⟨trivial,?_⟩;gi_at_call 38;refine(CallsIn.inRound aZ (callsIn_wide.2 (bK _ _ _ _ bM.o (λD aS=>Azx.1 (Az6 aS)) ae.o.2))).mono ?_;rintro g ba ⟨d,rfl,E,ax⟩;obtain⟨cH,b7,cI⟩:=ay ba E;have bC:=O0 E;clear E;cases d)
      |(refine⟨trivial,?_⟩))
     ·exact⟨bd _ _ ae.o.1,rfl,RX.fin ae.o.2 a1 a6,Au _ _ _ a6⟩
     ·exact⟨bd _ _ (ae.o.1.trans ax.o.1),rfl,RX.fin ax.o.2 a1 b7,Au _ _ _ b7⟩
     ·exact⟨ae.o.1.trans ax.o.1,bG _ bC.o (ae.o.1.trans ax.o.1).size,ax.o.2⟩
    case done=>
     rintro wx bB q aD b1 ab aE;have aw:Hq bB=c.BX.reverse:=by
      have g:=Ws c.BX 0 (Ac _);rw[<-b1,A4]at g;rw[show c.BX.reverse.take (L c.BX)=c.BX.reverse by rw[<-Ayt,AP]]at g;exact g
     have b0:c.BX.reverse.drop (L bB)=[]:=by rw[<-aw];simp[Hq]
     obtain⟨cl,cm,cn⟩:=ay q ab.af;have ap:=Tz (K:=λa y=>(a,I y)) ⟨#[41]⟩ O4 (Ac _) (ab.mono (Q:=True) λa y _=>⟨aw▸Ay0 _,by rw[b0];exact(Ql O4).trans (Q5 (Qt ..))⟩);clear ab aw b0 b1;gi_wp2_with (first
      |(refine⟨trivial,?_⟩;gi_at_call 74;refine(callsIn_wide.2 ap).mono ?_;intro g w5 r;obtain⟨d,rfl,E,ae⟩:=r.tl trivial;obtain⟨cj,a6,ck⟩:=ay w5 E;clear E r))
     have c8:=grownBy_setCell' w5 (e.heap.size+1+1) (A d);have bo:(w5.setCell ⟨e.heap.size+1+1,0,N⟩ (A d)).heap[wx]?=I (.deferred (I [])):=by
      rw[AA _ _ _ _ (show wx≠e.heap.size+1+1 by have:=a1.2.1;omega)];exact ae.o.1.same wx _ aD aE rfl
     have r:∀o,I wx=I o->h.heap.size<=o/\∃O:Obj,(w5.setCell ⟨e.heap.size+1+1,0,N⟩ (A d)).heap[o]?=I O/\O.isCells=false:=λo g=>by cases g;exact⟨aD,_,bo,rfl⟩
     have aY:=cell_kept (Au _ _ (A d) a6) (grownBy_putObj' _ wx (.deferred N)) λo g=>(r o g).2;refine⟨O2,.inl ⟨_,_,rfl,run_takeDeferred bo,?_⟩⟩;exact⟨A d,by simp[results,results75,go_sem,aY],bb ((ae.o.2.box a1 a6).turn az.1 (grownBy_putObj' _ wx _) r)⟩
    case stop=>
     rintro wx u ad q aD ⟨an,ce,bx⟩ ⟨rfl,t,ca⟩ aE;have aw:Hq ad=c.BX.reverse.take an:=by
      have g:=Ws c.BX 0 ce;rw[<-bx,A4]at g;exact g
     have r:∀o,I wx=I o->h.heap.size<=o/\∃O:Obj,q.heap[o]?=I O/\O.isCells=false:=λo g=>by cases g;exact⟨aD,_,aE,rfl⟩
     have aY:=cell_kept ca (grownBy_putObj' _ wx (.deferred N)) λo g=>(r o g).2;have bD:=O0 (bb (((t.turn az.1 (grownBy_putObj' _ wx (.deferred N)) r).tl (aw▸List.take_prefix _ _) .refl λd hb=>.inl hb)));clear aw bx r;gi_wp2
     exact⟨O2,.inl ⟨_,_,rfl,run_takeDeferred aE,A false,by simp[results,results75,go_sem,aY],bD.o⟩⟩
  |ret=>exact ah.elim
  |exit id=>exact ah.elim
  |goto y=>exact ah.elim
  |panic ch=>exact ah.elim
  |outgrown=>exact ah.elim
theorem Aj0{lo M Pb:Nat}{gs:List Bx}{D:Nat->Nat->Int}{gp:Option Addr}{gc:Nat}{G:Nat->Int×Option Addr×Nat×Nat}(a:Nat):Qz lo M Pb gs D gp gc G a:=by
 induction a using Nat.strongRecOn with
 |_ a ih=>exact Aqw (Atm ih)
end
theorem B7.dZ(b:Q)(c d e a:X)(g:A0):B7 (b.alloc (.cells #[c,d,e,a] g)) b.heap.size [c,d,e,a]:=by
 refine⟨λf h=>?_,λf=>Uq _ _ _ _,O2⟩;simp_all
theorem Pg.up(a:Pg w n b j U wf vi)(e:w<=s):Pg s n b j U wf vi:=⟨Am a.lt e,a.c,λf d=>by
 let ⟨h,l,i,k⟩:=a.g f d
 grind⟩
theorem Fe.up(a:Fe w n p wl)(h:w<=s):Fe s n p wl:=a.imp id λa=>by
 let ⟨b,c,d,e,f,g,i⟩:=a
 refine⟨b,c,Am d h,e,f,g,λk j=>?_⟩;grind
theorem Asp(c:Nat)(a d:Int):KZ (KK c a d):=⟨(λb=>by cases b),λ_=>rfl⟩
theorem Aem(b:Nat)(a c:Int):I3 [] (KK b a c) (Nl b (HF a 2000000) (HF c 2000000)):=⟨rfl,rfl,rfl,rfl,rfl,rfl,rfl⟩
def RnT(j:Q)(b:Nat)(e h C0:Int)(i:List UInt8)(a:Q):Prop:=Ow j a/\(a.cell? ⟨b,12,N⟩=I (V C e)/\a.cell? ⟨b,7,N⟩=I (V C h)/\a.cell? ⟨b,9,N⟩=I (V C C0))/\∃g f d,a.cell? ⟨b,13,N⟩=I (W g f d)/\(e=0->∀c,Ow a c->(convert 116 9 (W g f d)).run Aa c=.ok (S ⟨i.toArray⟩) c)
theorem Ak4{Pb:Nat}{gs:List Bx}{D:Nat->Nat->Int}{gp:Option Addr}{gc:Nat}{G:Nat->Int×Option Addr×Nat×Nat}{a:Int}(c d:Int)(B:Dz gs D)(a0:Ib n.heap.size n Pb gs gp gc G)(a3:0<=a/\a<(L gs:Int))(aj:n.cell? ⟨Pb,1,N⟩=I (V C a))(a4:Lib.TabBelow Aa n.heap.size n "internal/strconv.uint64pow10" .u64 Lib.pow10Tab):
 Az Aa 23 #[J (I ⟨Pb,0,N⟩),V C c,V C d] n λb bc=>b=F (Jd gs a c d)/\Ow n bc:=by
 have al:=B.Q9;obtain⟨i,a1⟩:∃i,n.alloc (.cells #[V C 0,S ⟨#[]⟩,V C 0,V C 0] 37)=i:=⟨_,rfl⟩;have x:Ow n i:=by rw[<-a1];exact bA
 have ab:B7 i n.heap.size Kj:=by
  rw[<-a1];exact B7.dZ n _ _ _ _ _
 obtain⟨f,r⟩:∃f,(Du gs a c d).1.BB=f:=⟨_,rfl⟩;obtain⟨g,O⟩:∃g,(Du gs a c d).1.Bt=g:=⟨_,rfl⟩;obtain⟨C0,K⟩:∃C0,(Du gs a c d).1.used=C0:=⟨_,rfl⟩;obtain⟨o,an⟩:∃o,(Du gs a c d).2.getD []=o:=⟨_,rfl⟩;have au:Jd gs a c d=T #[V C f,S ⟨o.toArray⟩,V C g,V C C0]:=by
  show _=_;unfold Jd;grind
 have H:KZ (Du gs a c d).1:=Aqx _ _ (Asp _ _ _);have am:f≠0->o=[]:=λj=>by
  rcases Y2 B al a3 c d with⟨ae,aZ,b,s⟩|⟨ae,b,s⟩
  ·rw[b]at H r;exact absurd (r▸H.2 s) j
  grind
 have aq:Az Aa 36 #[J (I ⟨Pb,0,N⟩),V C (HF c 2000000),V C (HF d 2000000)] i λb t=>∃M:Nat,b=F (J (I ⟨M,0,N⟩))/\t.cell? ⟨Pb,1,N⟩=I (V C a)/\O9 (Az Aa 38 #[J (I ⟨M,0,N⟩),V .i32 a] t λb e=>(∃aC,b=F (A aC))/\n.heap.size<e.heap.size/\O9 (B7 e n.heap.size Kj)/\O9 (RnT n M f g C0 o e)):=by
  have aa:=a0.low x;have z:=x.size;have aK:=aa.pg.c;refine(Aq7 (HF c 2000000) (HF d 2000000) aK O1).mono ?_;rintro b t ⟨E,M,aB,rfl,aF,aE⟩;refine⟨M,rfl,Bu (x.trans (E.mono z)) aj,?_⟩;have aG:Ib i.heap.size i Pb gs gp gc G:=⟨aa.pg.up z,aa.ar,λaQ aL=>(aa.cd aQ aL).up z⟩;have aI:LL i.heap.size Pb gs D gp gc G t:=⟨B,aG.low E,λaz ak=>a4 az (x.trans ((E.mono z).trans (ak.mono z)))⟩;refine(Aj0 (lo:=i.heap.size) (M:=M) (Pb:=Pb) (gs:=gs) (D:=D) (gp:=gp) (gc:=gc) (G:=G) 2000 t _ aB [] (KK (L gs) c d) a .refl O2 aI aF (Aem _ _ _) (S6 al c d) ?_).mono λb e aO=>?_
  ·show 0<=a/\a<((F3 (L gs)).length:Int);rwa[VU]
  ·obtain⟨U,aP,s,aD,bd,⟨bg,bi,bh,b8,bq,bj,b9,y,-⟩,-⟩:=aO;have q:=E.trans (aD.low aE E.size);have aJ:=x.trans (q.mono z);have aM:U.BB=f/\U.su=g/\U.mu=C0/\(f=0->U.text=o):=by
    have l:TlS (Du gs a c d) U:=aP;rcases Y2 B al a3 c d with⟨ae,aZ,b,s⟩|⟨ae,b,s⟩
    ·rw[b]at l r O K an;exact⟨l.BB.trans r,l.su.trans O,l.mu.trans K,λ_=>l.text.trans an⟩
    ·rw[b]at l r O K H;exact⟨l.1.trans r,l.2.1.trans O,l.2.2.trans K,λj=>absurd (r.trans j) (H.1 s)⟩
   obtain⟨aR,aT,aV,aW⟩:=aM;have aH:=ab.bX (q.block _ ab.lt) q.size;obtain⟨bb,ba,a5⟩:=Cf y.tx;refine⟨⟨_,s⟩,Am ab.lt q.size,aH,aJ,⟨by rw[<-aR];exact y.m.at 12 rfl,by rw[<-aT];exact y.m.at 7 rfl,by rw[<-aV];exact y.m.at 9 rfl⟩,bb,_,ba,by rw[y.m.at 13 rfl,a5],λj az ak=>?_⟩;have a6:=(y.bG ak).tx;rw[a5]at a6;rw[<-aW j];exact Al6 a6
 have bo:IntKind.i32.wrap a=a:=by rw[IntKind.wrap_i32];omega
 clear a0 aj x ab a4 H B r O K an;go_enter func23,ntmps23;go_wp2_with (first
  |(go_at_call 37;refine(Aib _ _ _ O1).mono ?_;rintro b t ⟨rfl,rfl⟩)
  |(go_at_call 36;refine aq.mono ?_;rintro b t ⟨M,rfl,aj,ay⟩;clear aq)
  |(go_at_call 38;refine ay.o.mono ?_;rintro b e ⟨⟨be,rfl⟩,a2,ax,aw⟩;clear ay))
 obtain⟨q,⟨ao,a8,a9⟩,b1,bt,bf,a7,ad⟩:=id aw.o;have aS:=λY=>BM e Y _ _ _ ao;have aX:=λY=>BM e Y _ _ _ a8;have aY:=λY=>BM e Y _ _ _ a9;clear aw;go_region
 obtain⟨u,ac⟩:∃u,(e.alloc (AW #[V C f,S ⟨#[]⟩,V C g,V C C0] 37)).drew=u:=⟨_,rfl⟩;have p:Ow e u:=by rw[<-ac];exact bA.drew
 have w:B7 u e.heap.size [V C f,S ⟨#[]⟩,V C g,V C C0]:=by
  rw[<-ac];exact(B7.dZ e _ _ _ _ _).bX rfl (Ac _)
 have bu:=w.at 0 rfl;have bw:=w.at 1 rfl;have bx:=w.at 2 rfl;have bz:=w.at 3 rfl;have b0:=w.fz 1;have aN:n.heap.size≠e.heap.size:=O1;have bp:e.heap.size≠n.heap.size:=O1;have h:=ax.o.bX (p.block _ a2) p.size;have b2:=h.at 0 rfl;have b5:=h.at 1 rfl;have b6:=h.at 2 rfl;have b7:=h.at 3 rfl;have bk:=h.fz 0;have bl:=h.fz 1;have bm:=h.fz 2;have bn:=h.fz 3;have av:B7 (u.setCell ⟨e.heap.size,1,N⟩ (S ⟨o.toArray⟩)) n.heap.size Kj:=h.bX (AA _ _ _ _ aN) O2;have br:=Bu p ao;have bs:=Bu p a7;rw[ac];have ap:=O0 (q.trans (p.mono q.size));clear ac w ao a8 a9 a7 aS aX aY q ax;by_cases j:f=0
 ·have ad:=ad j u p;subst j;clear ad p am;go_wp2;have k:=Vi av (V C 0) (S ⟨o.toArray⟩) (V C g) (V C C0);have af:=k.at 0 rfl;have ag:=k.at 1 rfl;have ah:=k.at 2 rfl;have ai:=k.at 3 rfl;refine AZ (v:=T #[V C 0,S ⟨o.toArray⟩,V C g,V C C0]) (by simp[results,results23,go_sem,af,ag,ah,ai]) rfl ⟨by rw[au],?_⟩;exact((((ap.o.setCell (Azp a2) _).setCell (Ac _) _).setCell (Ac _) _).setCell (Ac _) _).setCell (Ac _) _
 ·obtain rfl:=am j;clear ad p am av;go_wp2;have k:=Vi h (V C f) (S ⟨#[]⟩) (V C g) (V C C0);have af:=k.at 0 rfl;have ag:=k.at 1 rfl;have ah:=k.at 2 rfl;have ai:=k.at 3 rfl;refine AZ (v:=T #[V C f,S ⟨#[]⟩,V C g,V C C0]) (by simp[results,results23,go_sem,af,ag,ah,ai]) rfl ⟨by rw[au],?_⟩;exact(((ap.o.setCell (Ac _) _).setCell (Ac _) _).setCell (Ac _) _).setCell (Ac _) _
theorem Ao2(e f:Int)(z:Dz i wx)(B:Ib n.heap.size n w i U s vi)(M:0<=D/\D<(L i:Int))(y:n.cell? ⟨w,1,N⟩=I (V C D))(O:Lib.TabBelow Aa n.heap.size n "internal/strconv.uint64pow10" .u64 Lib.pow10Tab):
 Az Aa 10 #[J (I ⟨w,0,N⟩),V C e,V C f] n λd aa=>d=F (Jd i D e f)/\Ow n aa:=by
 obtain⟨b,r⟩:∃b,n.alloc (.cells #[V C 0,S ⟨#[]⟩,V C 0,V C 0] 37)=b:=⟨_,rfl⟩;have c:Ow n b:=by rw[<-r];exact bA
 have a:B7 b n.heap.size Kj:=by
  rw[<-r];exact B7.dZ n _ _ _ _ _
 have p:=c.size;have m:=B.low c;have E:Ib b.heap.size b w i U s vi:=⟨m.pg.up p,m.ar,λY K=>(m.cd Y K).up p⟩;obtain⟨h,k,j,C0,q⟩:∃h k j C0,Jd i D e f=T #[V C h,S k,V C j,V C C0]:=⟨_,_,_,_,rfl⟩;rw[q];have u:Az Aa 23 #[J (I ⟨w,0,N⟩),V C e,V C f] b λd l=>d=F (T #[V C h,S k,V C j,V C C0])/\O9 (Ow n l)/\B7 l n.heap.size Kj:=(Ak4 e f z E M (Bu c y) (λx G=>O x (c.trans (G.mono p)))).mono λd l ⟨H,hb⟩=>⟨by rw[H,q],c.trans (hb.mono c.size),a.bX (hb.block _ a.lt) hb.size⟩;go_enter func10,ntmps10;go_wp2_with (first
  |(go_at_call 23;apply u.mono;rintro d l ⟨rfl,t,a⟩;have v:=O0 a;have af:=a.at 0 rfl;have ag:=a.at 1 rfl;have ah:=a.at 2 rfl;have ai:=a.at 3 rfl;have ab:=a.fz 0;have ac:=a.fz 1;have ad:=a.fz 2;have ae:=a.fz 3;clear a))
 have g:=Vi v.o (V C h) (S k) (V C j) (V C C0);refine AZ (by simp[results,results10,go_sem,g.at 0 rfl,g.at 1 rfl,g.at 2 rfl,g.at 3 rfl]) rfl ⟨rfl,?_⟩;exact(((t.o.setCell .refl _).setCell .refl _).setCell .refl _).setCell .refl _
theorem FD.e6(h:FD v8 n p wl):FD (λf=>f<n.heap.size) n p wl:=by
 obtain⟨c,e,-,i,j,b,k⟩:=h;refine⟨c,e,b.lt,i,j,b,λm l=>?_⟩;obtain⟨d,-,g,a⟩:=k m l;exact⟨d,a.lt,g,a⟩
theorem Apv(q:R2 n s (W U b j) p)(u:E2 w n (W U b j) i)(v:∀l (g:l<L i),0<=i[l].BH/\i[l].BH<=20):∃h,Ib n.heap.size n s i U j h:=by
 let ⟨E,B,k,g⟩:=u
 cases k;have y:∀a,∃d:Int×Option Addr×Nat×Nat,∀c:a<L i,d.1=i[a].BH/\(∃e f,e<n.heap.size/\U=I ⟨e,f,N⟩/\n.cell? ⟨e,f+a*2,N⟩=I (V C d.1)/\n.cell? ⟨e,f+a*2+1,N⟩=I (W d.2.1 d.2.2.1 d.2.2.2))/\Fe n.heap.size n (W d.2.1 d.2.2.1 d.2.2.2) i[a].Bj:=λa=>by
  by_cases c:a<L i
  ·obtain⟨e,f,D,-,k,c0,t,o⟩:=g a c;obtain⟨r,z,-,x,-⟩:=id o;subst x;exact⟨(i[a].BH,I ⟨r,0,N⟩,i[a].Bj.length,i[a].Bj.length),λ_=>⟨rfl,⟨e,f,AL c0,k,c0,t⟩,Axf o.e6⟩⟩
  ·exact⟨(0,N,0,0),λg=>absurd g c⟩
 let ⟨h,m⟩:=Classical.skolem.1 y
 exact⟨h,⟨q.lt,q.c0,λa c=>(m a c).2.1⟩,λa c=>⟨(m a c).1,(v a c).1,O6⟩,λa c=>(m a c).2.2⟩
def s7:Oy:=⟨#[40,109,111,100,117,108,101,32,109,32,40,100,101,102,32,109,97,105,110,32,40,41,32,55,41,41]⟩
def sX:Oy:=⟨#[40,109,111,100,117,108,101,32,109,32,40,100,101,102,32,109,97,105,110,32,40,41,32,120,41,41]⟩
def sM:Oy:=⟨#[109,97,105,110]⟩
def p7:Oy×List IT×List DD:=match Dd s7 with
 |.ok x=>x
 |P _=>(⟨#[]⟩,[],[])
theorem Yg:Dd s7=.ok p7:=O3
theorem im7:p7.2.1=[]:=O3
def VZ(a:DD):BI:=(a.1.1,a.2.1.map (·.1),a.2.2)
def u7:KU:=⟨p7.2.2.map (·.1.1),p7.2.2.map VZ,[],L p7.2.2⟩
def r7:KU:=EA u7
theorem td7:r7.td=[]:=O3
theorem ne7:(L u7.td)=1:=O3
theorem kn7:(L r7.kn)=1:=O3
theorem gs7:(L r7.gs)=1:=O3
def GR:BD:=⟨p7.1,[],r7.gs.map λa=>{a with Bj:=a.Bj.map (EI r7.kn r7.kn)}⟩
theorem Y8:DZ [GR] sM:=by
 have a:(Gj [GR] sM).map (λd=>d.2.2)=I 0:=O3;let ⟨⟨b,c,e⟩,f,g⟩:=AB.1 a
 exact⟨O2,O3,rfl,rfl,⟨b,c,O6⟩,of_decide_eq_true O3⟩
theorem ZD:(Du (Cj [GR]) (Dx [GR] sM) 2000000 2000000).1.BB=0/\(Du (Cj [GR]) (Dx [GR] sM) 2000000 2000000).2=I [55]:=⟨O3,O3⟩
theorem chX:Hw sX=(4,23):=O3
theorem tx7(e:Tx s7 w1):w1=GR:=by
 obtain⟨q,p,c,H,K,E,D,b,y,z,B,w,a,rfl⟩:=e;have i:p7=(q,p,c.map Df):=by
  have:=Yg.symm.trans w;simpa using this
 have s:q=p7.1:=by rw[i]
 obtain rfl:p=[]:=by have:=im7;grind
 have t:c.map Df=p7.2.2:=by rw[i]
 obtain rfl:b=[]:=by simpa using a.lp
 have x:u0 [] c=u7:=by
  unfold u0 u7;rw[<-t];simp[A4,Aw4,tk,VZ]
 obtain⟨h,j,rfl⟩:=a.r;rw[x]at j a ⊢;have v:EE h u7=r7:=by
  match h,j with
  |0,e=>exact absurd (congrArg L (show u7.td=[] from e)) (by rw[ne7];decide)
  |n+1,_=>exact Uo td7 n
 rw[v]at a ⊢;let ⟨G,o⟩:=Bak.1 kn7
 let ⟨d,l⟩:=Bak.1 gs7
 have k:=a.sp;have m:=a.gp;simp only[Bc,List.drop_zero,o]at k;rw[l]at m;have u:∀f g (b:List GG),(b.map (C9 f g)).map Cn=(b.map Cn).map λd=>{d with Bj:=d.Bj.map (EI f g)}:=λf g b=>by simp[Cn,C9,E1,Aw4]
 rw[u,List.perm_singleton.1 m,List.perm_singleton.1 k,s,<-l];simp[GR,BZ,o]
theorem ZZ(b:Im [s7] H):H=[GR]:=by
 let ⟨c,d⟩:=b
 obtain⟨a,rfl⟩:=Bak.1 c;rw[show a=GR from tx7 (d 0 .refl .refl)]
theorem ig7(j:Y9 n q [s7] sM n2):Ow n q/\∃b e d a,n2=F (R #[J (I ⟨b,0,N⟩),V C 0,A true])/\R2 q b (W e d a) (V C (Dx [GR] sM))/\E2 n.heap.size q (W e d a) (Cj [GR])/\∀h∈[GR],Gb h:=by
 obtain⟨hb,⟨a,-,-,⟨r,k,s,g⟩|⟨i,c,f,-⟩⟩|⟨i,b,e,d,a,c,p,-,o,m,l⟩⟩:=j
 ·rw[Ax.1 k,Yg]at g;cases g
 ·rw[ZZ c]at f;exact absurd Y8 f
 ·obtain rfl:=ZZ c;grind
theorem Y3{d:Nat}(k:Ij n M)(o:∀i∈H,Gb i)(q:DZ H m)(h:R2 n w (W U s d) (V C (Dx H m)))(g:E2 j n (W U s d) (Cj H))(a c:Int):Az Aa 10 #[J (I ⟨w,0,N⟩),V C a,V C c] n λe v=>e=F (Jd (Cj H) (Dx H m) a c)/\Ow n v:=by
 let ⟨⟨x,f⟩,t⟩:=V0 q o
 obtain⟨B,z,e,-⟩:=id g;let ⟨y,l⟩:=Apv h g λu p=>f.ar u p
 exact Ao2 a c f l t h.c1 k.r.b
theorem Ah3(f:Ij n M)(i:∀e∈[GR],Gb e)(h:R2 n w (W U s b) (V C (Dx [GR] sM)))(g:E2 j n (W U s b) (Cj [GR])):∃k l,Az Aa 10 #[J (I ⟨w,0,N⟩),V C 2000000,V C 2000000] n λa d=>a=F (T #[V C 0,S ⟨#[55]⟩,V C k,V C l])/\Ow n d:=⟨_,_,(Y3 f i Y8 h g _ _).mono λa d c=>⟨by rw[c.1,Jd,ZD.1,ZD.2];rfl,c.2⟩⟩
theorem Ajl(i:Ij n M):Az Aa 11 #[S s7] n λh B=>Ow n B/\∃c d:Int,h=F (R #[T #[V C 0,S ⟨#[55]⟩,V C c,V C d],A true]):=by
 have t:=O0 λf (hb:Ow n f)=>i.bG hb;have l:=O0 λf (hb:Ow n f) (g:Nat) (ab:f.cell? ⟨g,0,N⟩=I (S s7))=>X1 (ts:=[s7]) (tp:=some ⟨g,0,N⟩) (tc:=1) (entry:=sM) (i.bG hb) (λad ac=>⟨g,0,rfl,O6⟩) O2 O4;have a:=O0 ((Ea.new n (V C 0) (S ⟨#[]⟩) (V C 0) (V C 0) 37).bG ((Ae _ _).alloc (Ac _) (.cells #[S s7] 9)));have e:=((Ae n.heap.size n).alloc (Ac _) (.cells #[V C 0,S ⟨#[]⟩,V C 0,V C 0] 37)).alloc O2 (.cells #[S s7] 9);have q:=CS (n.alloc (.cells #[V C 0,S ⟨#[]⟩,V C 0,V C 0] 37)) #[S s7] 9 0 _ rfl;rw[Ay1]at q;clear i;go_enter func11,ntmps11;go_wp2_with (first
  |(go_at_call 9;apply (l.o _ e _ q).mono;intro h ag s;obtain⟨j,D,af,ae,E,rfl,p,m,r⟩:=ig7 s;have b:=O0 (e.trans (j.mono e.size));let ⟨c,d,z⟩:=Ah3 (t.o _ b.o) r p m;replace a:=O0 (a.o.bG j);clear s j p m r l e)
  |(go_at_call 10;apply z.mono;rintro h ah ⟨rfl,k⟩;replace a:=O0 (a.o.bG k);replace b:=O0 (b.o.trans (k.mono b.o.size));let ⟨c0,G,H,K,O,U,Y,aa⟩:=a.o;clear k))
 obtain⟨u,w,x,y,-,-,-,-⟩:=a.o.put (V C 0) (S ⟨#[55]⟩) (V C c) (V C d);apply AZ (v:=R #[T #[V C 0,S ⟨#[55]⟩,V C c,V C d],A true]) (by simp[results,results11,go_sem,u,w,x,y]) rfl;exact⟨(((b.o.setCell (Ac _) _).setCell (Ac _) _).setCell (Ac _) _).setCell (Ac _) _,c,d,rfl⟩
theorem Ag1(b:Ij n M):Az Aa 4 #[] n λd i=>d=F (A true)/\Ow n i:=by
 have e:=O0 (Ajl b);have c:=O0 λf (hb:Ow n f)=>Aa2 (s:=sX) (λg _ _ _=>.of λ_=>TE g 30 0 rfl) (b.bG hb).s (b.bG hb).y;rw[chX]at c;unfold s7 at e;unfold sX at c;clear b;go_enter func4,ntmps4;go_wp2_with (first
  |(go_at_call 11;with_reducible apply e.o.mono;rintro d j ⟨hb,k,l,rfl⟩;have a:=O0 hb;clear hb)
  |(with_reducible apply (c.o _ (a.o.alloc a.o.size _)).mono;rintro d o ⟨hb,rfl⟩;obtain⟨c0,m,-⟩:=((O0 λh=>Ea.new j (V C 0) (S ⟨#[55]⟩) (V C k) (V C l) h).o _).bG hb;replace a:=O0 ((a.o.alloc a.o.size _).trans (hb.mono (by have:=a.o.size;simp;omega)));clear hb))
 go_ret;exact⟨rfl,a.o⟩
end Go.Proofs.YtpkbnogifdlcmaaGreatDoor
