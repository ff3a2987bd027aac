import Derived.Lib.ParseIntB
import Derived.Lib.Strings
import Derived.Test.YtnghccjoicmabaaGreatDoorRx1J
import Derived.RegionTactic
import Derived.ChangeAlike
import Derived.Deep.LoopGhost
set_option maxRecDepth 100000
set_option maxHeartbeats 8000000
open Except renaming error->P
open Go renaming Calls->Adg,TypeId->Ad5,Value->X,World->Q,below_drewN->Aeu,maxLen->Aed,wpList_append_lies->Adl
open Go.ByteArray renaming toList_eq->Adw
open Go.Ending renaming returned->F
open Go.IntKind renaming i64->C
open Go.Proofs.Tryz renaming prog->Acs
open Go.RowKit renaming wrap64->Aer
open Go.Value renaming agg->T,bool->A,int->V,ownBlock->Ad6,slice->W,string->S,tuple->R
open Or renaming inl->Ads
namespace Go.Proofs.YtnghccjoicmabaaGreatDoor
open Go.RowKit Go.Sort
variable{s wn:ByteArray}{vf:List UInt8}{w v b d:Nat}{s5:Unit}{nh:ByteArray×Nat}{we w7:Int}{nd:Nat×Nat}{l:Av}{N:Ex}{n p h:World}{m q j:Value}{v0:List IK}{t wg:List Nat}{n9:Option Nat}{wd:Type}{M:TypeId}{wm:List Int}{L:Option Addr}{v9:List Bool}{w2:Bool}{wz:List Bp}{w8:List G7}{n4:Bp}{wk:J8}
def Qh(a:Nat)(c:List UInt8):Nat:=c.foldl (λa b=>10*a+(b.toNat-48)) a
theorem RG(a:Nat):Qh a []=a:=rfl
theorem HW(b:Nat)(a:UInt8)(c:List UInt8):Qh b (a::c)=Qh (10*b+(a.toNat-48)) c:=by unfold Qh;rw[Ab2]
def Dr(b:List UInt8):Bool:=b.all λa=>BR a.toNat
theorem Vn(b:List UInt8):∀a,a*10 ^ b.length<=Qh a b:=by
 induction b with
 |nil=>intro a;rw[RG];simp
 |cons c r ih=>
  intro a;rw[HW,Aea,Nat.pow_succ];grind
theorem U0(b:List UInt8):∀a,a<=Qh a b:=by
 intro a;have d:=Vn b a;have c:1<=10 ^ b.length:=Nat.pos_of_ne_zero (by simp);have:=Nat.mul_le_mul_left a c;omega
theorem Gb(b:List UInt8):∀a,a<=18446744073709551615->Dr b=true->Lib.parseUintM 18446744073709551615 a b=if Qh a b<=18446744073709551615 then .ok (Qh a b) else .range:=by
 induction b with
 |nil=>intro a f _;rw[Lib.parseUintM,RG,if_pos f]
 |cons c r ih=>
  intro a f d;simp only[Dr,Acd,Ael]at d;have h:48<=c.toNat/\c.toNat<=57:=by
   have:=d.1;simp[BR,decide_eq_true_eq]at this;omega
  rw[Lib.parseUintM,if_pos h,HW];have i:=U0 r (10*a+(c.toNat-48));by_cases g:1844674407370955162<=a
  ·grind
  ·rw[if_neg g];by_cases e:18446744073709551615<a*10+(c.toNat-48)
   ·rw[if_pos e,if_neg (by omega)]
   ·rw[if_neg e,Nat.mul_comm a 10];exact ih _ (by omega) d.2
theorem Qu(b:ByteArray):∀e a c,b.size-a<=e->JG b a c=if Dr (b.data.toList.drop a)=true then some (Qh c (b.data.toList.drop a)) else none
 |0,a,c,hk=>by
  rw[Hu (by omega),Acn (by simp;omega)];rfl
 |e+1,a,c,hk=>by
  by_cases d:a<b.size
  ·have f:b.data.toList.drop a=b[a]::b.data.toList.drop (a+1):=by
    rw[Adv (by simpa using d)];rfl
   rw[f];cases hd:BR b[a].toNat with
   |true=>
    rw[HF d hd,Qu b e (a+1) _ (by omega)];rw[HW];simp[Dr,hd]
   |false=>
    rw[IW d hd];simp[Dr,hd]
  ·rw[Hu (by omega),Acn (by simp;omega)];rfl
def Hg(a:ByteArray):Bool:=decide (0<a.size) && !(Bw a && decide (1<a.size)) && Dr a.data.toList
def RP:ByteArray:=⟨#[45,48]⟩
theorem Ta(a:Bw s=true)(b:s.size=1):s=⟨#[48]⟩:=by
 unfold Bw at a;rw[getElem?_pos s 0 (by omega)]at a;simp[decide_eq_true_eq]at a;apply Abx;apply Array.ext
 ·exact b
 ·intro d e f;have c:d=0:=by
   grind
  subst c;have:s[0]=48:=Ahc.1 (by rw[a];rfl);exact this
theorem KB(d:0<s.size)(b:Dr s.data.toList=true):Lib.parseIntB 64 s.data.toList=if Qh 0 s.data.toList<9223372036854775808 then .ok (Qh 0 s.data.toList:Int) else .range:=by
 have f:0<s.data.toList.length:=by simpa using d
 match hs:s.data.toList with
 |[]=>grind
 |a::r=>
  have c:BR a.toNat=true:=by
   rw[hs]at b;simp[Dr]at b;exact b.1
  have e:48<=a.toNat/\a.toNat<=57:=by
   simp[BR,decide_eq_true_eq]at c;exact c
  unfold Lib.parseIntB;rw[hs]at b;simp[Lib.parseUintB];rw[if_neg (show ¬(a.toNat=43\/a.toNat=45) by omega),if_neg nofun];have:=Gb (a::r) 0 (by omega) b;grind
theorem KI(d:s.data.toList=45::vf)(c:vf≠[])(a:Dr vf=true):Lib.parseIntB 64 s.data.toList=if Qh 0 vf<=9223372036854775808 then .ok (-(Qh 0 vf:Int)) else .range:=by
 unfold Lib.parseIntB;simp only[Lib.parseUintB];have b:(45:UInt8).toNat=45:=rfl;have:=Gb vf 0 (by omega) a;grind
theorem O3(b:En s=false):∀c,s.data.toList≠45::c:=by
 intro c a;have f:0<s.size:=by
  have:0<s.data.toList.length:=by rw[a];simp
  simpa using this
 unfold En at b;rw[getElem?_pos s 0 f]at b;simp[decide_eq_false_iff_not]at b;apply b;have d:s.data.toList[0]'(by rw[a];simp)=45:=by simp[a]
 have e:s[0]=s.data.toList[0]'(by rw[a];simp):=rfl;rw[e,d];rfl
theorem HY(a:En s=true):s.data.toList=45::(s.extract 1 s.size).data.toList:=by
 unfold En at a;by_cases b:0<s.size
 ·rw[getElem?_pos s 0 b]at a;simp[decide_eq_true_eq]at a;have e:s[0]=45:=Ahc.1 (by rw[a];rfl);have d:0<s.data.toList.length:=by simpa using b
  have c:s.data.toList=s[0]::s.data.toList.drop 1:=by
   have:=Adv d;exact this
  rw[ByteArray.data_extract,Array.toList_extract];conv=>lhs;rw[c]
  congr 1
  rw[List.extract_eq_take_drop];rw[Aav];simp
 grind
theorem Vm(a:ByteArray):(⟨(Lib.trimPrefix a.data.toList [45]).toArray⟩:ByteArray)=Bb a:=by
 unfold Lib.trimPrefix Lib.hasPrefix Bb;cases h:En a with
 |true=>
  have d:=HY h;have b:List.isPrefixOf [45] a.data.toList=true:=by grind
  rw[if_pos b,if_pos rfl];have e:a.data.toList.drop ([45]:List UInt8).length=(a.extract 1 a.size).data.toList:=by rw[d];rfl
  rw[e]
 |false=>
  have f:=O3 h;have b:List.isPrefixOf [45] a.data.toList=false:=by
   match hs:a.data.toList with
   |[]=>rfl
   |c::r=>
    grind
  simp_all
theorem Aax:En ⟨#[48]⟩=false:=rfl
theorem WI:Bb ⟨#[48]⟩=⟨#[48]⟩:=rfl
theorem MB(a:ByteArray):JG a 0 0=if Dr a.data.toList=true then some (Qh 0 a.data.toList) else none:=by
 rw[Qu a _ 0 0 .refl,Agx]
theorem Ls(a:Hg (Bb s)=false\/s=RP):Aw s=none:=by
 rcases a with a|rfl
 ·unfold Aw;by_cases c:(Bb s).size=0\/(Bw (Bb s)=true/\¬s=⟨#[48]⟩)\/19<(Bb s).size
  ·rw[if_pos c]
  ·rw[if_neg c];have b:Dr (Bb s).data.toList=false:=by
    cases b:Dr (Bb s).data.toList with
    |false=>rfl
    |true=>
     have d:0<(Bb s).size:=by omega
     unfold Hg at a;rw[b]at a;simp only[d,decide_true,Bool.true_and,Ahb,Bool.not_eq_false',Ael,decide_eq_true_eq]at a;by_cases e:s=⟨#[48]⟩
     ·rw[e,WI]at a;exact absurd a.2 nofun
     grind
   rw[MB,if_neg (by simp[b])]
 rfl
theorem Acg:(10:Nat) ^ 19=10000000000000000000:=rfl
theorem Q8(d:Dr s.data.toList=true)(a:Bw s=false)(e:19<s.size):10000000000000000000<=Qh 0 s.data.toList:=by
 have g:19<s.data.toList.length:=by simpa using e
 match hs:s.data.toList with
 |[]=>grind
 |c::r=>
  have f:s[0]'(by omega)=c:=by
   have b:s.data.toList[0]'(by omega)=c:=by simp[hs]
   exact b
  unfold Bw at a;rw[getElem?_pos s 0 (by omega),f]at a;simp[decide_eq_false_iff_not]at a;have j:48<=c.toNat/\c.toNat<=57:=by
   rw[hs]at d;simp[Dr,BR,decide_eq_true_eq]at d;omega
  rw[hs,Aea]at g;rw[HW];have h:=Vn r (10*0+(c.toNat-48));have b:10 ^ 19<=10 ^ r.length:=Abf (by omega) (by omega);have i:1*10 ^ r.length<=(10*0+(c.toNat-48))*10 ^ r.length:=Aaa _ (by omega);omega
theorem Su(d:Hg (Bb s)=true)(k:s≠RP):Lib.parseIntB 64 s.data.toList=match Aw s with|some v=>.ok v|none=>.range:=by
 unfold Hg at d;simp only[Ael,decide_eq_true_eq,Bool.not_eq_true',Bool.and_eq_false_iff,decide_eq_false_iff_not]at d;let ⟨⟨h,m⟩,b⟩:=d
 have j:¬(Bw (Bb s)=true/\¬s=⟨#[48]⟩):=by
  rintro⟨o,t⟩;have p:(Bb s).size=1:=by
   grind
  have q:=Ta o p;cases hn:En s with
  |true=>
   apply k;have c:=HY hn;have a:Bb s=s.extract 1 s.size:=by unfold Bb;rw[if_pos hn]
   rw[<-a,q]at c;apply Abx;apply Array.toList_inj.1;rw[c];rfl
  |false=>
   have a:Bb s=s:=by unfold Bb;grind
   grind
 cases hn:En s with
 |true=>
  have c:=HY hn;have a:Bb s=s.extract 1 s.size:=by unfold Bb;rw[if_pos hn]
  rw[<-a]at c;have l:(Bb s).data.toList≠[]:=by
   intro i;have:(Bb s).data.toList.length=0:=by rw[i];rfl
   have r:(Bb s).data.toList.length=(Bb s).size:=rfl;omega
  rw[KI c l b];unfold Aw;by_cases e:19<(Bb s).size
  ·have g:Bw (Bb s)=false:=by grind
   have:=Q8 b g e;grind
  ·have f:¬((Bb s).size=0\/(Bw (Bb s)=true/\¬s=⟨#[48]⟩)\/19<(Bb s).size):=λn=>by
    grind
   rw[if_neg f,MB,if_pos b];grind
 |false=>
  have a:Bb s=s:=by unfold Bb;grind
  rw[a]at h b m j;rw[KB h b];unfold Aw;rw[a];by_cases e:19<s.size
  ·have g:Bw s=false:=by grind
   have:=Q8 b g e;grind
  ·have f:¬(s.size=0\/(Bw s=true/\¬s=⟨#[48]⟩)\/19<s.size):=λn=>by
    grind
   rw[if_neg f,MB,if_pos b];grind
def ww(a:ByteArray):Nat:=a.size-1+2
def nW(b:Av):Nat:=(b.map λa=>ww a.1).sum
def wt:Nat->Ex->Nat
 |0,_=>2
 |d+1,e=>match e with
  |.num _=>2
  |.name _ t _=>ww t
  |.call ps=>(ps.map (wt d)).sum
  |.lets _ ns es a=>4+nW ns+(es.map (wt d)).sum+wt d a
  |.Fs _ fs=>6+(fs.map (wt d)).sum
  |.case x bs=>5+wt d x+(bs.map λa=>2+nW a.2.1+wt d a.2.2).sum
  |.op _ l r=>2+wt d l+wt d r
def XNy:Ex->Prop
 |.num n=>-9223372036854775808<=n/\n<9223372036854775808
 |.name _ _ _=>True
 |.op k _ _=>k<6
 |.Fs t fs=>t<256/\fs.length<=20
 |.lets _ ns es _=>es.length=ns.length/\0<ns.length
 |.case _ bs=>0<bs.length/\(∀a∈bs,a.1<256)/\(bs.map (·.1)).Nodup
 |.call ps=>2<=ps.length
def XF:Nat->Ex->Prop
 |0,_=>False
 |d+1,e=>XNy e/\(∀b∈Bd e,XF d b)/\∀a∈DJ e,XF d a.2.2
theorem RN:∀a c,XF a c->XF (a+1) c
 |0,_,h=>h.elim
 |a+1,_,h=>⟨h.1,λd f=>RN a d (h.2.1 d f),λb e=>RN a b.2.2 (h.2.2 b e)⟩
def Cr(c:ByteArray)(b a:Nat):Prop:=a<=1/\(a=1->Gs c b=b)
theorem Cr.z(c:ByteArray)(b:Nat):Cr c b 0:=⟨by omega,λa=>by cases a⟩
theorem MU(b:ByteArray):∀d a,b.size-a<=d->Gs b (Gs b a)=Gs b a
 |0,a,h=>by rw[CP (show b.size<=a by omega),CP (by omega)]
 |d+1,a,h=>by
  by_cases c:a<b.size
  ·by_cases e:CF b[a].toNat=true\/Dp b[a].toNat=true
   ·rw[Df c e,Df c e]
   ·rw[DQ c (by grind) (by grind)];exact MU b d (a+1) (by omega)
  ·rw[CP (show b.size<=a by omega),CP (by omega)]
theorem QB(e:Gs s (Bi s w)=Bi s w)(b:Bi s w<s.size):Ag s w=Ax\/Ag s w=Ae:=by
 have f:Dp s[Bi s w].toNat=true:=by
  cases hx:Dp s[Bi s w].toNat with
  |true=>rfl
  |false=>
   have:=DQ b ((FN s _ w (Acu _)).2.2 b) hx;have d:=MN s (Bi s w+1);omega
 have c:Ag s w=⟨#[s[Bi s w]]⟩:=by
  unfold Ag AC Eu Am;rw[if_pos ⟨e,b⟩];apply Abx;apply Array.ext
  ·simp;omega
  ·intro g h d;obtain rfl:g=0:=by simpa using d
   simp;rfl
 have a:s[Bi s w].toNat=40\/s[Bi s w].toNat=41:=by simpa[Dp]using f
 rcases a with a|a
 ·left;rw[c,show s[Bi s w]=40 from Ahc.1 a];rfl
 ·right;rw[c,show s[Bi s w]=41 from Ahc.1 a];rfl
theorem Cr.word(c:Cr s w v)(f:w<=s.size)(i:0<(Ag s w).size)(d:Ag s w≠Ax)(e:Ag s w≠Ae):Cr s (AC s w) 1/\w+v+((Ag s w).size+1)<=AC s w+1:=by
 have k:=Cb f;have j:=AX s w;have g:Bi s w<s.size:=by
  have:=AK f;have b:Am s w=Bi s w:=rfl;omega
 have h:AC s w=Gs s (Bi s w):=by
  unfold AC Eu;rw[if_neg λa=>(QB a.1 a.2).elim d e]
 refine⟨⟨Acu _,λ_=>by rw[h];exact MU s _ _ .refl⟩,?_⟩;have:w+v<=Bi s w:=by
  rcases Abo w (Bi s w) with a|a
  ·have:=c.1;omega
  ·have b:Bi s w=w:=by omega
   have:v=0:=by
    rcases Abo v 1 with a|a
    ·omega
    ·exact absurd (QB (by rw[b];exact c.2 (by have:=c.1;omega)) g) (λa=>a.elim d e)
   omega
 have b:Am s w=Bi s w:=rfl;omega
theorem Cr.Bi{b:ByteArray}{a c:Nat}(f:Cr b a c):∃d,Cr b (Bi b a) d/\a+c<=Bi b a+d:=by
 have g:=AX b a;rcases Abo a (Go.Proofs.YtnghccjoicmabaaGreatDoor.Bi b a) with e|e
 ·exact⟨0,Cr.z _ _,by have:=f.1;omega⟩
 grind
theorem Cr.want(e:wn≠⟨#[]⟩)(c:Cr s w b)(d:w<=s.size)(a:Al s wn w=.ok (s5,v)):w+b<=v:=by
 have:=(Aj e w d s5 v a).1;have:=c.1;omega
theorem QC(a:AM s=true):s≠Ax/\s≠Ae/\0<s.size:=by
 refine⟨λb=>?_,λb=>?_,?_⟩
 ·rw[b,show AM Ax=false by kernel_rfl]at a;cases a
 ·rw[b,show AM Ae=false by kernel_rfl]at a;cases a
 ·simp[AM,decide_eq_true_eq]at a;omega
theorem Cr.name(g:Cr s w b)(h:w<=s.size)(a:AV s w=.ok (nh,v)):Cr s v 1/\w+b+ww nh.1<=v+1/\AM nh.1=true:=by
 unfold AV at a;split at a
 ·rename_i c
  cases a;let ⟨e,f,d⟩:=QC c
  have:=g.word h d e f;exact⟨this.1,by have:=this.2;show w+b+((Ag s w).size-1+2)<=_;omega,c⟩
 ·cases a
theorem NH(a:Aw s=some we):s≠Ax/\s≠Ae/\0<s.size/\-9223372036854775808<=we/\we<9223372036854775808:=by
 refine⟨λb=>?_,λb=>?_,?_,?_⟩
 ·rw[b,show Aw Ax=none by kernel_rfl]at a;cases a
 ·rw[b,show Aw Ae=none by kernel_rfl]at a;cases a
 ·rcases Ahj s.size with c|c
  ·have b:s=⟨#[]⟩:=by apply Abx;simp_all
   rw[b,show Aw ⟨#[]⟩=none by rfl]at a;cases a
  omega
 ·unfold Aw at a;grind
theorem Cr.tag(g:Cr s w b)(h:w<=s.size)(a:Bt s d w=.ok (nd,v)):Cr s v 1/\w+b+2<=v+1/\nd.1<=d:=by
 unfold Bt at a;split at a
 ·rename_i j i
  split at a
  ·obtain⟨e,f,c,-⟩:=NH i;have:=g.word h c e f;grind
  ·cases a
 ·cases a
theorem Cr.eQ{f:ByteArray}:∀h i b d c g,b<=f.size->Cr f b g->AU f h i b=.ok (d,c)->∃e,d=i++e/\c<=f.size/\b+g+nW e<=c
 |0,_,_,_,_,_,_,_,a=>by cases a
 |h+1,i,b,d,c,g,hp,hc,a=>by
  rw[AU]at a;split at a
  ·rename_i p
   cases a;have:=Dw hp (by rw[p];decide);exact⟨[],by simp,this.2,by have:=hc.1;simp[nW];omega⟩
  ·let ⟨m,k,j,a⟩:=Ac a
   have l:=hc.name hp j;split at a
   ·cases a
   ·obtain⟨e,rfl,n,o⟩:=Cr.eQ h _ k d c 1 (BH b hp m k j).2 l.1 a;exact⟨m::e,by simp,n,by have:=l.2.1;simp[nW]at o ⊢;omega⟩
theorem Cr.names(f:Cr s w b)(g:w<=s.size)(a:Be s w=.ok (l,v)):v<=s.size/\w+b+nW l<=v:=by
 let ⟨i,c,d,a⟩:=Ac a
 have h:=Aj (by decide) w g i c d;obtain⟨k,rfl,e,j⟩:=Cr.eQ _ [] c l v 0 h.2 (Cr.z _ _) a;exact⟨e,by have:=f.1;omega⟩
def EW(c:ByteArray)(g:Nat)(h:Nat->Pr Ex):Prop:=∀a d b e,a<=c.size->Cr c a e->h a=.ok (d,b)->XF g d/\b<=c.size/\∃f,Cr c b f/\a+e+wt g d<=b+f
section
variable {s:ByteArray} {d:Nat} {E:Nat->Pr Ex} (hE:EW s d E)
include hE
theorem TC:∀j k c h e g,c<=s.size->Cr s c g->BS s E j k c=.ok (h,e)->∃f,h=k++f/\(∀i∈f,XF d i)/\e<=s.size/\∃b,Cr s e b/\c+g+(f.map (wt d)).sum<=e+b
 |0,_,_,_,_,_,_,_,a=>by cases a
 |j+1,k,c,h,e,g,hp,hc,a=>by
  rw[BS]at a;split at a
  ·cases a;let ⟨b,l,m⟩:=hc.Bi
   exact⟨[],by simp,(λ_ a=>by cases a),A8 hp,b,l,by simpa using m⟩
  ·let ⟨i,n,l,a⟩:=Ac a
   let ⟨u,v,o,w,z⟩:=hE c i n g hp hc l
   obtain⟨f,rfl,m,q,b,r,y⟩:=TC j _ n h e o v w a;exact⟨i::f,by simp,(λx t=>(Ady.1 t).elim (λp=>p▸u) (m x)),q,b,r,by grind⟩
theorem Ou:∀k i c f e h,c<=s.size->Cr s c h->i.length<=20->A2 s E k i c=.ok (f,e)->∃g,f=i++g/\f.length<=20/\(∀j∈g,XF d j)/\e<=s.size/\∃b,Cr s e b/\c+h+(g.map (wt d)).sum<=e+b
 |0,_,_,_,_,_,_,_,_,a=>by cases a
 |k+1,i,c,f,e,h,hp,hc,hl,a=>by
  rw[A2]at a;split at a
  ·cases a;let ⟨b,l,m⟩:=hc.Bi
   exact⟨[],by simp,hl,(λ_ a=>by cases a),A8 hp,b,l,by simpa using m⟩
  ·split at a
   ·cases a
   ·let ⟨j,n,l,a⟩:=Ac a
    let ⟨v,w,o,x,B⟩:=hE c j n h hp hc l
    obtain⟨g,rfl,q,m,r,b,t,z⟩:=Ou k _ n f e o w x (by simp;omega) a;exact⟨j::g,by simp,q,(λy u=>(Ady.1 u).elim (λp=>p▸v) (m y)),r,b,t,by grind⟩
theorem RH:∀(j:Nat) (l:Av) (i:List Ex) (f:Nat) (b:Av×List Ex) (g h:Nat),f<=s.size->Cr s f h->Ba s E j l i f=.ok (b,g)->∃e c,b.1=l++e/\b.2=i++c/\c.length=e.length/\0<e.length/\(∀b∈c,XF d b)/\g<=s.size/\f+h+nW e+(c.map (wt d)).sum<=g
 |0,_,_,_,_,_,_,_,_,a=>by rw[Ba]at a;cases a
 |j+1,l,i,f,b,g,h,hp,hc,a=>by
  rw[Ba]at a;let ⟨Y,m,q,a⟩:=Ac a
  have u:=Aj (by decide) f hp Y m q;have ae:=hc.want (by decide) hp q;let ⟨o,w,r,a⟩:=Ac a
  have U:=(Cr.z s m).name u.2 r;split at a
  ·cases a
  ·let ⟨p,x,O,a⟩:=Ac a
   let ⟨B,D,ac,ab,ag⟩:=hE w p x 1 (BH m u.2 o w r).2 U.1 O
   let ⟨aa,n,t,a⟩:=Ac a
   have v:=Aj (by decide) x D aa n t;have af:=ab.want (by decide) D t;have ad:=AX s n;split at a
   ·cases a;exact⟨[o],[p],rfl,rfl,rfl,.refl,(λy k=>Ac9.1 k▸B),A8 v.2,by simp only[nW,Aeg,Aez,Ae3,List.sum_nil];omega⟩
   ·obtain⟨e,c,H,I,K,-,L,M,N⟩:=RH j _ _ n b g 0 v.2 (Cr.z _ _) a;exact⟨o::e,p::c,by simp[H],by simp[I],by simp[K],by simp,(λy k=>(Ady.1 k).elim (λG=>G▸B) (L y)),M,by simp only[nW,Aeg,Ae3]at N ⊢;omega⟩
theorem Ye:∀l f e g h k,e<=s.size->Cr s e k->(f.map (·.1)).Nodup->C4 s E l f e=.ok (g,h)->∃c,g=f++c/\0<c.length/\(∀b∈c,b.1<256/\XF d b.2.2)/\(g.map (·.1)).Nodup/\h<=s.size/\e+k+(c.map λb=>2+nW b.2.1+wt d b.2.2).sum<=h
 |0,_,_,_,_,_,_,_,_,a=>by rw[C4]at a;cases a
 |l+1,f,e,g,h,k,hp,hc,hn,a=>by
  rw[C4]at a;let ⟨ab,n,q,a⟩:=Ac a
  have w:=Aj (by decide) e hp ab n q;have aj:=hc.want (by decide) hp q;let ⟨i,O,r,a⟩:=Ac a
  have N:=B7 n w.2 i O r;have Y:=(Cr.z s n).tag w.2 r;split at a
  ·cases a
  ·rename_i ah
   let ⟨p,U,L,a⟩:=Ac a
   have aa:=Y.1.names N.2 L;let ⟨j,y,M,a⟩:=Ac a
   let ⟨ad,B,af,ae,al⟩:=hE U j y 0 aa.1 (Cr.z _ _) M
   let ⟨ac,o,t,a⟩:=Ac a
   have x:=Aj (by decide) y B ac o t;have ak:=ae.want (by decide) B t;have ai:=AX s o;have v:((f++[(i.1,p,j)]).map (·.1)).Nodup:=by
    grind
   have u:i.1<256/\XF d j:=⟨by omega,ad⟩;split at a
   ·cases a;exact⟨[(i.1,p,j)],rfl,by simp,(λb m=>Ac9.1 m▸u),v,A8 x.2,by simp;omega⟩
   ·obtain⟨c,G,-,H,I,K,ag⟩:=Ye l _ o g h 0 x.2 (Cr.z _ _) v a;exact⟨(i.1,p,j)::c,by rw[G];simp,by simp,(λb m=>(Ady.1 m).elim (λD=>D▸u) (H b)),I,K,by simp;omega⟩
omit hE in
theorem Wa{b:ByteArray}(e:CC b=some w):w<6/\b≠Ax/\b≠Ae/\0<b.size:=by
 obtain⟨g,f,-⟩:=Abw.1 e;have h:w<6:=g;have i:=of_decide_eq_true f;have:∀a (c:a<6),E0[a]'c≠Ax/\E0[a]'c≠Ae/\0<(E0[a]'c:ByteArray).size:=by decide
 grind
theorem YX(G:w<=s.size)(M:Cr s w b)(a:AY s E w=.ok (N,v)):XF (d+1) N/\v<=s.size/\∃n,Cr s v n/\w+b+wt (d+1) N<=v+n:=by
 have D:=AK G;have ah:∀H,3<=(Ag s w).size->Ag s w≠Ax->Ag s w≠Ae->BE s E H (AC s w)=.ok (N,v)->XF (d+1) N/\v<=s.size/\∃n,Cr s v n/\w+b+wt (d+1) N<=v+n:=λH B g i a=>by
  have t:=M.word G (by omega) g i;obtain⟨f,h,g,a⟩:=Ac a;have ac:=Aj (by decide) _ D f h g;have ae:=t.1.want (by decide) D g;obtain⟨e,k,i,a⟩:=Ac a;obtain⟨a0,az,p,L,q,r,y,U,ax⟩:=RH hE _ [] [] h e k 0 ac.2 (Cr.z _ _) i;obtain⟨O,aa,B,a⟩:=Ac a;have aq:=Aj (by decide) k U O aa B;obtain⟨af,ar,an,a⟩:=Ac a;obtain⟨I,u,ai,x,ag⟩:=hE aa af ar 0 aq.2 (Cr.z _ _) an;cases a;rw[Aec]at p L;refine⟨⟨⟨by grind,by rw[p];exact r⟩,λm o=>?_,λl j=>by cases j⟩,u,ai,x,?_⟩
  ·rcases Acz.1 o with ao|ao
   ·grind
   grind
  ·show w+b+(4+nW e.1+(e.2.map (wt d)).sum+wt d af)<=_;grind
 unfold AY at a;split at a
 ·rename_i ay ap
  obtain⟨aj,ak,al,am⟩:=Wa ap;have t:=M.word G am ak al;obtain⟨ad,h,g,a⟩:=Ac a;obtain⟨f,e,K,O,af⟩:=hE _ ad h 1 D t.1 g;obtain⟨H,k,i,a⟩:=Ac a;obtain⟨I,u,ab,x,ag⟩:=hE _ H k K e O i;cases a;refine⟨⟨aj,λm o=>?_,λl j=>by cases j⟩,u,ab,x,?_⟩
  ·rcases(by simpa[Bd]using o:m=ad\/m=H) with rfl|rfl
   ·exact f
   exact I
  ·show w+b+(2+wt d ad+wt d H)<=_;omega
 ·split at a
  ·rename_i c
   exact ah _ (by rw[c];decide) (by rw[c];decide) (by rw[c];decide) a
  ·split at a
   ·rename_i c
    exact ah _ (by rw[c];decide) (by rw[c];decide) (by rw[c];decide) a
   ·split at a
    ·rename_i c
     have t:=M.word G (by rw[c];decide) (by rw[c];decide) (by rw[c];decide);have B:(Ag s w).size=3:=by rw[c];rfl
     obtain⟨f,h,g,a⟩:=Ac a;have ac:=B7 _ D f h g;have ae:=t.1.tag D g;obtain⟨e,k,i,a⟩:=Ac a;obtain⟨Y,p,L,q,r,n,y,U⟩:=Ou hE _ [] h e k 1 ac.2 ae.1 (by simp) i;cases a;rw[Aec]at p;subst p;exact⟨⟨⟨by have:=ae.2.2;omega,L⟩,q,λl j=>by cases j⟩,r,n,y,by show w+b+(6+(e.map (wt d)).sum)<=_;omega⟩
    ·split at a
     ·rename_i c
      have t:=M.word G (by rw[c];decide) (by rw[c];decide) (by rw[c];decide);have B:(Ag s w).size=4:=by rw[c];rfl
      obtain⟨f,h,g,a⟩:=Ac a;obtain⟨I,u,K,x,ag⟩:=hE _ f h 1 D t.1 g;obtain⟨e,k,i,a⟩:=Ac a;obtain⟨Y,p,L,q,r,y,U⟩:=Ye hE _ [] h e k K u x (by simp) i;cases a;rw[Aec]at p;subst p;exact⟨⟨⟨L,λl j=>(q l j).1,r⟩,λm o=>(by simpa[Bd]using o:m=f)▸I,λl j=>(q l j).2⟩,y,0,Cr.z _ _,by show w+b+(5+wt d f+(e.map λl=>2+nW l.2.1+wt d l.2.2).sum)<=_;omega⟩
     ·obtain⟨f,h,g,a⟩:=Ac a;obtain⟨I,u,K,x,ag⟩:=hE w f h b G M g;obtain⟨e,k,i,a⟩:=Ac a;obtain⟨au,av,ab,aw,a1⟩:=hE _ e k K u x i;obtain⟨O,aa,B,a⟩:=Ac a;obtain⟨Y,rfl,q,r,n,y,U⟩:=TC hE _ [f,e] k O aa ab av aw B;cases a;refine⟨⟨by simp[XNy],λm o=>?_,λl j=>by cases j⟩,r,n,y,?_⟩
      ·rcases(by simpa[Bd]using o:m=f\/m=e\/m∈Y) with rfl|rfl|o
       ·exact I
       ·exact au
       ·exact q m o
      ·show w+b+(([f,e]++Y).map (wt d)).sum<=_;simp only[Adq,Aeg,Aez,List.sum_append,Ae3,List.sum_nil];omega
end
theorem VB(h:v<=s.size)(l:Cr s v d)(a:BB s v=.ok (N,b)):XF (w+1) N/\b<=s.size/\∃k,Cr s b k/\v+d+wt (w+1) N<=b+k:=by
 have m:=AK h;unfold BB at a;split at a
 ·rename_i i
  cases a;let ⟨e,f,c⟩:=QC i
  have:=l.word h c e f;exact⟨⟨trivial,λp j=>by simp[Bd]at j,λn g=>by cases g⟩,m,1,this.1,by have:=this.2;show v+d+((Ag s v).size-1+2)<=_;omega⟩
 ·split at a
  ·rename_i q i
   cases a;let ⟨e,f,c,o⟩:=NH i
   have:=l.word h c e f;exact⟨⟨o,λp j=>by simp[Bd]at j,λn g=>by cases g⟩,m,1,this.1,by have:=this.2;show v+d+2<=_;omega⟩
  ·cases a
theorem w_E(d:ByteArray):∀b,EW d (b+1) (pE d b)
 |0,p,e,q,c,hp,hc,a=>by
  rw[pE]at a;split at a
  ·cases a
  ·exact VB hp hc a
 |b+1,p,e,q,c,hp,hc,a=>by
  rw[pE]at a;split at a
  ·rename_i j
   let ⟨u,l,h,a⟩:=Ac a
   let ⟨n,m,f,a⟩:=Ac a
   have i:=Dw hp (by rw[j];decide);let ⟨o,g,s,r,v⟩:=YX (w_E d b) i.2 (Cr.z d _) h
   have k:=Aj (by decide) l g n m f;have t:=r.want (by decide) g f;cases a;exact⟨o,k.2,0,Cr.z _ _,by have:=hc.1;omega⟩
  ·exact VB hp hc a
theorem VW(a b:ByteArray)(c:Q):(callFunc 135 #[S a,S b]).run Acs c=.ok (.value (V C (CJ a b))) c:=by
 have d:=@run_callFunc_extern Acs 135 _ Extern.BytealgCompare.compare Tryz.func135 rfl rfl rfl rfl;rw[d,Lib.run_compareString];rfl
theorem Ir(a b:ByteArray)(c:Q):Adg Acs 69 #[S a,S b] c λd e=>d=F (V C (CJ a b))/\e=c:=by
 have f:=VW;go_wp2;go_ret;simp
def Hf(a:Nat)(b:Int):Int:=
 if a=0\/a=1 then 0 else if a=2 then b+1 else if a=4 then b+1 else if a=5 then b+2 else if a=6 then b else if a=7 then 0 else if a=8\/a=17\/a=19 then 1 else if a=15 then b % 256 else if a=16 then 1 else if a=18\/a=20 then 0 else 2
def CW(a:Nat)(b:Int):Int:=
 if a=0\/a=1 then 1 else if a=2 then 1 else if a=4 then -b else if a=5 then -1 else if a=6 then -b else if a=7 then b else if a=8\/a=17\/a=19 then 0 else if a=15 then 1-b % 256 else if a=16 then b-1 else if a=18\/a=20 then 0 else -1
theorem QN(a:Nat)(b:a<21):a=0\/a=1\/a=2\/a=3\/a=4\/a=5\/a=6\/a=7\/a=8\/a=9\/a=10\/a=11\/a=12\/a=13\/a=14\/a=15\/a=16\/a=17\/a=18\/a=19\/a=20:=by omega
theorem JL(a:Nat)(e:a<21)(b:Int)(i:Option Addr)(h g:Nat)(f:Q)(d:a≠0->0<=b/\b<=65535):
 Adg Acs 165 #[T #[V C a,V C b,W i h g]] f λj k=>j=F (R #[V C (Hf a b),V C (CW a b)])/\Below f.heap.size f k:=by
 by_cases c:a=0
 ·subst c;clear d e;go_enter Tryz.func165,Tryz.ntmps165;go_wp2;try(go_quiet (fail))
  try go_wp2
  go_ret2
  refine⟨?_,?_⟩
  ·rfl
  ·first|exact bA|exact Aeu bA _
 ·let ⟨l,m⟩:=d c
  clear d;rcases QN a e with rfl|rfl|rfl|rfl|rfl|rfl|rfl|rfl|rfl|rfl|rfl|rfl|rfl|rfl|rfl|rfl|rfl|rfl|rfl|rfl|rfl
  ·omega
  all_goals
   clear e c;go_enter Tryz.func165,Tryz.ntmps165;go_wp2;try(go_quiet (fail))
   try go_wp2
   go_ret2
   refine⟨?_,?_⟩
   ·simp[Hf,CW]
   ·first|exact bA|exact Aeu bA _
theorem EQ(a:Nat)(b:a<21)(c:Q):
 Adg Acs 88 #[V C a] c λd e=>d=F (R #[V C (if a=7 then 1 else if Fh a 0=2 then 0 else 1),V C (if Fh a 0=2 then Fh a 2 else 0)])/\e=c:=by
 rcases QN a b with rfl|rfl|rfl|rfl|rfl|rfl|rfl|rfl|rfl|rfl|rfl|rfl|rfl|rfl|rfl|rfl|rfl|rfl|rfl|rfl|rfl;all_goals
  clear b;go_enter Tryz.func88,Tryz.ntmps88;go_wp2;go_ret2
  exact⟨rfl,rfl⟩
def Abv(c:Nat)(f:X):Prop:=∀b e d,f=W b e d->∀a,b=some a->a.block≠c
theorem EF.cell{a:Nat}{f g:Q}(h:EF a f g){b d:Nat}{e:X}(c:f.cell? ⟨b,d,none⟩=some e)(i:b≠a):g.cell? ⟨b,d,none⟩=some e:=by
 rw[<-c];exact Ac1 (h.block b (Adt c) i)
theorem EN.ef{a:Nat}{w:Q}(h:EN w m v0)(e:EF a w n)(l:Abv a m):EN n m v0:=by
 let ⟨t,g,c,q,o⟩:=h
 refine⟨t,g,c,q,λr p=>?_⟩;let ⟨b,s,d,i,j,k⟩:=o r p
 have f:=l _ _ _ c _ d;exact⟨b,s,d,e.cell i f,e.cell j f,k⟩
def nx{a:Type}(c:Except (Nat×Nat) Nat)(b:Nat->Rd a):Rd a:=
 match c with
 |.ok p=>b p
 |P e=>P e
def bd{b c:Type}(f:Rd b)(d:b->Nat->Rd c):Rd c:=
 match f with
 |.ok (a,q)=>d a q
 |P e=>P e
structure Cf (c:List Nat) (a b:Q):Prop where
 os:b.os=a.os
 tape:b.tape=a.tape
 output:b.output=a.output
 size:a.heap.size<=b.heap.size
 block:∀k,k<a.heap.size->k∉c->b.heap[k]?=a.heap[k]?
theorem Cf.refl(bs:List Nat)(a:Q):Cf bs a a:=⟨rfl,rfl,rfl,Acu _,λ_ _ _=>rfl⟩
theorem Cf.trans{d:List Nat}{g h i:Q}(a:Cf d g h)(c:Cf d h i):Cf d g i:=
 ⟨c.os.trans a.os,c.tape.trans a.tape,c.output.trans a.output,Ac5 a.size c.size,λb f e=>(c.block b (Ac2 f a.size) e).trans (a.block b f e)⟩
theorem Cf.cI(a:Below n.heap.size n p):Cf t n p:=⟨a.os,a.tape,a.output,a.size,λc b _=>a.block c b⟩
theorem Cf.alloc{bs:List Nat}(a:Cf bs n p)(o:Obj):Cf bs n (p.alloc o):=a.trans (Cf.cI bA)
theorem Cf.drewN(a:Cf t n p)(b:Nat):Cf t n (p.drewN b):=a.trans (Cf.cI (Aeu (Acv _ _) _))
theorem Cf.set(a:Cf t n p){b o:Nat}(f:b∈t\/n.heap.size<=b)(u:X):Cf t n (p.setCell ⟨b,o,none⟩ u):=by
 refine⟨a.os,a.tape,a.output,by simpa using a.size,λc d e=>?_⟩;rw[heap_setCell_other p ⟨b,o,none⟩ c u (by grind)];exact a.block c d e
theorem Cf.cM(a:EF w n p)(d:w∈t):Cf t n p:=⟨a.os,a.tape,a.output,a.size,λc b e=>a.block c b (by grind)⟩
theorem Cf.ef{c:Nat}{w:Q}(a:Cf t w n)(f:∀b∈t,b=c\/w.heap.size<=b):EF c w n:=
 ⟨a.os,a.tape,a.output,a.size,λe d g=>a.block e d (by grind)⟩
theorem Cf.more(a:Cf t n p)(f:∀b∈t,b∈wg\/n.heap.size<=b):Cf wg n p:=
 ⟨a.os,a.tape,a.output,a.size,λd c e=>a.block d c (by grind)⟩
theorem Cf.grown(a:Cf t n p)(b:p.grownBy h n9)(g:∀c,n9=some c->c∈t\/n.heap.size<=c):Cf t n h:=by
 refine⟨b.os.trans a.os,b.tape.trans a.tape,b.output.trans a.output,Ac5 a.size b.size,λe d f=>?_⟩;rw[b.block e (Ac2 d a.size) (by grind)];exact a.block e d f
theorem Cf.below(a:Cf t n p)(f:∀b∈t,n.heap.size<=b):Below n.heap.size n p:=
 (Acv _ n).grown (row:=none) ⟨a.os,a.tape,a.output,a.size,λe d _=>a.block e d (by grind)⟩ .refl (λ_ c=>by cases c)
theorem AZ.off{j:wd->List X}{b:wd->List Nat}{e:Q->wd->Prop}(n:FI b e){g m:Q}{d:Nat}{f:X}{h:List wd}(c:AZ j b e M w g d f h){i:List Nat}(l:Cf i g m)(o:∀a∈i,a<d\/g.heap.size<=a\/a∉AJ b f h):AZ j b e M w m d f h:=
 c.fr n l.size λa k=>l.block a (c.rg a k).2 (by have:=c.rg a k;grind)
structure Gy (b:Q) (a:Nat) (c d e:X):Prop where
 c0:b.cell? ⟨a,0,none⟩=some c
 c1:b.cell? ⟨a,1,none⟩=some d
 c2:b.cell? ⟨a,2,none⟩=some e
 f0:b.frozen? ⟨a,0,none⟩=false
 f1:b.frozen? ⟨a,1,none⟩=false
 f2:b.frozen? ⟨a,2,none⟩=false
theorem Gy.new(w:Q)(a b c:X)(d:Ad5):Gy (w.alloc (.cells #[a,b,c] d)) w.heap.size a b c:=⟨by simp,by simp,by simp,by simp,by simp,by simp⟩
theorem Gy.lt(a:Gy n w m q j):w<n.heap.size:=Adt a.c0
theorem Gy.cK(b:Gy n w m q j)(a:p.heap[w]?=n.heap[w]?):Gy p w m q j:=by
 refine⟨?_,?_,?_,?_,?_,?_⟩
 ·rw[Ac1 a];exact b.c0
 ·rw[Ac1 a];exact b.c1
 ·rw[Ac1 a];exact b.c2
 ·rw[Adm a];exact b.f0
 ·rw[Adm a];exact b.f1
 ·rw[Adm a];exact b.f2
theorem Gy.off(a:Gy n w m q j)(c:Cf t n p)(b:w∉t):Gy p w m q j:=a.cK (c.block w a.lt b)
theorem Gy.ef{a:Nat}{w:Q}{b:Nat}{x y:X}(c:Gy w b x y m)(d:EF a w n)(e:b≠a):Gy n b x y m:=c.cK (d.block b c.lt e)
theorem Gy.cJ{w:Q}{a:Nat}(b:Gy w a m q j)(c:Below w.heap.size w n):Gy n a m q j:=b.cK (c.block a b.lt)
theorem Gy.eg(a:Gy n w m q j)(b:X):Gy (n.setCell ⟨w,0,none⟩ b) w b q j:=
 ⟨Ac6 _ _ _ a.c0,by rw[Acy _ _ _ _ (Au (by omega))];exact a.c1,by rw[Acy _ _ _ _ (Au (by omega))];exact a.c2,by rw[Ac3];exact a.f0,by rw[Ac3];exact a.f1,by rw[Ac3];exact a.f2⟩
theorem Gy.db(a:Gy n w m q j)(b:X):Gy (n.setCell ⟨w,1,none⟩ b) w m b j:=
 ⟨by rw[Acy _ _ _ _ (Au (by omega))];exact a.c0,Ac6 _ _ _ a.c1,by rw[Acy _ _ _ _ (Au (by omega))];exact a.c2,by rw[Ac3];exact a.f0,by rw[Ac3];exact a.f1,by rw[Ac3];exact a.f2⟩
theorem Gy.dJ(a:Gy n w m q j)(b:X):Gy (n.setCell ⟨w,2,none⟩ b) w m q b:=
 ⟨by rw[Acy _ _ _ _ (Au (by omega))];exact a.c0,by rw[Acy _ _ _ _ (Au (by omega))];exact a.c1,Ac6 _ _ _ a.c2,by rw[Ac3];exact a.f0,by rw[Ac3];exact a.f1,by rw[Ac3];exact a.f2⟩
theorem Gy.put(d:Gy n w m q j)(a b c:X):Gy (((n.setCell ⟨w,0,none⟩ a).setCell ⟨w,1,none⟩ b).setCell ⟨w,2,none⟩ c) w a b c:=((d.eg a).db b).dJ c
def rk(a:Int):Nat:=if a=-1 then 0 else if a=-2 then 2 else 1
def E8(b:Nat)(c a:Int):Bool:=decide (a<Hf b c)||((b==19) && (a !=1))||decide (1000<a+CW b c)
theorem NO(a:Nat)(b:Int)(g:a<21)(d:a≠0->0<=b/\b<=65535):-65536<=CW a b/\CW a b<=65536:=by
 by_cases c:a=0
 ·subst c;simp[CW]
 ·let ⟨e,f⟩:=d c
  unfold CW;omega
theorem K3(a:Nat)(o:a<21)(b d:Int)(j:Option Addr)(i h:Nat)(c:Q)(k:a≠0->0<=b/\b<=65535)(p:0<=d/\d<=100000):
 Adg Acs 116 #[T #[V C a,V C b,W j i h],V C d] c λe l=>e=F (A (E8 a b d))/\Below c.heap.size c l:=by
 let ⟨v,w⟩:=(NO a b o k)
 let ⟨t,u⟩:=p
 have m:Hid (∀c,Adg Acs 165 #[T #[V C a,V C b,W j i h]] c λe l=>e=F (R #[V C (Hf a b),V C (CW a b)])/\Below c.heap.size c l):=λc=>JL a o b j i h c k;have g:Hid (E8 a b d=(decide (d<Hf a b)||((a==19) && (d !=1))||decide (1000<d+CW a b))):=rfl;clear k;generalize Hf a b=nd at*;generalize CW a b=mr at*;have n:((a:Int)==19)=(a==19):=by grind
 cases h19:(a==19)
 ·rw[h19]at n g;clear h19;go_enter Tryz.func116,Tryz.ntmps116;go_wp2_with (first|(go_at_call 165;refine(m.out _).mono ?_;rintro e q ⟨rfl,f⟩;let ⟨r,s⟩:=FA f))
  all_goals
   go_ret;refine⟨LG ?_,bA.trans (f.mono (by simp))⟩;rw[g.out];simp_all;try omega
 ·rw[h19]at n g;clear h19;go_enter Tryz.func116,Tryz.ntmps116;go_wp2_with (first|(go_at_call 165;refine(m.out _).mono ?_;rintro e q ⟨rfl,f⟩;let ⟨r,s⟩:=FA f))
  all_goals
   go_ret;refine⟨LG ?_,bA.trans (f.mono (by simp))⟩;rw[g.out];simp_all;try omega
def Ds(a b:Int)(c:List G7)(d:Nat):List Int:=if a=19\/a=20 then [] else if a=18 then [b] else if a=17 then c.map (·.to) else [(d:Int)+1]
def HU(b:List Int):List X:=b.map λa=>Value.int C a
def D7(d:Q)(b:Nat)(c:X)(a:List Int):Prop:=d.ownsRow b 3 1 c a.length (HU a)
theorem Om(d h:Int)(b:List G7)(I:X)(e:Nat)(a:Q)(L:Du a I b)(a6:b.length<=256)(w:e<=65535):
 Adg Acs 114 #[T #[V C d,V C h,I],V C e] a λn p=>(∃ae,n=F ae/\D7 p a.heap.size ae (Ds d h b e))/\Below a.heap.size a p:=by
 obtain⟨ac,K,rfl,a8,M⟩:=L.open;have af:Hid (∀p,Below a.heap.size a p->UA p ac b):=M;obtain⟨f,E,O⟩:=Adb.1 Tryz.fd;simp only[Aeb]at O;obtain⟨Y,aa,ab⟩:=O;have g:Hid (f.zero=some (V C 0)/\f.size=1/\f.bytes=8):=⟨Y,aa,ab⟩;clear M L Y aa ab;by_cases u:d=19\/d=20
 ·have k:Hid (Ds d h b e=[]):=by show _=_;unfold Ds;rw[if_pos u]
  rcases u with rfl|rfl;all_goals
   go_enter Tryz.func114,Tryz.ntmps114;go_wp2;go_ret;exact⟨⟨_,rfl,by rw[k.out];exact⟨rfl,Ads ⟨rfl,rfl⟩⟩⟩,bA⟩
 ·by_cases t:d=18
  ·subst t;have k:Hid (Ds 18 h b e=[h]):=rfl;go_enter Tryz.func114,Tryz.ntmps114;go_wp2_with (first|(at_builtin;refine Adl _ rfl _ _ _ rfl a.heap.size 3 f (V C 0) 1 8 Tryz.underlying85 E g.out.1 g.out.2.1 g.out.2.2 rfl (by omega) (W none 0 0) 0 [] rfl ⟨rfl,Ads ⟨rfl,rfl⟩⟩ ⟨a.heap.size+1,0,none⟩ 1 1 [V C h] rfl rfl ?hnews ?h1 (by omega) ?h63 ?hbytes ?hbase (a.heap.size+1+1) ?hH ?_))
   case hnews=>exact AL _ _ _ _ (by simp)
   case h1=>intro ad j;simp at j;subst j;rfl
   case h63=>unfold Aed;omega
   case hbytes=>omega
   case hbase=>simp;omega
   case hH=>simp
   intro o q m l i v x;go_wp2;go_ret;refine⟨⟨_,rfl,by rw[k.out];exact l⟩,?_⟩;refine Below.grown ?_ i (by simp;omega) (by intro e w;cases w);exact bA.alloc (by simp) _
  ·have ax:(d==18)=false:=by simp[t]
   have ay:(d==19)=false:=by simp;omega
   have az:(d==20)=false:=by simp;omega
   by_cases s:d=17
   ·subst s;have k:Hid (Ds 17 h b e=b.map (·.to)):=rfl;go_enter Tryz.func114,Tryz.ntmps114;go_wp2;go_loopw [5,6] (λav f wr=>∃(c:Nat) (y:X),c<=b.length/\av=y/\f=V C c/\Hid (D7 wr a.heap.size y ((b.take c).map (·.to)))/\Hid (y.ownBlock≠some a.heap.size)/\Below a.heap.size a wr/\wr.cell? ⟨a.heap.size,2,none⟩=some (W ac b.length K)/\a.heap.size<wr.heap.size) (λ_ f _=>b.length-(intOf f).toNat)
    case atStart=>exact⟨0,W none 0 0,Ac0 _,rfl,rfl,⟨rfl,Ads ⟨rfl,rfl⟩⟩,(by intro r;cases r),bA,by simp,by simp⟩
    case round=>
     obtain⟨c,y,a5,rfl,rfl,G,U,D,au,aq⟩:=hrel;by_cases x:c<b.length
     ·obtain⟨al,ar,rfl,a9,aB⟩:=af.out _ D c x;have ah:Hid (((b.take (c+1)).map (·.to))=((b.take c).map (·.to))++[b[c].to]):=by
       show _=_;rw[Ade x,Adq];rfl
      have z:((b.take c).map (·.to)).length=c:=by simp;omega
      have B:wr.ownsRow a.heap.size 3 1 u5 ((b.take c).map (·.to)).length (HU ((b.take c).map (·.to))):=G.out;rw[z]at B;have H:Hid (wr.ownsRow a.heap.size 3 1 u5 c (HU ((b.take c).map (·.to)))):=B;have ai:Hid (((b.take c).map (·.to)).length=c):=z;clear B z G;generalize b[c].tag=tg at*;generalize b[c].to=tto at*;generalize ((b.take c).map (·.to))=pre at*;go_wp2_with (first|(at_builtin;refine Adl _ rfl _ _ _ rfl a.heap.size 3 f (V C 0) 1 8 Tryz.underlying85 E g.out.1 g.out.2.1 g.out.2.2 rfl (by omega) u5 c (HU pre) rfl (H.out.alloc _) ⟨wr.heap.size,0,none⟩ 1 1 [V C tto] rfl rfl ?hnews ?h1 (by omega) ?h63 ?hbytes ?hbase (wr.heap.size+1) ?hH ?_))
      case hnews=>exact AL _ _ _ _ (by simp)
      case h1=>intro ad j;simp at j;subst j;rfl
      case h63=>unfold Aed;omega
      case hbytes=>omega
      case hbase=>simp;omega
      case hH=>simp
      intro o q m l i v a7;have ao:m.cell? ⟨a.heap.size,2,none⟩=some (W (some ⟨al,ar,none⟩) b.length K):=by
       rw[i.cell_far ⟨a.heap.size,2,none⟩ (by simp;omega) (λn=>U.out n.symm),Ag8 _ _ _ aq];exact au
      have ap:=i.size;simp at ap;have ak:Hid (D7 m a.heap.size (W (some ⟨o,0,none⟩) (c+1) q) (pre++[tto])):=by
       show m.ownsRow _ _ _ _ _ _;rw[Adk,ai.out,HU,Adq];exact l
      have aj:Hid ((W (some ⟨o,0,none⟩) (c+1) q).ownBlock≠some a.heap.size):=by
       intro n;have am:o=a.heap.size:=by simpa[Ad6]using n
       rcases v with r|r
       ·exact U.out (by rw[r,am])
       ·omega
      have an:Below a.heap.size a m:=by
       refine Below.grown (D.alloc (by omega) _) i (by simp;omega) ?_;intro a2 N;rcases H.out.2 with⟨rfl,_⟩|⟨a3,a0,a1,rfl,a4,_⟩
       ·cases N
       ·simp[Ad6]at N;omega
      clear l i v;go_wp2;exact⟨⟨c+1,_,by omega,rfl,by go_num,by rw[ah.out];exact ak,aj,an,ao,by omega⟩,by simp[intOf];omega⟩
     ·have ag:Hid (D7 wr a.heap.size u5 (b.map (·.to))):=by
       have:=G.out;rw[Aav (by omega)]at this;exact this
      go_wp2;go_ret;exact⟨⟨_,rfl,by rw[k.out];exact ag.out⟩,D⟩
   ·have aw:(d==17)=false:=by simp[s]
    have k:Hid (Ds d h b e=[(e:Int)+1]):=by show _=_;unfold Ds;rw[if_neg u,if_neg t,if_neg s]
    clear s t u;go_enter Tryz.func114,Tryz.ntmps114;go_wp2_with (first|(at_builtin;refine Adl _ rfl _ _ _ rfl a.heap.size 3 f (V C 0) 1 8 Tryz.underlying85 E g.out.1 g.out.2.1 g.out.2.2 rfl (by omega) (W none 0 0) 0 [] rfl ⟨rfl,Ads ⟨rfl,rfl⟩⟩ ⟨a.heap.size+1,0,none⟩ 1 1 [V C ((e:Int)+1)] rfl rfl ?hnews ?h1 (by omega) ?h63 ?hbytes ?hbase (a.heap.size+1+1) ?hH ?_))
    case hnews=>exact AL _ _ _ _ (by simp)
    case h1=>intro ad j;simp at j;subst j;rfl
    case h63=>unfold Aed;omega
    case hbytes=>omega
    case hbase=>simp;omega
    case hH=>simp
    intro o q m l i v x;go_wp2;go_ret;refine⟨⟨_,rfl,by rw[k.out];exact l⟩,?_⟩;refine Below.grown ?_ i (by simp;omega) (by intro e w;cases w);exact bA.alloc (by simp) _
def IntsIn(d:Q)(e:Nat)(f:Option Addr)(c:List Int):Prop:=∀b (g:b<c.length),∃a,f=some ⟨a,0,none⟩/\e<=a/\a<d.heap.size/\d.cell? ⟨a,b,none⟩=some (.int C c[b])
theorem D7.open(e:D7 n w m wm):∃g h,m=W g wm.length h/\IntsIn n w g wm:=by
 rcases e.2 with⟨a,j⟩|⟨d,c,o,a,l,q,r,p,s,t⟩
 ·have k:=j;refine⟨none,0,by rw[a,k],λf b=>absurd b (by omega)⟩
 ·refine⟨_,c,a,λf b=>⟨d,rfl,l,?_,?_⟩⟩
  ·grind
  ·have i:n.ownsRow w 3 1 (W (some ⟨d,0,none⟩) wm.length c) wm.length (HU wm):=by rw[<-a];exact e
   rw[i.cellAt f (by omega)];simp[HU,b]
theorem IntsIn.dc(b:IntsIn n w L wm)(i:n.heap.size<=p.heap.size)(h:∀a j,w<=a->a<n.heap.size->p.cell? ⟨a,j,none⟩=n.cell? ⟨a,j,none⟩):IntsIn p w L wm:=by
 intro j c;let ⟨a,d,e,f,g⟩:=b j c
 grind
def P2(b:Q)(a:Nat):Prop:=b.cell? ⟨a,0,none⟩=some (V C 0)/\b.cell? ⟨a,1,none⟩=some (V C 0)/\b.frozen? ⟨a,0,none⟩=false/\b.frozen? ⟨a,1,none⟩=false
theorem P2.cJ{w:Q}{c:Nat}(a:P2 w c)(b:Below w.heap.size w n):P2 n c:=by
 have d:=Adt a.1;exact⟨Aa b a.1,Aa b a.2.1,by rw[(FA b).2 _ _ d];exact a.2.2.1,by rw[(FA b).2 _ _ d];exact a.2.2.2⟩
theorem P2.put(b:P2 n w)(a c:X):(n.setCell ⟨w,0,none⟩ a).cell? ⟨w,0,none⟩=some a/\((n.setCell ⟨w,0,none⟩ a).setCell ⟨w,1,none⟩ c).cell? ⟨w,1,none⟩=some c:=by
 refine⟨Ac6 _ _ _ b.1,Ac6 _ _ _ (u:=V C 0) ?_⟩;rw[Acy _ _ _ _ (by intro d;have:=congrArg Addr.off d;simp at this)];exact b.2.1
theorem Tryz.eY:(Acs.info? 250).map (λa=>(a.zero,a.size,a.bytes))=some (some (T #[A false,A false,V C 0]),3,16):=by kernel_rfl
def CL(a:Nat):Array X:=madeCells #[A false,A false,V C 0] (a*3)
theorem Mv(a:Nat)(i:a<=65535)(b:Q):(Instr.makeSlice 246 (V C (a:Int)) (V C (a:Int))).run Acs b=.ok (W (some ⟨b.heap.size,0,none⟩) a a) (b.alloc (.cells (CL a) 250)):=by
 let ⟨h,d,c⟩:=Adb.1 Tryz.eY
 simp at c;let ⟨e,f,g⟩:=c
 rw[run_make b 246 250 h _ Tryz.underlying246 d e C C a a (by omega) (by omega) (by rw[g];omega) (by omega),f];rfl
theorem Ix(b a:Nat)(f:a<b):(CL b)[a*3]?=some (A false)/\(CL b)[a*3+1]?=some (A false)/\(CL b)[a*3+2]?=some (V C 0):=by
 have c:a*3 % 3=0:=by omega
 have d:(a*3+1) % 3=1:=by omega
 have e:(a*3+2) % 3=2:=by omega
 refine⟨?_,?_,?_⟩
 ·simp[CL,madeCells,show a*3<b*3 by omega,c]
 ·simp[CL,madeCells,show a*3+1<b*3 by omega,d]
 ·simp[CL,madeCells,show a*3+2<b*3 by omega,e]
def XW(d:Q)(e:Nat)(f:Option Addr)(c:List Int):Prop:=∀b (g:b<c.length),∃a,f=some ⟨a,0,none⟩/\e<=a/\a<d.heap.size/\d.cell? ⟨a,b,none⟩=some (.int C c[b])
theorem D7.gI(e:D7 n w m wm):∃g h,m=W g wm.length h/\XW n w g wm:=by
 rcases e.2 with⟨a,j⟩|⟨d,c,o,a,l,q,r,p,s,t⟩
 ·have k:=j;refine⟨none,0,by rw[a,k],λf b=>absurd b (by omega)⟩
 ·refine⟨_,c,a,λf b=>⟨d,rfl,l,?_,?_⟩⟩
  ·grind
  ·have i:n.ownsRow w 3 1 (W (some ⟨d,0,none⟩) wm.length c) wm.length (HU wm):=by rw[<-a];exact e
   rw[i.cellAt f (by omega)];simp[HU,b]
theorem Lz(a:w+1<=256):Aer ((w:Int)+1)=((w+1:Nat):Int):=by unfold Aer;omega
structure DA (w:Q) (a:Nat) (d:List Int) (b:List Bool):Prop where
 c:∀i (h:i<b.length),w.cell? ⟨a,i*3,none⟩=some (.bool b[i])/\w.cell? ⟨a,i*3+1,none⟩=some (A false)/\w.cell? ⟨a,i*3+2,none⟩=some (V C (if b[i] then d.getD i 0 else 0))
 f:∀j,w.frozen? ⟨a,j,none⟩=false
 l:a<w.heap.size
theorem DA.cJ{w:Q}{g:Nat}(a:DA w g wm v9)(b:Below w.heap.size w n):DA n g wm v9:=
 ⟨λe d=>⟨Aa b (a.c e d).1,Aa b (a.c e d).2.1,Aa b (a.c e d).2.2⟩,λh=>by rw[(FA b).2 _ _ a.l];exact a.f h,Ac2 a.l b.size⟩
theorem DA.new{w:Q}{a:Nat}(h:0<a)(g:wm.getD 0 0=we):DA (w.alloc (.cells ((((CL a).setIfInBounds 0 (A true)).setIfInBounds 1 (A false)).setIfInBounds 2 (V C we)) 250)) w.heap.size wm ((List.replicate a false).set 0 true):=by
 have e:(CL a).size=a*3:=by simp[CL,size_madeCells]
 refine⟨λb c=>?_,λi=>by simp,by simp⟩;rw[List.length_set,List.length_replicate]at c;let ⟨j,f,k⟩:=Ix a b c
 by_cases d:b=0
 ·subst d;refine⟨Ak _ _ _ _ _ ?_,Ak _ _ _ _ _ ?_,Ak _ _ _ _ _ ?_⟩;all_goals(simp[Array.getElem?_setIfInBounds,e])
  ·omega
  ·omega
  grind
 ·refine⟨Ak _ _ _ _ _ ?_,Ak _ _ _ _ _ ?_,Ak _ _ _ _ _ ?_⟩
  ·grind
  ·simp[show ¬b*3=0 by omega,show ¬2=b*3+1 by omega,f]
  grind
theorem DA.set(a:DA n w wm v9){b:Nat}(h:b<v9.length):DA (((n.setCell ⟨w,b*3,none⟩ (A true)).setCell ⟨w,b*3+1,none⟩ (A false)).setCell ⟨w,b*3+2,none⟩ (V C (wm.getD b 0))) w wm (v9.set b true):=by
 let ⟨k0,i,k⟩:=a.c b h
 refine⟨λe d=>?_,λj=>by simpa using a.f j,by simpa using a.l⟩;rw[List.length_set]at d;let ⟨m,o,p⟩:=a.c e d
 by_cases g:e=b
 ·subst g;simp only[List.getElem_set_self,if_true];exact⟨by rw[Acy _ _ _ _ (by simp),Acy _ _ _ _ (by simp),Ac6 _ _ _ k0],by rw[Acy _ _ _ _ (by simp),Ac6 _ _ _ (by rw[Acy _ _ _ _ (by simp)];exact i)],by rw[Ac6 _ _ _ (by rw[Acy _ _ _ _ (by simp),Acy _ _ _ _ (by simp)];exact k)]⟩
 ·rw[List.getElem_set_ne (by omega)];refine⟨?_,?_,?_⟩;all_goals(rw[Acy _ _ _ _ (by intro a;simp at a<;>omega),Acy _ _ _ _ (by intro a;simp at a<;>omega),Acy _ _ _ _ (by intro a;simp at a<;>omega)];assumption)
structure Sg (b:List Bp) (d:Int) (c:List Int):Prop where
 p:0<b.length
 m:b.length<=65535
 a:0<=d/\d<=20
 s:c.getD 0 0=d+1
 i:∀k (hk:k<b.length),∃m:Nat,b[k].op=m/\m<21/\(m≠0->0<=b[k].a/\b[k].a<=65535)/\b[k].alts.length<=256/\0<=c.getD k 0/\c.getD k 0<=1000/\E8 m b[k].a (c.getD k 0)=false/\(Ds m b[k].a b[k].alts k).length<=256/\∀s∈Ds m b[k].a b[k].alts k,∃t:Nat,s=t/\t<b.length/\c.getD t 0=c.getD k 0+CW m b[k].a/\-70000<=CW m b[k].a/\CW m b[k].a<=70000
theorem Wz(b:w<v9.length)(a:v9[w]=false):(v9.set w true).count false+1=v9.count false:=by
 grind
structure M6 (a wr:Q) (b:Nat) (f:Option Addr) (h:List Int) (e:List Int) (g:List Bool) (d:X):Prop where
 D:DA wr (a.heap.size+1) e g
 I:XW wr b f h
 B:Below a.heap.size a wr
 c:wr.cell? ⟨a.heap.size,3,none⟩=some d
 z:a.heap.size+1<b
theorem M6.cJ{w:Q}{e:List Int}{h:List Bool}{wr j:Q}{f:Nat}{g:Option Addr}{i:List Int}{d:X}(a:M6 w wr f g i e h d)(b:Below wr.heap.size wr j):M6 w j f g i e h d:=
 ⟨a.D.cJ b,λp o=>by let ⟨q,k,l,m,n⟩:=a.I p o;exact⟨q,k,l,Ac2 m b.size,Aa b n⟩,a.B.trans (b.mono a.B.size),Aa b a.c,a.z⟩
theorem M6.set{d:Q}{f:List Int}{g:List Bool}{wr:Q}{i:Nat}{k:Option Addr}{l:List Int}{h:X}(e:M6 d wr i k l f g h){a:Nat}(q:a<g.length):M6 d (((wr.setCell ⟨d.heap.size+1,a*3,none⟩ (A true)).setCell ⟨d.heap.size+1,a*3+1,none⟩ (A false)).setCell ⟨d.heap.size+1,a*3+2,none⟩ (V C (f.getD a 0))) i k l f (g.set a true) h:=by
 have r:=e.z;have s:∀b j,b≠d.heap.size+1->(((wr.setCell ⟨d.heap.size+1,a*3,none⟩ (A true)).setCell ⟨d.heap.size+1,a*3+1,none⟩ (A false)).setCell ⟨d.heap.size+1,a*3+2,none⟩ (V C (f.getD a 0))).cell? ⟨b,j,none⟩=wr.cell? ⟨b,j,none⟩:=λb j v=>by
  rw[Acy _ _ _ _ (by simp),Acy _ _ _ _ (by simp),Acy _ _ _ _ (by simp)]
 refine⟨e.D.set q,λj p=>?_,((e.B.setCell (by simp) _).setCell (by simp) _).setCell (by simp) _,by rw[s _ _ (by omega)];exact e.c,r⟩;let ⟨t,m,n,o,u⟩:=e.I j p
 exact⟨t,m,n,by simpa using o,by grind⟩
theorem Z4(a:w+1=v)(c:v+(if w2 then 1 else 0)<=b):w+(if true then 1 else 0)<=b:=by grind
theorem Aat{s:Nat}(a:v9[w]?=some true):(v9.set s true)[w]?=some true:=by
 grind
theorem Z1(a:w=2*v+(if true then 1 else 0))(c:b+(if w2 then 1 else 0)<=v):2*b+(if w2 then 1 else 0)<w:=by grind
theorem VF{nm:ByteArray}{ex:Bool}{w:Q}(aS:Eh w m wz)(Y:Sg wz we wm):
 Adg Acs 115 #[T #[S nm,V C we,A ex,m]] w λU u=>(∃aC r,U=F (W (some ⟨aC,0,none⟩) wz.length wz.length)/\r.length=wz.length/\DA u aC wm r)/\Below w.heap.size w u:=by
 obtain⟨a0,O,rfl,ce,aj⟩:=aS.open;have bi:=Y.p;have b9:=Y.m;have ca:=Mv wz.length b9;obtain⟨bQ,bR⟩:=Y.a;have bu:=hid aj;have aM:=hid Y;obtain⟨bp,H,bq⟩:=Ix wz.length 0 bi;simp only[Nat.zero_mul,Aey]at bp H bq;clear aj aS Y;go_enter Tryz.func115,Tryz.ntmps115;go_wp2;have aE:=hid (DA.new (w:=w.alloc (.cells #[S nm,V C we,A ex,W a0 wz.length O] 59)) bi aM.out.s);have bc:((List.replicate wz.length false).set 0 true).length=wz.length:=by simp
 generalize (List.replicate wz.length false).set 0 true=M at*;clear bp H bq;go_loopg [4] (2*M.count false+1) (λbE ac wr=>∃(r:List Bool) (h:Bool),ac=A h/\Hid (r.length=wz.length/\DA wr (w.heap.size+1) wm r/\bE=2*r.count false+(if h then 1 else 0))/\Hid (Below w.heap.size w wr)/\wr.cell? ⟨w.heap.size,3,none⟩=some (W a0 wz.length O)/\w.heap.size+1<wr.heap.size)
 case atStart=>
  refine⟨M,true,rfl,⟨bc,?_,rfl⟩,bA.alloc (by simp) _,by simp,by simp⟩;have:=aE.out;simpa using this
 case round=>
  obtain⟨r,h,rfl,e,z,aa,am⟩:=hrel;clear aE bc;cases h
  ·go_wp2;go_ret;exact⟨⟨_,r,rfl,e.out.1,e.out.2.1⟩,z.out⟩
  ·have bv:=hid e.out.2.2;have ar:=hid (And.intro e.out.1 e.out.2.1);clear e;rename Q=>W1
   go_wp2;go_loopw [4,5] (λac a5 wr=>∃(b:Nat) (j:List Bool) (h:Bool),b<=wz.length/\ac=A h/\a5=V C b/\Hid (j.length=wz.length/\DA wr (w.heap.size+1) wm j/\j.count false+(if h then 1 else 0)<=r.count false)/\Hid (Below w.heap.size w wr)/\wr.cell? ⟨w.heap.size,3,none⟩=some (W a0 wz.length O)/\w.heap.size+1<wr.heap.size) (λ_ a5 _=>wz.length-(intOf a5).toNat)
   case atStart=>exact⟨0,r,false,Ac0 _,rfl,rfl,⟨ar.out.1,ar.out.2,Acu _⟩,z,aa,am⟩
   case round=>
    obtain⟨b,j,h,bS,rfl,rfl,e,z,aa,am⟩:=hrel;clear ar;by_cases be:b<wz.length
    ·obtain⟨aw,br,o,n,k,rfl,a8,bN,bO,aR⟩:=bu.out _ z.out b be;obtain⟨d,bf,bg,ia,aT,ag,ah,bm,ci,bl⟩:=aM.out.i b be;have bk:=e.out.1;have bj:b<j.length:=by omega
     obtain⟨ax,aP,af⟩:=e.out.2.1.c b bj;obtain⟨ab,ay⟩:∃ab,j[b]=ab:=⟨_,rfl⟩;rw[ay]at ax af;have aL:Hid (j[b]?=some ab):=by rw[Ad0 bj,ay];rfl
     clear ay;rw[bf]at a8;have bU:(b:Int)<(wz.length:Int):=by omega
     have bT:(0:Int)<=(b:Int):=by omega
     have aW:=z.out.size;have bG:aw<wr.heap.size:=Adt a8;have aN:=hid λ(v:Int) (t:0<=v/\v<=100000) w=>K3 d bg wz[b].a v o n k w ia t;have aH:=hid λw=>JL d bg wz[b].a o n k w ia;have aK:Hid (∀u,Below wr.heap.size wr u->Adg Acs 114 #[T #[V C d,.int C wz[b].a,W o n k],V C b] u λU bt=>(∃m,U=F m/\D7 bt u.heap.size m (Ds d wz[b].a wz[b].alts b))/\Below u.heap.size u bt):=λu b7=>Om d _ wz[b].alts _ b u (aR.cJ b7) aT (by omega);have b0:=hid bl;have aO:=hid bm;have aG:=hid e.out.2.1;have aD:=hid e.out.2.2;clear aR bf aT ia bm bl e;generalize wz[b].a=a at*;generalize wz[b].alts=al at*;rename Q=>W2
     have a9:=cell_regrown (Ak W2 #[V C d,V C a,W o n k] 65 0 _ rfl);have aB:=cell_regrown (Ak W2 #[V C d,V C a,W o n k] 65 1 _ rfl);have N:=cell_regrown (Ak W2 #[V C d,V C a,W o n k] 65 2 _ rfl);obtain⟨v,t⟩:∃v,v=if ab then wm.getD b 0 else 0:=⟨_,rfl⟩
     rw[<-t]at af;have aX:0<=v/\v<=100000:=by omega
     have bP:=cell_regrown (alloc_old W2 (.cells #[V C d,V C a,W o n k] 65) _ _ _ af);have av:=hid λw=>aN.out v aX w;have ad:=hid t;have aI:=hid (And.intro ag ah);clear aN t aX ag ah;go_wp2;refine wp_region_quiet_below (by rfl) (by kernel_rfl) ?_;repeat (first|go_big_quiet_step (first|(go_at_call 116;exact Calls.regrown_of (av.out _)))|quiet_step (first|(go_at_call 116;exact Calls.regrown_of (av.out _))))
     refine wpQuiet_nil ?_;intro _ hw';obtain⟨⟨y,K⟩,hw''⟩:=hw';subst hw'';have E:Below W2.heap.size W2 (grow (redrawn (W2.alloc (.cells #[V C d,V C a,W o n k] 65)) y) K):=bA.trans ((below_regrown _ y K).mono (by simp));have M:=a9 y K;have a2:=aB y K;have a3:=N y K;have bC:W2.heap.size<(grow (redrawn (W2.alloc (.cells #[V C d,V C a,W o n k] 65)) y) K).heap.size:=by
      have:=(below_regrown (W2.alloc (.cells #[V C d,V C a,W o n k] 65)) y K).size;simp at this ⊢;omega
     generalize grow (redrawn (W2.alloc (.cells #[V C d,V C a,W o n k] 65)) y) K=W3 at*;clear a9 aB N bP;have b1:=Aa E ax;have b2:=Aa E aP;have a1:=Aa E aa;have ao:=hid (z.out.trans (E.mono aW));have aq:=hid (aG.out.cJ E);have bo:w.heap.size+1<W3.heap.size:=by omega
     clear ax aP af aa a8 bN bO aG;simp at M a2 a3;cases ab
     ·go_wp2;exact⟨⟨b+1,j,h,by omega,rfl,by go_num,⟨bk,aq.out,aD.out⟩,ao,a1,bo⟩,by simp[intOf];omega⟩
     ·have t:=ad.out;simp only[if_true]at t;have bn:=aO.out;have bz:=hid aL.out;obtain⟨ag,ah⟩:=aI.out;rw[<-t]at ag ah bn;clear aL aI ad aO;have ad:=hid t;clear t;go_wp2_with (first|(go_at_call 165;refine(aH.out _).mono ?_;rintro U a7 ⟨rfl,G⟩;have bD:=G.size;have bJ:=Aa G M;have bK:=Aa G a2;have bL:=Aa G a3)|(go_at_call 114;refine(aK.out _ (E.trans (G.mono E.size))).mono ?_;rintro U bM ⟨⟨cv,rfl,bh⟩,aV⟩))
      have ai:=G.trans (aV.mono G.size);have b8:w.heap.size+1<a7.heap.size:=by omega
      obtain⟨bs,cr,b5,aZ⟩:=bh.gI;subst b5;have aJ:Hid (M6 w bM a7.heap.size bs (Ds d a al b) wm j (W (some ⟨aw,br,none⟩) wz.length O)):=⟨aq.out.cJ ai,aZ,ao.out.trans (ai.mono (by omega)),Aa ai a1,b8⟩;clear aZ bh aK aH av ao aq bn M a2 a3 bJ bK bL b1 b2 a1 E G aV ai bC bo bD aW z am bG;generalize Ds d a al b=sl at*;go_loopw [4,11] (λac a4 wr=>∃(q:Nat) (g:List Bool) (H:Bool),q<=sl.length/\ac=A H/\a4=V C q/\Hid (g.length=wz.length/\g.count false+(if H then 1 else 0)<=r.count false/\g[b]?=some true)/\Hid (M6 w wr a7.heap.size bs sl wm g (W (some ⟨aw,br,none⟩) wz.length O))) (λ_ a4 _=>sl.length-(intOf a4).toNat)
      case atStart=>exact⟨0,j,h,Ac0 _,rfl,rfl,⟨bk,aD.out,bz.out⟩,aJ⟩
      case round=>
       obtain⟨q,g,H,bW,rfl,rfl,L,p⟩:=hrel;clear aJ;by_cases bb:q<sl.length
       ·obtain⟨a6,b3,bX,cj,aj⟩:=p.out.I q bb;subst b3;obtain⟨s,aQ,cd,aY,bY,bZ⟩:=b0.out _ (Ac8 bb);rw[aQ]at aj;have bB:=L.out.1;have az:s<g.length:=by omega
        have aU:b<g.length:=by omega
        have b4:g[b]=true:=by have:=L.out.2.2;rw[Ad0 aU]at this;simpa using this
        obtain⟨a9,aB,N⟩:=p.out.D.c s az;obtain⟨-,cw,an⟩:=p.out.D.c b aU;rw[b4]at an;simp only[if_true]at an;rw[<-ad.out]at an aY;have ak:=p.out.D.f;have u0:=ak (s*3);have cs:=ak (s*3+1);have ct:=ak (s*3+2);have cf:(0:Int)<=(s:Int):=by omega
        have ch:(s:Int)<(wz.length:Int):=by omega
        have bV:=p.out.D.l;have cm:w.heap.size+1≠a6:=by omega
        have ba:q+1<=256:=by omega
        have ae:Hid (q+1<=sl.length/\sl.length-(q+1)<sl.length-q):=⟨by omega,by omega⟩;rename Q=>W6
        have cn:w.heap.size+1≠W6.heap.size:=by omega
        have co:w.heap.size≠W6.heap.size:=by omega
        have ck:w.heap.size<W6.heap.size:=by omega
        have cl:w.heap.size+1<W6.heap.size+1:=by omega
        have cx:=λbH bI=>Aa (((Acv W6.heap.size W6).alloc (Acu _) bH).alloc (by simp) bI) an;have cp:a6≠W6.heap.size:=by omega
        have cq:a6≠W6.heap.size+1:=by omega
        have au:=hid (p.out.set az);have ap:=hid λb6:g[s]=false=>Wz az b6;rw[aY]at N au;clear ak aQ;generalize g[s]=x at*;generalize CW d a=mr at*;generalize Hf d a=nd at*;cases x
        ·simp only[if_neg (show ¬false=true by decide)]at N;have bw:=hid (Z4 (ap.out rfl) L.out.2.1);have bx:=hid (Aat (s:=s) L.out.2.2);clear ap;go_wp2;go_region
         go_wp2;go_region
         go_wp2;exact⟨⟨q+1,g.set s true,true,ae.out.1,rfl,by first|go_num|(rw[Lz ba];rfl),⟨by simpa using bB,bw.out,bx.out⟩,au.out.cJ (by repeat' (first|(with_reducible exact Acv _ _)|(with_reducible refine Below.drew ?_)|(with_reducible refine Below.alloc ?_ ?_ _)|(with_reducible exact Acu _)|(simp;done)|(simp;omega)))⟩,by have:=ae.out.2;simp[intOf];omega⟩
        ·simp only[if_true]at N;clear au ap;go_wp2;go_region
         go_wp2;exact⟨⟨q+1,g,H,ae.out.1,rfl,by first|go_num|(rw[Lz ba];rfl),L,p.out.cJ (by repeat' (first|(with_reducible exact Acv _ _)|(with_reducible refine Below.drew ?_)|(with_reducible refine Below.alloc ?_ ?_ _)|(with_reducible exact Acu _)|(simp;done)|(simp;omega)))⟩,by have:=ae.out.2;simp[intOf];omega⟩
       ·go_wp2;exact⟨⟨b+1,g,H,by omega,rfl,by go_num,⟨L.out.1,p.out.D,L.out.2.1⟩,p.out.B,p.out.c,p.out.D.l⟩,by simp[intOf];omega⟩
    ·go_wp2;go_roundg(2*j.count false+(if h then 1 else 0))
     case measure=>exact Z1 bv.out e.out.2.2
     case rel=>exact⟨j,h,rfl,⟨e.out.1,e.out.2.1,rfl⟩,z,aa,am⟩
def G4(b:Q)(a:Nat)(e:ByteArray)(c:Int)(d:Bool)(f:X):Prop:=b.cell? ⟨a,0,none⟩=some (S e)/\b.cell? ⟨a,1,none⟩=some (V C c)/\b.cell? ⟨a,2,none⟩=some (A d)/\b.cell? ⟨a,3,none⟩=some f
theorem G4.cJ{w:Q}{c:Nat}{nm:ByteArray}(a:G4 w c nm we w2 m)(b:Below w.heap.size w n):G4 n c nm we w2 m:=⟨Aa b a.1,Aa b a.2.1,Aa b a.2.2.1,Aa b a.2.2.2⟩
theorem TN{nm:ByteArray}{ex:Bool}{w:Q}(O:Eh w m wz)(y:Sg wz we wm)(am:∀a1∈wz,a1.op=1->a1.a<w7):
 Adg Acs 86 #[T #[S nm,V C we,A ex,m],V C w7] w λM aR=>M=F (R #[V C 0,V C 0])/\Below w.heap.size w aR:=by
 obtain⟨n,k,rfl,bf,z⟩:=O.open;have aZ:=y.m;have ba:=y.p;have bk:((wz.length:Int)==0)=false:=by grind
 have G:=hid z;have a3:=hid O;have H:=hid y;have a7:=hid am;clear z O y am;go_enter Tryz.func86,Tryz.ntmps86;go_wp2;have d:Hid (Below w.heap.size w (w.alloc (.cells #[S nm,V C we,A ex,W n wz.length k] 59))):=bA;have U:G4 (w.alloc (.cells #[S nm,V C we,A ex,W n wz.length k] 59)) w.heap.size nm we ex (W n wz.length k):=⟨by simp,by simp,by simp,by simp⟩;generalize w.alloc (.cells #[S nm,V C we,A ex,W n wz.length k] 59)=W0 at*;have f:=U.2.2.2;have a4:=hid U;clear U;go_loopw [7] (λe wr=>∃b:Nat,b<=wz.length/\e=V C b/\wr=W0) (λe _=>wz.length-(intOf e).toNat)
 case atStart=>grind
 case round=>
  obtain⟨b,au,rfl,rfl⟩:=hrel;by_cases i:b<wz.length
  ·obtain⟨ag,ax,L,K,I,rfl,j,t,u,_⟩:=G.out _ d.out b i;have g:=a7.out _ (Ac8 i);generalize wz[b].op=op at*;generalize wz[b].a=a at*;cases D:(op==1)
   ·clear g;go_wp2;exact⟨⟨b+1,by omega,rfl,trivial⟩,by simp[intOf];omega⟩
   ·have aY:=g (by simpa using D);clear g;go_wp2;exact⟨⟨b+1,by omega,rfl,trivial⟩,by simp[intOf];omega⟩
  ·skip
   go_wp2;go_loopw [8] (λe wr=>∃b:Nat,b<=wz.length/\e=V C b/\Hid (Below w.heap.size w wr)/\wr.cell? ⟨w.heap.size,3,none⟩=some (W n wz.length k)/\Hid (G4 wr w.heap.size nm we ex (W n wz.length k))) (λe _=>wz.length-(intOf e).toNat)
   case atStart=>grind
   case round=>
    clear f d a4;obtain⟨b,au,rfl,d,f,B⟩:=hrel;by_cases i:b<wz.length
    ·obtain⟨ag,ax,L,K,I,rfl,j,t,u,ak⟩:=G.out _ d.out b i;obtain⟨s,g,av,-,an,-,-,-,bg,aw⟩:=H.out.i b i;rw[g]at j;have a8:=hid aw;have ae:=hid (Om s wz[b].a wz[b].alts _ b wr ak an (by omega));clear ak g an aw;generalize wz[b].a=a at*;generalize wz[b].alts=al at*;rename Q=>W2
     go_wp2_with (first|(go_at_call 114;refine(ae.out).mono ?_;rintro M a0 ⟨⟨bm,rfl,D⟩,h⟩))
     have v:=hid (d.out.trans (h.mono d.out.size));have E:=Aa h f;have a5:=hid (B.out.cJ h);obtain⟨bi,bj,aG,aq⟩:=D.gI;subst aG;have a6:=hid aq;clear aq D ae j t u f d h B;generalize Ds s a al b=sl at*;go_loopw [10] (λe wr=>∃q:Nat,q<=sl.length/\e=V C q/\wr=a0) (λe _=>sl.length-(intOf e).toNat)
     case atStart=>exact⟨0,Ac0 _,rfl,rfl⟩
     case round=>
      obtain⟨q,aU,rfl,rfl⟩:=hrel;by_cases ar:q<sl.length
      ·obtain⟨bl,aE,aX,bh,z⟩:=a6.out q ar;subst aE;obtain⟨aQ,aj,bc,-⟩:=a8.out _ (Ac8 ar);rw[aj]at z;have be:(aQ:Int)<(wz.length:Int):=by omega
       clear aj;go_wp2;exact⟨⟨q+1,by omega,rfl,trivial⟩,by simp[intOf];omega⟩
      ·go_wp2;exact⟨⟨b+1,by omega,rfl,v,E,a5⟩,by simp[intOf];omega⟩
    ·have ac:=hid (VF (nm:=nm) (ex:=ex) (a3.out.cJ d.out) H.out);obtain⟨aM,aN,aO,-⟩:=B.out;rename Q=>W2
     go_wp2_with (first|(go_at_call 115;refine(ac.out).mono ?_;rintro M a0 ⟨⟨a2,Y,rfl,bb,o⟩,h⟩))
     have v:=hid (d.out.trans (h.mono d.out.size));have E:=Aa h f;have ad:=hid o;clear o h d aM aN aO f B ac;go_loopw [12] (λe wr=>∃b:Nat,b<=wz.length/\e=V C b/\Hid (DA wr a2 wm Y)/\Hid (Below w.heap.size w wr)/\wr.cell? ⟨w.heap.size,3,none⟩=some (W n wz.length k)) (λe _=>wz.length-(intOf e).toNat)
     case atStart=>exact⟨0,Ac0 _,rfl,ad,v,E⟩
     case round=>
      clear ad v E;obtain⟨b,au,rfl,o,d,f⟩:=hrel;by_cases i:b<wz.length
      ·obtain⟨ag,ax,L,K,I,rfl,j,t,u,-⟩:=G.out _ d.out b i;obtain⟨s,g,av,ia,-,aH,aI,aL,-,-⟩:=H.out.i b i;have aK:b<Y.length:=by omega
       obtain⟨N,ai,x⟩:=o.out.c b aK;rw[g]at j;generalize Y[b]=r at N x;obtain⟨l,ao⟩:∃l,l=if r then wm.getD b 0 else 0:=⟨_,rfl⟩
       rw[<-ao]at x;have ap:0<=l/\l<=100000:=by omega
       have aJ:r=false\/E8 s wz[b].a l=false:=by
        cases r
        ·simp
        grind
       have af:=hid λw=>K3 s av wz[b].a l L K I w ia ap;have aV:(0:Int)<=(b:Int):=by omega
       have aW:(b:Int)<(wz.length:Int):=by omega
       clear g ia aH aI aL ao ap;generalize wz[b].a=a at*;rename Q=>W3
       have aP:=cell_regrown f;have a9:=cell_regrown j;have aB:=cell_regrown t;have aC:=cell_regrown u;have aD:=cell_regrown x;generalize E8 s a l=wr1 at*;go_wp2;refine wp_region_quiet_below rfl (by kernel_rfl) ?_;repeat (first|go_big_quiet_step (first|(go_at_call 116;exact Calls.regrown_of (af.out _)))|quiet_step (first|(go_at_call 116;exact Calls.regrown_of (af.out _))))
       refine wpQuiet_nil ?_;intro _ hw';obtain⟨⟨ah,ay⟩,hw''⟩:=hw';subst hw'';have p:=below_regrown W3 ah ay;generalize grow (redrawn W3 ah) ay=W4 at*;have aS:=Aa p N;have aT:=Aa p ai;have az:=Aa p f;have aa:=hid (d.out.trans (p.mono d.out.size));have ab:=hid (o.out.cJ p);clear aP a9 aB aC aD N ai x j t u p d f o;rcases aJ with rfl|rfl
       ·go_wp2;exact⟨⟨b+1,by omega,rfl,ab,aa,az⟩,by simp[intOf];omega⟩
       ·cases r;all_goals
         go_wp2;exact⟨⟨b+1,by omega,by go_num,ab,aa,az⟩,by simp[intOf];omega⟩
      ·go_wp2;go_ret2
       exact⟨rfl,d.out⟩
def MD(a:Nat):Int:=if a=7 then 1 else if Fh a 0=2 then 0 else 1
def LY(a:Nat):Int:=if Fh a 0=2 then Fh a 2 else 0
structure Fg (e:Bp) (d:Nat):Prop where
 o:e.op=d
 l:d<21
 n:d≠17->e.alts=[]
 a:e.alts.length<=256
 b:MD d<=e.a/\e.a<=LY d\/LY d<MD d/\(d=0\/d≠0/\e.a=0/\(d=17->0<e.alts.length))
 t:e.alts.Pairwise λa b=>a.tag≠b.tag
 c:∀b∈e.alts,0<=b.tag/\b.tag<=255/\0<=b.to/\b.to<=65535
theorem YA(b:w<21)(d:w≠17)(l:MD w<=we/\we<=LY w\/LY w<MD w/\(w=0\/w≠0/\we=0)):
 Adg Acs 85 #[T #[V C w,V C we,W L 0 v]] n λa e=>a=F (A true)/\Below n.heap.size n e:=by
 have c:Hid (∀n,Adg Acs 88 #[V C w] n λa e=>a=F (R #[V C (MD w),V C (LY w)])/\e=n):=λn=>EQ w b n;have h:decide ((w:Int)<0)=false:=rfl;have i:decide (20<(w:Int))=false:=by grind
 have j:((w:Int) !=17)=true:=by grind
 generalize MD w=lo at*;generalize LY w=hi at*;rcases l with⟨g,o⟩|⟨g,rfl|⟨k,rfl⟩⟩
 ·have p:lo<=hi:=by omega
  clear b d;go_enter Tryz.func85,Tryz.ntmps85;go_wp2_with (first|(go_at_call 88;refine(c.out _).mono ?_;rintro a f ⟨rfl,rfl⟩))
  go_ret;exact⟨rfl,bA⟩
 ·clear b d h i j;go_enter Tryz.func85,Tryz.ntmps85;go_wp2_with (first|(go_at_call 88;refine(c.out _).mono ?_;rintro a f ⟨rfl,rfl⟩))
  go_ret;exact⟨rfl,bA⟩
 ·have q:((w:Int)==0)=false:=by grind
  clear b d k;go_enter Tryz.func85,Tryz.ntmps85;go_wp2_with (first|(go_at_call 88;refine(c.out _).mono ?_;rintro a f ⟨rfl,rfl⟩))
  go_loopw [5] (λm wr=>m=V C 0/\wr=n.alloc (.cells #[V C w,V C 0,W L 0 v] 65)) (λ_ _=>0)
  case atStart=>simp
  case round=>
   obtain⟨rfl,rfl⟩:=hrel;go_wp2;go_ret;exact⟨rfl,bA⟩
theorem YU(o:Du n (W L w8.length w) w8)(ah:0<w8.length)(am:w8.length<=256)(t:w8.Pairwise λI d=>I.tag≠d.tag)(p:∀d∈w8,0<=d.tag/\d.tag<=255/\0<=d.to/\d.to<=65535):
 Adg Acs 85 #[T #[V C 17,V C 0,W L w8.length w]] n λc l=>c=F (A true)/\Below n.heap.size n l:=by
 obtain⟨aa,O,c,-,q⟩:=o.open;obtain⟨rfl,rfl⟩:L=aa/\w=O:=by simpa using c
 have m:=hid q;have G:=hid (Ab4.1 t);have E:=hid p;have D:Hid (∀n,Adg Acs 88 #[V C 17] n λc l=>c=F (R #[V C 1,V C 0])/\l=n):=λn=>EQ 17 (by omega) n;clear q o c t p;go_enter Tryz.func85,Tryz.ntmps85;go_wp2_with (first|(go_at_call 88;refine(D.out _).mono ?_;rintro c au ⟨rfl,rfl⟩))
 go_loopw [5] (λj wr=>∃b:Nat,b<=w8.length/\j=V C b/\wr.cell? ⟨n.heap.size,0,none⟩=some (V C 17)/\wr.cell? ⟨n.heap.size,2,none⟩=some (W L w8.length w)/\Below n.heap.size n wr/\n.heap.size<wr.heap.size) (λj _=>w8.length-(intOf j).toNat)
 case atStart=>exact⟨0,Ac0 _,rfl,by simp,by simp,bA,by simp⟩
 case round=>
  obtain⟨b,al,rfl,x,y,f,i⟩:=hrel;by_cases h:b<w8.length
  ·obtain⟨d,v,rfl,M,N⟩:=m.out _ f b h;obtain⟨ao,ap,aq,ar⟩:=E.out _ (Ac8 h);have H:=hid λa (r:a<b)=>G.out a b (by omega) h r;generalize w8[b].tag=tg at*;generalize w8[b].to=tto at*;have ab:decide (tg<0)=false:=by simp;omega
   have ac:decide (255<tg)=false:=by simp;omega
   have ad:decide (tto<0)=false:=by simp;omega
   have ae:decide (65535<tto)=false:=by simp;omega
   rename Q=>W0
   go_wp2;go_loopw [7] (λk e=>∃a:Nat,a<=b/\k=V C a/\e.cell? ⟨W0.heap.size,0,none⟩=some (V C tg)/\e.cell? ⟨n.heap.size,0,none⟩=some (V C 17)/\e.cell? ⟨n.heap.size,2,none⟩=some (W (some ⟨d,v,none⟩) w8.length w)/\Below n.heap.size n e/\n.heap.size<e.heap.size) (λk _=>b-(intOf k).toNat)
   case atStart=>exact⟨0,Ac0 _,rfl,by simp,by rw[Ag8 _ _ _ i];exact x,by rw[Ag8 _ _ _ i];exact y,f.alloc f.size _,by simp;omega⟩
   case round=>
    obtain⟨a,r,rfl,ag,z,B,g,u⟩:=hrel;clear x y M N ab ac ad ae f i;by_cases U:a<b
    ·obtain⟨K,Y,c,av,af⟩:=m.out _ g a (by omega);obtain⟨rfl,rfl⟩:d=K/\v=Y:=by simpa using c
     have aj:(0:Int)<=(a:Int):=by omega
     have ak:(a:Int)<(w8.length:Int):=by omega
     have s:=H.out a U;clear c af;generalize w8[a].tag=tj at*;have an:(tj==tg)=false:=by simpa using s
     clear s;go_wp2;go_quiet (fail);go_wp2;exact⟨⟨a+1,by omega,rfl,ag,z,B,Aeu g _,u⟩,by simp[intOf];omega⟩
    ·go_wp2;exact⟨⟨b+1,by omega,rfl,z,B,g,u⟩,by simp[intOf];omega⟩
  ·have ai:decide ((0:Int)<w8.length)=true:=by simp;omega
   go_wp2;go_ret;simp_all
theorem Ze{g:Q}(j:Du g m n4.alts)(d:Fg n4 w):
 Adg Acs 85 #[T #[V C w,V C n4.a,m]] g λe k=>e=F (A true)/\Below g.heap.size g k:=by
 obtain⟨q,o,rfl,-,-⟩:=j.open;by_cases e:w=17
 ·subst e;rcases d.b with⟨f,i⟩|⟨-,f|⟨-,f,i⟩⟩
  ·have h:MD 17=1:=rfl;have p:LY 17=0:=rfl;omega
  ·cases f
  ·rw[f];exact YU j (i rfl) d.a d.t d.c
 ·have h:=d.n e;rw[show n4.alts.length=0 by rw[h];rfl];refine YA d.l e ?_;have:=d.b;omega
def HK(b:List ByteArray)(a:Nat):ByteArray:=(⟨#[]⟩::b).getD a ⟨#[]⟩
theorem Ij{f:wd->ByteArray}{a:List wd}(b:w<a.length):f a[w]=HK (a.map f) (w+1):=by simp[HK,b]
structure Gd (b:J8):Prop where
 n:nmB b.name=true
 i:∀x∈b.AA,nmB x.name=true/\0<=x.arity/\x.arity<=20
 il:∀k (h:k<b.AA.length),Yi b.AA[k].name (HK (b.AA.map (·.name)) k)=true
 g:∀x∈b.Aq,nmB x.name=true/\0<=x.arity/\x.arity<=20/\(∀y∈b.AA,y.name≠x.name)/\(∀i∈x.code,∃m,Fg i m)/\(∃d,Sg x.code x.arity d)/\∀i∈x.code,i.op=1->i.a<(b.AA.length:Int)+(b.Aq.length:Int)
 gl:∀k (h:k<b.Aq.length),Yi b.Aq[k].name (HK (b.Aq.map (·.name)) k)=true
theorem Yf(a:Yi s wn=true):(Op.bytesLess s.toList wn.toList||s.toList==wn.toList)=false:=by rw[le_eq,a];rfl
theorem XB(a:s≠wn):(s.toList==wn.toList)=false:=by
 rw[beq_eq_false_iff_ne,Adw,Adw];exact λb=>a (by let ⟨⟨c⟩⟩:=s;simp_all)
theorem N0{b:Q}(a4:GF b m wk)(B:Gd wk):
 Adg Acs 48 #[m] b λl v=>l=F (A true)/\Below b.heap.size b v:=by
 obtain⟨aW,aM,rfl,a7,af,ae⟩:=a4;obtain⟨I,H,rfl,aP,aj⟩:=af.open;obtain⟨ap,aa,rfl,aU,ah⟩:=ae.open;have aq:=hid ah;have Y:=hid aj;have s:=hid B;have i:=hid λb=>(B.n▸G2 wk.name b a7);clear ah aj ae af B;go_enter Tryz.func48,Tryz.ntmps48;go_wp2_with (first|(go_at_call 84;refine(i.out _).mono ?_;rintro l v ⟨rfl,rfl⟩))
 go_loopw [3,4,5] (λh M N wr=>∃a:Nat,a<=wk.AA.length/\h=A true/\M=S (HK (wk.AA.map (·.name)) a)/\N=V C a/\Hid (Below b.heap.size b wr)/\wr.cell? ⟨b.heap.size,1,none⟩=some (W I wk.AA.length H)/\wr.cell? ⟨b.heap.size,2,none⟩=some (W ap wk.Aq.length aa)/\b.heap.size<wr.heap.size) (λ_ _ N _=>wk.AA.length-(intOf N).toNat)
 case atStart=>exact⟨0,Ac0 _,rfl,rfl,rfl,bA,by simp,by simp,by simp⟩
 case round=>
  obtain⟨a,a6,rfl,rfl,rfl,c,k,r,E⟩:=hrel;clear i;by_cases d:a<wk.AA.length
  ·obtain⟨ay,aB,rfl,az,a0,D⟩:=Y.out _ c.out a d;obtain⟨q,a8,a9⟩:=s.out.i _ (Ac8 d);have a5:=Yf (s.out.il a d);have i:=hid λb=>(q▸G2 wk.AA[a].name b D);have w:=hid (congrArg Value.string (Ij (f:=IK.name) d));clear q;generalize wk.AA[a].name=nm at*;generalize wk.AA[a].arity=ar at*;generalize HK (wk.AA.map (·.name)) a=la at*;have u:=c.out.size;go_wp2_with (first|(go_at_call 84;refine(i.out _).mono ?_;rintro l v ⟨rfl,rfl⟩))
   exact⟨⟨a+1,by omega,rfl,w.out,rfl,c.out.alloc u _,Aa bA k,Aa bA r,by simp;omega⟩,by simp[intOf];omega⟩
  ·rename Q=>W1
   go_wp2;go_loopw [3,4,8] (λh M O wr=>∃a:Nat,a<=wk.Aq.length/\h=A true/\M=S (HK (wk.Aq.map (·.name)) a)/\O=V C a/\Hid (Below b.heap.size b wr)/\wr.cell? ⟨b.heap.size,1,none⟩=some (W I wk.AA.length H)/\wr.cell? ⟨b.heap.size,2,none⟩=some (W ap wk.Aq.length aa)/\b.heap.size<wr.heap.size) (λ_ _ O _=>wk.Aq.length-(intOf O).toNat)
   case atStart=>exact⟨0,Ac0 _,rfl,rfl,rfl,c,k,r,E⟩
   case round=>
    clear c k r E;obtain⟨a,a6,rfl,rfl,rfl,c,k,r,E⟩:=hrel;by_cases d:a<wk.Aq.length
    ·obtain⟨ay,aB,x,a1,cc,rfl,az,a0,aK,aL,ad,D⟩:=aq.out _ c.out a d;obtain⟨_,_,ab,aN,ag⟩:=ad.open;obtain⟨rfl,rfl,rfl⟩:x=_/\a1=wk.Aq[a].code.length/\cc=_:=by simpa using ab
     have au:=hid ag;obtain⟨q,a8,a9,am,ai,⟨_,an⟩,-⟩:=s.out.g _ (Ac8 d);have a5:=Yf (s.out.gl a d);have i:=hid λb=>(q▸G2 wk.Aq[a].name b D);have w:=hid (congrArg Value.string (Ij (f:=CH.name) d));have aR:=an.m;have ax:=hid am;have av:=hid ai;clear ag ab ad q am ai an;generalize wk.Aq[a].name=nm at*;generalize wk.Aq[a].arity=ar at*;generalize wk.Aq[a].exp=ex at*;generalize wk.Aq[a].code=code at*;generalize HK (wk.Aq.map (·.name)) a=la at*;have u:=c.out.size;rename Q=>W2
     have U:Hid (∀ao,Below W2.heap.size W2 (W2.alloc ao)):=λao=>bA;have aS:(code.length:Int)<=65535:=by omega
     go_wp2_with (first|(go_at_call 84;refine(i.out _).mono ?_;rintro l v ⟨rfl,rfl⟩))
     go_loopw [3,11] (λh K wr=>∃e:Nat,e<=wk.AA.length/\h=A true/\K=V C e/\Hid (Below W2.heap.size W2 wr)/\wr.cell? ⟨b.heap.size,1,none⟩=some (W I wk.AA.length H)/\wr.cell? ⟨W2.heap.size,0,none⟩=some (S nm)/\wr.cell? ⟨W2.heap.size,3,none⟩=some (W x code.length cc)/\W2.heap.size<wr.heap.size) (λ_ K _=>wk.AA.length-(intOf K).toNat)
     case atStart=>exact⟨0,Ac0 _,rfl,rfl,U.out _,Aa (U.out _) k,by simp,by simp,by simp⟩
     case round=>
      obtain⟨e,aQ,rfl,rfl,t,aC,a3,o,G⟩:=hrel;by_cases al:e<wk.AA.length
      ·obtain⟨aI,aY,rfl,be,bf,-⟩:=Y.out _ (c.out.trans (t.out.mono u)) e al;have aT:=XB (ax.out _ (Ac8 al));generalize wk.AA[e].name=n2 at*;generalize wk.AA[e].arity=a2 at*;go_wp2;go_quiet (fail);go_wp2;exact⟨⟨e+1,by omega,rfl,rfl,Aeu t.out _,aC,a3,o,G⟩,by simp[intOf];omega⟩
      ·rename Q=>W4
       go_wp2;go_loopw [3,12] (λh L wr=>∃j:Nat,j<=code.length/\h=A true/\L=V C j/\Hid (Below W2.heap.size W2 wr)/\wr.cell? ⟨W2.heap.size,3,none⟩=some (W x code.length cc)/\W2.heap.size<wr.heap.size) (λ_ L _=>code.length-(intOf L).toNat)
       case atStart=>exact⟨0,Ac0 _,rfl,rfl,t,o,G⟩
       case round=>
        clear o;obtain⟨j,aO,rfl,rfl,p,o,aV⟩:=hrel;clear t G;by_cases ak:j<code.length
        ·obtain⟨aJ,aZ,aH,aG,aE,rfl,aD,bb,bc,ac⟩:=au.out _ p.out j ak;obtain⟨aX,y⟩:=av.out _ (Ac8 ak);have aw:=hid (Ze ac y);rw[y.o]at aD;clear ac y;rename Q=>W5
         go_wp2_with (first|(go_at_call 85;refine(aw.out).mono ?_;rintro l ba ⟨rfl,z⟩))
         exact⟨⟨j+1,by omega,rfl,rfl,p.out.trans (z.mono (by omega)),Aa z o,by have:=z.size;omega⟩,by simp[intOf];omega⟩
        ·go_wp2;exact⟨⟨a+1,by omega,rfl,w.out,rfl,c.out.trans (p.out.mono u),Aa p.out k,Aa p.out r,by omega⟩,by simp[intOf];omega⟩
    ·go_wp2;go_ret;exact⟨rfl,c.out⟩
def Q2(b:Q)(a:Nat):Prop:=b.cell? ⟨a,0,none⟩=some (V C 0)/\b.cell? ⟨a,1,none⟩=some (V C 0)/\b.frozen? ⟨a,0,none⟩=false/\b.frozen? ⟨a,1,none⟩=false
theorem Q2.cJ{w:Q}{c:Nat}(a:Q2 w c)(b:Below w.heap.size w n):Q2 n c:=by
 have d:=Adt a.1;exact⟨Aa b a.1,Aa b a.2.1,by rw[(FA b).2 _ _ d];exact a.2.2.1,by rw[(FA b).2 _ _ d];exact a.2.2.2⟩
theorem Q2.put(b:Q2 n w)(a c:X):(n.setCell ⟨w,0,none⟩ a).cell? ⟨w,0,none⟩=some a/\((n.setCell ⟨w,0,none⟩ a).setCell ⟨w,1,none⟩ c).cell? ⟨w,1,none⟩=some c:=by
 refine⟨Ac6 _ _ _ b.1,Ac6 _ _ _ (u:=V C 0) ?_⟩;rw[Acy _ _ _ _ (by intro d;have:=congrArg Addr.off d;simp at this)];exact b.2.1
theorem Xy{v:X}{w:Q}(O:GF w v wk)(t:Gd wk):
 Adg Acs 49 #[v] w λN j=>N=F (R #[V C 0,T #[V C 0,V C 0]])/\Below w.heap.size w j:=by
 obtain⟨av,ao,rfl,Y,r,q⟩:=O;obtain⟨ac,ab,rfl,ap,-⟩:=r.open;obtain⟨ad,M,rfl,ar,s⟩:=q.open;have D:=hid s;have E:=hid t;clear s q t r;go_enter Tryz.func49,Tryz.ntmps49;go_wp2;go_loopw [4] (λf wr=>∃a:Nat,a<=wk.Aq.length/\f=V C a/\Hid (Below w.heap.size w wr)/\wr.cell? ⟨w.heap.size,1,none⟩=some (W ac wk.AA.length ab)/\wr.cell? ⟨w.heap.size,2,none⟩=some (W ad wk.Aq.length M)/\w.heap.size+1<wr.heap.size/\Hid (Q2 wr (w.heap.size+1))) (λf _=>wk.Aq.length-(intOf f).toNat)
 case atStart=>exact⟨0,Ac0 _,rfl,bA.alloc (by simp) _,by simp,by simp,by simp,⟨by simp,by simp,by simp,by simp⟩⟩
 case round=>
  obtain⟨a,aq,rfl,c,h,i,au,d⟩:=hrel;by_cases u:a<wk.Aq.length
  ·obtain⟨ak,aw,am,al,cc,rfl,k,l,m,n,p,Y⟩:=D.out _ c.out a u;obtain⟨-,-,-,-,-,⟨an,y⟩,x⟩:=E.out.g _ (Ac8 u);have e:=hid λj U=>TN (nm:=wk.Aq[a].name) (ex:=wk.Aq[a].exp) (w:=j) (p.cJ U) y x;clear p y x;generalize wk.Aq[a].name=gn at*;generalize wk.Aq[a].arity=gar at*;generalize wk.Aq[a].exp=gex at*;rename Q=>W2
   have af:=cell_regrown h;have ah:=cell_regrown i;have H:=cell_regrown k;have I:=cell_regrown l;have K:=cell_regrown m;have L:=cell_regrown n;go_wp2;refine wp_region_quiet_below rfl (by kernel_rfl) ?_;repeat (first|go_big_quiet_step (first|(go_at_call 86;exact Calls.regrown_of (e.out _ (below_regrown _ _ _))))|quiet_step (first|(go_at_call 86;exact Calls.regrown_of (e.out _ (below_regrown _ _ _)))))
   refine wpQuiet_nil ?_;intro _ hw';obtain⟨⟨o,z⟩,hw''⟩:=hw';subst hw'';have b:=below_regrown W2 o z;generalize grow (redrawn W2 o) z=W4 at*;have B:=hid (c.out.trans (b.mono c.out.size));have ae:=Aa b h;have ag:=Aa b i;have aa:w.heap.size+1<W4.heap.size:=by have:=b.size;omega
   have G:=hid (d.out.cJ b);clear af ah H I K L h i k l m n b c e d;go_wp2;exact⟨⟨a+1,by omega,rfl,B,ae,ag,aa,G⟩,by simp[intOf];omega⟩
  ·obtain⟨ax,ay,az,a0⟩:=d.out;go_wp2;obtain⟨ai,aj⟩:=d.out.put (V C 0) (V C 0);refine Adc (v:=R #[V C 0,T #[V C 0,V C 0]]) (by simp[results,Tryz.results49,go_sem,ai,aj]) rfl ?_;exact⟨rfl,(c.out.setCell (by simp) _).setCell (by simp) _⟩
theorem TU{v:X}(d:GF n v wk)(h:Gd wk):
 Adg Acs 22 #[v] n λf c=>f=F (R #[V C 0,T #[V C 0,V C 0]])/\Below n.heap.size n c:=by
 have s:=hid λc (g:Below n.heap.size n c)=>N0 (d.cJ g) h;have t:=hid λc (g:Below n.heap.size n c)=>Xy (d.cJ g) h;obtain⟨H,y,rfl,D,l,k⟩:=id d;obtain⟨G,E,rfl,z,-⟩:=l.open;obtain⟨I,x,rfl,B,-⟩:=k.open;have j:Hid (∀b o,Below n.heap.size n ((n.alloc b).alloc o)):=λb o=>bA.alloc (by simp) _;have p:Hid (∀b,Q2 ((n.alloc b).alloc (.cells #[V C 0,V C 0] 79)) (n.heap.size+1)):=λb=>⟨by simp,by simp,by simp,by simp⟩;clear d l k h;go_enter Tryz.func22,Tryz.ntmps22;go_wp2_with (first|(go_at_call 48;refine(s.out _ (j.out _ _)).mono ?_;rintro f O ⟨rfl,a⟩;have q:=hid ((p.out _).cJ a);have e:=hid ((j.out _ _).trans (a.mono (by simp;omega)));have Y:=Aa a (alloc_old _ _ _ _ _ (Ak n _ _ 0 _ rfl));have aa:=Aa a (alloc_old _ _ _ _ _ (Ak n _ _ 1 _ rfl));have ab:=Aa a (alloc_old _ _ _ _ _ (Ak n _ _ 2 _ rfl)))|(go_at_call 49;refine(t.out _ e.out).mono ?_;rintro f U ⟨rfl,m⟩;have i:=q.out.cJ m;let ⟨K,L,M,N⟩:=id i;have r:=hid i;clear i))
 let ⟨u,w⟩:=r.out.put (V C 0) (V C 0)
 refine Adc (v:=R #[V C 0,T #[V C 0,V C 0]]) (by simp[results,Tryz.results22,go_sem,u,w]) rfl ?_;exact⟨rfl,((hid (e.out.trans (m.mono e.out.size))).out.setCell (by simp) _).setCell (by simp) _⟩
theorem Tryz.gP:(Acs.info? 68).map (λa=>(a.zero,a.size,a.bytes))=some (some (T #[V C 0,V C 0]),2,16):=by kernel_rfl
theorem Tryz.gZ:(Acs.info? 55).map (λa=>(a.zero,a.size,a.bytes))=some (some (T #[S ⟨#[]⟩,V C 0]),2,24):=by kernel_rfl
theorem Tryz.gW:(Acs.info? 65).map (λa=>(a.zero,a.size,a.bytes))=some (some (T #[V C 0,V C 0,W none 0 0]),3,40):=by kernel_rfl
theorem Tryz.fS:(Acs.info? 59).map (λa=>(a.zero,a.size,a.bytes))=some (some (T #[S ⟨#[]⟩,V C 0,A false,W none 0 0]),4,56):=by kernel_rfl
structure OU (b:Q) (a:Nat) (c d:X):Prop where
 c0:b.cell? ⟨a,0,none⟩=some c
 c1:b.cell? ⟨a,1,none⟩=some d
 f0:b.frozen? ⟨a,0,none⟩=false
 f1:b.frozen? ⟨a,1,none⟩=false
theorem OU.new(w:Q)(a b:X)(c:Ad5):OU (w.alloc (.cells #[a,b] c)) w.heap.size a b:=⟨by simp,by simp,by simp,by simp⟩
theorem OU.lt(a:OU n w m q):w<n.heap.size:=Adt a.c0
theorem OU.cK(b:OU n w m q)(a:p.heap[w]?=n.heap[w]?):OU p w m q:=by
 refine⟨?_,?_,?_,?_⟩
 ·rw[Ac1 a];exact b.c0
 ·rw[Ac1 a];exact b.c1
 ·rw[Adm a];exact b.f0
 ·rw[Adm a];exact b.f1
theorem OU.off(a:OU n w m q)(c:Cf t n p)(b:w∉t):OU p w m q:=a.cK (c.block w a.lt b)
theorem OU.db(a:OU n w m q)(b:X):OU (n.setCell ⟨w,1,none⟩ b) w m b:=
 ⟨by rw[Acy _ _ _ _ (Au (by omega))];exact a.c0,Ac6 _ _ _ a.c1,by rw[Ac3];exact a.f0,by rw[Ac3];exact a.f1⟩
theorem Cf.dM(b:n.grownBy p m.ownBlock):Cf (vB m) n p:=(Cf.refl _ _).grown b λ_ a=>Ads (Ah.2 a)
end Go.Proofs.YtnghccjoicmabaaGreatDoor
