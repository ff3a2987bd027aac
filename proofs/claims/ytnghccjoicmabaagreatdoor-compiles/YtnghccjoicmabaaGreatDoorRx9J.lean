import Derived.Test.YtnghccjoicmabaaGreatDoorRx1J
set_option maxRecDepth 100000
set_option maxHeartbeats 8000000
open Except renaming error->P
open Go renaming Calls->Adg,TypeId->Ad5,Value->X,World->Q,maxLen->Aed,wpList_append_lies->Adl
open Go.Act renaming eval->Aef
open Go.ByteArray renaming toList_eq->Adw
open Go.Ending renaming returned->F
open Go.IntKind renaming i64->C
open Go.Obj renaming cells->Adi
open Go.Proofs.Tryz renaming prog->Acs,underlying34->Ae0
open Go.Value renaming agg->T,bool->A,int->V,ownBlock->Ad6,pointer->J,slice->W,string->S,tuple->R
open Go.World renaming news_of_block->Adu
open Or renaming inl->Ads,inr->Ad7
namespace Go.Proofs.YtnghccjoicmabaaGreatDoor
open Go.RowKit Go.Sort
variable{w v b d x K wi w5:Nat}{s wn:ByteArray}{m q j f wv:Value}{n p h:World}{wd ve:Type}{wh:List Ex}{na:List (Value×Nat×Nat)}{nv:Obj}{n9:Option Nat}{N:Ex}{sa:Pr Ex}{vt:Pr (List Ex)}{wb vq:List Value}{l:Av}{nh:ByteArray×Nat}{we w7 nk:Int}{sr:Pr Unit}{w2:Bool}{wq:List (Nat×Av×Ex)}{wl:List ((Value×Value×Value)×Nat×Nat)}{ss:Nat×Av×Ex}{x5:Pr (Nat×Nat)}
theorem Tc(a:ByteArray):(!(a.toList==[41]))=!decide (a=Ae):=by
 have e:Ae.toList=[41]:=by rw[Adw];rfl
 by_cases b:a=Ae
 ·grind
 ·have c:(a.toList==[41])=false:=by
   rw[beq_eq_false_iff_ne,<-e];exact λd=>b (Bl d)
  rw[c];simp[b]
def B9(b:ByteArray)(a:Nat):Bool:=!decide (Ag b a=Ae)
theorem R9(p:TX n w s v b 0 d m q j)(t:s.size<=2000)(r:v<=s.size):
 Adg Acs 164 #[J (some ⟨w,0,none⟩)] n λe i=>e=F (A (B9 s v))/\TX i w s (Bi s v) b 0 d m q j/\EF w n i:=by
 have a:=hid (CQ p t r);obtain⟨c,h⟩:∃c,Ag s v=c:=⟨_,rfl⟩;have o:Hid (B9 s v=!decide (c=Ae)):=by show _=_;unfold B9;rw[h]
 unfold BO at a;rw[h]at a;go_enter Tryz.func164,Tryz.ntmps164;go_wp2_with (first
  |(refine a.out.mono ?_;rintro e D ⟨rfl,g,f⟩;have l:=hid g;have k:=hid f;obtain⟨u,x,y,z,B,-,-,-,-⟩:=g;clear f a))
 go_ret;refine⟨?_,l.out,k.out⟩;rw[o.out];exact Dl (Tc c)
theorem PC(i:TX n w s v b d x m q j)(z:d≠0)(o:s.size<=2000)(l:v<=s.size):
 Adg Acs 164 #[J (some ⟨w,0,none⟩)] n λa e=>a=F (A false)/\TX e w s (Bi s v) b d x m q j/\EF w n e:=by
 have g:=hid (CQ i o l);have B:(d==0)=false:=by grind
 go_enter Tryz.func164,Tryz.ntmps164;go_wp2_with (first
  |(refine g.out.mono ?_;rintro a D ⟨rfl,c,k⟩;have h:=hid c;have f:=hid k;obtain⟨p,r,t,u,y,-,-,-,-⟩:=c))
 all_goals first
  |(exfalso;omega)
  |(go_ret
    exact⟨rfl,h.out,f.out⟩)
def fg{b:Type}(a:Pr b):Pr Unit:=match a with|.ok (_,q)=>.ok ((),q)|P e=>P e
theorem EK{d:Pr wd}{e:Pr ve}{f:X}(c:Im w s d v b m f j n)(a:fg e=fg d):Im w s e v b m f j n:=by
 match d,e,c,a with
 |.ok (_,q),.ok (_,q'),c,a=>cases a;exact c
 |.ok (_,q),P _,c,a=>cases a
 |P _,.ok (_,q'),c,a=>cases a
 |P _,P _,c,a=>cases a;exact c
theorem YL{e:Pr wd}(d:Im w s e v b m q j n)(g:∀k,n.heap.size<=k\/p.heap[w]?=n.heap[w]?):Im w s e v b m q j p:=by
 match e,d with
 |.ok (_,h),d=>exact⟨d.1.cK ((g w).resolve_left (by have:=d.1.lt;omega)),d.2⟩
 |P (c,a),d=>
  let ⟨h,f,i⟩:=d
  exact⟨h,f.cK ((g w).resolve_left (by have:=f.lt;omega)),i⟩
def mr{c:Type}(b:ByteArray)(a:Pr c):Bool:=match a with|.ok (_,q)=>B9 b q|P _=>false
def ZE{b:Type}(d:ByteArray)(c:Pr b):Pr b:=match c with|.ok (a,q)=>.ok (a,Bi d q)|P e=>P e
def Mw{d:Type}(c:Pr d):Prop:=∀a b,c=P (a,b)->a≠0
theorem Vw{d:Pr wd}(c:mr s d=true):∃b a,d=.ok (b,a)/\Ag s a≠Ae:=by
 match d,c with
 |.ok (b,a),c=>exact⟨b,a,rfl,by simpa[mr,B9]using c⟩
theorem Yl{a:wd}(b:mr s (.ok (a,w):Pr wd)=false):Ag s w=Ae:=by
 simpa[mr,B9]using b
theorem Bs{r:Pr wd}{pl:Nat}(b:Im w s r v pl m q j n)(h:Mw r)(i:s.size<=2000):
 Adg Acs 164 #[J (some ⟨w,0,none⟩)] n λf e=>f=F (A (mr s r))/\Im w s (ZE s r) v pl m q j e/\EF w n e:=by
 match r,b,h with
 |.ok (a,t),b,_=>
  refine(R9 b.1 i b.2).mono ?_;rintro f e ⟨g,d,k⟩;exact⟨g,⟨d,A8 b.2⟩,k⟩
 |P (c,a),b,h=>
  let ⟨t,g,d⟩:=b
  refine(PC g (h c a rfl) i d).mono ?_;rintro f e ⟨l,o,p⟩;exact⟨l,⟨_,o,A8 d⟩,p⟩
theorem Tryz.gN:(Acs.info? 86).map (λa=>(a.zero,a.size,a.bytes))=some (some (J none),1,8):=by kernel_rfl
structure PF (d c:Nat) (e:Option Nat) (a b:Q):Prop where
 os:b.os=a.os
 tape:b.tape=a.tape
 output:b.output=a.output
 size:a.heap.size<=b.heap.size
 block:∀k,k<a.heap.size->k≠d->k≠c->some k≠e->b.heap[k]?=a.heap[k]?
theorem Kids.mem{j k:Type}{l:Nat->Nat->j->k->Prop}:∀{i g:Nat} {c:List (j×Nat×Nat)} {d:List k},Kids l i g c d->∀a∈c,i<=a.2.1/\a.2.1<=a.2.2/\a.2.2<=g
 |_,_,[],[],_,_,b=>by cases b
 |_,_,(v,x,y)::c,e::d,h,a,b=>by
  let ⟨m,n,o,f⟩:=h
  have p:=Kids.le f;rcases Ady.1 b with rfl|b
  ·grind
  ·have:=Kids.mem f a b;omega
 |_,_,[],_::_,h,_,_=>h.elim
 |_,_,_::_,[],h,_,_=>h.elim
structure AO (f:Nat) (b:Q) (c:Nat) (e:X) (d:List Ex) (a:List (X×Nat×Nat)):Prop where
 row:b.ownsRow (c+1) 86 1 e d.length (a.map (·.1))
 kids:Kids (RX f b) (c+1) b.heap.size a d
 av:∀t∈a,∀g,e.ownBlock=some g->g<t.2.1\/t.2.2<=g
theorem AO.nil(c:Nat)(b:Q)(a:Nat)(d:a<b.heap.size):AO c b a (W none 0 0) [] []:=⟨Ad1 _ _ _ _,d,λf e=>by cases e⟩
theorem AO.dc(b:AO w n v m wh na)(k:n.heap.size<=p.heap.size)(e:∀a,v+1<=a->a<n.heap.size->(m.ownBlock=some a\/∃g∈na,g.2.1<=a/\a<g.2.2)->p.heap[a]?=n.heap[a]?):AO w p v m wh na:=by
 refine⟨Az b.row λf d=>?_,(Kids.mono b.kids λs t r l j o q i=>?_).up k,b.av⟩
 ·have c:=b.row.lt f (Ah.1 d);exact e f c.1 c.2 (Ads (Ah.1 d))
 ·exact i.same (λa c h=>e a (by omega) (by omega) (Ad7 ⟨_,j,c,h⟩)) (by omega)
theorem AO.ef{a:Nat}{w:Q}(d:AO v w b m wh na)(c:EF a w n)(h:a<=b):AO v n b m wh na:=
 d.dc c.size λf g e _=>c.block f e (by omega)
theorem AO.set{j:Nat}{u:X}(a:AO w n v m wh na):AO w (n.setCell ⟨v,j,none⟩ u) v m wh na:=
 a.dc (by simp) λc b _ _=>Ac4 _ _ _ _ (by grind)
theorem AO.push{w1:Q}{x:Ex}{g:Nat}(e:AO v n b m wh na)(N:w<=b)(M:b<n.heap.size)(j:EF w n w1)(s:RX v w1 n.heap.size w1.heap.size q x)(k:(w1.alloc nv).grownBy p m.ownBlock)(H:m.ownBlock=some d\/d=w1.heap.size+1)(l:p.ownsRow (b+1) 86 1 (W (some ⟨d,0,none⟩) (wh.length+1) g) (wh.length+1) (na.map (·.1)++[q])):
 AO v (p.setCell ⟨b,6,none⟩ (W (some ⟨d,0,none⟩) (wh.length+1) g)) b (W (some ⟨d,0,none⟩) (wh.length+1) g) (wh++[x]) (na++[(q,n.heap.size,w1.heap.size)]):=by
 have aa:=k.size;have U:(w1.alloc nv).heap.size=w1.heap.size+1:=by simp
 have L:=j.size;have r:∀a,a<w1.heap.size->a≠b->some a≠m.ownBlock->(p.setCell ⟨b,6,none⟩ (W (some ⟨d,0,none⟩) (wh.length+1) g)).heap[a]?=w1.heap[a]?:=λa c h E=>by
  rw[Ac4 _ _ _ _ (show a≠b from h),k.block a (by omega) E,Ad3 w1 nv c]
 have O:=λB D=>(e.row.lt B D).2;refine⟨?_,?_,?_⟩
 ·rw[Adk,Adq];refine Az l λt o=>?_;rw[An,Ac9]at o;subst o;exact Ac4 _ _ _ _ (show t≠b by have:=(l.lt t rfl).1;omega)
 ·refine Kids.snoc (Kids.mono e.kids λx y q i K s Y G=>?_) .refl L (by simp;omega) ?_
  ·refine G.same (λa c h=>?_) (by simp;omega);rw[r a (by omega) (by omega) (λi=>by have:=e.av _ K a i.symm;grind),j.block a (by omega) (by omega)]
  ·exact s.same (λa c h=>r a h (by omega) (λi=>by grind)) (by simp;omega)
 ·intro u f z I;obtain rfl:d=z:=by simpa[Ad6]using I
  rcases Acz.1 f with f|f
  ·rcases H with c|c
   ·exact e.av u f d c
   ·have:=e.kids.mem u f;omega
  grind
def K2(g b:Nat)(o:ByteArray)(d:Pr Ex)(k m:Nat)(l j h:X)(e:Q)(i:Ending)(a:Q):Prop:=
 EF b e a/\Im b o d k m l j h a/\∃c,i=F (J c)/\∀f n,d=.ok (f,n)->RX (g+1) a e.heap.size a.heap.size (J c) f
def Iu(e b:Nat)(a:ByteArray)(h:Nat):Prop:=∀d c j i g f,TX d b a c h 0 j i g f->c<=a.size->
 Adg Acs 83 #[J (some ⟨b,0,none⟩)] d λk l=>K2 e b a (pE a e c) h j i g f d k l
def V0(o f b:Nat)(D:ByteArray)(i:Pr Ex)(w y:Nat)(x s p:X)(t v:Int)(nmB:ByteArray)(z:Int)(n m h l:X)(r:List Ex)(u:List (X×Nat×Nat))(e:Q)(q:Ending)(a:Q):Prop:=
 q=F (R #[])/\PF f b h.ownBlock e a/\Im f D i w y x s p a/\∀k B,i=.ok (k,B)->∃d g,XN a b t v nmB z n m d l/\AO (o+1) a b d (r++[k]) g/\(∀c,d.ownBlock=some c->h.ownBlock=some c\/e.heap.size<=c)/\∀j∈g,j∈u\/e.heap.size<=j.2.1
theorem DB{u:X}(c:TX n w s v b d x m q j)(l:d≠0):
 Adg Acs 160 #[J (some ⟨w,0,none⟩),u] n λa e=>a=F (R #[])/\e=n:=by
 have o:(d==0)=false:=by grind
 obtain⟨f,g,h,i,k,-,-,-,-⟩:=c;go_wp2;all_goals first
  |(omega)
  |(done)
  |(refine bE ?_
    simp)
theorem Ed{o B:Nat}{kd n:Int}{nmB:ByteArray}{plB:Int}{bv bav pv av:X}{es:List Ex}{kp:List (X×Nat×Nat)}{w:Q}(Y:Iu o v s d)(p:TX w v s b d 0 x m q j)(aq:b<=s.size)(aO:v<B)(z:XN w B kd n nmB plB bv bav pv av)(aa:AO (o+1) w B pv es kp)(aP:es.length<=2000):
 Adg Acs 160 #[J (some ⟨v,0,none⟩),J (some ⟨B,0,none⟩)] w λg a4=>V0 o v B s (pE s o b) d x m q j kd n nmB plB bv bav pv av es kp w g a4:=by
 have K:=hid (Y w b x m q j p aq);have L:=hid z;have N:=hid aa;have ao:=z.lt;obtain⟨a6,a7,a8,a9,aB,-,-,-,-⟩:=p;obtain⟨a3,az,af⟩:=Adb.1 Tryz.gN;simp only[Aeb]at af;obtain⟨aw,ax,ay⟩:=af;clear Y z aa;go_enter Tryz.func160,Tryz.ntmps160;go_wp2_with (first
  |(go_at_call 83;refine K.out.mono ?_;rintro g f ⟨i,a,a2,rfl,ac⟩;have l:=hid i;have ai:=hid a;have al:=hid ac;have M:=hid (L.out.ef i (by omega));have r:=hid (N.out.ef i (by omega));obtain⟨aC,aD,aE,aG,aH,aI,aJ,aK,O⟩:=L.out.ef i (by omega);have aL:=O 6 (by omega);have aS:=i.size;clear i a ac K O)
  |(at_builtin;refine Adl _ rfl _ _ _ rfl (B+1) 86 a3 _ 1 8 Tryz.underlying133 az aw ax ay rfl (by omega) pv es.length (kp.map (·.1)) rfl (Adr r.out.row _) ⟨f.heap.size,0,none⟩ 1 1 [J a2] rfl rfl (AL _ _ _ _ rfl) (by intro aU ag;simp at ag;subst ag;rfl) (by omega) (by unfold Aed;omega) (by omega) (by simp;omega) (f.heap.size+1) (by simp) ?_;intro u ah k ae E ad aQ;have ak:=hid ae;have c:=hid E;have I:=hid ad;have D:k.heap[B]?=f.heap[B]?:=(by rw[E.block B (by simp;omega) (λg=>by have:=(r.out.row.lt B g.symm).1;omega),Ad3 f _ (by omega)]);have aj:=hid (M.out.cK D);obtain⟨-,-,-,-,-,-,aM,-,U⟩:=M.out.cK D;have aN:=U 6 (by omega);clear ae E ad D U))
 refine bE ?_;have a1:=c.out.size;simp at a1;have ar:PF v B pv.ownBlock w (k.setCell ⟨B,6,none⟩ (W (some ⟨u,0,none⟩) (es.length+1) ah)):=by
  refine⟨?_,?_,?_,by simp;omega,λe au h y an=>?_⟩
  ·show k.os=_;rw[c.out.os];exact l.out.os
  ·show k.tape=_;rw[c.out.tape];exact l.out.tape
  ·show k.output=_;rw[c.out.output];exact l.out.output
  ·rw[Ac4 _ _ _ _ (show e≠B from y),c.out.block e (by simp;omega) an,Ad3 f _ (by omega),l.out.block e au h]
 have ab:∀H t G,TX f v s H d t G m q j->TX (k.setCell ⟨B,6,none⟩ (W (some ⟨u,0,none⟩) (es.length+1) ah)) v s H d t G m q j:=λH t G p=>by
  refine p.cK ?_;rw[Ac4 _ _ _ _ (show v≠B by omega),c.out.block v (by simp;omega) (λg=>by have:=(r.out.row.lt v g.symm).1;omega),Ad3 f _ (by omega)]
 refine⟨rfl,ar,?_,λa5 e a0=>⟨_,_,aj.out.fM _,N.out.push (by omega) ao l.out (al.out a5 e a0) c.out I.out ak.out,λam ap=>?_,λaT aR=>?_⟩⟩
 ·have a:=ai.out;unfold Im at a ⊢;split at a
  ·exact⟨ab _ _ _ a.1,a.2⟩
  ·obtain⟨e,h,y⟩:=a;exact⟨e,ab _ _ _ h,y⟩
 ·obtain rfl:u=am:=by simpa[Ad6]using ap
  rcases I.out with h|h
  ·exact Ads h
  ·right;omega
 grind
structure NF (d c:Nat) (a b:Q):Prop where
 os:b.os=a.os
 tape:b.tape=a.tape
 output:b.output=a.output
 size:a.heap.size<=b.heap.size
 block:∀k,k<a.heap.size->k<c->k≠d->b.heap[k]?=a.heap[k]?
theorem NF.refl(c b:Nat)(a:Q):NF c b a a:=⟨rfl,rfl,rfl,Acu _,λ_ _ _ _=>rfl⟩
theorem NF.trans{e d:Nat}{i j k:Q}(a:NF e d i j)(c:NF e d j k):NF e d i k:=
 ⟨c.os.trans a.os,c.tape.trans a.tape,c.output.trans a.output,Ac5 a.size c.size,λb h f g=>(c.block b (Ac2 h a.size) f g).trans (a.block b h f g)⟩
theorem NF.cM(a:EF w n p):NF w v n p:=⟨a.os,a.tape,a.output,a.size,λd c _ b=>a.block d c b⟩
theorem NF.d6(a:PF w v n9 n p)(h:∀b,n9=some b->v<=b):NF w v n p:=
 ⟨a.os,a.tape,a.output,a.size,λe d g c=>a.block e d c (by omega) (λf=>by grind)⟩
theorem NF.set{o:Nat}(a:NF w v n p)(u:X):NF w v n (p.setCell ⟨v,o,none⟩ u):=
 a.trans ⟨rfl,rfl,rfl,by simp,λb _ c _=>Ac4 _ _ _ _ (show b≠v by omega)⟩
theorem NF.ef{b:Nat}{w:Q}(a:NF b v w n)(f:w.heap.size<=v):EF b w n:=⟨a.os,a.tape,a.output,a.size,λe d c=>a.block e d (by omega) c⟩
def I5(f c b:Nat)(n:ByteArray)(d:Pr Ex)(j l:Nat)(k i g:X)(o:Q)(h:Ending)(a:Q):Prop:=
 h=F (R #[])/\NF c b o a/\Im c n d j l k i g a/\∀e m,d=.ok (e,m)->RX (f+2) a b a.heap.size (J (some ⟨b,0,none⟩)) e
theorem Oe(h:XN n v (xK N) (xN N) ⟨#[]⟩ 0 (W none 0 0) (W none 0 0) m (W none 0 0))(e:xNm N=⟨#[]⟩)(f:xPl N=0)(g:GM N=[])(c:DJ N=[])(a:AO (w+1) n v m (Bd N) na):
 RX (w+2) n v n.heap.size (J (some ⟨v,0,none⟩)) N:=by
 refine⟨v,_,_,m,_,na,[],n.heap.size,rfl,Acu _,Acu _,by rw[e,f];exact h,?_,?_⟩
 ·intro j i d b;rcases(by simpa using i) with rfl|rfl|rfl
  ·cases b
  ·exact(a.row.lt d b).2
  ·cases b
 ·refine⟨by rw[g];exact⟨Ad1 _ _ _ _,Ad1 _ _ _ _,Ads rfl⟩,a.row,a.kids,by rw[c];exact Ad1 _ _ _ _,by rw[c];exact Acu _⟩
structure Rr (e d c:Nat) (a:ByteArray) (l n:Nat) (m j i:X) (p:Q) (o:Pr Ex) (wr:Q) (mv:X) (b:Pr (List Ex)) (f h:Nat) (g:X) (k:List (X×Nat×Nat)):Prop where
 nf:NF d c p wr
 mv:mv=A (mr a b)
 Lw:Im d a (ZE a b) l n m j i wr
 nz:Mw b
 ok:∀got q,b=.ok (got,q)->a.size+1<=f+q/\q<=a.size/\got.length<=20/\XN wr c 6 (h:Int) ⟨#[]⟩ 0 (W none 0 0) (W none 0 0) g (W none 0 0)/\AO (e+1) wr c g got k
 eq:o=pb b λgot q=>pb (A2 a (pE a e) f got q) λfs q2=>.ok (.Fs h fs,q2)
theorem Iw(a:Pr wd)(d:wd->Nat->ve):fg (pb a λc b=>.ok (d c b,b))=fg a:=by
 match a with
 |.ok (_,_)=>rfl
 |P _=>rfl
theorem F7{c:Pr wd}(a:Mw c)(f:wd->Nat->ve):Mw (pb c λb e=>(.ok (f b e,e):Pr ve)):=by
 match c,a with
 |.ok (_,_),_=>intro d b a;cases a
 |P _,a=>intro d b g;exact a d b (by cases g;rfl)
def left(c:ByteArray)(a:Nat)(b:Q):Nat:=match b.cell? ⟨a,3,none⟩,b.cell? ⟨a,1,none⟩ with|some (V _ e),some (V _ q)=>if e=0 then c.size+1-q.toNat else 0|_,_=>0
theorem Fc(a:TX n w s v b 0 d m q j):left s w n=s.size+1-v:=by
 unfold left;rw[a.c3,a.c1];simp
theorem M3(a:TX n w s v b d x m q j)(c:d≠0):left s w n=0:=by
 unfold left;rw[a.c3,a.c1];simp[c]
theorem Cw{r:Pr wd}(i:TX n w s v b 0 d m q j)(o:v<=s.size)(f:Im w s (ZE s r) b d m q j p)(h:Mw r)(g:∀e a,r=.ok (e,a)->v<a/\a<=s.size):left s w p<left s w n:=by
 rw[Fc i];match r,f,h,g with
 |.ok (e,a),f,_,g=>
  rw[Fc f.1];have:=g e a rfl;have:=AX s a;omega
 |P (c,e),f,h,_=>
  let ⟨a,k,l⟩:=f
  rw[M3 k (h c e rfl)];omega
theorem Rr.done{p:X}{wr:Q}(t:Rr w v b s d x m p j n sa wr f vt K wi wv na)(k:mr s vt=false):
 I5 w v b s sa d x m p j n (F (R #[])) wr:=by
 obtain⟨o,-,e,u,i,g⟩:=t;match vt,k,e,u,i,g with
 |.ok (got,q),k,e,_,i,g=>
  obtain⟨r,E,G,y,z⟩:=i got q rfl;have h:sa=.ok (.Fs wi got,Bi s q):=by
   rw[g,Ai];match K,r with
   |K+1,_=>rw[A2,if_pos (Yl k)];rfl
   |0,r=>omega
  refine⟨rfl,o,by rw[h];exact e,λD B l=>?_⟩;rw[h]at l;cases l;exact Oe y rfl rfl rfl rfl z
 |P (c,a),_,e,_,_,g=>
  have h:sa=P (c,a):=g;exact⟨rfl,o,by rw[h];exact e,λD B l=>by grind⟩
theorem St{b B:Nat}{t:X}{w:Q}(a9:Iu b v s x)(g:TX w v s d x 0 K m t j)(ae:s.size<=2000)(bh:d<=s.size)(be:v<B)(an:XN w B 3 0 ⟨#[]⟩ 0 (W none 0 0) (W none 0 0) (W none 0 0) (W none 0 0)):
 Adg Acs 162 #[J (some ⟨v,0,none⟩),J (some ⟨B,0,none⟩)] w λp bu=>I5 b v B s (E5 s (pE s b) d) x K m t j w p bu:=by
 have a5:=hid (λu (g:TX u v s d x 0 K m t j)=>ES (most:=255) g ae bh);have a4:=hid g;have ay:=hid an;have b2:=an.lt;have aM:=hid a9;obtain⟨ar,ap⟩:∃r,E5 s (pE s b) d=r:=⟨_,rfl⟩;have aQ:=hid ap;rw[ap];obtain⟨k0,aI,D,aJ,U,H,bn,bo,aK⟩:=an;have bp:=aK 0 (by omega);clear g ap a9 aK;go_enter Tryz.func162,Tryz.ntmps162;go_wp2_with (first
  |(go_at_call 43;refine(a5.out _ (a4.out.cK (Ac4 _ _ _ _ (show v≠B by omega)))).mono ?_;rintro p u ⟨am,L,n,rfl,ad⟩;have ag:=hid am;have af:=hid L;have a1:=hid ad;have ac:=(ay.out.dA 6).ef am (by omega);have az:=hid ac;have bl:=ac.c1;have bm:=ac.f 1 (by omega);clear am L ad ac a5)
  |(go_at_call 164;have a7:Im v s (Bt s 255 d) x K m t j (u.setCell ⟨B,1,none⟩ (V C n)):=YL af.out (λ_=>Ad7 (Ac4 _ _ _ _ (show v≠B by omega)));refine(Bs (r:=(pb (Bt s 255 d) λ_ q=>(.ok ([],q):Pr (List Ex)))) (EK a7 (Iw _ _)) (F7 (FSa s 255 d) _) ae).mono ?_;clear a7;rintro p aa ⟨rfl,M,N⟩;have ab:=hid M;have E:=hid N;clear M N))
 obtain⟨l,aq⟩:∃l:Nat,∀a q,Bt s 255 d=.ok (a,q)->l=a.1:=by
  match f:Bt s 255 d with
  |.ok (a,q)=>simp
  |P _=>simp
 have aR:Hid (Rr b v B s x K m t j w ar aa (A (mr s (pb (Bt s 255 d) λ_ q=>(.ok ([],q):Pr (List Ex))))) (pb (Bt s 255 d) λ_ q=>.ok ([],q)) (s.size+1) l (W none 0 0) []):=by
  have bj:=ag.out.size;have bk:=E.out.size;simp at bj bk;refine⟨((((NF.refl v B w).set _).trans (NF.cM ag.out)).set _).trans (NF.cM E.out),rfl,ab.out,F7 (FSa s 255 d) _,λi q f=>?_,?_⟩
  ·obtain⟨a,aL,h,z⟩:=Ac f;cases z;have ad:=a1.out a q h;have L:=af.out;rw[h]at L;have bi:=aq a q h;subst bi;rw[<-ad.1];exact⟨by omega,L.2,by simp,(az.out.fy n).ef E.out (by omega),AO.nil _ _ _ (by omega)⟩
  ·rw[<-aQ.out];unfold E5;match f:Bt s 255 d with
   |.ok (a,q)=>rw[Ai,Ai,Ai,aq a q f]
   |P _=>rfl
 generalize (pb (Bt s 255 d) λ_ q=>(.ok ([],q):Pr (List Ex)))=rr at aR ⊢;clear ab E aq a1 af ag az bl bm bp k0 aI D aJ U H bn bo ay a4;go_loopw [4] (λbq wr=>∃r G l pv kp,Hid (Rr b v B s x K m t j w ar wr bq r G l pv kp)) (λ_ wr=>left s v wr)
 case atStart=>grind
 case round=>
  obtain⟨r,G,l,pv,kp,o⟩:=hrel;rename Q=>wr
  have bg:=o.out.mv;subst bg;cases hm:mr s r with
  |false=>
   have aO:=hid hm;clear hm;go_wp2;refine bE ?_;exact o.out.done aO.out
  |true=>
   obtain⟨i,q,rfl,aG⟩:=Vw hm;have a0:=hid aG;clear hm aG;obtain⟨aI,D,aJ,U,H⟩:=o.out.ok i q rfl;have a3:=hid o.out.Lw.1;obtain⟨bs,br,rfl⟩:=Ad H.row;have al:=hid U;have a2:=hid H;obtain⟨G,rfl⟩:∃aX,G=aX+1:=⟨G-1,by omega⟩;have y:=hid (CQ a3.out ae (A8 D));unfold BO at y;rw[Di,JW]at y;have bc:=DI s q;rw[bc]at y;by_cases a6:i.length=20
   ·have aV:((i.length:Int)==20)=true:=by grind
    have ax:=hid (λu (g:TX u v s (Bi s q) x 0 K m t j)=>AR (c:=3) (q:=Am s q) g);have aw:Hid (ar=P (3,Am s q)):=by
     show _=_;rw[o.out.eq,Ai,A2,if_neg a0.out,if_pos a6];rfl
    clear U H;go_wp2_with (first
     |(go_at_call 40;refine y.out.mono ?_;rintro p bw ⟨rfl,O,k⟩;have ak:=hid O;have ah:=hid k;have aW:=(al.out.ef k (by omega)).c6;clear O k y)
     |(go_at_call 41;refine(ax.out _ ak.out).mono ?_;rintro p aa ⟨rfl,aD,N⟩;have aS:=hid aD;have E:=hid N;clear aD N ax))
    refine bE ?_;exact⟨rfl,(o.out.nf.trans (NF.cM ah.out)).trans (NF.cM E.out),by rw[aw.out];exact⟨_,aS.out,A8 D⟩,λa e f=>by rw[aw.out]at f;cases f⟩
   ·have aV:((i.length:Int)==20)=false:=by grind
    have aj:=hid (λu (g:TX u v s (Bi s q) x 0 K m t j) ao hP=>Ed (w:=u) (B:=B) (kd:=6) (n:=(l:Int)) (nmB:=⟨#[]⟩) (plB:=0) (bv:=W none 0 0) (bav:=W none 0 0) (pv:=W bs i.length br) (av:=W none 0 0) (es:=i) (kp:=kp) aM.out g (A8 D) be ao hP (by omega));rw[Rz s b q]at aj;clear U H;go_wp2_with (first
     |(go_at_call 40;refine y.out.mono ?_;rintro p bw ⟨rfl,O,k⟩;have ak:=hid O;have ah:=hid k;have aT:=hid (al.out.ef k (by omega));have aP:=hid (a2.out.ef k (by omega));have aW:=(al.out.ef k (by omega)).c6;clear O k y)
     |(go_at_call 160;refine(aj.out _ ak.out aT.out aP.out).mono ?_;rintro p aa ⟨rfl,aC,M,aE⟩;have aN:=hid aC;have ab:=hid M;have aU:=hid aE;clear aC M aE aj)
     |(go_at_call 164;refine(Bs (r:=(pb (pE s b q) λa q=>(.ok (i++[a],q):Pr (List Ex)))) (EK ab.out (Iw _ _)) (F7 (Jr s b q) _) ae).mono ?_;rintro p b3 ⟨rfl,a8,aB⟩;have au:=hid a8;have ai:=hid aB;clear a8 aB))
    have aH:∀a e,pE s b q=.ok (a,e)->Bi s q<e/\e<=s.size:=λa e f=>by
     have g:=Dq s b (Bi s q) (A8 D) a e (by rw[Rz s b q];exact f);omega
    refine⟨?_,Cw a3.out (A8 D) au.out (F7 (Jr s b q) _) (λbz e f=>?_)⟩
    ·obtain⟨I,Y,ao⟩:∃I Y,∀a e,pE s b q=.ok (a,e)->XN aa B 6 (l:Int) ⟨#[]⟩ 0 (W none 0 0) (W none 0 0) I (W none 0 0)/\AO (b+1) aa B I (i++[a]) Y:=by
      match f:pE s b q with
      |.ok (a,e)=>
       obtain⟨I,Y,h,z,-⟩:=aU.out a e f;exact⟨I,Y,λbx bt g=>by cases g;exact⟨h,z⟩⟩
      |P _=>exact⟨W none 0 0,[],λbx bt g=>by cases g⟩
     refine⟨_,G,l,I,Y,((o.out.nf.trans (NF.cM ah.out)).trans (NF.d6 aN.out (λaY bf=>by have:=(a2.out.row.lt aY bf).1;omega))).trans (NF.cM ai.out),rfl,au.out,F7 (Jr s b q) _,λb0 e f=>?_,?_⟩
     ·obtain⟨a,aL,h,z⟩:=Ac f;cases z;have aZ:=aH a e h;have b1:=AX s q;obtain⟨ba,bb⟩:=ao a e h;exact⟨by omega,aZ.2,by simp;omega,ba.ef ai.out (by omega),bb.ef ai.out (by omega)⟩
     ·rw[o.out.eq,Ai,A2,if_neg a0.out,if_neg a6];match pE s b q with
      |.ok (a,e)=>rfl
      |P _=>rfl
    ·obtain⟨a,aL,h,z⟩:=Ac f;cases z;exact aH a e h
theorem Fj(f:n.ownsRow w b x m wi wb)(g:n.ownsRow v d K q w5 vq)(p:b≠d)(a:Nat)(c:m.ownBlock=some a):q.ownBlock≠some a:=by
 intro e;rcases f.2 with⟨rfl,-⟩|⟨l,h,j,rfl,-,r,-⟩
 ·cases c
 rcases g.2 with⟨rfl,-⟩|⟨o,i,k,rfl,-,s,-⟩
 ·cases e
 simp[Ad6]at c e;grind
structure Lj (f:Q) (d:Nat) (c e:X) (b:Av) (a:ByteArray×Nat):Prop where
 l:f.ownsRow d 9 1 c (b.length+1) ((b.map λa=>S a.1)++[S a.1])
 p:f.ownsRow d 3 1 e b.length (b.map λa=>V C (a.2:Int))
 ne:c.ownBlock=none\/c.ownBlock≠e.ownBlock
theorem Bc.half{x:ByteArray×Nat}(c:Bc n w m q l)(a:Obj)(d:(n.alloc a).grownBy p m.ownBlock)(e:p.ownsRow w 9 1 (W (some ⟨v,0,none⟩) (l.length+1) b) (l.length+1) ((l.map λx=>S x.1)++[S x.1])):
 Lj p w (W (some ⟨v,0,none⟩) (l.length+1) b) q l x:=by
 refine⟨e,c.FF a d,Ad7 λf=>?_⟩;exact Fj e (c.FF a d) nofun v rfl f.symm
theorem Lj.set{b j:Nat}{u:X}{e:Av}(a:Lj n w m q e nh)(f:b<w):Lj (n.setCell ⟨b,j,none⟩ u) w m q e nh:=
 ⟨Az a.l λc d=>Ac4 _ _ _ _ (show c≠b by have:=(a.l.lt c (Ah.1 d)).1;omega),Az a.p λc d=>Ac4 _ _ _ _ (show c≠b by have:=(a.p.lt c (Ah.1 d)).1;omega),a.ne⟩
theorem Bc.set{b j:Nat}{u:X}{e:Av}(a:Bc n w m q e)(f:b<w):Bc (n.setCell ⟨b,j,none⟩ u) w m q e:=
 ⟨Az a.l λc d=>Ac4 _ _ _ _ (show c≠b by have:=(a.l.lt c (Ah.1 d)).1;omega),Az a.p λc d=>Ac4 _ _ _ _ (show c≠b by have:=(a.p.lt c (Ah.1 d)).1;omega),a.ne⟩
theorem Lj.full{a:Av}(c:Lj n w m q a nh)(d:Obj)(f:(n.alloc d).grownBy p q.ownBlock)(i:p.ownsRow w 3 1 (W (some ⟨v,0,none⟩) (a.length+1) b) (a.length+1) ((a.map λnh=>V C (nh.2:Int))++[V C (nh.2:Int)])):
 Bc p w m (W (some ⟨v,0,none⟩) (a.length+1) b) (a++[nh]):=by
 have h:=Ag0 (Adr c.l d) f c.ne;refine⟨by grind,by grind,?_⟩;cases hlv:m.ownBlock with
 |none=>simp
 |some g=>
  right
  intro e;exact Fj h i nofun g hlv e.symm
def LAv(d c:X)(e:List (X×Nat×Nat)):Prop:=∀b∈e,∀a,(d.ownBlock=some a\/c.ownBlock=some a)->a<b.2.1\/b.2.2<=a
theorem AO.grown{B:Nat}{o:Obj}(d:AO w n B m wh na)(b:(n.alloc o).grownBy p n9)(h:∀a,n9=some a->m.ownBlock≠some a)(i:∀c∈na,∀a,n9=some a->a<c.2.1\/c.2.2<=a):AO w p B m wh na:=by
 have e:=b.size;simp at e;refine d.dc (by omega) λf j g k=>?_;rw[b.block f (by simp;omega) ?_,Ad3 n o g];grind
theorem XN.grown{B:Nat}{o:Obj}(b:XN n B we w7 s nk m q j f)(c:(n.alloc o).grownBy p n9)(e:∀a,n9=some a->B<a):XN p B we w7 s nk m q j f:=by
 refine b.cK ?_;have:=b.lt;rw[c.block B (by simp;omega) (λd=>by grind),Ad3 n o this]
theorem TX.grown{o:Obj}(c:TX n w s v b d x m q j)(e:(n.alloc o).grownBy p n9)(g:∀a,n9=some a->w<a):TX p w s v b d x m q j:=by
 refine c.cK ?_;have:=c.lt;rw[e.block w (by simp;omega) (λf=>by grind),Ad3 n o this]
theorem TX.other{B j:Nat}{a u:X}(c:TX n w s v b d x m q a)(e:w≠B):TX (n.setCell ⟨B,j,none⟩ u) w s v b d x m q a:=c.cK (Ac4 _ _ _ _ e)
theorem NF.grown{B:Nat}{o:Obj}(c:NF w B n p)(a:(p.alloc o).grownBy h n9)(i:∀b,n9=some b->B<=b):NF w B n h:=by
 have e:=a.size;simp at e;refine c.trans ⟨a.os,a.tape,a.output,by omega,λf d j k=>?_⟩;rw[a.block f (by simp;omega) (λg=>by grind),Ad3 p o d]
theorem Bc.pf{i:Q}{h:Av}(c:Bc n (v+1) m q h)(g:PF w v n9 n i)(o:w<=v)(j:∀b,m.ownBlock=some b->n9≠some b)(k:∀b,q.ownBlock=some b->n9≠some b):Bc i (v+1) m q h:=by
 refine⟨Az c.l λa d=>?_,Az c.p λa d=>?_,c.ne⟩
 ·have f:=c.l.lt a (Ah.1 d);exact g.block a f.2 (by omega) (by omega) (λe=>j a (Ah.1 d) e.symm)
 ·have f:=c.p.lt a (Ah.1 d);exact g.block a f.2 (by omega) (by omega) (λe=>k a (Ah.1 d) e.symm)
theorem AN(c:I6 w s sr v b m q j n p):EF w n p/\Im w s sr v b m q j p:=by
 refine⟨c.1,?_⟩;have a:=c.2;match sr,a with
 |.ok (_,_),a=>exact a
 |P (_,_),a=>exact a
def PG(h:ByteArray)(b:Nat->Pr Ex)(g:Bool)(a:Av×List Ex)(d:Nat):Pr Ex:=pb (Al h Ae d) λ_ e=>pb (b e) λc f=>.ok (.lets g a.1 a.2 c,f)
structure VE (e j d:Nat) (b:ByteArray) (s u:Nat) (t p o:X) (i:Bool) (v:Q) (n:Pr Ex) (wr:Q) (r:Bool) (f:Pr (Av×List Ex)) (k:Nat) (h g m:X) (l:List (X×Nat×Nat)):Prop where
 nf:NF j d v wr
 Lw:Im j b f s u t p o wr
 nz:Mw f
 er:∀c a,f=P (c,a)->n=P (c,a)
 ok:∀x q,f=.ok (x,q)->b.size+1<=k+q/\q<=b.size/\x.1.length<=q/\x.2.length=x.1.length/\XN wr d (if i=true then 5 else 4) 0 ⟨#[]⟩ 0 h g m (W none 0 0)/\Bc wr (d+1) h g x.1/\AO (e+1) wr d m x.2 l/\LAv h g l/\
  n=if r=true then pb (Ba b (pE b e) k x.1 x.2 q) (PG b (pE b e) i) else PG b (pE b e) i x q
theorem WZ{e:Av}(f:XN n v (if w2=true then 5 else 4) 0 ⟨#[]⟩ 0 m q j (W none 0 0))(d:Bc n (v+1) m q e)(c:AO (w+1) n v j (wh++[N]) na):
 RX (w+2) n v n.heap.size (J (some ⟨v,0,none⟩)) (.lets w2 e wh N):=by
 refine⟨v,m,q,j,_,na,[],n.heap.size,rfl,Acu _,Acu _,f,?_,?_⟩
 ·intro h g b a;rcases(by simpa using g) with rfl|rfl|rfl|rfl
  ·exact(d.l.lt b a).2
  ·exact(d.p.lt b a).2
  ·exact(c.row.lt b a).2
  ·cases a
 ·exact⟨d,c.row,c.kids,Ad1 _ _ _ _,Acu _⟩
theorem J9{B:Nat}{s:ByteArray}{p a7 pl:Nat}{a9 a8:X}(bj:Bool)(dE:wn=if bj=true then BZ else G3)(da:Iu w v s a7)(e:TX n v s p a7 0 pl m a9 a8)(aM:s.size<=2000)(d5:p<=s.size)(c9:v<B)(c8:XN n B 3 0 ⟨#[]⟩ 0 (W none 0 0) (W none 0 0) (W none 0 0) (W none 0 0)):
 Adg Acs 161 #[J (some ⟨v,0,none⟩),J (some ⟨B,0,none⟩),S wn] n λf dN=>I5 w v B s (BE s (pE s w) bj p) a7 pl m a9 a8 n f dN:=by
 have c0:=hid e;have cx:=hid c8;have dP:=c8.lt;have cv:=hid da;obtain⟨aB,cF⟩:∃r,BE s (pE s w) bj p=r:=⟨_,rfl⟩;have ag:=hid cF;rw[cF];have bU:=hid (λah (e:TX ah v s p a7 0 pl m a9 a8)=>A6 (t:=Ax) e aM d5);obtain⟨k0,I,aG,cI,cj,ck,bM,bN,dk⟩:=c8;have dL:=dk 0 (by omega);clear e cF da dk;have dC:BZ.toList=[108,101,116,114,101,99]:=by rw[Adw];rfl
 have dD:G3.toList=[108,101,116]:=by rw[Adw];rfl
 obtain⟨bP,bJ,di⟩:=Adb.1 Tryz.fe;simp only[Aeb]at di;obtain⟨bG,bH,bI⟩:=di;obtain⟨bL,bC,df⟩:=Adb.1 Tryz.fG;simp only[Aeb]at df;obtain⟨b8,b9,bB⟩:=df;have bT:Hid (∀cr ah,NF v B n cr->XN cr B (if bj=true then 5 else 4) 0 ⟨#[]⟩ 0 (W none 0 0) (W none 0 0) (W none 0 0) (W none 0 0)->I6 v s (Al s Ax p) a7 pl m a9 a8 cr ah->VE w v B s a7 pl m a9 a8 bj n aB ah true (pb (Al s Ax p) λ_ q=>.ok (([],[]),q)) (s.size+1) (W none 0 0) (W none 0 0) (W none 0 0) []):=by
  intro cr ah ch az k;obtain⟨c7,c6⟩:=AN k;have cY:=ag.out;have dQ:=az.lt;have dX:=c7.size;refine⟨ch.trans (NF.cM c7),EK c6 (Iw _ _),F7 (A5 s _ p) _,λc z e=>?_,λx q e=>?_⟩
  ·rcases Af e with a5|⟨cM,q,a5,bo⟩
   ·rw[<-cY];unfold BE;rw[a5,AG]
   ·cases bo
  ·obtain⟨cM,y,a5,bo⟩:=Ac e;cases bo;rw[a5]at c6;refine⟨by omega,c6.2,by simp,rfl,az.ef c7 (by omega),⟨Ad1 _ _ _ _,Ad1 _ _ _ _,Ads rfl⟩,AO.nil _ _ _ (by omega),λt aN=>nofun,?_⟩;rw[if_pos rfl,<-cY];unfold BE;rw[a5,Ai];rfl
 clear ag;obtain⟨bq,bD⟩:∃b,b=bj:=⟨_,rfl⟩;have du:=hid bD;clear bD;cases bj;all_goals
  subst dE;go_enter Tryz.func161,Tryz.ntmps161;go_wp2_with (first
   |(go_at_call 37;refine(bU.out _ ((c0.out.other (by omega)).other (by omega))).mono ?_;rintro f ah ⟨rfl,i⟩;have cz:=hid (bT.out _ _ (((NF.refl v B n).set _).set _) ((cx.out.dA 4).dA 5) i);clear i bU bT)
   |(go_at_call 37;refine(bU.out _ (c0.out.other (by omega))).mono ?_;rintro f ah ⟨rfl,i⟩;have cz:=hid (bT.out _ _ ((NF.refl v B n).set _) (cx.out.dA 4) i);clear i bU bT))
  have bD:=du.out;have dv:Hid (VE w v B s a7 pl m a9 a8 bq n aB ah true (pb (Al s Ax p) λ_ q=>.ok (([],[]),q)) (s.size+1) (W none 0 0) (W none 0 0) (W none 0 0) []):=by subst bD;exact cz
  clear bD cz;clear k0 I aG cI cj ck bM bN dL dC dD c0 cx;go_loopw [6] (λdM wr=>∃bO r aV aJ bb cl dl,dM=A bO/\Hid (VE w v B s a7 pl m a9 a8 bq n aB wr bO r aV aJ bb cl dl)) (λ_ wr=>left s v wr)
  case atStart=>exact⟨_,_,_,_,_,_,_,rfl,dv⟩
  case round=>
   obtain⟨bO,r,aV,aJ,bb,cl,dl,rfl,ai⟩:=hrel;rename Q=>wr
   match r,ai with
   |P (c,z),ai=>
    obtain⟨q,dd,d7⟩:=ai.out.Lw;have be:=ai.out.nz c z rfl;have a4:=hid dd;have cC:((c:Int)==0)=false:=by rw[beq_eq_false_iff_ne];omega
    obtain⟨cS,cU,cV,cW,cX,-,-,-,-⟩:=dd;have bS:=hid (DB (u:=J (some ⟨B,0,none⟩)) a4.out be);have bt:=hid (ai.out.er c z rfl);cases bO;all_goals
     go_wp2_with (first
      |(go_at_call 160;refine bS.out.mono ?_;rintro f aO ⟨rfl,g⟩;replace g:=g.symm;subst g))
    all_goals first
     |(exfalso;omega)
     |(exfalso;simp_all;done)
     |(refine bE ?_
       exact⟨rfl,ai.out.nf,by rw[bt.out];exact⟨_,a4.out,d7⟩,λx ae az=>by rw[bt.out]at az;cases az⟩)
   |.ok ((ns,es),q),ai=>
    obtain⟨I,aG,cI,cj,ck,bM,bN,dj,cJ⟩:=ai.out.ok (ns,es) q rfl;simp only at cI cj bM bN cJ;have a4:=hid ai.out.Lw.1;have ba:=hid ck;have aH:=hid bM;have a3:=hid bN;have bl:=hid dj;have bt:=hid cJ;have dS:ns.length<=2000:=by omega
    have cD:es.length<=2000:=by omega
    have cG:Hid (∀a,aJ.ownBlock=some a->cl.ownBlock≠some a):=λa d=>Fj aH.out.l a3.out.row (by decide) a d;have cH:Hid (∀a,bb.ownBlock=some a->cl.ownBlock≠some a):=λa d=>Fj aH.out.p a3.out.row (by decide) a d;clear ck bM bN dj cJ;cases bO
    ·
     have ag:Hid (aB=PG s (pE s w) bq (ns,es) q):=by show _=_;rw[bt.out,if_neg (by simp)]
     have aI:=hid (A6 (t:=Ae) a4.out aM aG);obtain⟨cS,cU,cV,cW,cX,-,-,-,-⟩:=id a4.out;match hw:Al s Ae q,aI,ag with
     |P (c,z),aI,ag=>
      have am:Hid (aB=P (c,z)):=by show _=_;rw[ag.out];unfold PG;rw[hw];rfl
      have be:=A5 s _ q c z hw;have bS:=hid (λaO ae (e:TX aO v s ae a7 c z m a9 a8)=>DB (u:=J (some ⟨B,0,none⟩)) e be);clear hw ag;go_wp2_with (first
       |(go_at_call 37;refine aI.out.mono ?_;rintro f aO ⟨rfl,i⟩;obtain⟨K,dn,aa,aL⟩:=AN i;have an:=hid K;have al:=hid aa;clear i K aa aI)
       |(go_at_call 160;refine(bS.out _ _ al.out).mono ?_;rintro f aC ⟨rfl,g⟩;replace g:=g.symm;subst g;clear bS))
      refine bE ?_;exact⟨rfl,ai.out.nf.trans (NF.cM an.out),by rw[am.out];exact⟨_,al.out,aL⟩,λx ae az=>by rw[am.out]at az;cases az⟩
     |.ok (u,a0),aI,ag=>
      have am:Hid (aB=pb (pE s w a0) λb a1=>.ok (.lets bq ns es b,a1)):=by show _=_;rw[ag.out];unfold PG;rw[hw];rfl
      clear hw ag;go_wp2_with (first
       |(go_at_call 37;refine aI.out.mono ?_;rintro f aO ⟨rfl,i⟩;obtain⟨K,aa,aL⟩:=AN i;have an:=hid K;have al:=hid aa;have dx:=hid (ba.out.ef K (by omega));have dr:=hid (a3.out.ef K (by omega));have dt:=hid (aH.out.ef K (by omega));clear i K aa aI)
       |(go_at_call 160;refine(Ed cv.out al.out aL c9 dx.out dr.out cD).mono ?_;rintro f aC ⟨rfl,dc,cZ,h⟩;have cO:=hid dc;have dq:=hid cZ;have aS:=hid h;clear dc cZ h))
      refine bE ?_;refine⟨rfl,(ai.out.nf.trans (NF.cM an.out)).trans (NF.d6 cO.out (λa d=>by have:=(a3.out.row.lt a d).1;omega)),by rw[am.out];exact EK dq.out (Iw _ _),λx ae az=>?_⟩;rw[am.out]at az;obtain⟨b,dZ,a5,bo⟩:=Ac az;cases bo;obtain⟨dm,cK,bh,c4,-⟩:=aS.out b ae a5;exact WZ bh (dt.out.pf cO.out (by omega) cG.out cH.out) c4
    ·
     have ag:Hid (aB=pb (Ba s (pE s w) aV ns es q) (PG s (pE s w) bq)):=by show _=_;rw[bt.out,if_pos rfl]
     obtain⟨aV,rfl⟩:∃dy,aV=dy+1:=⟨aV-1,by omega⟩;have dw:=hid (A6 (t:=Ax) a4.out aM aG);obtain⟨cS,cU,cV,cW,cX,-,-,-,-⟩:=id a4.out;match hw:Al s Ax q,dw with
     |P (c,z),HWO1=>
      have am:Hid (aB=P (c,z)):=by show _=_;rw[ag.out,Ba,hw];rfl
      have be:=A5 s _ q c z hw;have cC:((c:Int)==0)=false:=by rw[beq_eq_false_iff_ne];omega
      clear hw ag;go_wp2_with (first
       |(go_at_call 37;refine HWO1.out.mono ?_;rintro f aO ⟨rfl,i⟩;obtain⟨K,dn,aa,aL⟩:=AN i;have an:=hid K;have al:=hid aa;obtain⟨bx,bz,b0,b1,b2,-,-,-,-⟩:=aa;clear i K HWO1))
      all_goals first
       |(exfalso;omega)
       |(refine bE ?_
         exact⟨rfl,ai.out.nf.trans (NF.cM an.out),by rw[am.out];exact⟨_,al.out,aL⟩,λx ae az=>by rw[am.out]at az;cases az⟩)
     |.ok (u,y),HWO1=>
      have dg:=Aj (s:=s) (t:=Ax) (by decide) q aG u y hw;have cQ:=hid (λah (e:TX ah v s y a7 0 pl m a9 a8)=>Fw e aM dg.2);obtain⟨af,bK⟩:∃af,Ag s y=af:=⟨_,rfl⟩;rw[bK]at cQ;have ao:=hid (λah (e:FB ah aJ (ns.map (·.1)))=>Fv af (ns.map (·.1)) aJ ah e (by simp;omega));match hn:AV s y,cQ with
      |P (c,z),HNM1=>
       have am:Hid (aB=P (c,z)):=by show _=_;rw[ag.out,Ba,hw,Ai,hn];rfl
       have be:=E9 s y c z hn;have cC:((c:Int)==0)=false:=by rw[beq_eq_false_iff_ne];omega
       have bk:=hid (λah ae (e:TX ah v s ae a7 c z m a9 a8)=>Fk (c:=5) (q:=Am s y) e be);clear hw hn bK ag;cases hib:A3 af (ns.map (·.1)) 0
       ·rw[hib]at ao;clear hib bk;go_wp2_with (first
         |(go_at_call 37;refine HWO1.out.mono ?_;rintro f aO ⟨rfl,i⟩;obtain⟨K,aa,aL⟩:=AN i;have an:=hid K;have al:=hid aa;obtain⟨bx,bz,b0,b1,b2,-,-,-,-⟩:=aa;clear i K HWO1)
         |(go_at_call 38;refine(HNM1.out _ al.out).mono ?_;rintro f aC ⟨rfl,aq,a0,ar,ci⟩;have M:=hid (an.out.trans aq);have aR:=hid ar;have h:=ba.out.ef M.out (by omega);have aS:=hid h;have bX:=h.c4;have bY:=h.c5;have bf:=hid (a3.out.ef M.out (by omega));have N:=hid (aH.out.ef M.out (by omega));have bZ:=h.lt;have cd:=h.f 4 (by omega);clear aq ar h HNM1)
         |(go_at_call 45;refine(ao.out _ N.out.str).mono ?_;rintro f aP ⟨rfl,g⟩;replace g:=g.symm;subst g;clear ao)
         |(at_builtin;refine Adl _ rfl _ _ _ rfl (B+1) 9 bP _ 1 16 Ae0 bJ bG bH bI rfl (by omega) aJ ns.length (ns.map λx=>S x.1) rfl (Adr N.out.l _) ⟨aC.heap.size,0,none⟩ 1 1 [S af] rfl rfl (AL _ _ _ _ rfl) (by intro u k;simp at k;subst k;rfl) (by omega) (by unfold Aed;omega) (by omega) (by simp;omega) (aC.heap.size+1) (by simp) ?_;intro H I a2 ax E av ce;have aW:=E.size;simp at aW;have O:=aS.out.grown E (λa d=>by have:=(N.out.l.lt a d).1;omega);have aT:=hid O;have bV:=O.c4;have bW:=O.f 4 (by omega);have D:=hid ((N.out.half (x:=(af,Am s y)) _ E ax).set (u:=W (some ⟨H,0,none⟩) (ns.length+1) I) (j:=4) (b:=B) (by omega));have aj:=hid E;have br:=hid av;have Y:=(aT.out.ei (W (some ⟨H,0,none⟩) (ns.length+1) I));have aU:=hid Y;have cm:=Y.c5;have cn:=Y.f 5 (by omega);clear O Y ax E av)
         |(at_builtin;refine Adl _ rfl _ _ _ rfl (B+1) 3 bL _ 1 8 Tryz.underlying85 bC b8 b9 bB rfl (by omega) bb ns.length (ns.map λx=>V C (x.2:Int)) rfl (Adr D.out.p _) ⟨a2.heap.size,0,none⟩ 1 1 [V C (Am s y:Int)] (by first|rfl|(simp;done)) rfl (AL _ _ _ _ (by first|rfl|(simp;done))) (by intro u k;simp at k;subst k;rfl) (by omega) (by unfold Aed;omega) (by omega) (by simp;omega) (a2.heap.size+1) (by simp) ?_;intro L ab cs ay G aw cf;have aX:=G.size;simp at aX;have U:=aU.out.grown G (λa d=>by have:=(D.out.p.lt a d).1;omega);have bn:=hid U;have co:=U.c5;have cp:=U.f 5 (by omega);have bg:=hid ((D.out.full _ G ay).set (u:=W (some ⟨L,0,none⟩) (ns.length+1) ab) (j:=5) (b:=B) (by omega));have ak:=hid G;have bs:=hid aw;clear U ay G aw)
         |(go_at_call 160;have au:=(((aR.out.grown aj.out (λa d=>by have:=(N.out.l.lt a d).1;omega)).other (j:=4) (B:=B) (u:=W (some ⟨H,0,none⟩) (ns.length+1) I) (by omega)).grown ak.out (λa d=>by have:=(D.out.p.lt a d).1;omega)).other (j:=5) (B:=B) (u:=W (some ⟨L,0,none⟩) (ns.length+1) ab) (by omega);have aZ:=hid au;obtain⟨-,-,-,cq,-,-,-,-,-⟩:=au;refine(DB aZ.out (by omega)).mono ?_;rintro f dp ⟨rfl,g⟩;replace g:=g.symm;subst g)
         |(go_at_call 164;refine(Bs (pl:=pl) (r:=(P (c,z):Pr (Av×List Ex))) ⟨_,aZ.out,by omega⟩ (λad ac e=>by cases e;omega) aM).mono ?_;rintro f ct ⟨rfl,ap,bc⟩;have aY:=hid ap;have bu:=hid bc;clear ap bc))
        refine⟨⟨false,P (c,z),0,W none 0 0,W none 0 0,W none 0 0,[],rfl,?_,?_,?_,?_,?_⟩,?_⟩
        ·exact(((((ai.out.nf.trans (NF.cM M.out)).grown aj.out (λa d=>by have:=(N.out.l.lt a d).1;omega)).set _).grown ak.out (λa d=>by have:=(D.out.p.lt a d).1;omega)).set _).trans (NF.cM bu.out)
        ·exact aY.out
        ·exact λad ac e=>by cases e;omega
        ·exact λad ac e=>by cases e;exact am.out
        ·exact λx ae e=>by cases e
        ·exact Cw (r:=(P (c,z):Pr (Av×List Ex))) a4.out aG aY.out (λad ac e=>by cases e;omega) (λx ae e=>by cases e)
       ·rw[hib]at ao;clear hib;go_wp2_with (first
         |(go_at_call 37;refine HWO1.out.mono ?_;rintro f aO ⟨rfl,i⟩;obtain⟨K,aa,aL⟩:=AN i;have an:=hid K;have al:=hid aa;obtain⟨bx,bz,b0,b1,b2,-,-,-,-⟩:=aa;clear i K HWO1)
         |(go_at_call 38;refine(HNM1.out _ al.out).mono ?_;rintro f aC ⟨rfl,aq,a0,ar,ci⟩;have M:=hid (an.out.trans aq);have aR:=hid ar;have h:=ba.out.ef M.out (by omega);have aS:=hid h;have bX:=h.c4;have bY:=h.c5;have bf:=hid (a3.out.ef M.out (by omega));have N:=hid (aH.out.ef M.out (by omega));have bZ:=h.lt;have cd:=h.f 4 (by omega);clear aq ar h HNM1)
         |(go_at_call 45;refine(ao.out _ N.out.str).mono ?_;rintro f aP ⟨rfl,g⟩;replace g:=g.symm;subst g;clear ao)
         |(go_at_call 41;refine(bk.out _ _ aR.out).mono ?_;rintro f aP ⟨rfl,b6,b4⟩;have aQ:=hid (M.out.trans b4);have c1:=hid b6;have a6:=ba.out.ef aQ.out (by omega);have c3:=hid a6;have c4:=a6.c4;have dz:=a6.c5;have ds:=hid (a3.out.ef aQ.out (by omega));have aD:=hid (aH.out.ef aQ.out (by omega));have d0:=a6.lt;have d3:=a6.f 4 (by omega);clear b6 b4 a6 bk)
         |(at_builtin;refine Adl _ rfl _ _ _ rfl (B+1) 9 bP _ 1 16 Ae0 bJ bG bH bI rfl (by omega) aJ ns.length (ns.map λx=>S x.1) rfl (Adr aD.out.l _) ⟨aP.heap.size,0,none⟩ 1 1 [S af] rfl rfl (AL _ _ _ _ rfl) (by intro u k;simp at k;subst k;rfl) (by omega) (by unfold Aed;omega) (by omega) (by simp;omega) (aP.heap.size+1) (by simp) ?_;intro H I a2 ax E av ce;have aW:=E.size;simp at aW;have O:=c3.out.grown E (λa d=>by have:=(aD.out.l.lt a d).1;omega);have aT:=hid O;have bV:=O.c4;have bW:=O.f 4 (by omega);have D:=hid ((aD.out.half (x:=(af,Am s y)) _ E ax).set (u:=W (some ⟨H,0,none⟩) (ns.length+1) I) (j:=4) (b:=B) (by omega));have aj:=hid E;have br:=hid av;have Y:=(aT.out.ei (W (some ⟨H,0,none⟩) (ns.length+1) I));have aU:=hid Y;have cm:=Y.c5;have cn:=Y.f 5 (by omega);clear O Y ax E av)
         |(at_builtin;refine Adl _ rfl _ _ _ rfl (B+1) 3 bL _ 1 8 Tryz.underlying85 bC b8 b9 bB rfl (by omega) bb ns.length (ns.map λx=>V C (x.2:Int)) rfl (Adr D.out.p _) ⟨a2.heap.size,0,none⟩ 1 1 [V C (Am s y:Int)] (by first|rfl|(simp;done)) rfl (AL _ _ _ _ (by first|rfl|(simp;done))) (by intro u k;simp at k;subst k;rfl) (by omega) (by unfold Aed;omega) (by omega) (by simp;omega) (a2.heap.size+1) (by simp) ?_;intro L ab cs ay G aw cf;have aX:=G.size;simp at aX;have U:=aU.out.grown G (λa d=>by have:=(D.out.p.lt a d).1;omega);have bn:=hid U;have co:=U.c5;have cp:=U.f 5 (by omega);have bg:=hid ((D.out.full _ G ay).set (u:=W (some ⟨L,0,none⟩) (ns.length+1) ab) (j:=5) (b:=B) (by omega));have ak:=hid G;have bs:=hid aw;clear U ay G aw)
         |(go_at_call 160;have au:=(((c1.out.grown aj.out (λa d=>by have:=(aD.out.l.lt a d).1;omega)).other (j:=4) (B:=B) (u:=W (some ⟨H,0,none⟩) (ns.length+1) I) (by omega)).grown ak.out (λa d=>by have:=(D.out.p.lt a d).1;omega)).other (j:=5) (B:=B) (u:=W (some ⟨L,0,none⟩) (ns.length+1) ab) (by omega);have aZ:=hid au;obtain⟨-,-,-,cq,-,-,-,-,-⟩:=au;refine(DB aZ.out (by omega)).mono ?_;rintro f dp ⟨rfl,g⟩;replace g:=g.symm;subst g)
         |(go_at_call 164;refine(Bs (pl:=pl) (r:=(P (c,z):Pr (Av×List Ex))) ⟨_,aZ.out,by omega⟩ (λad ac e=>by cases e;omega) aM).mono ?_;rintro f ct ⟨rfl,ap,bc⟩;have aY:=hid ap;have bu:=hid bc;clear ap bc))
        refine⟨⟨false,P (c,z),0,W none 0 0,W none 0 0,W none 0 0,[],rfl,?_,?_,?_,?_,?_⟩,?_⟩
        ·exact(((((ai.out.nf.trans (NF.cM aQ.out)).grown aj.out (λa d=>by have:=(aD.out.l.lt a d).1;omega)).set _).grown ak.out (λa d=>by have:=(D.out.p.lt a d).1;omega)).set _).trans (NF.cM bu.out)
        ·exact aY.out
        ·exact λad ac e=>by cases e;omega
        ·exact λad ac e=>by cases e;exact am.out
        ·exact λx ae e=>by cases e
        ·exact Cw (r:=(P (c,z):Pr (Av×List Ex))) a4.out aG aY.out (λad ac e=>by cases e;omega) (λx ae e=>by cases e)
      |.ok (x,dn),HNM1=>
       obtain⟨dR,cE,rfl,rfl⟩:=EU dg.2 hn;rw[bK]at hn;cases hib:A3 af (ns.map (·.1)) 0
       ·rw[hib]at ao;have bm:Hid (aB=pb (pb (pE s w (AC s y)) λf a0=>pb (Al s Ae a0) λ_ a1=>if Ag s a1=Ae then .ok ((ns++[(af,Am s y)],es++[f]),Bi s a1) else Ba s (pE s w) aV (ns++[(af,Am s y)]) (es++[f]) a1) (PG s (pE s w) bq)):=by
         show _=_;rw[ag.out,Ba,hw,Ai,hn,Ai,if_neg (by simp[hib])]
        have d2:=Dq s w (AC s y) cE;clear hib hw hn bK ag;match he:pE s w (AC s y),bm with
        |P (c,z),bm=>
         have am:Hid (aB=P (c,z)):=bm.out;have be:=Jr s w _ c z he;have cC:((c:Int)==0)=false:=by rw[beq_eq_false_iff_ne];omega
         go_wp2_with (first
          |(go_at_call 37;refine HWO1.out.mono ?_;rintro f aO ⟨rfl,i⟩;obtain⟨K,aa,aL⟩:=AN i;have an:=hid K;have al:=hid aa;obtain⟨bx,bz,b0,b1,b2,-,-,-,-⟩:=aa;clear i K HWO1)
          |(go_at_call 38;refine(HNM1.out _ al.out).mono ?_;rintro f aC ⟨rfl,aq,ar,ci⟩;have M:=hid (an.out.trans aq);have aR:=hid ar;have h:=ba.out.ef M.out (by omega);have aS:=hid h;have bX:=h.c4;have bY:=h.c5;have bf:=hid (a3.out.ef M.out (by omega));have N:=hid (aH.out.ef M.out (by omega));have bZ:=h.lt;have cd:=h.f 4 (by omega);clear aq ar h HNM1)
          |(go_at_call 45;refine(ao.out _ N.out.str).mono ?_;rintro f aP ⟨rfl,g⟩;replace g:=g.symm;subst g;clear ao)
          |(at_builtin;refine Adl _ rfl _ _ _ rfl (B+1) 9 bP _ 1 16 Ae0 bJ bG bH bI rfl (by omega) aJ ns.length (ns.map λx=>S x.1) rfl (Adr N.out.l _) ⟨aC.heap.size,0,none⟩ 1 1 [S af] rfl rfl (AL _ _ _ _ rfl) (by intro u k;simp at k;subst k;rfl) (by omega) (by unfold Aed;omega) (by omega) (by simp;omega) (aC.heap.size+1) (by simp) ?_;intro H I a2 ax E av ce;have aW:=E.size;simp at aW;have O:=aS.out.grown E (λa d=>by have:=(N.out.l.lt a d).1;omega);have aT:=hid O;have bV:=O.c4;have bW:=O.f 4 (by omega);have D:=hid ((N.out.half (x:=(af,Am s y)) _ E ax).set (u:=W (some ⟨H,0,none⟩) (ns.length+1) I) (j:=4) (b:=B) (by omega));have aj:=hid E;have br:=hid av;have Y:=(aT.out.ei (W (some ⟨H,0,none⟩) (ns.length+1) I));have aU:=hid Y;have cm:=Y.c5;have cn:=Y.f 5 (by omega);clear O Y ax E av)
          |(at_builtin;refine Adl _ rfl _ _ _ rfl (B+1) 3 bL _ 1 8 Tryz.underlying85 bC b8 b9 bB rfl (by omega) bb ns.length (ns.map λx=>V C (x.2:Int)) rfl (Adr D.out.p _) ⟨a2.heap.size,0,none⟩ 1 1 [V C (Am s y:Int)] (by first|rfl|(simp;done)) rfl (AL _ _ _ _ (by first|rfl|(simp;done))) (by intro u k;simp at k;subst k;rfl) (by omega) (by unfold Aed;omega) (by omega) (by simp;omega) (a2.heap.size+1) (by simp) ?_;intro L ab cs ay G aw cf;have aX:=G.size;simp at aX;have U:=aU.out.grown G (λa d=>by have:=(D.out.p.lt a d).1;omega);have bn:=hid U;have co:=U.c5;have cp:=U.f 5 (by omega);have bg:=hid ((D.out.full _ G ay).set (u:=W (some ⟨L,0,none⟩) (ns.length+1) ab) (j:=5) (b:=B) (by omega));have ak:=hid G;have bs:=hid aw;clear U ay G aw)
          |(go_at_call 160;have au:=(((aR.out.grown aj.out (λa d=>by have:=(N.out.l.lt a d).1;omega)).other (j:=4) (B:=B) (u:=W (some ⟨H,0,none⟩) (ns.length+1) I) (by omega)).grown ak.out (λa d=>by have:=(D.out.p.lt a d).1;omega)).other (j:=5) (B:=B) (u:=W (some ⟨L,0,none⟩) (ns.length+1) ab) (by omega);have bw:=hid (((((bf.out.grown aj.out cG.out (λt aN a d=>bl.out t aN a (Ads d))).set (j:=4) (u:=W (some ⟨H,0,none⟩) (ns.length+1) I)).grown ak.out cH.out (λt aN a d=>bl.out t aN a (Ad7 d)))).set (j:=5) (u:=W (some ⟨L,0,none⟩) (ns.length+1) ab));have cy:=hid (((((ai.out.nf.trans (NF.cM M.out)).grown aj.out (λa d=>by have:=(N.out.l.lt a d).1;omega)).set (W (some ⟨H,0,none⟩) (ns.length+1) I) (o:=4)).grown ak.out (λa d=>by have:=(D.out.p.lt a d).1;omega)).set (W (some ⟨L,0,none⟩) (ns.length+1) ab) (o:=5));refine(Ed cv.out au cE c9 (bn.out.eU (W (some ⟨L,0,none⟩) (ns.length+1) ab)) bw.out cD).mono ?_;clear au;rintro f ct ⟨rfl,b5,ap,bi⟩;rw[he]at ap bi;have bv:=hid b5;have cR:=hid bi;obtain⟨ea,b7,dh⟩:=ap;have c2:=hid b7;obtain⟨-,-,-,cq,-,-,-,-,-⟩:=b7;clear b5 bi)
          |(go_at_call 164;refine(Bs (pl:=pl) (r:=(P (c,z):Pr (Av×List Ex))) ⟨_,c2.out,dh⟩ (λad ac e=>by cases e;omega) aM).mono ?_;rintro f dO ⟨rfl,b3,aE⟩;have bQ:=hid b3;have cw:=hid aE;clear b3 aE))
         all_goals first
          |(exfalso;omega)
          |skip
         refine⟨⟨false,P (c,z),0,W none 0 0,W none 0 0,W none 0 0,[],rfl,?_,?_,?_,?_,?_⟩,?_⟩
         ·exact(cy.out.trans (NF.d6 bv.out (λa d=>by have:=(a3.out.row.lt a d).1;omega))).trans (NF.cM cw.out)
         ·exact bQ.out
         ·exact λad ac e=>by cases e;omega
         ·exact λad ac e=>by cases e;exact am.out
         ·exact λx ae e=>by cases e
         ·exact Cw (r:=(P (c,z):Pr (Av×List Ex))) a4.out aG bQ.out (λad ac e=>by cases e;omega) (λx ae e=>by cases e)
        |.ok (x,a0),bm=>
         have de:=d2 x a0 he;have aI:=hid (λah (e:TX ah v s a0 a7 0 pl m a9 a8)=>A6 (t:=Ae) e aM de.2);go_wp2_with (first
          |(go_at_call 37;refine HWO1.out.mono ?_;rintro f aO ⟨rfl,i⟩;obtain⟨K,aa,aL⟩:=AN i;have an:=hid K;have al:=hid aa;obtain⟨bx,bz,b0,b1,b2,-,-,-,-⟩:=aa;clear i K HWO1)
          |(go_at_call 38;refine(HNM1.out _ al.out).mono ?_;rintro f aC ⟨rfl,aq,ar,ci⟩;have M:=hid (an.out.trans aq);have aR:=hid ar;have h:=ba.out.ef M.out (by omega);have aS:=hid h;have bX:=h.c4;have bY:=h.c5;have bf:=hid (a3.out.ef M.out (by omega));have N:=hid (aH.out.ef M.out (by omega));have bZ:=h.lt;have cd:=h.f 4 (by omega);clear aq ar h HNM1)
          |(go_at_call 45;refine(ao.out _ N.out.str).mono ?_;rintro f aP ⟨rfl,g⟩;replace g:=g.symm;subst g;clear ao)
          |(at_builtin;refine Adl _ rfl _ _ _ rfl (B+1) 9 bP _ 1 16 Ae0 bJ bG bH bI rfl (by omega) aJ ns.length (ns.map λx=>S x.1) rfl (Adr N.out.l _) ⟨aC.heap.size,0,none⟩ 1 1 [S af] rfl rfl (AL _ _ _ _ rfl) (by intro u k;simp at k;subst k;rfl) (by omega) (by unfold Aed;omega) (by omega) (by simp;omega) (aC.heap.size+1) (by simp) ?_;intro H I a2 ax E av ce;have aW:=E.size;simp at aW;have O:=aS.out.grown E (λa d=>by have:=(N.out.l.lt a d).1;omega);have aT:=hid O;have bV:=O.c4;have bW:=O.f 4 (by omega);have D:=hid ((N.out.half (x:=(af,Am s y)) _ E ax).set (u:=W (some ⟨H,0,none⟩) (ns.length+1) I) (j:=4) (b:=B) (by omega));have aj:=hid E;have br:=hid av;have Y:=(aT.out.ei (W (some ⟨H,0,none⟩) (ns.length+1) I));have aU:=hid Y;have cm:=Y.c5;have cn:=Y.f 5 (by omega);clear O Y ax E av)
          |(at_builtin;refine Adl _ rfl _ _ _ rfl (B+1) 3 bL _ 1 8 Tryz.underlying85 bC b8 b9 bB rfl (by omega) bb ns.length (ns.map λx=>V C (x.2:Int)) rfl (Adr D.out.p _) ⟨a2.heap.size,0,none⟩ 1 1 [V C (Am s y:Int)] (by first|rfl|(simp;done)) rfl (AL _ _ _ _ (by first|rfl|(simp;done))) (by intro u k;simp at k;subst k;rfl) (by omega) (by unfold Aed;omega) (by omega) (by simp;omega) (a2.heap.size+1) (by simp) ?_;intro L ab cs ay G aw cf;have aX:=G.size;simp at aX;have U:=aU.out.grown G (λa d=>by have:=(D.out.p.lt a d).1;omega);have bn:=hid U;have co:=U.c5;have cp:=U.f 5 (by omega);have bg:=hid ((D.out.full _ G ay).set (u:=W (some ⟨L,0,none⟩) (ns.length+1) ab) (j:=5) (b:=B) (by omega));have ak:=hid G;have bs:=hid aw;clear U ay G aw)
          |(go_at_call 160;have au:=(((aR.out.grown aj.out (λa d=>by have:=(N.out.l.lt a d).1;omega)).other (j:=4) (B:=B) (u:=W (some ⟨H,0,none⟩) (ns.length+1) I) (by omega)).grown ak.out (λa d=>by have:=(D.out.p.lt a d).1;omega)).other (j:=5) (B:=B) (u:=W (some ⟨L,0,none⟩) (ns.length+1) ab) (by omega);have bw:=hid (((((bf.out.grown aj.out cG.out (λt aN a d=>bl.out t aN a (Ads d))).set (j:=4) (u:=W (some ⟨H,0,none⟩) (ns.length+1) I)).grown ak.out cH.out (λt aN a d=>bl.out t aN a (Ad7 d)))).set (j:=5) (u:=W (some ⟨L,0,none⟩) (ns.length+1) ab));have cy:=hid (((((ai.out.nf.trans (NF.cM M.out)).grown aj.out (λa d=>by have:=(N.out.l.lt a d).1;omega)).set (W (some ⟨H,0,none⟩) (ns.length+1) I) (o:=4)).grown ak.out (λa d=>by have:=(D.out.p.lt a d).1;omega)).set (W (some ⟨L,0,none⟩) (ns.length+1) ab) (o:=5));refine(Ed cv.out au cE c9 (bn.out.eU (W (some ⟨L,0,none⟩) (ns.length+1) ab)) bw.out cD).mono ?_;clear au;rintro f ct ⟨rfl,b5,ap,bi⟩;rw[he]at ap bi;have bv:=hid b5;have cR:=hid bi;obtain⟨b7,dh⟩:=ap;have c2:=hid b7;obtain⟨-,-,-,cq,-,-,-,-,-⟩:=b7;clear b5 bi)
          |(go_at_call 37;refine(aI.out _ c2.out).mono ?_;rintro f dO ⟨rfl,i⟩;obtain⟨aE,b3⟩:=AN i;have cw:=hid aE;have bQ:=hid b3;clear i aE b3 aI)
          |(go_at_call 164;refine(Bs (r:=(pb (Al s Ae a0) λ_ q=>(.ok ((ns++[(af,Am s y)],es++[x]),q):Pr (Av×List Ex)))) (EK bQ.out (Iw _ _)) (F7 (A5 s _ a0) _) aM).mono ?_;rintro f eb ⟨rfl,aK,db⟩;have cN:=hid aK;have bR:=hid db;clear aK db))
         obtain⟨dm,cK,dG,dH,dV,dI⟩:=cR.out x a0 rfl;have aE:=cw.out;have dY:=aE.size;have dK:=bv.out.size;simp at dK;have d9:=((bg.out.pf bv.out (by omega) (λa d=>Fj bg.out.l bw.out.row (by decide) a d) (λa d=>Fj bg.out.p bw.out.row (by decide) a d)).ef aE (by omega)).ef bR.out (by omega);have d4:LAv (W (some ⟨H,0,none⟩) (ns.length+1) I) (W (some ⟨L,0,none⟩) (ns.length+1) ab) cK:=by
          intro t aN a d;rcases dI t aN with a5|a5
          ·have bo:=bf.out.kids.mem t a5;rcases d with d|d
           ·obtain rfl:H=a:=by simpa[Ad6]using d
            rcases br.out with bh|bh
            ·exact bl.out t a5 H (Ads bh)
            ·right;omega
           ·obtain rfl:L=a:=by simpa[Ad6]using d
            rcases bs.out with bh|bh
            ·exact bl.out t a5 L (Ad7 bh)
            ·right;omega
          ·simp at a5;left
           rcases d with d|d
           ·obtain rfl:H=a:=by simpa[Ad6]using d
            omega
           ·obtain rfl:L=a:=by simpa[Ad6]using d
            omega
         have dJ:=(dG.ef aE (by omega)).ef bR.out (by omega);have d6:=(dH.ef aE (by omega)).ef bR.out (by omega);have ch:=((cy.out.trans (NF.d6 bv.out (λa d=>by have:=(a3.out.row.lt a d).1;omega))).trans (NF.cM aE)).trans (NF.cM bR.out);have aK:=cN.out;have d1:=Aj (s:=s) (t:=Ae) (by decide) a0 de.2;have bp:=bm.out;rw[Ai]at bp;clear cN bm;match hwc:Al s Ae a0,aK,bp with
         |P (c,z),aK,bp=>
          have be:=A5 s _ a0 c z hwc;refine⟨⟨false,P (c,z),0,W none 0 0,W none 0 0,W none 0 0,[],rfl,ch,aK,λad ac e=>by cases e;omega,λad ac e=>by cases e;rw[bp];rfl,λx ae e=>by cases e⟩,?_⟩;exact Cw (r:=(P (c,z):Pr (Av×List Ex))) a4.out aG aK (λad ac e=>by cases e;omega) (λx ae e=>by cases e)
         |.ok (u2,a1),aK,bp=>
          have d8:=d1 u2 a1 hwc;have dT:=AX s a1;have dA:=A8 (s:=s) (p:=a1) d8.2;refine⟨⟨B9 s a1,.ok ((ns++[(af,Am s y)],es++[x]),Bi s a1),aV,W (some ⟨H,0,none⟩) (ns.length+1) I,W (some ⟨L,0,none⟩) (ns.length+1) ab,dm,cK,rfl,ch,aK,λad ac e=>(by cases e),λad ac e=>(by cases e),λcM ae e=>?_⟩,?_⟩
          ·cases e;refine⟨by omega,dA,by simp;omega,by simp[cj],dJ,d9,d6,d4,?_⟩;rw[bp,Ai];by_cases ca:Ag s a1=Ae
           ·rw[if_pos ca,Ai,if_neg (by simp[B9,ca])]
           ·rw[if_neg ca,if_pos (by simp[B9,ca]),SF aV _ _ a1 (by omega)]
          ·exact Cw (r:=(.ok ((ns++[(af,Am s y)],es++[x]),a1):Pr (Av×List Ex))) a4.out aG aK (λad ac e=>(by cases e)) (λcM ae e=>by cases e;omega)
       ·have am:Hid (aB=P (5,Am s y)):=by
         show _=_;rw[ag.out,Ba,hw,Ai,hn,Ai,if_pos hib];rfl
        have bk:=hid (λah (e:TX ah v s (AC s y) a7 0 pl m a9 a8)=>AR (c:=5) (q:=Am s y) e);rw[hib]at ao;clear hib hw hn bK ag;go_wp2_with (first
         |(go_at_call 37;refine HWO1.out.mono ?_;rintro f aO ⟨rfl,i⟩;obtain⟨K,aa,aL⟩:=AN i;have an:=hid K;have al:=hid aa;obtain⟨bx,bz,b0,b1,b2,-,-,-,-⟩:=aa;clear i K HWO1)
         |(go_at_call 38;refine(HNM1.out _ al.out).mono ?_;rintro f aC ⟨rfl,aq,ar,ci⟩;have M:=hid (an.out.trans aq);have aR:=hid ar;have h:=ba.out.ef M.out (by omega);have aS:=hid h;have bX:=h.c4;have bY:=h.c5;have bf:=hid (a3.out.ef M.out (by omega));have N:=hid (aH.out.ef M.out (by omega));have bZ:=h.lt;have cd:=h.f 4 (by omega);clear aq ar h HNM1)
         |(go_at_call 45;refine(ao.out _ N.out.str).mono ?_;rintro f aP ⟨rfl,g⟩;replace g:=g.symm;subst g;clear ao)
         |(go_at_call 41;refine(bk.out _ aR.out).mono ?_;rintro f aP ⟨rfl,b6,b4⟩;have aQ:=hid (M.out.trans b4);have c1:=hid b6;have a6:=ba.out.ef aQ.out (by omega);have c3:=hid a6;have c4:=a6.c4;have dz:=a6.c5;have ds:=hid (a3.out.ef aQ.out (by omega));have aD:=hid (aH.out.ef aQ.out (by omega));have d0:=a6.lt;have d3:=a6.f 4 (by omega);clear b6 b4 a6 bk)
         |(at_builtin;refine Adl _ rfl _ _ _ rfl (B+1) 9 bP _ 1 16 Ae0 bJ bG bH bI rfl (by omega) aJ ns.length (ns.map λx=>S x.1) rfl (Adr aD.out.l _) ⟨aP.heap.size,0,none⟩ 1 1 [S af] rfl rfl (AL _ _ _ _ rfl) (by intro u k;simp at k;subst k;rfl) (by omega) (by unfold Aed;omega) (by omega) (by simp;omega) (aP.heap.size+1) (by simp) ?_;intro H I a2 ax E av ce;have aW:=E.size;simp at aW;have O:=c3.out.grown E (λa d=>by have:=(aD.out.l.lt a d).1;omega);have aT:=hid O;have bV:=O.c4;have bW:=O.f 4 (by omega);have D:=hid ((aD.out.half (x:=(af,Am s y)) _ E ax).set (u:=W (some ⟨H,0,none⟩) (ns.length+1) I) (j:=4) (b:=B) (by omega));have aj:=hid E;have br:=hid av;have Y:=(aT.out.ei (W (some ⟨H,0,none⟩) (ns.length+1) I));have aU:=hid Y;have cm:=Y.c5;have cn:=Y.f 5 (by omega);clear O Y ax E av)
         |(at_builtin;refine Adl _ rfl _ _ _ rfl (B+1) 3 bL _ 1 8 Tryz.underlying85 bC b8 b9 bB rfl (by omega) bb ns.length (ns.map λx=>V C (x.2:Int)) rfl (Adr D.out.p _) ⟨a2.heap.size,0,none⟩ 1 1 [V C (Am s y:Int)] (by first|rfl|(simp;done)) rfl (AL _ _ _ _ (by first|rfl|(simp;done))) (by intro u k;simp at k;subst k;rfl) (by omega) (by unfold Aed;omega) (by omega) (by simp;omega) (a2.heap.size+1) (by simp) ?_;intro L ab cs ay G aw cf;have aX:=G.size;simp at aX;have U:=aU.out.grown G (λa d=>by have:=(D.out.p.lt a d).1;omega);have bn:=hid U;have co:=U.c5;have cp:=U.f 5 (by omega);have bg:=hid ((D.out.full _ G ay).set (u:=W (some ⟨L,0,none⟩) (ns.length+1) ab) (j:=5) (b:=B) (by omega));have ak:=hid G;have bs:=hid aw;clear U ay G aw)
         |(go_at_call 160;have au:=(((c1.out.grown aj.out (λa d=>by have:=(aD.out.l.lt a d).1;omega)).other (j:=4) (B:=B) (u:=W (some ⟨H,0,none⟩) (ns.length+1) I) (by omega)).grown ak.out (λa d=>by have:=(D.out.p.lt a d).1;omega)).other (j:=5) (B:=B) (u:=W (some ⟨L,0,none⟩) (ns.length+1) ab) (by omega);have aZ:=hid au;obtain⟨-,-,-,cq,-,-,-,-,-⟩:=au;refine(DB aZ.out (by omega)).mono ?_;rintro f dp ⟨rfl,g⟩;replace g:=g.symm;subst g)
         |(go_at_call 164;refine(Bs (pl:=pl) (r:=(P (5,Am s y):Pr (Av×List Ex))) ⟨_,aZ.out,by omega⟩ (λad ac e=>by cases e;omega) aM).mono ?_;rintro f ct ⟨rfl,ap,bc⟩;have aY:=hid ap;have bu:=hid bc;clear ap bc))
        refine⟨⟨false,P (5,Am s y),0,W none 0 0,W none 0 0,W none 0 0,[],rfl,?_,?_,?_,?_,?_⟩,?_⟩
        ·exact(((((ai.out.nf.trans (NF.cM aQ.out)).grown aj.out (λa d=>by have:=(aD.out.l.lt a d).1;omega)).set _).grown ak.out (λa d=>by have:=(D.out.p.lt a d).1;omega)).set _).trans (NF.cM bu.out)
        ·exact aY.out
        ·exact λad ac e=>by cases e;omega
        ·exact λad ac e=>by cases e;exact am.out
        ·exact λx ae e=>by cases e
        ·exact Cw (r:=(P (5,Am s y):Pr (Av×List Ex))) a4.out aG aY.out (λad ac e=>by cases e;omega) (λx ae e=>by cases e)
theorem Tryz.g8:(Acs.info? 139).map (λa=>(a.zero,a.size,a.bytes))=some (some (T #[V C 0,W none 0 0,W none 0 0,J none]),4,64):=by kernel_rfl
structure Cj (f:Nat) (a:Q) (d e:Nat) (av:X) (b:List (Nat×Av×Ex)) (c:List ((X×X×X)×Nat×Nat)):Prop where
 row:a.ownsRow (d+1) 139 4 av b.length (Ci c b)
 kids:Kids (Kh (RX f a) a) e a.heap.size c b
 lo:d+1<=e
 av:∀t∈c,∀g,av.ownBlock=some g->g<t.2.1\/t.2.2<=g
theorem Cj.nil(d:Nat)(c:Q)(b a:Nat)(f:a<=c.heap.size)(e:b+1<=a):Cj d c b a (W none 0 0) [] []:=⟨Ad1 _ _ _ _,f,e,λh g=>by cases g⟩
theorem Cj.dc(c:Cj w n v b m wq wl)(k:n.heap.size<=p.heap.size)(e:∀a,v+1<=a->a<n.heap.size->p.heap[a]?=n.heap[a]?):Cj w p v b m wq wl:=by
 have i:=c.lo;refine⟨Az c.row λl j=>?_,(Kids.mono c.kids λy z x o q s t h=>?_).up k,i,c.av⟩
 ·have d:=c.row.lt l (Ah.1 j);grind
 ·exact h.same (λa d f=>e a (by omega) (by omega)) λu r g=>g.same (λa d f=>e a (by omega) (by omega)) (by omega)
theorem Cj.ef{a:Nat}{w:Q}(e:Cj v w b d m wq wl)(c:EF a w n)(i:a<=b):Cj v n b d m wq wl:=
 e.dc c.size λg h f=>c.block g f (by omega)
theorem N8(a:wl.length=wq.length):
 Ci (wl++[((m,q,j),w,v)]) (wq++[ss])=Ci wl wq++[V C (ss.1:Int),m,q,j]:=by
 unfold Ci;rw[List.zip_append a,Ado];rfl
theorem Cj.push{w1:Q}{m:Nat}{k:X}{b:Nat×Av×Ex}{bd:X}{c x y:Nat}(f:Cj w n v m k wq wl)(af:v<n.heap.size)(ab:n.heap.size<=x)(ac:x<=y)(ad:y<=w1.heap.size)(aa:∀a,v+1<=a->a<n.heap.size->w1.heap[a]?=n.heap[a]?)(B:Kh (RX w w1) w1 x y (q,j,bd) b)(s:(w1.alloc nv).grownBy p k.ownBlock)(r:k.ownBlock=some c\/c=w1.heap.size+1)(t:p.ownsRow (v+1) 139 4 (W (some ⟨c,0,none⟩) (wq.length+1) d) (wq.length+1) (Ci wl wq++[V C (b.1:Int),q,j,bd])):
 Cj w (p.setCell ⟨v,7,none⟩ (W (some ⟨c,0,none⟩) (wq.length+1) d)) v m (W (some ⟨c,0,none⟩) (wq.length+1) d) (wq++[b]) (wl++[((q,j,bd),x,y)]):=by
 have ai:=s.size;have ah:(w1.alloc nv).heap.size=w1.heap.size+1:=by simp
 have N:=f.lo;have ag:=f.kids.le;have z:∀a,a<w1.heap.size->a≠v->some a≠k.ownBlock->(p.setCell ⟨v,7,none⟩ (W (some ⟨c,0,none⟩) (wq.length+1) d)).heap[a]?=w1.heap[a]?:=λa e g K=>by
  rw[Ac4 _ _ _ _ (show a≠v from g),s.block a (by omega) K,Ad3 w1 nv e]
 have O:=λH I=>(f.row.lt H I).2;refine⟨?_,?_,N,?_⟩
 ·rw[Adk,N8 f.kids.len];refine Az t λD u=>?_;rw[An,Ac9]at u;subst u;exact Ac4 _ _ _ _ (show D≠v by have:=(t.lt D rfl).1;omega)
 ·refine Kids.snoc (Kids.mono f.kids λx y aj l U B ad L=>?_) ab ac (by simp;omega) ?_
  ·have i:∀a,x<=a->a<y->(p.setCell ⟨v,7,none⟩ (W (some ⟨c,0,none⟩) (wq.length+1) d)).heap[a]?=n.heap[a]?:=λa e g=>by
    rw[z a (by omega) (by omega) (λl=>by have:=f.av _ U a l.symm;grind),aa a (by omega) (by omega)]
   exact L.same i λae Y o=>o.same (λa e g=>i a (by omega) g) (by simp;omega)
  ·have i:∀a,x<=a->a<y->(p.setCell ⟨v,7,none⟩ (W (some ⟨c,0,none⟩) (wq.length+1) d)).heap[a]?=w1.heap[a]?:=λa e g=>z a (by omega) (by omega) (λl=>by grind);exact B.same i λae Y o=>o.same (λa e g=>i a (by omega) g) (by simp;omega)
 ·intro E h G M;obtain rfl:c=G:=by simpa[Ad6]using M
  rcases Acz.1 h with h|h
  ·rcases r with e|e
   ·exact f.av E h c e
   ·have:=f.kids.mem E h;omega
  ·obtain rfl:=Ac9.1 h;rcases r with e|e
   ·left;show c<x;have:=O c e;omega
   ·right;show y<=c;omega
theorem WB(g:XN n v 7 0 ⟨#[]⟩ 0 (W none 0 0) (W none 0 0) m q)(e:n.ownsRow (v+1) 86 1 m 1 (na.map (·.1)))(f:Kids (RX (w+1) n) (v+1) b na [N])(a:Cj (w+1) n v b q wq wl):
 RX (w+2) n v n.heap.size (J (some ⟨v,0,none⟩)) (.case N wq):=by
 refine⟨v,_,_,m,q,na,wl,b,rfl,Acu _,Acu _,g,?_,?_⟩
 ·intro i h d c;rcases(by simpa using h) with rfl|rfl|rfl
  ·cases c
  ·exact(e.lt d c).2
  ·exact(a.row.lt d c).2
 ·exact⟨⟨Ad1 _ _ _ _,Ad1 _ _ _ _,Ads rfl⟩,e,f,a.row,a.kids⟩
theorem XN.alloc(a:XN n w we w7 s nk m q j f)(o:Obj):XN (n.alloc o) w we w7 s nk m q j f:=a.cK (Ad3 n o a.lt)
theorem TX.alloc{s:ByteArray}(a:TX n w s v b d x m q j)(o:Obj):TX (n.alloc o) w s v b d x m q j:=a.cK (Ad3 n o a.lt)
theorem Cj.alloc{m:Nat}{a:X}(b:Cj w n v m a wq wl)(o:Obj):Cj w (n.alloc o) v m a wq wl:=b.dc (by simp) λd _ c=>Ad3 n o c
theorem NF.alloc(a:NF w v n p)(o:Obj):NF w v n (p.alloc o):=a.trans ⟨rfl,rfl,rfl,by simp,λc b _ _=>Ad3 p o b⟩
structure B4 (b:Q) (a:Nat) (c d e g:X):Prop where
 c0:b.cell? ⟨a,0,none⟩=some c
 c1:b.cell? ⟨a,1,none⟩=some d
 c2:b.cell? ⟨a,2,none⟩=some e
 c3:b.cell? ⟨a,3,none⟩=some g
 f:∀j,j<4->b.frozen? ⟨a,j,none⟩=false
theorem B4.lt(a:B4 n w m q j f):w<n.heap.size:=Adt a.c0
theorem B4.new(w:Q)(a b c d:X)(f:Ad5):B4 (w.alloc (.cells #[a,b,c,d] f)) w.heap.size a b c d:=
 ⟨Ak w _ _ 0 _ rfl,Ak w _ _ 1 _ rfl,Ak w _ _ 2 _ rfl,Ak w _ _ 3 _ rfl,λe _=>Jh w _ _ e⟩
theorem B4.cK{g:X}(b:B4 n w m q j g)(e:p.heap[w]?=n.heap[w]?):B4 p w m q j g:=by
 have c:=λd=>Ac1 (a:=⟨w,d,none⟩) e;exact⟨by rw[c];exact b.c0,by rw[c];exact b.c1,by rw[c];exact b.c2,by rw[c];exact b.c3,λd h=>by rw[Adm e];exact b.f d h⟩
theorem B4.ef{a:Nat}{w:Q}{b:Nat}(c:B4 w b m q j f)(d:EF a w n)(e:b≠a):B4 n b m q j f:=c.cK (d.block b c.lt e)
theorem B4.db{g:X}(b:B4 n w m q j g)(e:X):B4 (n.setCell ⟨w,1,none⟩ e) w m e j g:=by
 have d:∀a,a≠1->(n.setCell ⟨w,1,none⟩ e).cell? ⟨w,a,none⟩=n.cell? ⟨w,a,none⟩:=λa c=>Acy _ _ _ _ (Au (Aa7 c));exact⟨by rw[d _ (by omega)];exact b.c0,Ac6 _ _ _ b.c1,by rw[d _ (by omega)];exact b.c2,by rw[d _ (by omega)];exact b.c3,λa c=>by rw[Ac3];exact b.f a c⟩
theorem B4.dJ{g:X}(b:B4 n w m q j g)(e:X):B4 (n.setCell ⟨w,2,none⟩ e) w m q e g:=by
 have d:∀a,a≠2->(n.setCell ⟨w,2,none⟩ e).cell? ⟨w,a,none⟩=n.cell? ⟨w,a,none⟩:=λa c=>Acy _ _ _ _ (Au (Aa7 c));exact⟨by rw[d _ (by omega)];exact b.c0,by rw[d _ (by omega)];exact b.c1,Ac6 _ _ _ b.c2,by rw[d _ (by omega)];exact b.c3,λa c=>by rw[Ac3];exact b.f a c⟩
theorem B4.HN{g:X}(b:B4 n w m q j g)(e:X):B4 (n.setCell ⟨w,3,none⟩ e) w m q j e:=by
 have d:∀a,a≠3->(n.setCell ⟨w,3,none⟩ e).cell? ⟨w,a,none⟩=n.cell? ⟨w,a,none⟩:=λa c=>Acy _ _ _ _ (Au (Aa7 c));exact⟨by rw[d _ (by omega)];exact b.c0,by rw[d _ (by omega)];exact b.c1,by rw[d _ (by omega)];exact b.c2,Ac6 _ _ _ b.c3,λa c=>by rw[Ac3];exact b.f a c⟩
theorem EF.dI{b j:Nat}{u:X}(a:EF w n p)(f:n.heap.size<=b):EF w n (p.setCell ⟨b,j,none⟩ u):=
 ⟨a.os,a.tape,a.output,by have:=a.size;simp;omega,λc e d=>by rw[Ac4 _ _ _ _ (show c≠b by omega)];exact a.block c e d⟩
theorem EF.alloc(a:EF w n p)(o:Obj):EF w n (p.alloc o):=a.trans ⟨rfl,rfl,rfl,by simp,λc b _=>Ad3 p o b⟩
theorem Dz(a:n.drew.grownBy p n9):n.grownBy p n9:=⟨a.os,a.tape,a.output,a.size,a.block⟩
def fl{a:Type}(c b:Nat)(d:Pr a):Pr a:=match d with|.ok _=>P (c,b)|P e=>P e
theorem G8{c a:Nat}{e:Pr wd}(d:Im w s e v b m q j n)(k:Mw e):
 Adg Acs 41 #[J (some ⟨w,0,none⟩),V C (c:Int),V C (a:Int)] n λg f=>g=F (R #[])/\Im w s (fl c a e) v b m q j f/\EF w n f:=by
 match e,d,k with
 |.ok (x,l),d,_=>
  refine(AR d.1).mono ?_;rintro g f ⟨h,i,o⟩;exact⟨h,⟨l,i,d.2⟩,o⟩
 |P (c',a'),d,k=>
  let ⟨l,h,i⟩:=d
  refine(Fk h (k c' a' rfl)).mono ?_;rintro g f ⟨p,r,t⟩;exact⟨p,⟨l,r,i⟩,t⟩
theorem Tu{b:Pr wd}(a:Mw b)(c:w≠0):Mw (fl w v b):=by
 match b,a with
 |.ok _,_=>intro e d a;cases a;exact c
 |P _,a=>exact a
def Hn(b:List (Nat×Av×Ex))(f:Int)(c e:Nat)(a:Pr (Nat×Nat)):Pr (Nat×Nat):=if (b.take e).any (λd=>decide ((d.1:Int)=f))=true then fl 5 c a else a
theorem XZ(a:Pr wd):fl b d (fl w v a)=fl w v a:=by
 match a with
 |.ok _=>rfl
 |P _=>rfl
theorem RU(b:List (Nat×Av×Ex))(d:Int)(c:Nat)(a:Pr (Nat×Nat)):Hn b d c 0 a=a:=rfl
theorem SO{n:Int}{at':Nat}{r:Pr (Nat×Nat)}(c:w<wq.length):Hn wq n at' (w+1) r=if (wq[w].1:Int)=n then fl 5 at' (Hn wq n at' w r) else Hn wq n at' w r:=by
 unfold Hn;rw[Ade c,Ahf];cases h1:(wq.take w).any (λb=>decide (b.1=n)) with
 |true=>
  by_cases a:wq[w].1=n
  ·simp[a,XZ]
  ·simp[a]
 |false=>
  simp
theorem Q7(a:Mw x5):Mw (Hn wq we w v x5):=by
 unfold Hn;split
 ·exact Tu a nofun
 exact a
theorem SM(d:wl.length=wq.length)(b:Nat)(e:b<wq.length):(Ci wl wq)[b*4]?=some (V C (wq[b].1:Int)):=by
 have c:=(C7 (λa:(((X×X×X)×Nat×Nat)×(Nat×Av×Ex))=>(V C a.2.1:X)) (λa=>a.1.1.1) (λa=>a.1.1.2.1) (λa=>a.1.1.2.2) (List.zip wl wq) b (by simp;omega)).1;unfold Ci;rw[c];simp
structure Aak (h k b:Nat) (d:ByteArray) (w y:Nat) (x s r:X) (z:Q) (p:Pr Ex) (wr:Q) (v:Bool) (e:Pr (List (Nat×Av×Ex))) (m:Nat) (j:Ex) (o f:X) (i:List (X×Nat×Nat)) (u:List ((X×X×X)×Nat×Nat)) (n:Nat):Prop where
 nf:NF k b z wr
 Lw:Im k d e w y x s r wr
 nz:Mw e
 er:∀c a,e=P (c,a)->p=P (c,a)
 ok:∀al q,e=.ok (al,q)->d.size+1<=m+q/\q<=d.size/\al.length<=q/\XN wr b 7 0 ⟨#[]⟩ 0 (W none 0 0) (W none 0 0) o f/\wr.ownsRow (b+1) 86 1 o 1 (i.map (·.1))/\Kids (RX (h+1) wr) (b+1) n i [j]/\(∀t∈i,∀g,f.ownBlock=some g->g<t.2.1\/t.2.2<=g)/\Cj (h+1) wr b n f al u/\
  p=if v=true then pb (C4 d (pE d h) m al q) (λl q2=>.ok (.case j l,q2)) else .ok (.case j al,q)
theorem SA{B:Nat}{s:ByteArray}{p pl:Nat}{aK:X}{aQ:Q}(cK:Iu w v s x)(d:TX aQ v s p x 0 pl m q aK)(aD:s.size<=2000)(ed:p<=s.size)(dS:v<B)(ct:XN aQ B 3 0 ⟨#[]⟩ 0 (W none 0 0) (W none 0 0) (W none 0 0) (W none 0 0)):
 Adg Acs 163 #[J (some ⟨v,0,none⟩),J (some ⟨B,0,none⟩)] aQ λl eo=>I5 w v B s (Da s (pE s w) p) x pl m q aK aQ l eo:=by
 have cC:=hid d;have c6:=hid ct;have dN:=ct.lt;have ca:=hid cK;obtain⟨a6,cz⟩:∃r,Da s (pE s w) p=r:=⟨_,rfl⟩;have aB:=hid cz;rw[cz];obtain⟨k0,df,aH,dg,bQ,bR,bS,bT,dj⟩:=ct;have ek:=dj 0 (by omega);clear d cz cK dj;go_enter Tryz.func163,Tryz.ntmps163;go_wp2_with (first
  |(go_at_call 160;refine(Ed ca.out (cC.out.other (by omega)) ed dS (c6.out.dA 7) ((AO.nil (w+1) aQ B dN).set (j:=0) (u:=V C 7)) (by simp)).mono ?_;rintro l bW ⟨rfl,cO,cH,cS⟩;have cf:=hid cO;have bX:=hid cH;have cE:=hid cS;clear cO cH cS))
 have d5:Hid (∃k aP bg,Aak w v B s x pl m q aK aQ a6 bW true (pb (pE s w p) λ_ K=>.ok ([],K)) (s.size+1) k bg (W none 0 0) aP [] bW.heap.size):=by
  have eh:=cf.out.size;simp at eh;have b1:=((NF.refl v B aQ).set _).trans (NF.d6 cf.out (λi f=>by cases f));have bf:=aB.out;unfold Da at bf;match ak:pE s w p,bf with
  |.ok (k,K),bf=>
   obtain⟨en,el,ap,aq,bc,e0⟩:=cE.out k K ak;have be:=bX.out;rw[ak]at be;refine⟨k,el,en,b1,be,λc a d=>(by cases d),λc a d=>(by cases d),λe al d=>?_⟩;cases d;exact⟨by omega,be.2,by simp,ap,aq.row,aq.kids,λt c0 i f=>(by cases f),Cj.nil _ _ _ _ (Acu _) (by omega),by rw[if_pos rfl,<-bf];rfl⟩
  |P (c,a),bf=>
   have be:=bX.out;rw[ak]at be;exact⟨.num 0,[],W none 0 0,b1,be,λN M d=>(by cases d;exact Jr s w p c a ak),λN M d=>(by cases d;exact bf.symm),λe al d=>(by cases d)⟩
 obtain⟨bV,bO,dc⟩:=Adb.1 Tryz.g8;simp only[Aeb]at dc;obtain⟨bL,bM,bN⟩:=dc;clear cf bX cE aB k0 df aH dg bQ bR bS bT ek cC c6;go_loopw [4] (λem wr=>∃b3 r aw k bg cG aP aX bU,em=A b3/\Hid (Aak w v B s x pl m q aK aQ a6 wr b3 r aw k bg cG aP aX bU)) (λ_ wr=>left s v wr)
 case atStart=>
  obtain⟨k,aP,bg,d⟩:=d5.out;exact⟨_,_,_,_,_,_,_,_,_,rfl,d⟩
 case round=>
  obtain⟨b3,r,aw,k,bg,cG,aP,aX,bU,rfl,ae⟩:=hrel;rename Q=>wr
  match r,ae with
  |P (c,a),ae=>
   obtain⟨K,cR,bI⟩:=ae.out.Lw;have af:=ae.out.nz c a rfl;have aC:=hid cR;have bG:((c:Int)==0)=false:=by grind
   obtain⟨dC,dD,dE,dG,dH,-,-,-,-⟩:=cR;have b6:=hid (ae.out.er c a rfl);cases b3;all_goals go_wp2
   all_goals first
    |(exfalso;omega)
    |(exfalso;simp_all;done)
    |(refine bE ?_
      exact⟨rfl,ae.out.nf,by rw[b6.out];exact⟨_,aC.out,bI⟩,λk al ak=>by rw[b6.out]at ak;cases ak⟩)
  |.ok (e,K),ae=>
   obtain⟨df,aH,dg,bQ,bR,bS,bT,dh,di⟩:=ae.out.ok e K rfl;have aC:=hid ae.out.Lw.1;have aU:=hid bQ;have b8:=hid bR;have cj:=hid bS;have c7:=hid bT;have a8:=hid dh;have b6:=hid di;clear bQ bR bS bT dh di;cases b3
   ·have aB:Hid (a6=.ok (.case k e,K)):=by grind
    go_wp2;refine bE ?_;refine⟨rfl,ae.out.nf,by rw[aB.out];exact ae.out.Lw,λes al ak=>?_⟩;rw[aB.out]at ak;cases ak;exact WB aU.out b8.out cj.out a8.out
   ·have aB:Hid (a6=pb (C4 s (pE s w) aw e K) (λaY am=>.ok (.case k aY,am))):=by grind
    obtain⟨aw,rfl⟩:∃dK,aw=dK+1:=⟨aw-1,by omega⟩;have d6:=hid (A6 (t:=Ax) aC.out aD aH);obtain⟨dC,dD,dE,dG,dH,-,-,-,-⟩:=id aC.out;match hw:Al s Ax K,d6 with
    |P (c,a),HWO1=>
     have aJ:Hid (a6=P (c,a)):=by show _=_;rw[aB.out,C4,hw];rfl
     have af:=A5 s _ K c a hw;have bG:((c:Int)==0)=false:=by grind
     clear hw aB;go_wp2_with (first
      |(go_at_call 37;refine HWO1.out.mono ?_;rintro l ep ⟨rfl,aM⟩;obtain⟨bt,am,bv,db⟩:=AN aM;have cd:=hid bt;have cm:=hid bv;obtain⟨co,bo,cp,bp,cq,-,-,-,-⟩:=bv;clear aM bt HWO1))
     all_goals first
      |(exfalso;omega)
      |(refine bE ?_
        exact⟨rfl,ae.out.nf.trans (NF.cM cd.out),by rw[aJ.out];exact⟨_,cm.out,db⟩,λk al ak=>by rw[aJ.out]at ak;cases ak⟩)
    |.ok (u,q1),HWO1=>
     have da:=Aj (s:=s) (t:=Ax) (by decide) K aH u q1 hw;have cD:=hid (λbW (d:TX bW v s q1 x 0 pl m q aK)=>ES (most:=255) d aD da.2);have d4:Hid (a6=pb (pb (Bt s 255 q1) λk am=>if e.any (λb=>decide (b.1=k.1))=true then P (5,k.2) else pb (Be s am) λai ar=>pb (pE s w ar) λl aI=>pb (Al s Ae aI) λ_ aj=>if Ag s aj=Ae then .ok (e++[(k.1,ai,l)],Bi s aj) else C4 s (pE s w) aw (e++[(k.1,ai,l)]) aj) (λaY am=>.ok (.case k aY,am))):=by
      show _=_;rw[aB.out,C4,hw,Ai]
     obtain⟨ba,bn,rfl⟩:=Ad a8.out.row;clear hw aB b6;go_wp2_with (first
      |(go_at_call 37;refine HWO1.out.mono ?_;rintro l ep ⟨rfl,aM⟩;obtain⟨bt,bv,db⟩:=AN aM;have cd:=hid bt;have cm:=hid bv;obtain⟨co,bo,cp,bp,cq,-,-,-,-⟩:=bv;clear aM bt HWO1)
      |(go_at_call 43;refine(cD.out _ cm.out).mono ?_;rintro l eA ⟨cM,cI,n,rfl,cX⟩;have d1:=hid (cd.out.trans cM);have dy:=hid cI;have ci:=hid cX;clear cM cI cX cD))
     go_loopw [7] (λc2 g=>∃h:Nat,h<=e.length/\c2=V C (h:Int)/\Hid (EF v wr g/\Im v s (Hn e n (Am s q1) h (Bt s 255 q1)) x pl m q aK g)) (λc2 _=>e.length-(intOf c2).toNat)
     case atStart=>exact⟨0,Ac0 _,rfl,d1.out,by rw[RU];exact dy.out⟩
     case round=>
      obtain⟨h,e5,rfl,ag⟩:=hrel;rename Q=>g
      have cv:=aU.out.ef ag.out.1 (by omega);have d7:=hid cv;have dI:=cv.c7;clear cv;by_cases cW:h<e.length
      ·have ez:(0:Int)<=(h:Int):=by omega
       have ap:(h:Int)<(e.length:Int):=by omega
       have bY:=hid (a8.out.ef ag.out.1 (by omega));obtain⟨bq,rfl⟩:∃bq,ba=some ⟨bq,0,none⟩:=by
        obtain⟨bq,ex,l,-⟩:=bY.out.row.form (by omega);exact⟨bq,by cases l;rfl⟩
       have dJ:g.cell? ⟨bq,h*4,none⟩=some (V C (e[h].1:Int)):=by
        have aq:=bY.out.row.cellAt (h*4) (by omega);rw[SM bY.out.kids.len h cW]at aq;exact aq
       have bl:=hid (SO (n:=n) (at':=Am s q1) (r:=Bt s 255 q1) cW);obtain⟨tk,dd⟩:∃tk,e[h].1=tk:=⟨_,rfl⟩;rw[dd]at dJ bl;clear dd;by_cases bz:(tk:Int)=n
       ·have bo:((tk:Int)==n)=true:=by rw[beq_iff_eq];exact bz
        rw[if_pos bz]at bl;have de:Mw (Hn e n (Am s q1) h (Bt s 255 q1)):=Q7 (FSa s 255 q1);have d8:=hid de;clear de bz;go_wp2_with (first
         |(go_at_call 41;refine(G8 (c:=5) (a:=Am s q1) ag.out.2 d8.out).mono ?_;rintro l aZ ⟨rfl,ax,aa⟩;have dz:=hid ax;have aR:=hid aa;clear ax aa))
        all_goals first
         |(exfalso;simp_all;done)
         |exact⟨⟨h+1,by omega,by go_num,ag.out.1.trans aR.out,by rw[bl.out];exact dz.out⟩,by simp[intOf];omega⟩
       ·have bo:((tk:Int)==n)=false:=by rw[beq_eq_false_iff_ne];exact bz
        rw[if_neg bz]at bl;go_wp2;all_goals first
         |exact⟨⟨h+1,by omega,by go_num,ag.out.1,by rw[bl.out];exact ag.out.2⟩,by simp[intOf];omega⟩
         |(exfalso;simp_all;done)
      ·have e4:¬(h:Int)<(e.length:Int):=by omega
       obtain rfl:h=e.length:=by omega
       have e2:v<g.heap.size:=by have ap:=aC.out.lt;have aq:=ag.out.1.size;omega
       have b0:g.heap.size≠v:=by omega
       have aN:v≠g.heap.size:=by omega
       have e1:=d7.out.lt;have ew:=λb4=>alloc_old g b4 _ _ _ dI;have aO:=ag.out.1.size;have bC:=d4.out;match hr2:Hn e n (Am s q1) e.length (Bt s 255 q1) with
       |P (c,a)=>
        obtain⟨ar,bx,bJ⟩:∃K,TX g v s K x c a m q aK/\K<=s.size:=by
         have d:=ag.out.2;rw[hr2]at d;exact d
        have bm:=hid bx;have bk:=hid bJ;obtain⟨co,bo,cp,bp,cq,-,-,-,-⟩:=bx;have af:=Q7 (FSa s 255 q1) c a hr2;have bG:((c:Int)==0)=false:=by rw[beq_eq_false_iff_ne];omega
        have aJ:Hid (a6=P (c,a)):=by
         show _=_;rw[bC];match f:Bt s 255 q1 with
         |P l=>
          rw[f]at hr2;unfold Hn at hr2;split at hr2
          ·cases hr2;rfl
          ·cases hr2;rfl
         |.ok (y,am)=>
          have bP:=(ci.out y am f).1;have dY:y.2=Am s q1:=by
           unfold Bt at f;split at f
           ·split at f
            ·cases f;rfl
            ·cases f
           ·cases f
          rw[f]at hr2;unfold Hn at hr2;rw[Ad9]at hr2;split at hr2
          ·rename_i cw
           cases hr2;have dX:e.any (λb=>decide (b.1=y.1))=true:=by
            rw[<-cw];congr 1
            funext b
            rw[bP];exact decide_eq_decide.2 (by omega)
           rw[Ai,if_pos dX,dY];rfl
          ·cases hr2
        have dA:=λb4=>alloc_old g b4 _ _ _ bp;have E:=hid (ag.out.1.alloc (Adi #[V C n,W none 0 0,W none 0 0,J none] 139));have L:=hid (a8.out.ef E.out (by omega));have an:=hid (aU.out.ef E.out (by omega));have aT:=hid (bm.out.alloc (Adi #[V C n,W none 0 0,W none 0 0,J none] 139));clear hr2 bC;go_wp2;go_region_law
         (first
         |(refine step_append_lies _ rfl (.tmp 85) (.tmp 87) 134 rfl (B+1) 139 bV _ 4 64 Tryz.underlying134 bO bL bM bN rfl (by omega) (W ba e.length bn) e.length (Ci aX e) (by first|rfl|(simp[Aef];done)|(simp[Aef,Act.put];done)) (L.out.row.alloc _) ⟨g.heap.size+1,0,none⟩ 1 1 [V C n,W none 0 0,W none 0 0,J none] (by first|rfl|(simp[Aef];done)|(simp[Aef,Act.put];done)) rfl (by have d:=Adu (Adp (g.alloc (Adi #[V C n,W none 0 0,W none 0 0,J none] 139)) (Adi #[V C n,W none 0 0,W none 0 0,J none] 139));simpa using d) (by intro u a5;simp at a5;rcases a5 with rfl|rfl|rfl|rfl<;>rfl) (by omega) (by unfold Aed;omega) (by omega) (by simp;omega) (g.heap.size+1+1) (by simp) ?_;intro ao aE c4 a4 a3 a2 cx;have Y:=Dz a3;clear a3;have b7:=hid a4;have a9:=hid Y;have bh:=hid a2;have U:=an.out.grown Y (λi f=>by have:=(L.out.row.lt i f).1;omega);have b9:=hid U;have cr:=U.c7;have cs:=U.f 7 (by omega);have ah:=(aT.out.grown Y (λi f=>by have:=(L.out.row.lt i f).1;omega)).other (j:=7) (B:=B) (u:=W (some ⟨ao,0,none⟩) (e.length+1) aE) (by omega);have aS:=hid ah;have c3:=ah.c3;clear a4 Y a2 U ah))
        all_goals
         go_wp2_with (first
          |(go_at_call 164;refine(Bs (pl:=pl) (r:=(P (c,a):Pr (List (Nat×Av×Ex)))) ⟨_,aS.out,bk.out⟩ (λN M d=>by cases d;exact af) aD).mono ?_;rintro l b5 ⟨rfl,O,az⟩;have au:=hid O;have av:=hid az;clear O az))
        all_goals first
         |(exfalso;omega)
         |skip
        all_goals
         refine⟨⟨false,P (c,a),0,.num 0,W none 0 0,W none 0 0,[],[],0,rfl,?_,?_,?_,?_,?_⟩,?_⟩
         ·exact(((ae.out.nf.trans (NF.cM E.out)).grown a9.out (λi f=>by have:=(L.out.row.lt i f).1;omega)).set _).trans (NF.cM av.out)
         ·exact au.out
         ·exact λN M d=>by cases d;exact af
         ·exact λN M d=>by cases d;exact aJ.out
         ·exact λk al d=>by cases d
         ·exact Cw (r:=(P (c,a):Pr (List (Nat×Av×Ex)))) aC.out aH au.out (λN M d=>by cases d;exact af) (λk al d=>by cases d)
       |.ok (y,ar)=>
        have bx:TX g v s ar x 0 pl m q aK:=by
         have d:=ag.out.2;rw[hr2]at d;exact d.1
        have bJ:ar<=s.size:=by
         have d:=ag.out.2;rw[hr2]at d;exact d.2
        have bm:=hid bx;have ck:=hid bJ;obtain⟨co,bo,cp,bp,cq,-,-,-,-⟩:=bx;have ee:Bt s 255 q1=.ok (y,ar)/\e.any (λb=>decide (b.1=y.1))=false:=by
         match f:Bt s 255 q1 with
         |P l=>
          rw[f]at hr2;unfold Hn at hr2;split at hr2
          ·cases hr2
          ·cases hr2
         |.ok (dt,am)=>
          have bP:=(ci.out dt am f).1;rw[f]at hr2;unfold Hn at hr2;rw[Ad9]at hr2;split at hr2
          ·cases hr2
          ·rename_i cw
           cases hr2;refine⟨rfl,?_⟩;rw[<-Bool.not_eq_true];intro d;apply cw;rw[<-d];congr 1
           funext b
           rw[bP];exact decide_eq_decide.2 (by omega)
        obtain⟨bH,cZ⟩:=ee;have cY:=ci.out y ar bH;have e3:=B7 q1 da.2 y ar bH;have d2:=hid cY.1;clear cY;have cl:Hid (a6=pb (pb (Be s ar) λai aI=>pb (pE s w aI) λl aj=>pb (Al s Ae aj) λ_ ad=>if Ag s ad=Ae then .ok (e++[(y.1,ai,l)],Bi s ad) else C4 s (pE s w) aw (e++[(y.1,ai,l)]) ad) (λaY am=>.ok (.case k aY,am))):=by
         show _=_;rw[bC,bH,Ai,if_neg (by rw[cZ];decide)]
        have dA:=λb4=>alloc_old g b4 _ _ _ bp;clear hr2 bC bH cZ;have eb:=BU ar bJ;match hnm:Be s ar with
        |P (c,a)=>
         have af:=FY s ar c a hnm;have bG:((c:Int)==0)=false:=by rw[beq_eq_false_iff_ne];omega
         have aJ:Hid (a6=P (c,a)):=by show _=_;rw[cl.out,hnm];rfl
         go_wp2_with (first
          |(go_at_call 82;refine(DM (bm.out.alloc _) aD ck.out).mono ?_;rintro bb aZ ⟨aa,ax,dq,dp,rfl,⟨⟨o,D,z,rfl⟩,⟨pa,I,H,rfl⟩⟩,a0⟩;rw[hnm]at ax a0;have aR:=hid aa;have ch:=hid a0;have G:=(B4.new g (V C n) (W none 0 0) (W none 0 0) (J none) 139).ef aa b0;have bi:=hid (((G.db (W o D z)).dJ (W pa I H)));have dk:=G.c1;have dl:=G.f 1 (by omega);have dm:=(G.db (W o D z)).c2;have dn:=(G.db (W o D z)).f 2 (by omega);have b2:=aa.size;simp at b2;have E:=hid ((((ag.out.1.alloc (Adi #[V C n,W none 0 0,W none 0 0,J none] 139)).trans aR.out).dI (b:=g.heap.size) (j:=1) (u:=(W o D z)) aO).dI (b:=g.heap.size) (j:=2) (u:=(W pa I H)) aO);obtain⟨aj,aL,cy⟩:=ax;have bk:=hid cy;have a1:=(aL.other (B:=g.heap.size) (j:=1) (u:=(W o D z)) aN).other (B:=g.heap.size) (j:=2) (u:=(W pa I H)) aN;have aT:=hid a1;have L:=hid (a8.out.ef E.out (by omega));have an:=hid (aU.out.ef E.out (by omega));have dr:=a1.c3;have ds:=an.out.c7;have ab:=bi.out;have du:=ab.c0;have dv:=ab.c1;have dw:=ab.c2;have dx:=ab.c3;have bs:=an.out.lt;simp at bs;clear a1 aL ab;clear aa a0 G))
         all_goals first|(exfalso;omega)|skip
         go_region_law
          (first
          |(refine step_append_lies _ rfl (.tmp 85) (.tmp 87) 134 rfl (B+1) 139 bV _ 4 64 Tryz.underlying134 bO bL bM bN rfl (by omega) (W ba e.length bn) e.length (Ci aX e) (by first|rfl|(simp[Aef];done)|(simp[Aef,Act.put];done)) (L.out.row.alloc _) ⟨aZ.heap.size,0,none⟩ 1 1 [V C n,(W o D z),(W pa I H),J none] (by first|rfl|(simp[Aef];done)|(simp[Aef,Act.put];done)) rfl (by have d:=Adu (Adp ((aZ.setCell ⟨g.heap.size,1,none⟩ (W o D z)).setCell ⟨g.heap.size,2,none⟩ (W pa I H)) (Adi #[V C n,(W o D z),(W pa I H),J none] 139));simpa using d) (by intro u a5;simp at a5;rcases a5 with rfl|rfl|rfl|rfl<;>rfl) (by omega) (by unfold Aed;omega) (by omega) (by simp;omega) (aZ.heap.size+1) (by simp) ?_;intro ao aE c4 a4 a3 a2 cx;have Y:=Dz a3;clear a3;have b7:=hid a4;have a9:=hid Y;have bh:=hid a2;have U:=an.out.grown Y (λi f=>by have:=(L.out.row.lt i f).1;omega);have b9:=hid U;have cr:=U.c7;have cs:=U.f 7 (by omega);have ah:=(aT.out.grown Y (λi f=>by have:=(L.out.row.lt i f).1;omega)).other (j:=7) (B:=B) (u:=W (some ⟨ao,0,none⟩) (e.length+1) aE) (by omega);have aS:=hid ah;have c3:=ah.c3;clear a4 Y a2 U ah))
         all_goals
          go_wp2_with (first
           |(go_at_call 164;refine(Bs (pl:=pl) (r:=(P (c,a):Pr (List (Nat×Av×Ex)))) ⟨_,aS.out,bk.out⟩ (λN M d=>by cases d;exact af) aD).mono ?_;rintro l b5 ⟨rfl,O,az⟩;have au:=hid O;have av:=hid az;clear O az))
         all_goals first
          |(exfalso;omega)
          |skip
         all_goals
          refine⟨⟨false,P (c,a),0,.num 0,W none 0 0,W none 0 0,[],[],0,rfl,?_,?_,?_,?_,?_⟩,?_⟩
          ·exact(((ae.out.nf.trans (NF.cM E.out)).grown a9.out (λi f=>by have:=(L.out.row.lt i f).1;omega)).set _).trans (NF.cM av.out)
          ·exact au.out
          ·exact λN M d=>by cases d;exact af
          ·exact λN M d=>by cases d;exact aJ.out
          ·exact λk al d=>by cases d
          ·exact Cw (r:=(P (c,a):Pr (List (Nat×Av×Ex)))) aC.out aH au.out (λN M d=>by cases d;exact af) (λk al d=>by cases d)
        |.ok (ai,aI)=>
         have cV:=eb ai aI hnm;have c8:=hid cV.2;have ea:=Dq s w aI cV.2;match hex:pE s w aI with
         |P (c,a)=>
          have af:=Jr s w aI c a hex;have bG:((c:Int)==0)=false:=by rw[beq_eq_false_iff_ne];omega
          have aJ:Hid (a6=P (c,a)):=by show _=_;rw[cl.out,hnm,Ai,hex];rfl
          go_wp2_with (first
           |(go_at_call 82;refine(DM (bm.out.alloc _) aD ck.out).mono ?_;rintro bb aZ ⟨aa,ax,dq,dp,rfl,⟨⟨o,D,z,rfl⟩,⟨pa,I,H,rfl⟩⟩,a0⟩;rw[hnm]at ax a0;have aR:=hid aa;have ch:=hid a0;have G:=(B4.new g (V C n) (W none 0 0) (W none 0 0) (J none) 139).ef aa b0;have bi:=hid (((G.db (W o D z)).dJ (W pa I H)));have dk:=G.c1;have dl:=G.f 1 (by omega);have dm:=(G.db (W o D z)).c2;have dn:=(G.db (W o D z)).f 2 (by omega);have b2:=aa.size;simp at b2;have E:=hid ((((ag.out.1.alloc (Adi #[V C n,W none 0 0,W none 0 0,J none] 139)).trans aR.out).dI (b:=g.heap.size) (j:=1) (u:=(W o D z)) aO).dI (b:=g.heap.size) (j:=2) (u:=(W pa I H)) aO);obtain⟨aL,cy⟩:=ax;have aV:=(aL.other (B:=g.heap.size) (j:=1) (u:=(W o D z)) aN).other (B:=g.heap.size) (j:=2) (u:=(W pa I H)) aN;have cn:=hid aV;have ce:=E;clear E;have dr:=aV.c3;clear aV aL;clear aa a0 G)
           |(go_at_call 83;refine(ca.out _ _ _ _ _ _ cn.out c8.out).mono ?_;rintro bb a7 ⟨ay,br,ac,rfl,aW⟩;rw[hex]at br aW;have c5:=hid ay;have cF:=hid aW;have aG:=bi.out.ef ay b0;have eu:=aG.c3;have ev:=aG.f 3 (by omega);have c1:=ay.size;simp at c1;have bZ:=hid (aG.HN (J ac));have E:=hid ((ce.out.trans ay).dI (b:=g.heap.size) (j:=3) (u:=J ac) aO);obtain⟨ad,bw,bK⟩:=br;have bk:=hid bK;have a1:=bw.other (B:=g.heap.size) (j:=3) (u:=J ac) aN;have aT:=hid a1;clear bw;have L:=hid (a8.out.ef E.out (by omega));have an:=hid (aU.out.ef E.out (by omega));have et:=a1.c3;have ds:=an.out.c7;have ab:=bZ.out;have du:=ab.c0;have dv:=ab.c1;have dw:=ab.c2;have dx:=ab.c3;have bs:=an.out.lt;simp at bs;clear a1 ab ay aW aG))
          all_goals first|(exfalso;omega)|skip
          go_region_law
           (first
           |(refine step_append_lies _ rfl (.tmp 85) (.tmp 87) 134 rfl (B+1) 139 bV _ 4 64 Tryz.underlying134 bO bL bM bN rfl (by omega) (W ba e.length bn) e.length (Ci aX e) (by first|rfl|(simp[Aef];done)|(simp[Aef,Act.put];done)) (L.out.row.alloc _) ⟨a7.heap.size,0,none⟩ 1 1 [V C n,(W o D z),(W pa I H),J ac] (by first|rfl|(simp[Aef];done)|(simp[Aef,Act.put];done)) rfl (by have d:=Adu (Adp (a7.setCell ⟨g.heap.size,3,none⟩ (J ac)) (Adi #[V C n,(W o D z),(W pa I H),J ac] 139));simpa using d) (by intro u a5;simp at a5;rcases a5 with rfl|rfl|rfl|rfl<;>rfl) (by omega) (by unfold Aed;omega) (by omega) (by simp;omega) (a7.heap.size+1) (by simp) ?_;intro ao aE c4 a4 a3 a2 cx;have Y:=Dz a3;clear a3;have b7:=hid a4;have a9:=hid Y;have bh:=hid a2;have U:=an.out.grown Y (λi f=>by have:=(L.out.row.lt i f).1;omega);have b9:=hid U;have cr:=U.c7;have cs:=U.f 7 (by omega);have ah:=(aT.out.grown Y (λi f=>by have:=(L.out.row.lt i f).1;omega)).other (j:=7) (B:=B) (u:=W (some ⟨ao,0,none⟩) (e.length+1) aE) (by omega);have aS:=hid ah;have c3:=ah.c3;clear a4 Y a2 U ah))
          all_goals
           go_wp2_with (first
            |(go_at_call 164;refine(Bs (pl:=pl) (r:=(P (c,a):Pr (List (Nat×Av×Ex)))) ⟨_,aS.out,bk.out⟩ (λN M d=>by cases d;exact af) aD).mono ?_;rintro l b5 ⟨rfl,O,az⟩;have au:=hid O;have av:=hid az;clear O az))
          all_goals first
           |(exfalso;omega)
           |skip
          all_goals
           refine⟨⟨false,P (c,a),0,.num 0,W none 0 0,W none 0 0,[],[],0,rfl,?_,?_,?_,?_,?_⟩,?_⟩
           ·exact(((ae.out.nf.trans (NF.cM E.out)).grown a9.out (λi f=>by have:=(L.out.row.lt i f).1;omega)).set _).trans (NF.cM av.out)
           ·exact au.out
           ·exact λN M d=>by cases d;exact af
           ·exact λN M d=>by cases d;exact aJ.out
           ·exact λk al d=>by cases d
           ·exact Cw (r:=(P (c,a):Pr (List (Nat×Av×Ex)))) aC.out aH au.out (λN M d=>by cases d;exact af) (λk al d=>by cases d)
         |.ok (l,aj)=>
          have cU:=ea l aj hex;have d3:=hid cU.2;have c9:Hid (a6=pb (pb (Al s Ae aj) λ_ ad=>if Ag s ad=Ae then .ok (e++[(y.1,ai,l)],Bi s ad) else C4 s (pE s w) aw (e++[(y.1,ai,l)]) ad) (λaY am=>.ok (.case k aY,am))):=by show _=_;rw[cl.out,hnm,Ai,hex,Ai]
          go_wp2_with (first
           |(go_at_call 82;refine(DM (bm.out.alloc _) aD ck.out).mono ?_;rintro bb aZ ⟨aa,ax,dq,dp,rfl,⟨⟨o,D,z,rfl⟩,⟨pa,I,H,rfl⟩⟩,a0⟩;rw[hnm]at ax a0;have aR:=hid aa;have ch:=hid a0;have G:=(B4.new g (V C n) (W none 0 0) (W none 0 0) (J none) 139).ef aa b0;have bi:=hid (((G.db (W o D z)).dJ (W pa I H)));have dk:=G.c1;have dl:=G.f 1 (by omega);have dm:=(G.db (W o D z)).c2;have dn:=(G.db (W o D z)).f 2 (by omega);have b2:=aa.size;simp at b2;have E:=hid ((((ag.out.1.alloc (Adi #[V C n,W none 0 0,W none 0 0,J none] 139)).trans aR.out).dI (b:=g.heap.size) (j:=1) (u:=(W o D z)) aO).dI (b:=g.heap.size) (j:=2) (u:=(W pa I H)) aO);obtain⟨aL,cy⟩:=ax;have aV:=(aL.other (B:=g.heap.size) (j:=1) (u:=(W o D z)) aN).other (B:=g.heap.size) (j:=2) (u:=(W pa I H)) aN;have cn:=hid aV;have ce:=E;clear E;have dr:=aV.c3;clear aV aL;clear aa a0 G)
           |(go_at_call 83;refine(ca.out _ _ _ _ _ _ cn.out c8.out).mono ?_;rintro bb a7 ⟨ay,br,ac,rfl,aW⟩;rw[hex]at br aW;have c5:=hid ay;have cF:=hid aW;have aG:=bi.out.ef ay b0;have eu:=aG.c3;have ev:=aG.f 3 (by omega);have c1:=ay.size;simp at c1;have bZ:=hid (aG.HN (J ac));have E:=hid ((ce.out.trans ay).dI (b:=g.heap.size) (j:=3) (u:=J ac) aO);obtain⟨bw,bK⟩:=br;have a1:=bw.other (B:=g.heap.size) (j:=3) (u:=J ac) aN;have aT:=hid a1;clear bw;have L:=hid (a8.out.ef E.out (by omega));have an:=hid (aU.out.ef E.out (by omega));have et:=a1.c3;have ds:=an.out.c7;have ab:=bZ.out;have du:=ab.c0;have dv:=ab.c1;have dw:=ab.c2;have dx:=ab.c3;have bs:=an.out.lt;simp at bs;clear a1 ab ay aW aG))
          all_goals first|(exfalso;omega)|skip
          go_region_law
           (first
           |(refine step_append_lies _ rfl (.tmp 85) (.tmp 87) 134 rfl (B+1) 139 bV _ 4 64 Tryz.underlying134 bO bL bM bN rfl (by omega) (W ba e.length bn) e.length (Ci aX e) (by first|rfl|(simp[Aef];done)|(simp[Aef,Act.put];done)) (L.out.row.alloc _) ⟨a7.heap.size,0,none⟩ 1 1 [V C n,(W o D z),(W pa I H),J ac] (by first|rfl|(simp[Aef];done)|(simp[Aef,Act.put];done)) rfl (by have d:=Adu (Adp (a7.setCell ⟨g.heap.size,3,none⟩ (J ac)) (Adi #[V C n,(W o D z),(W pa I H),J ac] 139));simpa using d) (by intro u a5;simp at a5;rcases a5 with rfl|rfl|rfl|rfl<;>rfl) (by omega) (by unfold Aed;omega) (by omega) (by simp;omega) (a7.heap.size+1) (by simp) ?_;intro ao aE c4 a4 a3 a2 cx;have Y:=Dz a3;clear a3;have b7:=hid a4;have a9:=hid Y;have bh:=hid a2;have U:=an.out.grown Y (λi f=>by have:=(L.out.row.lt i f).1;omega);have b9:=hid U;have cr:=U.c7;have cs:=U.f 7 (by omega);have ah:=(aT.out.grown Y (λi f=>by have:=(L.out.row.lt i f).1;omega)).other (j:=7) (B:=B) (u:=W (some ⟨ao,0,none⟩) (e.length+1) aE) (by omega);have aS:=hid ah;have c3:=ah.c3;clear a4 Y a2 U ah))
          all_goals
           go_wp2_with (first
            |(go_at_call 37;refine(A6 (t:=Ae) aS.out aD d3.out).mono ?_;rintro bb eB ⟨rfl,aM⟩;obtain⟨cN,cJ⟩:=AN aM;have bj:=hid cN;have d0:=hid cJ;clear aM cN cJ)
            |(go_at_call 164;refine(Bs (r:=(pb (Al s Ae aj) λ_ K=>(.ok (e++[(y.1,ai,l)],K):Pr (List (Nat×Av×Ex))))) (EK d0.out (Iw _ _)) (F7 (A5 s _ aj) _) aD).mono ?_;rintro bb b5 ⟨rfl,O,az⟩;have au:=hid O;have av:=hid az;clear O az))
          all_goals
           have ei:=a9.out.size;simp at ei;have ej:=bj.out.size;simp at ej;have e8:=av.out.size;have b1:=((((ae.out.nf.trans (NF.cM E.out)).grown a9.out (λi f=>by have:=(L.out.row.lt i f).1;omega)).set _).trans (NF.cM bj.out)).trans (NF.cM av.out);have bB:=(ch.out ai aI rfl).1;rw[World.size_alloc]at bB;have dT:=cF.out l aj rfl;have dL:Kh (RX (w+1) (a7.setCell ⟨g.heap.size,3,none⟩ (J ac))) (a7.setCell ⟨g.heap.size,3,none⟩ (J ac)) (g.heap.size+1) a7.heap.size (W o D z,W pa I H,J ac) (y.1,ai,l):=by
            refine⟨(((bB.set (by omega)).set (by omega)).ef c5.out (by omega)).set (by omega),aZ.heap.size,by omega,by omega,λi f=>(bB.l.lt i f).2,λi f=>(bB.p.lt i f).2,?_⟩;have ap:=dT;rw[World.size_setCell,World.size_setCell]at ap;exact ap.same (λh aq bc=>Ac4 _ _ _ _ (show h≠g.heap.size by omega)) (by simp)
           have dM:=(((a8.out.push (b:=(y.1,ai,l)) (by have:=aU.out.lt;omega) (show wr.heap.size<=g.heap.size+1 by omega) (by omega) (by simp) (λh ap aq=>E.out.block h aq (by omega)) dL a9.out (by simpa using bh.out) (by rw[<-d2.out];exact b7.out)).ef bj.out (by omega)).ef av.out (by omega));have dV:=((b9.out.fZ (W (some ⟨ao,0,none⟩) (e.length+1) aE)).ef bj.out (by omega)).ef av.out (by omega);have cQ:∀h,B+1<=h->h<wr.heap.size->(W ba e.length bn).ownBlock≠some h->b5.heap[h]?=wr.heap[h]?:=λh ap aq bc=>by
            rw[av.out.block h (by omega) (by omega),bj.out.block h (by simp;omega) (by omega),Ac4 _ _ _ _ (show h≠B by omega),a9.out.block h (by simp;omega) (λd=>bc d.symm),Ad3 _ _ (by simp;omega),E.out.block h aq (by omega)]
           have dR:=Az b8.out λK bI=>by
            have ap:=b8.out.lt K (Ah.1 bI);exact cQ K ap.1 ap.2 (Fj b8.out a8.out.row (by decide) K (Ah.1 bI))
           have e6:=a8.out.kids.le;have dQ:Kids (RX (w+1) b5) (B+1) bU aP [k]:=Kids.mono cj.out λes dt e9 ey ec ak bP dO=>dO.same (λh ap aq=>cQ h (by omega) (by omega) (λd=>by have:=c7.out _ ec h d;simp at this;omega)) (by omega);have dP:∀t∈aP,∀i,(W (some ⟨ao,0,none⟩) (e.length+1) aE).ownBlock=some i->i<t.2.1\/t.2.2<=i:=by
            intro t c0 i f;obtain rfl:ao=i:=by simpa[Ad6]using f
            rcases bh.out with bc|bc
            ·exact c7.out t c0 ao bc
            ·have:=cj.out.mem t c0;right;omega
           have O:=au.out;have dZ:=Aj (s:=s) (t:=Ae) (by decide) aj cU.2;have bu:=c9.out;clear au c9;match hwc:Al s Ae aj,O,bu with
           |P (c,a),O,bu=>
            have af:=A5 s _ aj c a hwc;refine⟨⟨false,P (c,a),0,.num 0,W none 0 0,W none 0 0,[],[],0,rfl,b1,O,λN M d=>by cases d;exact af,λN M d=>by cases d;rw[bu];rfl,λk al d=>by cases d⟩,?_⟩;exact Cw (r:=(P (c,a):Pr (List (Nat×Av×Ex)))) aC.out aH O (λN M d=>by cases d;exact af) (λk al d=>by cases d)
           |.ok (u2,ad),O,bu=>
            have bK:=dZ u2 ad hwc;have e7:=AX s ad;have eg:=A8 (s:=s) (p:=ad) bK.2;refine⟨⟨B9 s ad,.ok (e++[(y.1,ai,l)],Bi s ad),aw,k,bg,W (some ⟨ao,0,none⟩) (e.length+1) aE,aP,aX++[((W o D z,W pa I H,J ac),g.heap.size+1,a7.heap.size)],bU,rfl,b1,O,λN M d=>(by cases d),λN M d=>(by cases d),λd9 al d=>?_⟩,?_⟩;rotate_left
            ·exact Cw (r:=(.ok (e++[(y.1,ai,l)],ad):Pr (List (Nat×Av×Ex)))) aC.out aH O (λN M d=>(by cases d)) (λd9 al d=>by cases d;omega)
            ·cases d;refine⟨by omega,eg,by simp;omega,dV,dR,dQ,dP,dM,?_⟩;rw[bu,Ai];by_cases bD:Ag s ad=Ae
             ·rw[if_pos bD,Ai,if_neg (by simp[B9,bD])]
             ·rw[if_neg bD,if_pos (by simp[B9,bD]),Wx aw _ ad (by omega)]
structure V8 (e d c:Nat) (m:ByteArray) (j l:Nat) (k g f:X) (h i:Int) (a:Pr (List Ex)) (b:Q):Prop where
 Lw:Im d m a j l k g f b
 nz:Mw a
 ok:∀got q,a=.ok (got,q)->got.length<=q/\∃pv kp,XN b c h i ⟨#[]⟩ 0 (W none 0 0) (W none 0 0) pv (W none 0 0)/\AO (e+1) b c pv got kp
def C9(f:ByteArray)(a:Nat)(e:Pr (List Ex)):Pr (List Ex):=pb e λb c=>pb (pE f a c) λg d=>.ok (b++[g],d)
theorem Us(e:Mw vt):Mw (C9 s w vt):=by
 intro b a h;rcases Af h with c|⟨j,i,c,f⟩
 ·exact e b a c
 ·rcases Af f with d|⟨l,k,d,g⟩
  ·exact Jr s w i b a d
  ·cases g
theorem LO(D:Iu w v s d)(U:s.size<=2000)(E:v<b)(e:V8 w v b s d x m q j we w7 vt n):
 Adg Acs 160 #[J (some ⟨v,0,none⟩),J (some ⟨b,0,none⟩)] n λl i=>l=F (R #[])/\NF v b n i/\V8 w v b s d x m q j we w7 (C9 s w vt) i:=by
 match vt,e with
 |P (c,a),e=>
  let ⟨h,g,r⟩:=e.Lw
  refine(DB g (e.nz c a rfl)).mono ?_;rintro l i ⟨u,rfl⟩;exact⟨u,NF.refl _ _ _,e.Lw,e.nz,λo f p=>by cases p⟩
 |.ok (o,h),e=>
  obtain⟨u,ad,Y,I,y⟩:=e.ok o h rfl;have t:=e.Lw.2;refine(Ed D e.Lw.1 t E I y (by omega)).mono ?_;rintro l i ⟨K,L,M,N⟩;refine⟨K,NF.d6 L (λz G=>by have:=(y.row.lt z G).1;omega),EK M (Iw _ _),Us e.nz,λB f p=>?_⟩;have H:pb (pE s w h) (λk f=>(.ok (o++[k],f)))=.ok (B,f):=p;let ⟨k,af,g,r⟩:=Ac H
  cases r;obtain⟨ae,aa,ab,ac,-⟩:=N k f g;have O:=Dq s w h t k f g;grind
theorem Rx(i:s.size<=2000)(z:v<b)(a:V8 w v b s d x m q j we w7 vt n):
 Adg Acs 164 #[J (some ⟨v,0,none⟩)] n λg f=>g=F (A (mr s vt))/\NF v b n f/\V8 w v b s d x m q j we w7 (ZE s vt) f:=by
 refine(Bs a.Lw a.nz i).mono ?_;rintro g f ⟨p,r,e⟩;refine⟨p,NF.cM e,r,?_,λh D c=>?_⟩
 ·match vt,a with
  |.ok _,_=>intro y u c;cases c
  |P _,a=>exact a.nz
 ·match vt,a,c with
  |.ok (got',q'),a,c=>
   cases c;obtain⟨B,t,o,k,l⟩:=a.ok h q' rfl;have:=AX s q';exact⟨by omega,t,o,k.ef e (by omega),l.ef e (by omega)⟩
theorem V8.rx(f:V8 w v b s d x m q j we w7 vt n){a:List Ex}{c:Nat}(r:vt=.ok (a,c)){e:Ex}(g:xK e=we)(o:xN e=w7)(h:xNm e=⟨#[]⟩)(i:xPl e=0)(k:GM e=[])(l:DJ e=[])(p:Bd e=a):
 RX (w+2) n b n.heap.size (J (some ⟨b,0,none⟩)) e:=by
 obtain⟨-,z,y,t,u⟩:=f.ok a c r;exact Oe (by rw[g,o];exact t) h i k l (by rw[p];exact u)
theorem OP(b:w<6)(e:∀a (d:a<w),s≠E0[a]'(by show a<6;omega))(c:s=E0[w]'b):CC s=some w:=by
 unfold CC;rw[Abw];refine⟨b,by simp[c],λa d=>?_⟩;grind
theorem Nq(c:∀a (b:a<6),s≠E0[a]'b):CC s=none:=by
 unfold CC;rw[List.findIdx?_eq_none_iff];intro e d;obtain⟨a,b,rfl⟩:=Aa5 d;simpa using c a b
theorem XN.new(w:Q)(d e:Int)(f:ByteArray)(g:Int)(c b h a:X):XN (w.alloc (.cells #[V C d,V C e,S f,V C g,c,b,h,a] 136)) w.heap.size d e f g c b h a:=
 ⟨Ak w _ _ 0 _ rfl,Ak w _ _ 1 _ rfl,Ak w _ _ 2 _ rfl,Ak w _ _ 3 _ rfl,Ak w _ _ 4 _ rfl,Ak w _ _ 5 _ rfl,Ak w _ _ 6 _ rfl,Ak w _ _ 7 _ rfl,λi _=>Jh w _ _ i,_,Adp w _⟩
theorem Z7(d:ByteArray)(c k i:Nat)(b:Pr Ex)(m:b=pb (pE d c i) λe j=>pb (pE d c j) λb l=>.ok (.op k e b,l)):
 fg b=fg (C9 d c (C9 d c (.ok ([],i))))/\∀h g,b=.ok (h,g)->∃e b,h=.op k e b/\C9 d c (C9 d c (.ok ([],i)))=.ok ([e,b],g):=by
 subst m;unfold C9;rw[Ai];cases pE d c i with
 |error _=>exact⟨rfl,λh g f=>by cases f⟩
 |ok a=>
  let ⟨e,j⟩:=a
  rw[Ai,Ai,Ai];cases pE d c j with
  |error _=>exact⟨rfl,λh g f=>by cases f⟩
  |ok a=>
   let ⟨b,l⟩:=a
   exact⟨rfl,λh g f=>by cases f;exact⟨e,b,rfl,rfl⟩⟩
theorem WY(c:ByteArray)(b d:Nat)(f:List Ex->Nat->Pr Ex):(pb (pE c b d) λh e=>pb (pE c b e) λi g=>f [h,i] g)=pb (C9 c b (C9 c b (.ok ([],d)))) f:=by
 unfold C9;rw[Ai];cases pE c b d with
 |error _=>rfl
 |ok a=>
  let ⟨j,e⟩:=a
  rw[Ai,Ai,Ai];cases pE c b e with
  |error _=>rfl
  |ok a=>rfl
theorem D8{tt t:ByteArray}{l:List UInt8}(a:t.toList=l):(tt.toList==l)=decide (tt=t):=by
 by_cases b:tt=t
 ·grind
 ·have c:(tt.toList==l)=false:=by
   rw[beq_eq_false_iff_ne,<-a];exact λa=>b (Bl a)
  rw[c];simp[b]
structure Mz (e d c:Nat) (a:ByteArray) (i k:Nat) (j h g:X) (n:Q) (m:Pr Ex) (wr:Q) (mv:X) (b:Pr (List Ex)) (f:Nat):Prop where
 nf:NF d c n wr
 mv:mv=A (mr a b)
 st:V8 e d c a i k j h g 3 0 (ZE a b) wr
 nz:Mw b
 fu:∀got q,b=.ok (got,q)->a.size+1<=f+q/\q<=a.size
 eq:m=pb b λgot q=>pb (BS a (pE a e) f got q) λl q3=>.ok (.call l,q3)
theorem Mz.done{p:X}{wr:Q}(t:Mz w v b s d x m p j n sa wr f vt K)(k:mr s vt=false)(B:b=n.heap.size):
 K2 (w+1) v s sa d x m p j n (F (J (some ⟨b,0,none⟩))) wr:=by
 obtain⟨l,-,g,z,i,h⟩:=t;match vt,k,g,i,h with
 |.ok (got,q),k,g,i,h=>
  obtain⟨r,D⟩:=i got q rfl;have e:sa=.ok (.call got,Bi s q):=by
   rw[h,Ai];match K,r with
   |K+1,_=>rw[BS,if_pos (Yl k)];rfl
   |0,r=>omega
  refine⟨l.ef (by omega),by rw[e];exact g.Lw,_,rfl,λy u o=>?_⟩;have o:=g.rx rfl (e:=.call got) rfl rfl rfl rfl rfl rfl rfl;grind
 |P (c,a),_,g,_,h=>
  have e:sa=P (c,a):=h;exact⟨l.ef (by omega),by rw[e];exact g.Lw,_,rfl,λy u o=>by grind⟩
theorem PY(ba:Iu w v s d)(c:TX n v s b d 0 x m q j)(G:s.size<=2000)(aG:b<=s.size):
 Adg Acs 113 #[J (some ⟨v,0,none⟩)] n λe b4=>K2 (w+1) v s (AY s (pE s w) b) d x m q j n e b4:=by
 have O:=c.lt;have aX:=hid c;have af:=hid ba;have a5:=hid (λL (c:TX L v s b d 0 x m q j)=>CQ c G aG);obtain⟨tt,aK⟩:∃tt,Ag s b=tt:=⟨_,rfl⟩;have aZ:=hid aK;unfold BO at a5;rw[aK]at a5;clear c ba aK;go_enter Tryz.func113,Tryz.ntmps113;go_wp2_with (first
  |(go_at_call 40;refine(a5.out _ (aX.out.alloc _)).mono ?_;rintro e L ⟨rfl,bh,bb⟩;have aY:=hid bh;have a6:=hid bb;clear bh bb a5))
 have ad:n.heap.size≠v:=by omega
 have ai:Hid (XN (L.alloc (Adi #[S ⟨#[43]⟩,S ⟨#[45]⟩,S ⟨#[42]⟩,S ⟨#[47]⟩,S ⟨#[61]⟩,S ⟨#[60]⟩] 9)) n.heap.size 3 0 ⟨#[]⟩ 0 (.slice none 0 0) (.slice none 0 0) (.slice none 0 0) (.slice none 0 0)):=((XN.new n 3 0 ⟨#[]⟩ 0 (.slice none 0 0) (.slice none 0 0) (.slice none 0 0) (.slice none 0 0)).ef a6.out ad).alloc _;have am:Hid (TX (L.alloc (Adi #[S ⟨#[43]⟩,S ⟨#[45]⟩,S ⟨#[42]⟩,S ⟨#[47]⟩,S ⟨#[61]⟩,S ⟨#[60]⟩] 9)) v s (Bi s b) d 0 x m q j):=aY.out.alloc _;have al:Hid (NF v n.heap.size n (L.alloc (Adi #[S ⟨#[43]⟩,S ⟨#[45]⟩,S ⟨#[42]⟩,S ⟨#[47]⟩,S ⟨#[61]⟩,S ⟨#[60]⟩] 9))):=NF.cM ((((EF.refl v n).alloc _).trans a6.out).alloc _);have bn:Hid (∀a (aD:a<6),(L.alloc (Adi #[S ⟨#[43]⟩,S ⟨#[45]⟩,S ⟨#[42]⟩,S ⟨#[47]⟩,S ⟨#[61]⟩,S ⟨#[60]⟩] 9)).cell? ⟨L.heap.size,a,none⟩=some (S (E0[a]'aD))):=by
  intro a aD;rcases(show a=0\/a=1\/a=2\/a=3\/a=4\/a=5 by omega) with rfl|rfl|rfl|rfl|rfl|rfl<;>simp[E0]
 generalize L.alloc (Adi #[S ⟨#[43]⟩,S ⟨#[45]⟩,S ⟨#[42]⟩,S ⟨#[47]⟩,S ⟨#[61]⟩,S ⟨#[60]⟩] 9)=W at*;clear a6 aY aX;have bk:=A8 aG;go_loopw [7] (λaM wr=>∃a:Nat,a<=6/\aM=V C (a:Int)/\wr=W/\Hid (∀i (ac:i<a) (ay:i<6),tt≠E0[i]'ay)) (λaM _=>6-(intOf aM).toNat)
 case atStart=>exact⟨0,by omega,rfl,rfl,λi ac=>by omega⟩
 case round=>
  obtain⟨a,aD,rfl,aL,a7⟩:=hrel;replace aL:=aL.symm
  subst aL;have u:=hid (λL (c:TX L v s (Bi s b) d 0 x m q j)=>BL c G bk);unfold BO at u;rw[DZ]at u;have az:=AK aG;by_cases aE:a<6
  ·have bB:(0:Int)<=(a:Int):=by omega
   have ap:(a:Int)<6:=by omega
   have bv:=bn.out a aE;obtain⟨rk,aI⟩:∃H,E0[a]'aE=H:=⟨_,rfl⟩;have aV:=hid aI;rw[aI]at bv;clear aI;by_cases ar:tt=rk
   ·have bz:(tt.toList==rk.toList)=true:=by rw[ar];simp
    have a9:Hid (CC tt=some a):=OP aE (λi ac=>a7.out i ac (by omega)) (ar.trans aV.out.symm);have z:Hid (AY s (pE s w) b=pb (pE s w (AC s b)) λl aN=>pb (pE s w aN) λH b2=>.ok (.op a l H,b2)):=by
     show _=_;unfold AY;rw[aZ.out,a9.out]
    clear ar;go_wp2_with (first
     |(go_at_call 39;refine(u.out _ am.out).mono ?_;rintro e a4 ⟨rfl,k,f⟩;have M:=hid k;have aq:=ai.out.ef f ad;have K:=hid aq;have b6:=aq.c0;have b7:=aq.f 0 (by omega);have h:=(aq.dA 8).c1;have b8:=(aq.dA 8).f 1 (by omega);have g:=hid (((al.out.trans (NF.cM f)).set (o:=0) (V C 8)).set (o:=1) (V C (9+(a:Int))));have r:Hid (V8 w v n.heap.size s d x m q j 8 (9+(a:Int)) (.ok ([],AC s b)) ((a4.setCell ⟨n.heap.size,0,none⟩ (V C 8)).setCell ⟨n.heap.size,1,none⟩ (V C (9+(a:Int))))):=(by refine⟨⟨(M.out.other (Aa7 ad)).other (Aa7 ad),az⟩,λbu aC c=>(by cases c),λY p c=>?_⟩;cases c;exact⟨Ac0 _,_,[],(K.out.dA 8).fy (9+(a:Int)),AO.nil _ _ _ (by have:=K.out.lt;simp;omega)⟩);clear k f aq u)
     |(go_at_call 160;refine(LO af.out G O r.out).mono ?_;rintro e bm ⟨rfl,aa,ab⟩;have av:=hid (g.out.trans aa);have aw:=hid ab;clear g r aa ab;have g:=av;have r:=aw;clear av aw))
    all_goals first
     |(exfalso;simp_all;done)
     |skip
    go_ret;rw[z.out];obtain⟨ap,ax⟩:=Z7 s w a (AC s b) _ rfl;refine⟨g.out.ef (Acu _),EK r.out.Lw ap,_,rfl,λaj p U=>?_⟩;obtain⟨l,H,rfl,bx⟩:=ax aj p U;exact r.out.rx bx (e:=.op a l H) rfl rfl rfl rfl rfl rfl rfl
   ·have bz:(tt.toList==rk.toList)=false:=by rw[beq_eq_false_iff_ne];exact λc=>ar (Bl c)
    have bq:Hid (∀i (ac:i<a+1) (ay:i<6),tt≠E0[i]'ay):=by
     intro i ac ay;by_cases e:i=a
     ·subst e;intro c;exact ar (c.trans aV.out)
     ·exact a7.out i (by omega) ay
    clear ar;go_wp2;all_goals first
     |exact⟨⟨a+1,by omega,by go_num,by first|rfl|trivial,bq.out⟩,by simp[intOf];omega⟩
     |(exfalso;simp_all;done)
  ·obtain rfl:a=6:=by omega
   have a9:Hid (CC tt=none):=Nq λi ac=>a7.out i ac ac;have au:=D8 (tt:=tt) (t:=G3) (l:=[108,101,116]) (by rw[Adw];rfl);have a1:=D8 (tt:=tt) (t:=BZ) (l:=[108,101,116,114,101,99]) (by rw[Adw];rfl);have a2:=D8 (tt:=tt) (t:=KG) (l:=[99,111,110]) (by rw[Adw];rfl);have a3:=D8 (tt:=tt) (t:=He) (l:=[99,97,115,101]) (by rw[Adw];rfl);have I:Hid (AY s (pE s w) b=if tt=G3 then BE s (pE s w) false (AC s b) else if tt=BZ then BE s (pE s w) true (AC s b) else if tt=KG then E5 s (pE s w) (AC s b) else if tt=He then Da s (pE s w) (AC s b) else Dc s (pE s w) b):=by
    show _=_;unfold AY;rw[aZ.out,a9.out]
   by_cases h:tt=G3
   ·have z:Hid (AY s (pE s w) b=BE s (pE s w) false (AC s b)):=by show _=_;rw[I.out,if_pos h]
    have aB:Hid (tt=if false=true then BZ else G3):=by show _=_;rw[if_neg (by decide)];exact h
    simp only[h,decide_true]at au;rw[<-h]at au;clear a1 a2 a3 I h;go_wp2_with (first
     |(go_at_call 39;refine(u.out _ am.out).mono ?_;rintro e a4 ⟨rfl,k,f⟩;have M:=hid k;have K:=hid (ai.out.ef f ad);have g:=hid (al.out.trans (NF.cM f));clear k f u)
     |(go_at_call 161;refine(J9 false aB.out af.out M.out G az O K.out).mono ?_;rintro e aP ⟨rfl,D,B,E⟩;have ag:=hid (g.out.trans D);have ae:=hid B;have ah:=hid E;clear D B E))
    all_goals first
     |(exfalso;simp_all;done)
     |skip
    go_ret;rw[z.out];exact⟨ag.out.ef (Acu _),ae.out,_,rfl,ah.out⟩
   by_cases y:tt=BZ
   ·have z:Hid (AY s (pE s w) b=BE s (pE s w) true (AC s b)):=by show _=_;rw[I.out,if_neg h,if_pos y]
    have aB:Hid (tt=if true=true then BZ else G3):=by show _=_;rw[if_pos rfl];exact y
    rw[show decide (tt=G3)=false by simp[h]]at au;rw[show decide (tt=BZ)=true by simp[y]]at a1;clear a2 a3 I h y;go_wp2_with (first
     |(go_at_call 39;refine(u.out _ am.out).mono ?_;rintro e a4 ⟨rfl,k,f⟩;have M:=hid k;have K:=hid (ai.out.ef f ad);have g:=hid (al.out.trans (NF.cM f));clear k f u)
     |(go_at_call 161;refine(J9 true aB.out af.out M.out G az O K.out).mono ?_;rintro e aP ⟨rfl,D,B,E⟩;have ag:=hid (g.out.trans D);have ae:=hid B;have ah:=hid E;clear D B E))
    all_goals first
     |(exfalso;simp_all;done)
     |skip
    go_ret;rw[z.out];exact⟨ag.out.ef (Acu _),ae.out,_,rfl,ah.out⟩
   by_cases N:tt=KG
   ·have z:Hid (AY s (pE s w) b=E5 s (pE s w) (AC s b)):=by show _=_;rw[I.out,if_neg h,if_neg y,if_pos N]
    rw[show decide (tt=G3)=false by simp[h]]at au;rw[show decide (tt=BZ)=false by simp[y]]at a1;rw[show decide (tt=KG)=true by simp[N]]at a2;clear a3 I h y N;go_wp2_with (first
     |(go_at_call 39;refine(u.out _ am.out).mono ?_;rintro e a4 ⟨rfl,k,f⟩;have M:=hid k;have K:=hid (ai.out.ef f ad);have g:=hid (al.out.trans (NF.cM f));clear k f u)
     |(go_at_call 162;refine(St af.out M.out G az O K.out).mono ?_;rintro e aP ⟨rfl,D,B,E⟩;have ag:=hid (g.out.trans D);have ae:=hid B;have ah:=hid E;clear D B E))
    all_goals first
     |(exfalso;simp_all;done)
     |skip
    go_ret;rw[z.out];exact⟨ag.out.ef (Acu _),ae.out,_,rfl,ah.out⟩
   by_cases an:tt=He
   ·have z:Hid (AY s (pE s w) b=Da s (pE s w) (AC s b)):=by show _=_;rw[I.out,if_neg h,if_neg y,if_neg N,if_pos an]
    rw[show decide (tt=G3)=false by simp[h]]at au;rw[show decide (tt=BZ)=false by simp[y]]at a1;rw[show decide (tt=KG)=false by simp[N]]at a2;rw[show decide (tt=He)=true by simp[an]]at a3;clear I h y N an;go_wp2_with (first
     |(go_at_call 39;refine(u.out _ am.out).mono ?_;rintro e a4 ⟨rfl,k,f⟩;have M:=hid k;have K:=hid (ai.out.ef f ad);have g:=hid (al.out.trans (NF.cM f));clear k f u)
     |(go_at_call 163;refine(SA af.out M.out G az O K.out).mono ?_;rintro e aP ⟨rfl,D,B,E⟩;have ag:=hid (g.out.trans D);have ae:=hid B;have ah:=hid E;clear D B E))
    all_goals first
     |(exfalso;simp_all;done)
     |skip
    go_ret;rw[z.out];exact⟨ag.out.ef (Acu _),ae.out,_,rfl,ah.out⟩
   ·have z:Hid (AY s (pE s w) b=Dc s (pE s w) b):=by show _=_;rw[I.out,if_neg h,if_neg y,if_neg N,if_neg an]
    rw[show decide (tt=G3)=false by simp[h]]at au;rw[show decide (tt=BZ)=false by simp[y]]at a1;rw[show decide (tt=KG)=false by simp[N]]at a2;rw[show decide (tt=He)=false by simp[an]]at a3;clear I h y N an u;obtain⟨aO,aH⟩:∃H,AY s (pE s w) b=H:=⟨_,rfl⟩;have aU:Hid (aO=pb (C9 s w (C9 s w (.ok ([],Bi s b)))) λY p=>pb (BS s (pE s w) (s.size+1) Y p) λl b3=>.ok (.call l,b3)):=by
     show _=_;rw[<-aH,z.out,<-WY];unfold Dc;rw[Rz s w b]
    have bt:=hid aH;clear z aH;have r:=hid (show V8 w v n.heap.size s d x m q j 3 0 (.ok ([],Bi s b)) _ from⟨⟨am.out,bk⟩,λbu aC c=>(by cases c),λY p c=>(by cases c;exact⟨Ac0 _,_,[],ai.out,AO.nil _ _ _ (ai.out.lt)⟩)⟩);have g:=hid al.out;go_wp2_with (first
     |(go_at_call 160;refine(LO af.out G O r.out).mono ?_;rintro e bm ⟨rfl,aa,ab⟩;have av:=hid (g.out.trans aa);have aw:=hid ab;clear g r aa ab;have g:=av;have r:=aw;clear av aw)
     |(go_at_call 164;refine(Rx G O r.out).mono ?_;rintro e b5 ⟨rfl,bc,bf⟩;have aQ:=hid (g.out.trans bc);have aT:=hid bf;clear bc bf))
    have aW:Hid (Mz w v n.heap.size s d x m q j n aO b5 (A (mr s (C9 s w (C9 s w (.ok ([],Bi s b)))))) (C9 s w (C9 s w (.ok ([],Bi s b)))) (s.size+1)):=by
     refine⟨aQ.out,rfl,aT.out,r.out.nz,λY p U=>?_,aU.out⟩;have c:=r.out.Lw;rw[U]at c;exact⟨by omega,c.2⟩
    clear aT r aQ g aU;generalize C9 s w (C9 s w (.ok ([],Bi s b)))=rr at aW ⊢;go_loopw [8] (λb1 wr=>∃H ao,Hid (Mz w v n.heap.size s d x m q j n aO wr b1 H ao)) (λ_ wr=>left s v wr)
    case atStart=>exact⟨_,_,aW⟩
    case round=>
     obtain⟨H,ao,ak⟩:=hrel;rename Q=>wl
     have b0:=ak.out.mv;subst b0;cases hm:mr s H with
     |false=>
      have br:=hid hm;clear hm;go_wp2;go_ret;rw[bt.out];exact ak.out.done br.out rfl
     |true=>
      obtain⟨Y,p,rfl,bj⟩:=Vw hm;have bs:=hid bj;clear hm bj;obtain⟨bD,bl⟩:=ak.out.fu Y p rfl;obtain⟨ao,rfl⟩:∃bw,ao=bw+1:=⟨ao-1,by omega⟩;have aS:=hid ak.out.st;go_wp2_with (first
       |(go_at_call 160;refine(LO af.out G O aS.out).mono ?_;rintro e bm ⟨rfl,aa,ab⟩;have bo:=hid aa;have a8:=hid ab;clear aa ab)
       |(go_at_call 164;refine(Rx G O a8.out).mono ?_;rintro e bE ⟨rfl,be,bg⟩;have bp:=hid be;have aR:=hid bg;clear be bg))
      have bi:=Dq s w (Bi s p) (A8 bl);have aJ:C9 s w (ZE s (.ok (Y,p)))=pb (pE s w (Bi s p)) λaj a0=>.ok (Y++[aj],a0):=rfl;have bC:=AX s p;refine⟨⟨_,ao,(ak.out.nf.trans bo.out).trans bp.out,rfl,aR.out,a8.out.nz,λb9 a0 U=>?_,?_⟩,?_⟩
      ·rw[aJ]at U;obtain⟨aj,aN,ap,ax⟩:=Ac U;cases ax;have:=bi aj a0 ap;exact⟨by omega,this.2⟩
      ·rw[ak.out.eq,Ai,BS,if_neg bs.out,aJ,Rz s w p];cases pE s w p with
       |error _=>rfl
       |ok aC=>rfl
      ·refine Cw aS.out.Lw.1 (A8 bl) aR.out.Lw a8.out.nz λaC a0 U=>?_;rw[aJ]at U;obtain⟨aj,aN,ap,ax⟩:=Ac U;cases ax;have:=bi aj a0 ap;omega
theorem RR(f:XN n b (xK N) (xN N) (xNm N) (xPl N) (W none 0 0) (W none 0 0) (W none 0 0) (W none 0 0))(e:GM N=[])(a:Bd N=[])(c:DJ N=[])(g:v<=b)(h:b<d)(k:d<=n.heap.size):RX (w+1) n v d (J (some ⟨b,0,none⟩)) N:=by
 refine⟨b,_,_,_,_,[],[],d,rfl,g,k,f,?_,?_⟩
 ·intro l j m i;obtain rfl:l=W none 0 0:=by simpa using j
  cases i
 ·exact⟨by rw[e];exact⟨Ad1 _ _ _ _,Ad1 _ _ _ _,Ads rfl⟩,by rw[a];exact Ad1 _ _ _ _,by rw[a];exact h,by rw[c];exact Ad1 _ _ _ _,by rw[c];exact Acu _⟩
theorem Jo:(s.toList==[40])=decide (s=Ax):=D8 (by rw[Adw];rfl)
theorem Ip{I:Nat}{s:ByteArray}{O:X}(E:TX n I s b d 0 x m O j)(al:s.size<=2000)(M:b<=s.size)(L:Ag s b≠Ax):
 Adg Acs 83 #[J (some ⟨I,0,none⟩)] n λe ap=>K2 w I s (BB s b) d x m O j n e ap:=by
 have i:=hid (BL E al M);have B:=hid (AK M);have aq:=E.lt;have K:=hid (Cb (s:=s) M);have H:=hid (λt (E:TX t I s (AC s b) d 0 x m O j)=>AR (c:=2) (q:=Am s b) E);have k:=hid (λt=>K8 (Ag s b) t (by have ai:=K.out;have aj:=B.out;omega));have f:=hid (λt=>Ow (Ag s b) t (by have ai:=K.out;have aj:=B.out;omega));have h:Hid (BB s b=if AM (Ag s b)=true then .ok (.name false (Ag s b) (Am s b),AC s b) else match Aw (Ag s b) with
  |some v=>.ok (.num v,AC s b)
  |none=>P (2,Am s b)):=rfl
 obtain⟨y,ad⟩:∃y,Ag s b=y:=⟨_,rfl⟩;unfold BO at i;rw[ad]at i k h f L;have ar:(y.toList==[40])=false:=by rw[Jo];simp[L]
 clear ad E K L;unfold Iy at k;cases hwb:AM y with
 |true=>
  rw[hwb]at f;have g:Hid (BB s b=.ok (.name false y (Am s b),AC s b)):=by show _=_;rw[h.out,if_pos hwb]
  clear h hwb k H;go_enter Tryz.func83,Tryz.ntmps83;go_wp2_with (first
   |(go_at_call 39;refine i.out.mono ?_;rintro e t ⟨rfl,o,l⟩;have D:=hid o;have u:=hid l;clear o l i)
   |(go_at_call 79;refine(f.out _).mono ?_;rintro e Y ⟨rfl,p⟩;have a:=hid p;clear p f))
  go_ret;have am:=u.out.size;have an:=a.out.size;refine⟨(u.out.trans (EF.cI a.out)).alloc _,by rw[g.out];exact⟨(D.out.cJ a.out).alloc _,B.out⟩,_,rfl,λaf q r=>?_⟩;rw[g.out]at r;cases r;exact RR (XN.new Y 1 0 y _ _ _ _ _) rfl rfl rfl (by omega) (by simp) (Acu _)
 |false=>
  rw[hwb]at f;obtain⟨U,N⟩:∃U,Aw y=U:=⟨_,rfl⟩;rw[N]at k h;cases U with
  |some v=>
   have g:Hid (BB s b=.ok (.num v,AC s b)):=by show _=_;rw[h.out,if_neg (by simp[hwb])]
   clear h hwb H N;go_enter Tryz.func83,Tryz.ntmps83;go_wp2_with (first
    |(go_at_call 39;refine i.out.mono ?_;rintro e t ⟨rfl,o,l⟩;have D:=hid o;have u:=hid l;clear o l i)
    |(go_at_call 79;refine(f.out _).mono ?_;rintro e Y ⟨rfl,p⟩;have a:=hid p;clear p f)
    |(go_at_call 81;refine(k.out _).mono ?_;rintro e ae ⟨G,ao,rfl,ac⟩;have ak:=ac v rfl;subst ak;have z:=hid G;clear G k ac))
   go_ret;have am:=u.out.size;have an:=a.out.size;have au:=z.out.size;refine⟨((u.out.trans (EF.cI a.out)).trans (EF.cI z.out)).alloc _,by rw[g.out];exact⟨((D.out.cJ a.out).cJ z.out).alloc _,B.out⟩,_,rfl,λaf q r=>?_⟩;rw[g.out]at r;cases r;exact RR (XN.new ae 0 _ _ _ _ _ _ _) rfl rfl rfl (by omega) (by simp) (Acu _)
  |none=>
   have g:Hid (BB s b=P (2,Am s b)):=by show _=_;rw[h.out,if_neg (by simp[hwb])]
   clear h hwb N;go_enter Tryz.func83,Tryz.ntmps83;go_wp2_with (first
    |(go_at_call 39;refine i.out.mono ?_;rintro e t ⟨rfl,o,l⟩;have D:=hid o;have u:=hid l;clear o l i)
    |(go_at_call 79;refine(f.out _).mono ?_;rintro e Y ⟨rfl,p⟩;have a:=hid p;clear p f)
    |(go_at_call 81;refine(k.out _).mono ?_;rintro e ae ⟨G,ao,rfl,-⟩;have z:=hid G;clear G k)
    |(go_at_call 41;refine(H.out _ ((D.out.cJ a.out).cJ z.out)).mono ?_;rintro e av ⟨rfl,ab,aa⟩;have ah:=hid ab;have ag:=hid aa;clear ab aa H))
   go_ret;refine⟨(((u.out.trans (EF.cI a.out)).trans (EF.cI z.out)).trans ag.out).alloc _,by rw[g.out];exact⟨_,ah.out.alloc _,B.out⟩,_,rfl,λaf q r=>?_⟩;rw[g.out]at r;cases r
theorem Nx{g:X}(d:TX n w s v 30 0 b m g j)(D:s.size<=2000)(r:v<=s.size)(f:Ag s v=Ax):
 Adg Acs 83 #[J (some ⟨w,0,none⟩)] n λe E=>K2 0 w s (pE s 0 v) 30 b m g j n e E:=by
 have a:=hid (BL d D r);have i:=hid (λu (d:TX u w s (AC s v) 30 0 b m g j)=>AR (c:=3) (q:=Am s v) d);have h:Hid (pE s 0 v=P (3,Am s v)):=by show _=_;rw[pE,if_pos f]
 unfold BO at a;rw[f]at a;have M:(Ax.toList==[40])=true:=by rw[Jo];simp
 clear d f;go_enter Tryz.func83,Tryz.ntmps83;go_wp2_with (first
  |(go_at_call 39;refine a.out.mono ?_;rintro e u ⟨rfl,o,k⟩;have z:=hid o;have x:=hid k;obtain⟨G,H,I,K,L,-,-,-,-⟩:=o;clear k a)
  |(go_at_call 41;refine(i.out _ z.out).mono ?_;rintro e N ⟨rfl,p,l⟩;have B:=hid p;have y:=hid l;clear p l i))
 go_ret;refine⟨x.out.trans y.out,by rw[h.out];exact⟨_,B.out,(hid (AK r)).out⟩,_,rfl,λO q t=>?_⟩;rw[h.out]at t;cases t
theorem N4{s:ByteArray}(af:Iu w v s (d+1))(aG:d<30)(G:TX n v s b d 0 x m q j)(Y:s.size<=2000)(aj:b<=s.size)(O:Ag s b=Ax):
 Adg Acs 83 #[J (some ⟨v,0,none⟩)] n λe a7=>K2 (w+1) v s (pE s (w+1) b) d x m q j n e a7:=by
 have k:=hid (BL G Y aj);have a2:=AK aj;have ac:Hid (pE s (w+1) b=pb (AY s (pE s w) (AC s b)) λe y=>pb (Al s Ae y) λ_ I=>.ok (e,I)):=by show _=_;rw[pE,if_pos O]
 have D:=hid (λi (G:TX i v s (AC s b) (d+1) 0 x m q j)=>PY af G Y a2);have aH:¬30<=(d:Int):=by omega
 have aI:(d:Int)<30:=by omega
 unfold BO at k;rw[O]at k;have aJ:(Ax.toList==[40])=true:=by rw[Jo];simp
 clear G O af;have ab:Hid (∀i:Q,TX i v s (AC s b) d 0 x m q j->TX (i.setCell ⟨v,2,none⟩ (V C ((d:Int)+1))) v s (AC s b) (d+1) 0 x m q j):=by
  intro i ad;have H:=ad.dC (d+1);rw[show(((d+1:Nat):Int))=(d:Int)+1 by omega]at H;exact H
 match hf:AY s (pE s w) (AC s b) with
 |P (M,a)=>
  have aD:=QW (Jr s w) (s:=s) (AC s b) M a hf;have aE:((M:Int)==0)=false:=by rw[beq_eq_false_iff_ne];omega
  have l:Hid (pE s (w+1) b=P (M,a)):=by show _=_;rw[ac.out,hf];rfl
  go_enter Tryz.func83,Tryz.ntmps83;go_wp2_with (first
   |(go_at_call 39;refine k.out.mono ?_;rintro e i ⟨rfl,g,p⟩;have E:=hid g;have z:=hid p;have a0:=g.f 2 (by omega);obtain⟨ao,ap,aq,ar,au,-,-,-,-⟩:=g;clear p k)
   |(go_at_call 113;refine(D.out _ (ab.out _ E.out)).mono ?_;rintro e a8 ⟨r,o,a6,rfl,-⟩;rw[hf]at o;obtain⟨I,c,U⟩:=o;have B:=hid r;have am:=hid c;have a1:=c.f 2 (by omega);have h:=c.dC d;have L:=hid h;have a5:=h.c3;obtain⟨av,aw,ax,ay,az,-,-,-,-⟩:=c;clear r h D))
  all_goals first
   |(exfalso;omega)
   |skip
  go_ret;refine⟨((z.out.set _).trans B.out).set _,by rw[l.out];exact⟨_,L.out,U⟩,_,rfl,λaa y u=>?_⟩;rw[l.out]at u;cases u
 |.ok (aa,y)=>
  have l:Hid (pE s (w+1) b=pb (Al s Ae y) λ_ I=>.ok (aa,I)):=by show _=_;rw[ac.out,hf];rfl
  go_enter Tryz.func83,Tryz.ntmps83;go_wp2_with (first
   |(go_at_call 39;refine k.out.mono ?_;rintro e i ⟨rfl,g,p⟩;have E:=hid g;have z:=hid p;have a0:=g.f 2 (by omega);obtain⟨ao,ap,aq,ar,au,-,-,-,-⟩:=g;clear p k)
   |(go_at_call 113;refine(D.out _ (ab.out _ E.out)).mono ?_;rintro e a8 ⟨r,o,a6,rfl,N⟩;rw[hf]at o N;obtain⟨c,U⟩:=o;have an:=hid N;have B:=hid r;have am:=hid c;have a1:=c.f 2 (by omega);have h:=c.dC d;have L:=hid h;have a5:=h.c3;obtain⟨av,aw,ax,ay,az,-,-,-,-⟩:=c;clear r h N D)
   |(go_at_call 37;refine(A6 (t:=Ae) L.out Y U).mono ?_;rintro e aO ⟨rfl,ai⟩;obtain⟨ag,ae⟩:=AN ai;have K:=hid ag;have al:=hid ae;clear ai ag ae))
  go_ret;have aK:=z.out.size;have a3:=B.out.size;have a4:=K.out.size;simp at a3 a4;have aC:=E.out.lt;refine⟨(((z.out.set _).trans B.out).set _).trans K.out,by rw[l.out];exact EK al.out (Iw _ _),_,rfl,λaP aL u=>?_⟩;rw[l.out]at u;obtain⟨aN,aM,ad,H⟩:=Ac u;cases H;have ah:=an.out aa y rfl;rw[World.size_setCell]at ah;refine RX.wide (RX.same ah (λak a9 aB=>?_) (by omega)) (by omega) (by omega) (Acu _);rw[K.out.block ak (by simp;omega) (by omega),Ac4 _ _ _ _ (show ak≠v by omega)]
theorem GN{i:Nat}{g:ByteArray}(e:g.size<=2000):∀f b,f+b=30->Iu f i g b
 |0,b,hd=>by
  intro n h m l k j c d;obtain rfl:b=30:=by omega
  by_cases a:Ag g h=Ax
  ·exact Nx c e d a
  ·rw[pE,if_neg a];exact Ip c e d a
 |f+1,b,hd=>by
  intro n h m l k j c d;by_cases a:Ag g h=Ax
  ·exact N4 (GN e f (b+1) (by omega)) (by omega) c e d a
  ·rw[pE,if_neg a];exact Ip c e d a
end Go.Proofs.YtnghccjoicmabaaGreatDoor
