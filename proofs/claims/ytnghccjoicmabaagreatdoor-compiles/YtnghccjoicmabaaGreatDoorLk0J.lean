import Derived.Test.YtnghccjoicmabaaGreatDoorRx9J
set_option maxRecDepth 100000
set_option maxHeartbeats 8000000
open Except renaming error->P
open Go renaming Calls->Adg,TypeId->Ad5,Value->X,World->Q,maxLen->Aed,wpList_append_lies->Adl
open Go.Act renaming eval->Aef
open Go.ByteArray renaming toList_eq->Adw
open Go.Ending renaming returned->F
open Go.IntKind renaming i64->C
open Go.Obj renaming cells->Adi
open Go.Proofs.Tryz renaming prog->Acs,underlying34->Ae0
open Go.Value renaming agg->T,bool->A,int->V,ownBlock->Ad6,pointer->J,slice->W,string->S,tuple->R
open Go.World renaming news_of_block->Adu
open Or renaming inl->Ads,inr->Ad7
namespace Go.Proofs.YtnghccjoicmabaaGreatDoor
open Go.RowKit Go.Sort
variable{n p:World}{w v b d x K wi w5:Nat}{s wn:ByteArray}{m q j f wv vc:Value}{wl:List ((Value×Value×Value)×Nat×Nat)}{wd:Type}{y:List ByteArray}{wb:List Value}{x6:ByteArray×Av×Ex}{l:Av}{N sm:Ex}{nv:Obj}{nd v2:Nat×Nat}{wp:Program}{wc:Array Oper}{sg:List Oper}{w4:Oper}{wj:Act}{w6:Exit->Act->World->Prop}{t wg w9 ng:List Nat}{nh:ByteArray×Nat}{ss:Nat×Av×Ex}{s7 xm:List (Nat×Nat)}{xt:Ex->Prop}{nw:Nat->Pr Ex}
theorem TX.ey(a:TX n w s v b d x m q j)(h:X):TX (n.setCell ⟨w,5,none⟩ h) w s v b d x h q j:=by
 have c:∀e,e≠5->(n.setCell ⟨w,5,none⟩ h).cell? ⟨w,e,none⟩=n.cell? ⟨w,e,none⟩:=λe g=>Acy _ _ _ _ (Au (Aa7 g));refine⟨?_,?_,?_,?_,?_,Ac6 _ _ _ a.c5,?_,?_,λe g=>by rw[Ac3];exact a.f e g⟩
 ·rw[c _ (by omega)];exact a.c0
 ·rw[c _ (by omega)];exact a.c1
 ·rw[c _ (by omega)];exact a.c2
 ·rw[c _ (by omega)];exact a.c3
 ·rw[c _ (by omega)];exact a.c4
 ·rw[c _ (by omega)];exact a.c6
 ·rw[c _ (by omega)];exact a.c7
theorem TX.eL(a:TX n w s v b d x m q j)(h:X):TX (n.setCell ⟨w,6,none⟩ h) w s v b d x m h j:=by
 have c:∀e,e≠6->(n.setCell ⟨w,6,none⟩ h).cell? ⟨w,e,none⟩=n.cell? ⟨w,e,none⟩:=λe g=>Acy _ _ _ _ (Au (Aa7 g));refine⟨?_,?_,?_,?_,?_,?_,Ac6 _ _ _ a.c6,?_,λe g=>by rw[Ac3];exact a.f e g⟩
 ·rw[c _ (by omega)];exact a.c0
 ·rw[c _ (by omega)];exact a.c1
 ·rw[c _ (by omega)];exact a.c2
 ·rw[c _ (by omega)];exact a.c3
 ·rw[c _ (by omega)];exact a.c4
 ·rw[c _ (by omega)];exact a.c5
 ·rw[c _ (by omega)];exact a.c7
theorem TX.ff(a:TX n w s v b d x m q j)(h:X):TX (n.setCell ⟨w,7,none⟩ h) w s v b d x m q h:=by
 have c:∀e,e≠7->(n.setCell ⟨w,7,none⟩ h).cell? ⟨w,e,none⟩=n.cell? ⟨w,e,none⟩:=λe g=>Acy _ _ _ _ (Au (Aa7 g));refine⟨?_,?_,?_,?_,?_,?_,?_,Ac6 _ _ _ a.c7,λe g=>by rw[Ac3];exact a.f e g⟩
 ·rw[c _ (by omega)];exact a.c0
 ·rw[c _ (by omega)];exact a.c1
 ·rw[c _ (by omega)];exact a.c2
 ·rw[c _ (by omega)];exact a.c3
 ·rw[c _ (by omega)];exact a.c4
 ·rw[c _ (by omega)];exact a.c5
 ·rw[c _ (by omega)];exact a.c6
abbrev DR:=List (ByteArray×Nat)
abbrev Dn:=List (ByteArray×Av×Ex)
def Cm(b:DR):List X:=b.flatMap λa=>[S a.1,V C (a.2:Int)]
def Bg(b:List ((X×X×X)×Nat×Nat))(c:Dn):List X:=(List.zip b c).flatMap λa=>[S a.2.1,a.1.1.1,a.1.1.2.1,a.1.1.2.2]
theorem LC(b:DR)(a:Nat)(c:a<b.length):(Cm b)[a*2]?=some (.string b[a].1):=(Co _ _ b a c).1
variable{H:Dn}
theorem K9(d:wl.length=H.length)(b:Nat)(e:b<H.length):(Bg wl H)[b*4]?=some (.string H[b].1):=by
 have c:=(C7 (λa:(((X×X×X)×Nat×Nat)×(ByteArray×Av×Ex))=>(S a.2.1)) (λa=>a.1.1.1) (λa=>a.1.1.2.1) (λa=>a.1.1.2.2) (List.zip wl H) b (by simp;omega)).1;unfold Bg;rw[c];simp
def Hp{b:Type}(f:List ByteArray)(g:ByteArray)(c e:Nat)(a:Pr b):Pr b:=if (f.take e).any (λd=>decide (d=g))=true then fl 5 c a else a
theorem Lm(c:List ByteArray)(d:ByteArray)(b:Nat)(a:Pr wd):Hp c d b 0 a=a:=rfl
theorem K4{n:ByteArray}{at':Nat}{r:Pr wd}(c:w<y.length):Hp y n at' (w+1) r=if y[w]=n then fl 5 at' (Hp y n at' w r) else Hp y n at' w r:=by
 unfold Hp;rw[Ade c,Ahf];cases h1:(y.take w).any (λb=>decide (b=n)) with
 |true=>
  by_cases a:y[w]=n
  ·simp[a,XZ]
  ·simp[a]
 |false=>
  simp
theorem J1{l:List ByteArray}{n:ByteArray}{at' k:Nat}{r:Pr wd}(a:Mw r):Mw (Hp l n at' k r):=by
 unfold Hp;split
 ·exact Tu a nofun
 exact a
def EZ(e:ByteArray)(b:List ByteArray)(c:Nat):Pr ByteArray:=pb (AV e c) λa d=>if A3 a.1 b 0=true then P (5,a.2) else .ok (a.1,d)
theorem Hk(b:ByteArray)(f:List ByteArray):NZ (EZ b f):=by
 intro g d c e;rcases Af e with a|⟨j,i,a,h⟩
 ·exact E9 b g d c a
 grind
theorem JM:IB s (EZ s y) 1:=by
 intro d c g j a;let ⟨f,e,b,h⟩:=Ac a
 have i:=BH d c f e b;grind
theorem WD(b:ByteArray)(c d:List ByteArray)(a:Nat):fg (Hp d (Ag b a) (Am b a) d.length (Hp c (Ag b a) (Am b a) c.length (AV b a)))=fg (EZ b (c++d) a):=by
 unfold EZ Hp;rw[Ad9,Ad9];match hn:AV b a with
 |P e=>
  split<;>split<;>rfl
 |.ok (x,q)=>
  have g:x=(Ag b a,Am b a):=by
   unfold AV at hn;grind
  subst g;rw[Ai];unfold A3;rw[Agx,Ahf];cases h1:c.any (λf=>decide (f=Ag b a)) with
  |true=>simp[fl,fg]
  |false=>
   cases h2:d.any (λf=>decide (f=Ag b a)) with
   |true=>rfl
   |false=>rfl
theorem Tn{d:Pr wd}(a:Im w s d v b m q j n):n.cell? ⟨w,6,none⟩=some q/\n.cell? ⟨w,7,none⟩=some j/\w<n.heap.size:=by
 match d,a with
 |.ok _,a=>exact⟨a.1.c6,a.1.c7,a.1.lt⟩
 |P _,a=>
  obtain⟨e,c,-⟩:=a;exact⟨c.c6,c.c7,c.lt⟩
variable{wf:DR}
theorem Ej{x:Q}(y:TX x w s v b 0 d m q j)(a9:s.size<=2000)(a8:v<=s.size)(af:x.ownsRow (w+1) 55 2 q wf.length (Cm wf))(ae:x.ownsRow (w+1) 88 4 j H.length (Bg wl H))(a5:wl.length=H.length)(aK:wf.length<=2000)(aH:H.length<=2000):
 Adg Acs 42 #[J (some ⟨w,0,none⟩)] x λt aq=>t=F (S (Ag s v))/\EF w x aq/\Im w s (EZ s (wf.map (·.1)++H.map (·.1)) v) b d m q j aq:=by
 have Y:=hid (Fw y a9 a8);have ay:=hid af;have av:=hid ae;have U:=hid (WD s (wf.map (·.1)) (H.map (·.1)) v);have al:=hid (E9 s v);obtain⟨ai,ap,rfl⟩:=Ad af;obtain⟨ad,am,rfl⟩:=Ad ae;obtain⟨e,ah⟩:∃e,Ag s v=e:=⟨_,rfl⟩;rw[ah]at Y U;rw[ah];obtain⟨i,G⟩:∃l,wf.map (·.1)=l:=⟨_,rfl⟩;obtain⟨z,I⟩:∃l,H.map (·.1)=l:=⟨_,rfl⟩;have az:=hid G;have a0:=hid I;have a6:i.length=wf.length:=by rw[<-G];simp
 have a7:z.length=H.length:=by rw[<-I];simp
 rw[G,I]at U;rw[G,I];clear y af ae ah G I;go_enter Tryz.func42,Tryz.ntmps42;go_wp2_with (first
  |(go_at_call 38;refine Y.out.mono ?_;rintro t aN ⟨rfl,ao,an⟩;have aw:=hid ao;have ar:=hid an;clear ao an Y))
 go_loopw [5] (λu L=>∃k:Nat,k<=wf.length/\u=V C (k:Int)/\Hid (EF w x L/\Im w s (Hp i e (Am s v) k (AV s v)) b d m (W ai wf.length ap) (W ad H.length am) L)) (λu _=>wf.length-(intOf u).toNat)
 case atStart=>exact⟨0,Ac0 _,rfl,aw.out,by rw[Lm];exact ar.out⟩
 case round=>
  obtain⟨k,aL,rfl,o⟩:=hrel;rename Q=>L
  obtain⟨aC,aD,-⟩:=Tn o.out.2;by_cases ag:k<wf.length
  ·have a3:(0:Int)<=(k:Int):=by omega
   have a4:(k:Int)<(wf.length:Int):=by omega
   have aj:=hid (Fp ay.out o.out.1 (by omega));obtain⟨h,rfl⟩:∃h,ai=some ⟨h,0,none⟩:=by
    obtain⟨h,a2,t,-⟩:=aj.out.form (by omega);exact⟨h,by cases t;rfl⟩
   have ac:L.cell? ⟨h,k*2,none⟩=some (S (i[k]'(by omega))):=by
    have B:=aj.out.cellAt (k*2) (by omega);rw[LC wf k ag]at B;rw[B];congr 2
    simp[<-az.out]
   have g:=hid (K4 (n:=e) (at':=Am s v) (r:=AV s v) (show k<i.length by omega));obtain⟨tk,K⟩:∃tk,i[k]'(by omega)=tk:=⟨_,rfl⟩;rw[K]at ac g;clear K;have aa:=hid (J1 (l:=i) (n:=e) (at':=Am s v) (k:=k) (r:=AV s v) al.out);by_cases f:tk=e
   ·have ab:(tk.toList==e.toList)=true:=by rw[f];simp
    rw[if_pos f]at g;clear f;go_wp2_with (first
     |(go_at_call 41;refine(G8 (c:=5) (a:=Am s v) o.out.2 aa.out).mono ?_;rintro t aB ⟨rfl,D,E⟩;have N:=hid D;have O:=hid E;clear D E))
    all_goals first
     |(exfalso;simp_all;done)
     |exact⟨⟨k+1,by omega,by go_num,o.out.1.trans O.out,by rw[g.out];exact N.out⟩,by simp[intOf];omega⟩
   ·have ab:(tk.toList==e.toList)=false:=by rw[beq_eq_false_iff_ne];exact λy=>f (Bl y)
    rw[if_neg f]at g;clear f;go_wp2;all_goals first
     |exact⟨⟨k+1,by omega,by go_num,o.out.1,by rw[g.out];exact o.out.2⟩,by simp[intOf];omega⟩
     |(exfalso;simp_all;done)
  ·have aI:¬(k:Int)<(wf.length:Int):=by omega
   obtain rfl:k=wf.length:=by omega
   have ax:=hid o.out.1;have au:=hid o.out.2;have a1:=hid (J1 (l:=i) (n:=e) (at':=Am s v) (k:=wf.length) (r:=AV s v) al.out);go_wp2;go_loopw [6] (λu M=>∃k:Nat,k<=H.length/\u=V C (k:Int)/\Hid (EF w x M/\Im w s (Hp z e (Am s v) k (Hp i e (Am s v) wf.length (AV s v))) b d m (W ai wf.length ap) (W ad H.length am) M)) (λu _=>H.length-(intOf u).toNat)
   case atStart=>exact⟨0,Ac0 _,rfl,ax.out,by rw[Lm];exact au.out⟩
   case round=>
    obtain⟨k,aM,rfl,p⟩:=hrel;rename Q=>M
    obtain⟨aE,aG,-⟩:=Tn p.out.2;by_cases ag:k<H.length
    ·have a3:(0:Int)<=(k:Int):=by omega
     have a4:(k:Int)<(H.length:Int):=by omega
     have ak:=hid (Fp av.out p.out.1 (by omega));obtain⟨h,rfl⟩:∃h,ad=some ⟨h,0,none⟩:=by
      obtain⟨h,a2,t,-⟩:=ak.out.form (by omega);exact⟨h,by cases t;rfl⟩
     have ac:M.cell? ⟨h,k*4,none⟩=some (S (z[k]'(by omega))):=by
      have B:=ak.out.cellAt (k*4) (by omega);rw[K9 a5 k ag]at B;rw[B];congr 2
      simp[<-a0.out]
     have g:=hid (K4 (n:=e) (at':=Am s v) (r:=Hp i e (Am s v) wf.length (AV s v)) (show k<z.length by omega));obtain⟨tk,K⟩:∃tk,z[k]'(by omega)=tk:=⟨_,rfl⟩;rw[K]at ac g;clear K;have aa:=hid (J1 (l:=z) (n:=e) (at':=Am s v) (k:=k) a1.out);by_cases f:tk=e
     ·have ab:(tk.toList==e.toList)=true:=by rw[f];simp
      rw[if_pos f]at g;clear f;go_wp2_with (first
       |(go_at_call 41;refine(G8 (c:=5) (a:=Am s v) p.out.2 aa.out).mono ?_;rintro t aB ⟨rfl,D,E⟩;have N:=hid D;have O:=hid E;clear D E))
      all_goals first
       |(exfalso;simp_all;done)
       |exact⟨⟨k+1,by omega,by go_num,p.out.1.trans O.out,by rw[g.out];exact N.out⟩,by simp[intOf];omega⟩
     ·have ab:(tk.toList==e.toList)=false:=by rw[beq_eq_false_iff_ne];exact λy=>f (Bl y)
      rw[if_neg f]at g;clear f;go_wp2;all_goals first
       |exact⟨⟨k+1,by omega,by go_num,p.out.1,by rw[g.out];exact p.out.2⟩,by simp[intOf];omega⟩
       |(exfalso;simp_all;done)
    ·have aJ:¬(k:Int)<(H.length:Int):=by omega
     obtain rfl:k=H.length:=by omega
     go_wp2;go_ret;refine⟨rfl,p.out.1,EK p.out.2 ?_⟩;rw[<-U.out,a6,a7]
theorem Tryz.gS:(Acs.info? 88).map (λa=>(a.zero,a.size,a.bytes))=some (some (T #[S ⟨#[]⟩,W none 0 0,W none 0 0,J none]),4,72):=by kernel_rfl
def T3(a:Q)(d e:Nat)(c:X×X×X)(b:ByteArray×Av×Ex):Prop:=Kh (RX 31 a) a d e c (0,b.2)
structure EH (b:Nat) (a:Q) (h e:X) (f:DR) (c:Dn) (d:List ((X×X×X)×Nat×Nat)):Prop where
 ir:a.ownsRow (b+1) 55 2 h f.length (Cm f)
 dr:a.ownsRow (b+1) 88 4 e c.length (Bg d c)
 dk:Kids (T3 a) (b+1) a.heap.size d c
 av:∀t∈d,∀g,(h.ownBlock=some g\/e.ownBlock=some g)->g<t.2.1\/t.2.2<=g
theorem T3.same{g b:Q}{c a:Nat}{f:X×X×X}{d:ByteArray×Av×Ex}(h:T3 g c a f d)(e:HS c a g b)(k:a<=b.heap.size):T3 b c a f d:=
 Kh.same h e λ_ j i=>i.same (e.sub j .refl) k
theorem EH.dc(a:EH w n m q wf H wl)(h:n.heap.size<=p.heap.size)(g:∀b,w+1<=b->b<n.heap.size->p.heap[b]?=n.heap[b]?):EH w p m q wf H wl:=by
 refine⟨Az a.ir λd c=>?_,Az a.dr λd c=>?_,(Kids.mono a.dk λs t r i k l o f=>?_).up h,a.av⟩
 ·have e:=a.ir.lt d (Ah.1 c);grind
 ·have e:=a.dr.lt d (Ah.1 c);grind
 ·exact f.same (λb e j=>g b (by omega) (by omega)) (by omega)
theorem EH.ef{a:Nat}{w:Q}(c:EH a w m q wf H wl)(b:EF a w n):EH a n m q wf H wl:=c.dc b.size λe f d=>b.block e d (by omega)
def GP(a:ByteArray)(c:List ByteArray)(f:Nat):Pr (ByteArray×Av×Ex):=pb (EZ a c f) λd g=>pb (Be a g) λe h=>pb (pE a 30 h) λb i=>.ok ((d,e,b),i)
def DL(c:Nat)(j:Q)(e d a:Nat)(b:List X)(f g h i:X):Prop:=b.length=a*4/\j.ownsRow (c+1) 88 4 (W (some ⟨e,0,none⟩) (a+1) d) (a+1) (b++[f,g,h,i])
theorem DL.cell(a:DL w n v b d wb m q j f):n.cell? ⟨v,d*4+1,none⟩=some q/\n.cell? ⟨v,d*4+2,none⟩=some j/\n.cell? ⟨v,d*4+3,none⟩=some f:=by
 let ⟨c,a⟩:=a
 refine⟨?_,?_,?_⟩
 ·rw[a.cellAt (d*4+1) (by omega),Aex (by omega),show d*4+1-wb.length=1 by omega];rfl
 ·rw[a.cellAt (d*4+2) (by omega),Aex (by omega),show d*4+2-wb.length=2 by omega];rfl
 ·rw[a.cellAt (d*4+3) (by omega),Aex (by omega),show d*4+3-wb.length=3 by omega];rfl
theorem DL.frozen(c:DL w n v b d wb m q j f)(a:Nat):n.frozen? ⟨v,a,none⟩=false:=c.2.frozenAt a
theorem DL.lt{a:Nat}{b:Q}{g e d:Nat}{c:List X}{h i j k:X}(f:DL a b g e d c h i j k):a+1<=g/\g<b.heap.size:=f.2.lt g rfl
theorem DL.ef{a:Nat}{w:Q}(c:DL a w v b d wb m q j f)(e:EF a w n):DL a n v b d wb m q j f:=⟨c.1,Fp c.2 e .refl⟩
theorem DL.other{e:X}{j:Nat}{u:X}(a:DL w n v b d wb m q e f):DL w (n.setCell ⟨w,j,none⟩ u) v b d wb m q e f:=
 ⟨a.1,Az a.2 λc g=>Ac4 _ _ _ _ (show c≠w by have:=(a.2.lt c (Ah.1 g)).1;omega)⟩
theorem DL.db(a:DL w n v b d wb m q j f)(c:X):DL w (n.setCell ⟨v,d*4+1,none⟩ c) v b d wb m c j f:=by
 refine⟨a.1,?_⟩;have e:=(a.2.stored (d*4+1) c).1;rw[Abb _ _ (by have:=a.1;omega),show d*4+1-wb.length=1 by have:=a.1;omega]at e;exact e
theorem DL.dJ(a:DL w n v b d wb m q j f)(c:X):DL w (n.setCell ⟨v,d*4+2,none⟩ c) v b d wb m q c f:=by
 refine⟨a.1,?_⟩;have e:=(a.2.stored (d*4+2) c).1;rw[Abb _ _ (by have:=a.1;omega),show d*4+2-wb.length=2 by have:=a.1;omega]at e;exact e
theorem DL.HN(a:DL w n v b d wb m q j f)(c:X):DL w (n.setCell ⟨v,d*4+3,none⟩ c) v b d wb m q j c:=by
 refine⟨a.1,?_⟩;have e:=(a.2.stored (d*4+3) c).1;rw[Abb _ _ (by have:=a.1;omega),show d*4+3-wb.length=3 by have:=a.1;omega]at e;exact e
theorem Kf(a:wl.length=H.length):(Bg wl H).length=H.length*4:=by
 unfold Bg;rw[LJ];simp[a]
theorem Nl(a:wl.length=H.length):
 Bg (wl++[((m,q,j),w,v)]) (H++[x6])=Bg wl H++[S x6.1,m,q,j]:=by
 unfold Bg;rw[List.zip_append a,Ado];rfl
theorem TX.dP{g j:Nat}{a u:X}(c:TX n w s v b d x m q a)(e:w+1<=g):TX (n.setCell ⟨g,j,none⟩ u) w s v b d x m q a:=c.cK (Ac4 _ _ _ _ (show w≠g by omega))
theorem NF.dZ(a:NF w v n p)(f:v<=b):NF w v n (p.setCell ⟨b,d,none⟩ m):=
 a.trans ⟨rfl,rfl,rfl,by simp,λc _ e _=>Ac4 _ _ _ _ (show c≠b by omega)⟩
theorem IX(a:EF w n.drew p):EF w n p:=⟨a.os,a.tape,a.output,a.size,a.block⟩
theorem TX.drew{T:Nat}(a:TX n T s w v b d m q j):TX n.drew T s w v b d m q j:=a.cK rfl
def Zx(g:Nat)(f:ByteArray)(r:Pr (ByteArray×Av×Ex))(q:Nat)(j h:X)(o:DR)(l:Dn)(i:Q):Prop:=match r with
 |.ok (b,e)=>∃d p,TX i g f e 0 0 q j h d/\e<=f.size/\EH g i h d o (l++[b]) p
 |P (c,a)=>∃e d,TX i g f e 0 c a j h d/\e<=f.size/\∃n m k,d=W n m k
theorem EH.push{z:X}{x m y:Nat}{bd:X}(c:EH w n z q wf H wl)(U:n.heap.size<=x)(O:y<=p.heap.size)(M:x<=m)(L:m<=y)(o:∀a,w+1<=a->a<n.heap.size->q.ownBlock≠some a->p.heap[a]?=n.heap[a]?)(I:DL w p v b H.length (Bg wl H) (S s) j f bd)(r:q.ownBlock=some v\/(n.heap.size<=v/\v<x))(G:Bc p x j f l)(B:∀a,j.ownBlock=some a->a<m)(D:∀a,f.ownBlock=some a->a<m)(K:RX 31 p m y bd N):
 EH w p z (W (some ⟨v,0,none⟩) (H.length+1) b) wf (H++[(s,l,N)]) (wl++[((j,f,bd),x,y)]):=by
 refine⟨Az c.ir λi u=>?_,?_,?_,?_⟩
 ·have h:=c.ir.lt i (Ah.1 u);exact o i h.1 h.2 (Fj c.ir c.dr (by decide) i (Ah.1 u))
 ·rw[Adk,Nl c.dk.len];exact I.2
 ·refine Kids.snoc (Kids.mono c.dk λae af ad Y t aa ab E=>?_) U (by omega) O ⟨G,m,M,L,B,D,K⟩;exact E.same (λa h ac=>o a (by omega) (by omega) (λe=>by have:=c.av _ t a (Ad7 e);grind)) (by omega)
 ·intro k g a d;rcases Acz.1 g with g|g
  ·have t:=c.dk.mem k g;rcases d with d|d
   ·exact c.av k g a (Ads d)
   ·obtain rfl:v=a:=by simpa[Ad6]using d
    rcases r with e|e
    ·exact c.av k g v (Ad7 e)
    omega
  ·obtain rfl:=Ac9.1 g;left
   show a<x;rcases d with d|d
   ·have:=(c.ir.lt a d).2;omega
   ·obtain rfl:v=a:=by simpa[Ad6]using d
    rcases r with e|e
    ·have:=(c.dr.lt v e).2;omega
    ·omega
structure D2 (a:Nat) (n:ByteArray) (m l:Nat) (j h g:X) (d b:Q) (c f:Nat) (e:Dn) (i:List ((X×X×X)×Nat×Nat)) (o:ByteArray):Prop where
 nf:NF a a d b
 tx:TX b a n m 0 0 l j h (W (some ⟨c,0,none⟩) (e.length+1) f)
 row:DL a b c f e.length (Bg i e) (S o) (W none 0 0) (W none 0 0) (J none)
 fr:∀k,a+1<=k->k<d.heap.size->g.ownBlock≠some k->b.heap[k]?=d.heap[k]?
 gg:g.ownBlock=some c\/d.heap.size<=c
structure D4 (b:Nat) (r:ByteArray) (q p:Nat) (n l h:X) (d a:Q) (c g:Nat) (f:Dn) (m:List ((X×X×X)×Nat×Nat)) (s:ByteArray) (j i:X) (o:Av) (e:Nat):Prop where
 nf:NF b b d a
 tx:TX a b r q 0 0 p n l (W (some ⟨c,0,none⟩) (f.length+1) g)
 row:DL b a c g f.length (Bg m f) (S s) j i (J none)
 fr:∀k,b+1<=k->k<d.heap.size->h.ownBlock≠some k->a.heap[k]?=d.heap[k]?
 gg:h.ownBlock=some c\/(d.heap.size<=c/\c<e)
 nr:Bc a e j i o
 sz:d.heap.size<=e/\e<=a.heap.size
theorem Ig{aI bp:X}(N:TX n w s v 0 0 b aI q bp)(aG:s.size<=2000)(aV:v<=s.size)(a7:EH w n q bp wf H wl)(b9:wf.length<=2000)(b6:H.length<=2000):
 Adg Acs 44 #[J (some ⟨w,0,none⟩)] n λh b0=>h=F (R #[])/\NF w w n b0/\Zx w s (GP s (wf.map (·.1)++H.map (·.1)) v) b aI q wf H b0:=by
 have aO:=hid (Ej N aG aV a7.ir a7.dr a7.dk.len b9 b6);have au:=hid a7;obtain⟨e,aW⟩:∃e,Ag s v=e:=⟨_,rfl⟩;rw[aW]at aO;clear N a7;have bD:=Ad au.out.dr;obtain⟨a2,a1,rfl⟩:=bD;obtain⟨bo,bv,bw⟩:=Adb.1 Tryz.gS;simp only[Aeb]at bw;obtain⟨bs,bt,bu⟩:=bw;have aP:Hid (GP s (wf.map (·.1)++H.map (·.1)) v=pb (EZ s (wf.map (·.1)++H.map (·.1)) v) λaM E=>pb (Be s E) λag M=>pb (pE s 30 M) λh O=>.ok ((aM,ag,h),O)):=rfl;match hd:EZ s (wf.map (·.1)++H.map (·.1)) v,aO with
 |P (U,a),HDC1=>
  have b5:=Hk s _ v U a hd;have b7:((U:Int)==0)=false:=by rw[beq_eq_false_iff_ne];omega
  have ai:Hid (GP s (wf.map (·.1)++H.map (·.1)) v=P (U,a)):=by show _=_;rw[aP.out,hd];rfl
  go_enter Tryz.func44,Tryz.ntmps44;go_wp2_with (first
   |(go_at_call 42;refine HDC1.out.mono ?_;rintro h z ⟨rfl,D,E,o,aE⟩;have aj:=hid D;have a0:=hid o;have ak:=hid aE;have bn:=λah=>alloc_old z ah _ _ _ o.c3;clear D o HDC1))
  all_goals first
   |(exfalso;omega)
   |(refine bE ?_
     exact⟨rfl,NF.cM (aj.out.alloc _),by rw[ai.out];exact⟨_,_,a0.out.alloc _,ak.out,_,_,_,rfl⟩⟩)
 |.ok (aM,E),HDC1=>
  have bx:e=aM:=by
   obtain⟨x,M,k,B⟩:=Ac hd;split at B
   ·cases B
   ·cases B;obtain⟨-,-,rfl,-⟩:=EU aV k;exact aW.symm
  have aT:=JM v aV aM E hd;rw[<-bx]at hd;have bh:Hid (GP s (wf.map (·.1)++H.map (·.1)) v=pb (Be s E) λag M=>pb (pE s 30 M) λh O=>.ok ((e,ag,h),O)):=by show _=_;rw[aP.out,hd];rfl
  clear aP aW aO bx hd;match hnm:Be s E with
  |P (U,a)=>
   have b5:=FY s E U a hnm;have b7:((U:Int)==0)=false:=by rw[beq_eq_false_iff_ne];omega
   have ai:Hid (GP s (wf.map (·.1)++H.map (·.1)) v=P (U,a)):=by show _=_;rw[bh.out,hnm];rfl
   go_enter Tryz.func44,Tryz.ntmps44;go_upto_region 2 with(first
    |(go_at_call 42;refine HDC1.out.mono ?_;rintro h z ⟨rfl,D,o,aE⟩;have aj:=hid D;have a0:=hid o;have ak:=hid aE;have al:=hid (Fp au.out.dr D (by omega));have bq:=o.lt;have bn:=λah=>alloc_old z ah _ _ _ o.c3;have b4:=λah=>alloc_old z ah _ _ _ o.c7;have bG:=D.size;clear D o HDC1))
   go_cut [] (λaJ=>∃g p,Hid (D2 w s E b aI q (.slice a2 H.length a1) n aJ g p H wl e))
   case first=>
    go_region_law
     (first
     |(refine step_append_lies _ rfl (.tmp 17) (.tmp 19) 46 rfl (w+1) 88 bo _ 4 72 Tryz.underlying46 bv bs bt bu rfl (by omega) (.slice a2 H.length a1) H.length (Bg wl H) (by first|rfl|(simp[Aef];done)|(simp[Aef,Act.put];done)) ((al.out.alloc _).alloc _) ⟨z.heap.size+1,0,none⟩ 1 1 [S e,.slice none 0 0,.slice none 0 0,J none] (by first|rfl|(simp[Aef];done)|(simp[Aef,Act.put];done)) rfl (by have N:=Adu (Adp (z.alloc (Adi #[S e,.slice none 0 0,.slice none 0 0,J none] 88)) (Adi #[S e,.slice none 0 0,.slice none 0 0,J none] 88));simpa using N) (by intro u aH;simp at aH;rcases aH with rfl|rfl|rfl|rfl<;>rfl) (by omega) (by unfold Aed;omega) (by omega) (by simp;omega) (z.heap.size+2) (by simp) ?_;intro g p be aD aB a8 bB;have af:=Dz aB;clear aB;have ay:=hid af;have aN:=hid a8;have aQ:=hid (show DL w be g p H.length (Bg wl H) (S e) (.slice none 0 0) (.slice none 0 0) (J none) from⟨Kf au.out.dk.len,aD⟩);have G:=(a0.out.alloc (Adi #[S e,.slice none 0 0,.slice none 0 0,J none] 88)).grown af (λg ap=>by have:=(al.out.lt g ap).1;omega);have b2:=hid G;have bI:=G.c7;have bJ:=G.f 7 (by omega);have ae:=G.ff (.slice (some ⟨g,0,none⟩) (H.length+1) p);have aR:=hid ae;have bM:=ae.c3;have aZ:=ae.c7;have aX:=af.size;simp at aX;clear aD af a8 G ae))
    all_goals
     go_wp2_with fail
     go_meet
     refine⟨g,p,((NF.cM (aj.out.alloc _)).grown ay.out (λg ap=>by have:=(al.out.lt g ap).1;omega)).set _,aR.out,aQ.out.other,λd k B Y=>?_,?_⟩
     ·rw[Ac4 _ _ _ _ (show d≠w by omega),ay.out.block d (by simp;omega) (λN=>Y N.symm),Ad3 _ _ (by simp;omega),Ad3 _ _ (by omega),aj.out.block d B (by omega)]
     ·rcases aN.out with k|k
      ·exact Ads k
      ·right;omega
   case rest=>
    rename Q=>W
    obtain⟨g,p,c⟩:=hcut;have ak:Hid (E<=s.size):=aT.2;have aZ:=c.out.tx.c7;go_wp2;all_goals
     go_region_with ((go_at_call 82;refine(DM c.out.tx.drew aG ak.out).mono ?_;rintro aS bR ⟨a5,a3,bL,bK,rfl,⟨⟨I,L,K,rfl⟩,⟨pa,ar,aq,rfl⟩⟩,an⟩;have ab:=IX a5;clear a5;rw[hnm]at a3 an;have aK:=hid ab;have bg:=hid an;have t:=c.out.row.ef ab;have bk:=hid t;obtain⟨ba,bb,bc⟩:=t.cell;have bO:=t.frozen (H.length*4+1);obtain⟨-,bN,-⟩:=(t.db (.slice I L K)).cell;have bP:=(t.db (.slice I L K)).frozen (H.length*4+2);have bH:=ab.size;obtain⟨O,i,aw⟩:=a3;have az:=hid aw;have b3:=hid i;have bf:=i.c7;have av:=(i.dP (g:=g) (j:=H.length*4+1) (u:=.slice I L K) c.out.row.lt.1).dP (g:=g) (j:=H.length*4+2) (u:=.slice pa ar aq) c.out.row.lt.1;have am:=hid av;have bS:=av.c3;clear i av;clear ab an t))
    all_goals(try go_wp2)
    all_goals first
     |(exfalso;omega)
     |(refine bE ?_
       refine⟨rfl,?_,by rw[ai.out];exact⟨_,_,am.out,az.out,_,_,_,rfl⟩⟩;exact((c.out.nf.trans (NF.cM aK.out)).dZ (by have:=c.out.row.lt.1;omega)).dZ (by have:=c.out.row.lt.1;omega))
  |.ok (ag,M)=>
   have b8:=BU E aT.2 ag M hnm;have bi:Hid (GP s (wf.map (·.1)++H.map (·.1)) v=pb (pE s 30 M) λh O=>.ok ((e,ag,h),O)):=by show _=_;rw[bh.out,hnm];rfl
   go_enter Tryz.func44,Tryz.ntmps44;go_upto_region 2 with(first
    |(go_at_call 42;refine HDC1.out.mono ?_;rintro h z ⟨rfl,D,o,aE⟩;have aj:=hid D;have a0:=hid o;have ak:=hid aE;have al:=hid (Fp au.out.dr D (by omega));have bq:=o.lt;have bn:=λah=>alloc_old z ah _ _ _ o.c3;have b4:=λah=>alloc_old z ah _ _ _ o.c7;have bG:=D.size;clear D o HDC1))
   go_cut [] (λaJ=>∃g p,Hid (D2 w s E b aI q (.slice a2 H.length a1) n aJ g p H wl e))
   case first=>
    go_region_law
     (first
     |(refine step_append_lies _ rfl (.tmp 17) (.tmp 19) 46 rfl (w+1) 88 bo _ 4 72 Tryz.underlying46 bv bs bt bu rfl (by omega) (.slice a2 H.length a1) H.length (Bg wl H) (by first|rfl|(simp[Aef];done)|(simp[Aef,Act.put];done)) ((al.out.alloc _).alloc _) ⟨z.heap.size+1,0,none⟩ 1 1 [S e,.slice none 0 0,.slice none 0 0,J none] (by first|rfl|(simp[Aef];done)|(simp[Aef,Act.put];done)) rfl (by have N:=Adu (Adp (z.alloc (Adi #[S e,.slice none 0 0,.slice none 0 0,J none] 88)) (Adi #[S e,.slice none 0 0,.slice none 0 0,J none] 88));simpa using N) (by intro u aH;simp at aH;rcases aH with rfl|rfl|rfl|rfl<;>rfl) (by omega) (by unfold Aed;omega) (by omega) (by simp;omega) (z.heap.size+2) (by simp) ?_;intro g p be aD aB a8 bB;have af:=Dz aB;clear aB;have ay:=hid af;have aN:=hid a8;have aQ:=hid (show DL w be g p H.length (Bg wl H) (S e) (.slice none 0 0) (.slice none 0 0) (J none) from⟨Kf au.out.dk.len,aD⟩);have G:=(a0.out.alloc (Adi #[S e,.slice none 0 0,.slice none 0 0,J none] 88)).grown af (λg ap=>by have:=(al.out.lt g ap).1;omega);have b2:=hid G;have bI:=G.c7;have bJ:=G.f 7 (by omega);have ae:=G.ff (.slice (some ⟨g,0,none⟩) (H.length+1) p);have aR:=hid ae;have bM:=ae.c3;have aZ:=ae.c7;have aX:=af.size;simp at aX;clear aD af a8 G ae))
    all_goals
     go_wp2_with fail
     go_meet
     refine⟨g,p,((NF.cM (aj.out.alloc _)).grown ay.out (λg ap=>by have:=(al.out.lt g ap).1;omega)).set _,aR.out,aQ.out.other,λd k B Y=>?_,?_⟩
     ·rw[Ac4 _ _ _ _ (show d≠w by omega),ay.out.block d (by simp;omega) (λN=>Y N.symm),Ad3 _ _ (by simp;omega),Ad3 _ _ (by omega),aj.out.block d B (by omega)]
     ·rcases aN.out with k|k
      ·exact Ads k
      ·right;omega
   case rest=>
    rename Q=>W
    obtain⟨g,p,c⟩:=hcut;have ak:Hid (E<=s.size):=aT.2;have bj:Hid (M<=s.size):=b8.2;have aZ:=c.out.tx.c7;have bC:=c.out.nf.size;go_upto_region 4 with fail
    go_cut [] (λaJ=>∃I L K pa ar aq,Hid (D4 w s M b aI q (.slice a2 H.length a1) n aJ g p H wl e (.slice I L K) (.slice pa ar aq) ag W.heap.size))
    case first=>
     go_region_with ((go_at_call 82;refine(DM c.out.tx.drew aG ak.out).mono ?_;rintro aS bR ⟨a5,a3,bL,bK,rfl,⟨⟨I,L,K,rfl⟩,⟨pa,ar,aq,rfl⟩⟩,an⟩;have ab:=IX a5;clear a5;rw[hnm]at a3 an;have aK:=hid ab;have bg:=hid an;have t:=c.out.row.ef ab;have bk:=hid t;obtain⟨ba,bb,bc⟩:=t.cell;have bO:=t.frozen (H.length*4+1);obtain⟨-,bN,-⟩:=(t.db (.slice I L K)).cell;have bP:=(t.db (.slice I L K)).frozen (H.length*4+2);have bH:=ab.size;obtain⟨i,aw⟩:=a3;have b3:=hid i;have bf:=i.c7;have av:=(i.dP (g:=g) (j:=H.length*4+1) (u:=.slice I L K) c.out.row.lt.1).dP (g:=g) (j:=H.length*4+2) (u:=.slice pa ar aq) c.out.row.lt.1;have am:=hid av;clear i av;clear ab an t))
     all_goals
      go_wp2_with fail
      go_meet
      have a9:=c.out.row.lt;have aC:=(bg.out ag M rfl).1;refine⟨I,L,K,pa,ar,aq,((c.out.nf.trans (NF.cM aK.out)).dZ (by omega)).dZ (by omega),am.out,(bk.out.db _).dJ _,λd k B Y=>?_,?_,(Bc.set aC a9.2).set a9.2,bC,by simp;omega⟩
      ·have aL:d≠g:=λh=>by
        rcases c.out.gg with aa|aa
        ·exact Y (by rw[h];exact aa)
        ·omega
       rw[Ac4 _ _ _ _ aL,Ac4 _ _ _ _ aL,aK.out.block d (by omega) (by omega),c.out.fr d k B Y]
      ·rcases c.out.gg with aa|aa
       ·exact Ads aa
       ·exact Ad7 ⟨aa,a9.2⟩
    case rest=>
     rename Q=>V
     obtain⟨I,L,K,pa,ar,aq,r⟩:=hcut;have bT:=r.out.tx.c3;have bU:=r.out.tx.c7;have br:=r.out.sz;match hex:pE s 30 M with
     |P (U,a)=>
      have ai:Hid (GP s (wf.map (·.1)++H.map (·.1)) v=P (U,a)):=by show _=_;rw[bi.out,hex];rfl
      go_wp2;all_goals
       go_region_with ((go_at_call 83;refine(GN aG 30 0 rfl _ _ _ _ _ _ r.out.tx.drew bj.out).mono ?_;rintro aS b1 ⟨a6,a4,aY,rfl,ao⟩;have ac:=IX a6;clear a6;rw[hex]at a4 ao;have ax:=hid ac;have bm:=hid ao;have ad:=r.out.row.ef ac;have bl:=hid ad;obtain⟨ba,bb,bc⟩:=ad.cell;have bQ:=ad.frozen (H.length*4+3);have bz:=ac.size;obtain⟨O,i,aw⟩:=a4;have az:=hid aw;have bf:=i.c7;have am:=hid (i.dP (g:=g) (j:=H.length*4+3) (u:=J aY) c.out.row.lt.1);clear i;clear ac ao ad))
      all_goals(try go_wp2)
      all_goals
       refine bE ?_;refine⟨rfl,(r.out.nf.trans (NF.cM ax.out)).dZ (by have:=c.out.row.lt.1;omega),by rw[ai.out];exact⟨_,_,am.out,az.out,_,_,_,rfl⟩⟩
     |.ok (h,O)=>
      have ai:Hid (GP s (wf.map (·.1)++H.map (·.1)) v=.ok ((e,ag,h),O)):=by show _=_;rw[bi.out,hex];rfl
      go_wp2;all_goals
       go_region_with ((go_at_call 83;refine(GN aG 30 0 rfl _ _ _ _ _ _ r.out.tx.drew bj.out).mono ?_;rintro aS b1 ⟨a6,a4,aY,rfl,ao⟩;have ac:=IX a6;clear a6;rw[hex]at a4 ao;have ax:=hid ac;have bm:=hid ao;have ad:=r.out.row.ef ac;have bl:=hid ad;obtain⟨ba,bb,bc⟩:=ad.cell;have bQ:=ad.frozen (H.length*4+3);have bz:=ac.size;obtain⟨i,aw⟩:=a4;have az:=hid aw;have bf:=i.c7;have am:=hid (i.dP (g:=g) (j:=H.length*4+3) (u:=J aY) c.out.row.lt.1);clear i;clear ac ao ad))
      all_goals(try go_wp2)
      all_goals
       refine bE ?_;have a9:=c.out.row.lt;have bq:=c.out.tx.lt;have aC:=r.out.nr;refine⟨rfl,(r.out.nf.trans (NF.cM ax.out)).dZ (by omega),?_⟩;rw[ai.out];refine⟨_,_,am.out,az.out,au.out.push (x:=W.heap.size) (m:=V.heap.size) (y:=b1.heap.size) br.1 (by simp) br.2 bz (λd k B Y=>?_) (bl.out.HN _) r.out.gg ((aC.ef ax.out (by omega)).set a9.2) (λd aU=>(aC.l.lt d aU).2) (λd aU=>(aC.p.lt d aU).2) ?_⟩
       ·have aL:d≠g:=λh=>by
         rcases r.out.gg with aa|aa
         ·exact Y (by rw[h];exact aa)
         ·omega
        rw[Ac4 _ _ _ _ aL,ax.out.block d (by omega) (by omega),r.out.fr d k B Y]
       ·exact RX.same (bm.out h O rfl) (λd k B=>Ac4 _ _ _ _ (show d≠g by have:V.heap.size<=d:=k;omega)) (by simp)
theorem Tryz.gT:(Acs.info? 55).map (λa=>(a.zero,a.size,a.bytes))=some (some (T #[S ⟨#[]⟩,V C 0]),2,24):=by kernel_rfl
def D9:ByteArray:=⟨#[105,109,112,111,114,116]⟩
def SN:ByteArray:=⟨#[100,101,102]⟩
def Gv:ByteArray:=⟨#[109,111,100,117,108,101]⟩
def Ao(b:DR)(a:Dn):List ByteArray:=b.map (·.1)++a.map (·.1)
def EB(a:ByteArray)(d:DR)(b:Dn)(c:Nat):Pr (DR×Dn):=
 if Ag a c=D9/\b=[] then pb (EZ a (Ao d b) (AC a c)) λh e=>pb (Bt a 20 e) λf i=>.ok ((d++[(h,f.1)],b),i)
 else if Ag a c=SN then pb (GP a (Ao d b) (AC a c)) λg e=>.ok ((d,b++[g]),e)
 else P (2,Am a c)
def CI(a:ByteArray):Nat->DR->Dn->Nat->Pr (DR×Dn)
 |0,_,_,p=>P (2,p)
 |f+1,im,df,p=>
  if Ag a p=Ae then (if Ag a (AC a p)=⟨#[]⟩ then .ok ((im,df),Bi a (AC a p)) else P (2,Am a (AC a p)))
  else if Ag a p=Ax then pb (EB a im df (AC a p)) λb c=>pb (Al a Ae c) λ_ d=>CI a f b.1 b.2 d
  else P (2,Am a p)
def Bo(a:ByteArray)(c:Nat):Pr (ByteArray×DR×Dn):=pb (Al a Ax c) λ_ d=>pb (Al a Gv d) λ_ e=>pb (AV a e) λh f=>pb (CI a (a.size+1) [] [] f) λb g=>.ok ((h.1,b.1,b.2),g)
theorem Xc:IB s (GP s y) 4:=by
 intro m h o q a;let ⟨k,b,e,a⟩:=Ac a
 have i:=JM m h k b e;let ⟨l,c,f,a⟩:=Ac a
 have j:=BU b i.2 l c f;let ⟨d,n,g,a⟩:=Ac a
 have p:=Dq s 30 c j.2 d n g;cases a;omega
theorem Yv(c:ByteArray)(f:List ByteArray):NZ (GP c f):=by
 intro g e d b;rcases Af b with a|⟨k,h,a,b⟩
 ·exact Hk c _ g e d a
 rcases Af b with a|⟨l,i,a,b⟩
 ·exact FY c h e d a
 rcases Af b with a|⟨j,m,a,b⟩
 ·exact Jr c 30 i e d a
 cases b
structure Qn (b:Nat) (d:ByteArray) (f:Pr (DR×Dn)) (g:Nat) (e:X) (h wr:Q):Prop where
 nf:NF b b h wr
 ok:∀im df q,f=.ok ((im,df),q)->q<=d.size/\im.length+df.length<=q/\∃iv dv kd,TX wr b d q 0 0 g e iv dv/\EH b wr iv dv im df kd
 er:∀c a,f=P (c,a)->c≠0/\∃q iv dv,TX wr b d q 0 c a e iv dv/\q<=d.size/\∃dp dn dc,dv=W dp dn dc
structure JR (f:Nat) (d:ByteArray) (h:Nat) (g:X) (i:Q) (r0:Pr (DR×Dn)) (wr:Q) (b:Pr (DR×Dn)) (e:Nat):Prop where
 ma:Qn f d b h g i wr
 eq:∀im df q,b=.ok ((im,df),q)->d.size+1<=e+q/\r0=CI d e im df q
 er:∀c a,b=P (c,a)->r0=P (c,a)
def U3(b:Nat)(f:ByteArray)(o:Pr (ByteArray×DR×Dn))(n:Nat)(p g:Q):Prop:=NF b b p g/\match o with
 |.ok (x,d)=>∃e h l,TX g b f d 0 0 n (S x.1) e h/\d<=f.size/\EH b g e h x.2.1 x.2.2 l/\x.2.1.length+x.2.2.length<=2000
 |P (c,a)=>∃d m e k j i,TX g b f d 0 c a m e (W k j i)/\d<=f.size
theorem EH.nil(a:Nat)(b:Q)(c:a<b.heap.size):EH a b (W none 0 0) (W none 0 0) [] [] []:=⟨Ad1 _ _ _ _,Ad1 _ _ _ _,c,λe d=>by cases d⟩
theorem Nd(b:DR)(a:ByteArray×Nat):Cm (b++[a])=Cm b++[S a.1,V C (a.2:Int)]:=by unfold Cm;simp
theorem EH.eN{x:ByteArray×Nat}(c:EH w n m q wf [] wl)(l:w<n.heap.size)(e:(n.alloc nv).grownBy p m.ownBlock)(f:p.ownsRow (w+1) 55 2 (W (some ⟨v,0,none⟩) (wf.length+1) b) (wf.length+1) (Cm wf++[S x.1,V C (x.2:Int)])):EH w (p.setCell ⟨w,6,none⟩ (W (some ⟨v,0,none⟩) (wf.length+1) b)) (W (some ⟨v,0,none⟩) (wf.length+1) b) q (wf++[x]) [] wl:=by
 have j:=e.size;simp at j;have h:=Aeo (by rw[c.dk.len];rfl);subst h;refine⟨?_,Az c.dr λa d=>?_,?_,λo i=>by cases i⟩
 ·rw[Adk,Nd];refine Az f λa d=>?_;rw[An,Ac9]at d;subst d;exact Ac4 _ _ _ _ (show a≠w by have:=(f.lt a rfl).1;omega)
 ·have k:=c.dr.lt a (Ah.1 d);rw[Ac4 _ _ _ _ (show a≠w by omega),e.block a (by simp;omega) (λg=>Fj c.dr c.ir nofun a (Ah.1 d) g.symm),Ad3 n nv k.2]
 ·show w+1<=_;simp;omega
theorem JR.fin{r0:Pr (DR×Dn)}{wr:Q}(b:Qn w s r0 v (S wn) n wr)(u:s.size<=2000){i:Pr (ByteArray×DR×Dn)}(q:i=pb r0 λj t=>.ok ((wn,j.1,j.2),t)):U3 w s i v n wr:=by
 subst q;match r0,b with
 |.ok ((im,df),f),b=>
  obtain⟨d,h,e,g,r,o,p⟩:=b.ok im df f rfl;exact⟨b.nf,e,g,r,o,d,p,by simp;omega⟩
 |P (c,a),b=>
  obtain⟨-,f,e,g,d,h,m,l,k,rfl⟩:=b.er c a rfl;exact⟨b.nf,f,_,e,m,l,k,d,h⟩
theorem Qn.err{wr:Q}(g:NF w w n wr)(l:v≠0)(k:TX wr w s d 0 v b m q j)(p:d<=s.size)(o:∃f e c,j=W f e c):Qn w s (P (v,b)) x m n wr:=
 ⟨g,λ_ _ _ a=>(by cases a),λi h a=>(by grind)⟩
theorem Dv(a:TX n w s v d 0 w5 m q j)(g:v<=s.size)(c:TX p w s b x K wi f wv vc)(e:K≠0):left s w p<left s w n:=by
 rw[Fc a,M3 c e];omega
theorem Hm{s:ByteArray}(B:TX n w s v 0 0 b m (W none 0 0) (W none 0 0))(H:s.size<=2000)(cq:v<=s.size):
 Adg Acs 19 #[J (some ⟨w,0,none⟩)] n λa cI=>a=F (R #[])/\U3 w s (Bo s v) b n cI:=by
 have c2:=hid (A6 (t:=Ax) B H cq);have cO:=B.lt;have bt:Hid (Bo s v=pb (Al s Ax v) λ_ av=>pb (Al s Gv av) λ_ am=>pb (AV s am) λx aL=>pb (CI s (s.size+1) [] [] aL) λb4 an=>.ok ((x.1,b4.1,b4.2),an)):=rfl;clear B;match hw1:Al s Ax v,c2 with
 |P (c,h),HW1'=>
  have G:=A5 s _ v c h hw1;have aT:((c:Int)==0)=false:=by grind
  have ap:Hid (Bo s v=P (c,h)):=by show _=_;rw[bt.out,hw1];rfl
  go_enter Tryz.func19,Tryz.ntmps19;go_wp2_with (first
   |(go_at_call 37;refine HW1'.out.mono ?_;rintro a ac ⟨rfl,o⟩;obtain⟨a0,av,E,be⟩:=AN o;have D:=hid a0;have aN:=hid E;have bl:=E.c3;clear o a0 E HW1'))
  all_goals first
   |(exfalso;omega)
   |skip
  go_loopw [] (λwr=>wr=ac) (λ_=>0)
  case atStart=>rfl
  case round=>
   subst hrel;go_wp2;all_goals first
    |(exfalso;omega)
    |(refine bE ?_
      exact⟨rfl,NF.cM D.out,by rw[ap.out];exact⟨_,_,_,_,_,_,aN.out,be⟩⟩)
 |.ok (u1,av),HW1'=>
  have cm:=Aj (s:=s) (t:=Ax) (by decide) v cq u1 av hw1;have bk:=hid (λac (B:TX ac w s av 0 0 b m (W none 0 0) (W none 0 0))=>A6 (t:=Gv) B H cm.2);match hw2:Al s Gv av with
  |P (c,h)=>
   have G:=A5 s _ av c h hw2;have aT:((c:Int)==0)=false:=by grind
   have ap:Hid (Bo s v=P (c,h)):=by show _=_;rw[bt.out,hw1,Ai,hw2];rfl
   go_enter Tryz.func19,Tryz.ntmps19;go_wp2_with (first
    |(go_at_call 37;refine HW1'.out.mono ?_;rintro a ac ⟨rfl,o⟩;obtain⟨a0,E,be⟩:=AN o;have D:=hid a0;have aN:=hid E;have bl:=E.c3;clear o a0 E HW1' be)
    |(go_at_call 37;refine(bk.out _ aN.out).mono ?_;rintro a ae ⟨rfl,o⟩;rw[hw2]at o;obtain⟨i,am,g,b1⟩:=AN o;have k:=hid i;have r:=hid g;have bJ:=g.c3;clear o i g bk))
   all_goals first
    |(exfalso;omega)
    |skip
   go_loopw [] (λwr=>wr=ae) (λ_=>0)
   case atStart=>rfl
   case round=>
    subst hrel;go_wp2;all_goals first
     |(exfalso;omega)
     |(refine bE ?_
       exact⟨rfl,(NF.cM D.out).trans (NF.cM k.out),by rw[ap.out];exact⟨_,_,_,_,_,_,r.out,b1⟩⟩)
  |.ok (u2,am)=>
   have cn:=Aj (s:=s) (t:=Gv) (by decide) av cm.2 u2 am hw2;have bs:=hid (λac (B:TX ac w s am 0 0 b m (W none 0 0) (W none 0 0))=>Fw B H cn.2);obtain⟨tt,bV⟩:∃tt,Ag s am=tt:=⟨_,rfl⟩;rw[bV]at bs;match hn:AV s am with
   |P (c,h)=>
    have G:=E9 s am c h hn;have aT:((c:Int)==0)=false:=by rw[beq_eq_false_iff_ne];omega
    have ap:Hid (Bo s v=P (c,h)):=by show _=_;rw[bt.out,hw1,Ai,hw2,Ai,hn];rfl
    go_enter Tryz.func19,Tryz.ntmps19;go_wp2_with (first
     |(go_at_call 37;refine HW1'.out.mono ?_;rintro a ac ⟨rfl,o⟩;obtain⟨a0,E,be⟩:=AN o;have D:=hid a0;have aN:=hid E;have bl:=E.c3;clear o a0 E HW1' be)
     |(go_at_call 37;refine(bk.out _ aN.out).mono ?_;rintro a ae ⟨rfl,o⟩;rw[hw2]at o;obtain⟨i,g,b1⟩:=AN o;have k:=hid i;have r:=hid g;have bJ:=g.c3;clear o i g bk b1)
     |(go_at_call 38;refine(bs.out _ r.out).mono ?_;rintro a aj ⟨rfl,e,bx⟩;rw[hn]at bx;obtain⟨aL,f,bS⟩:=bx;have O:=hid e;have p:=hid (f.ey (S tt));have aH:=f.c5;have ci:=f.f 5 (by omega);have bY:=(f.ey (S tt)).c3;clear e f bs))
    all_goals first
     |(exfalso;omega)
     |skip
    obtain⟨ao,bW⟩:∃c3,aj.setCell ⟨w,5,none⟩ (S tt)=c3:=⟨_,rfl⟩;have cz:Hid (NF w w n ao):=by rw[<-bW];exact(((NF.cM D.out).trans (NF.cM k.out)).trans (NF.cM O.out)).set _
    rw[bW]at p bY ⊢;clear bW;go_loopw [] (λwr=>wr=ao) (λ_=>0)
    case atStart=>rfl
    case round=>
     subst hrel;go_wp2;all_goals first
      |(exfalso;omega)
      |(refine bE ?_
        exact⟨rfl,cz.out,by rw[ap.out];exact⟨_,_,_,_,_,_,p.out,bS⟩⟩)
   |.ok (x,aL)=>
    obtain⟨cV,cW,rfl,rfl⟩:=EU cn.2 hn;obtain⟨r0,bU⟩:∃b3,CI s (s.size+1) [] [] (AC s am)=b3:=⟨_,rfl⟩;have b5:Hid (Bo s v=pb r0 λb4 an=>.ok ((tt,b4.1,b4.2),an)):=by show _=_;rw[bt.out,hw1,Ai,hw2,Ai,hn,Ai,bU,bV]
    have cd:=hid bU;clear bt bU;go_enter Tryz.func19,Tryz.ntmps19;go_wp2_with (first
     |(go_at_call 37;refine HW1'.out.mono ?_;rintro a ac ⟨rfl,o⟩;obtain⟨a0,E,be⟩:=AN o;have D:=hid a0;have aN:=hid E;have bl:=E.c3;clear o a0 E HW1' be)
     |(go_at_call 37;refine(bk.out _ aN.out).mono ?_;rintro a ae ⟨rfl,o⟩;rw[hw2]at o;obtain⟨i,g,b1⟩:=AN o;have k:=hid i;have r:=hid g;have bJ:=g.c3;clear o i g bk b1)
     |(go_at_call 38;refine(bs.out _ r.out).mono ?_;rintro a aj ⟨rfl,e,bx⟩;rw[hn]at bx;obtain⟨f,bS⟩:=bx;have O:=hid e;have p:=hid (f.ey (S tt));have aH:=f.c5;have ci:=f.f 5 (by omega);have bY:=(f.ey (S tt)).c3;clear e f bs))
    all_goals first
     |(exfalso;omega)
     |skip
    have c1:Hid (JR w s b (S tt) n r0 (aj.setCell ⟨w,5,none⟩ (S tt)) (.ok (([],[]),AC s am)) (s.size+1)):=by
     have c8:=p.out.lt;refine⟨⟨(((NF.cM D.out).trans (NF.cM k.out)).trans (NF.cM O.out)).set _,λu ad q d=>?_,λc h d=>(by cases d)⟩,λu ad q d=>?_,λc h d=>(by cases d)⟩
     ·cases d;exact⟨bS,by simp,_,_,[],p.out,EH.nil _ _ c8⟩
     ·cases d;exact⟨by omega,cd.out.symm⟩
    clear p D k O aN r bl bJ aH ci bY cd hw1 hw2 hn bV;go_loopw [] (λwr=>∃b3 ag,Hid (JR w s b (S tt) n r0 wr b3 ag)) (λwr=>left s w wr)
    case atStart=>exact⟨_,_,c1⟩
    case round=>
     obtain⟨b3,ag,L⟩:=hrel;rename Q=>wr
     match b3,L with
     |P (c,h),L=>
      obtain⟨G,q,aJ,bm,E,cF,cl⟩:=L.out.ma.er c h rfl;have cy:=hid cl;clear cl;have aT:((c:Int)==0)=false:=by rw[beq_eq_false_iff_ne];omega
      have bl:=E.c3;have ax:=hid E;have ap:=hid (L.out.er c h rfl);clear E;go_wp2;all_goals first
       |(exfalso;omega)
       |(refine bE ?_
         exact⟨rfl,JR.fin (Qn.err L.out.ma.nf G ax.out cF cy.out) H (by rw[b5.out,ap.out])⟩)
     |.ok ((u,ad),q),L=>
      obtain⟨aK,da,aJ,bm,cG,E,cj⟩:=L.out.ma.ok u ad q rfl;obtain⟨db,cv⟩:=L.out.eq u ad q rfl;obtain⟨ag,rfl⟩:∃c4,ag=c4+1:=⟨ag-1,by omega⟩;have bl:=E.c3;have ax:=hid E;have M:=hid cj;have ap:=hid cv;have z:=hid (BL E H aK);have bn:=AK aK;obtain⟨aY,aI⟩:∃t,Ag s q=t:=⟨_,rfl⟩;unfold BO at z;rw[aI]at z;have ce:=D8 (tt:=aY) (t:=Ae) (l:=[41]) (by rw[Adw];rfl);have cf:=D8 (tt:=aY) (t:=Ax) (l:=[40]) (by rw[Adw];rfl);clear E cj cv;by_cases aD:aY=Ae
      ·rw[show decide (aY=Ae)=true by simp[aD]]at ce;have bh:=hid (λac (B:TX ac w s (AC s q) 0 0 b (S tt) aJ bm)=>CQ B H bn);obtain⟨ab,ai⟩:∃t,Ag s (AC s q)=t:=⟨_,rfl⟩;unfold BO at bh;rw[ai]at bh;by_cases ar:ab=⟨#[]⟩
       ·have af:Hid (r0=.ok ((u,ad),Bi s (AC s q))):=by show _=_;rw[ap.out,CI,aI,if_pos aD,ai,if_pos ar]
        clear aI ai aD;subst ar;go_wp2_with (first
         |(go_at_call 39;refine z.out.mono ?_;rintro a ae ⟨rfl,g,i⟩;have r:=hid g;have k:=hid i;clear g i z)
         |(go_at_call 40;refine(bh.out _ r.out).mono ?_;rintro a aj ⟨rfl,f,e⟩;have K:=hid f;have O:=hid e;clear f e bh))
        all_goals first
         |(exfalso;simp_all;done)
         |skip
        refine bE ?_;refine⟨rfl,JR.fin (r0:=r0) ⟨(L.out.ma.nf.trans (NF.cM k.out)).trans (NF.cM O.out),λb9 b7 bC d=>?_,λc h d=>(by rw[af.out]at d;cases d)⟩ H b5.out⟩;rw[af.out]at d;cases d;have cS:=AX s (AC s q);have cC:=GR s q;have cU:=AX s q;unfold Am at cC;exact⟨A8 bn,by omega,aJ,bm,cG,K.out,(M.out.ef k.out).ef O.out⟩
       ·have af:Hid (r0=P (2,Am s (AC s q))):=by show _=_;rw[ap.out,CI,aI,if_pos aD,ai,if_neg ar]
        have cE:¬ab.toList=[]:=λB=>ar (Bl (by rw[B,Adw]));have cX:ab.toList.isEmpty=false:=by cases d:ab.toList with|nil=>exact absurd d cE|cons h bc=>rfl
        have br:=hid (λac (B:TX ac w s (Bi s (AC s q)) 0 0 b (S tt) aJ bm)=>AR (c:=2) (q:=Am s (AC s q)) B);clear aI ai aD ar;go_wp2_with (first
         |(go_at_call 39;refine z.out.mono ?_;rintro a ae ⟨rfl,g,i⟩;have r:=hid g;have k:=hid i;clear g i z)
         |(go_at_call 40;refine(bh.out _ r.out).mono ?_;rintro a aj ⟨rfl,f,e⟩;have K:=hid f;have O:=hid e;clear f e bh)
         |(go_at_call 41;refine(br.out _ K.out).mono ?_;rintro a ao ⟨rfl,j,I⟩;have p:=hid j;have U:=hid I;clear j I br))
        all_goals first
         |(exfalso;simp_all;done)
         |skip
        refine bE ?_;refine⟨rfl,JR.fin (r0:=r0) (by rw[af.out];exact Qn.err (((L.out.ma.nf.trans (NF.cM k.out)).trans (NF.cM O.out)).trans (NF.cM U.out)) (by decide) p.out (A8 bn) (by first|exact⟨_,_,_,rfl⟩|(obtain⟨v,c,a⟩:=Ad M.out.dr;exact⟨_,_,_,a⟩))) H b5.out⟩
      ·rw[show decide (aY=Ae)=false by simp[aD]]at ce;by_cases ar:aY=Ax
       ·rw[show decide (aY=Ax)=true by simp[ar]]at cf;have af:Hid (r0=pb (EB s u ad (AC s q)) λx aL=>pb (Al s Ae aL) λ_ an=>CI s ag x.1 x.2 an):=by show _=_;rw[ap.out,CI,aI,if_neg aD,if_pos ar]
        have N:=hid (λac (B:TX ac w s (AC s q) 0 0 b (S tt) aJ bm)=>BL B H bn);have au:=AK bn;have cY:=Ac5 (AX s q) (GR s q);have cZ:AC s q<=AC s (AC s q):=Ac5 (AX s _) (GR s _);obtain⟨ab,ai⟩:∃t,Ag s (AC s q)=t:=⟨_,rfl⟩;unfold BO at N;rw[ai]at N;have b6:=D8 (tt:=ab) (t:=D9) (l:=[105,109,112,111,114,116]) (by rw[Adw];rfl);have bI:=D8 (tt:=ab) (t:=SN) (l:=[100,101,102]) (by rw[Adw];rfl);obtain⟨cN,cM,rfl⟩:=Ad M.out.dr;clear aI aD ar;by_cases al:ab=D9/\ad=[]
        ·obtain⟨al,rfl⟩:=al;rw[show decide (ab=D9)=true by simp[al]]at b6;have bi:Hid (r0=pb (pb (EZ s (u.map (·.1)++([]:Dn).map (·.1)) (AC s (AC s q))) λbB av=>pb (Bt s 20 av) λh am=>.ok ((u++[(bB,h.1)],[]),am)) λx aL=>pb (Al s Ae aL) λ_ an=>CI s ag x.1 x.2 an):=by
          show _=_;rw[af.out];unfold EB;rw[ai,if_pos ⟨al,rfl⟩];rfl
         clear af ai bI al;match hpd:EZ s (u.map (·.1)++([]:Dn).map (·.1)) (AC s (AC s q)) with
         |P (c,h)=>
          have G:=Hk s _ _ c h hpd;have aT:((c:Int)==0)=false:=by rw[beq_eq_false_iff_ne];omega
          have D:Hid (r0=P (c,h)):=by show _=_;rw[bi.out,hpd];rfl
          go_wp2_with (first
           |(go_at_call 39;refine z.out.mono ?_;rintro a ae ⟨rfl,g,i⟩;have r:=hid g;have k:=hid i;clear g i z)
           |(go_at_call 39;refine(N.out _ r.out).mono ?_;rintro a aj ⟨rfl,f,e⟩;have K:=hid f;have O:=hid e;have Y:=hid ((L.out.ma.nf.trans (NF.cM k.out)).trans (NF.cM e));have y:=hid ((M.out.ef k.out).ef e);have aZ:=f.c7;clear f e N)
           |(go_at_call 42;refine(Ej K.out H au y.out.ir y.out.dr y.out.dk.len (by omega) (by simp)).mono ?_;rintro a ao ⟨rfl,I,az⟩;rw[hpd]at az;obtain⟨aw,j,aW⟩:=az;have p:=hid j;have U:=hid I;have ba:=j.c3;clear j I))
          all_goals first
           |(exfalso;omega)
           |(exfalso;simp_all;done)
           |skip
          exact⟨⟨P (c,h),0,⟨Qn.err (Y.out.trans (NF.cM U.out)) G p.out aW (by first|exact⟨_,_,_,rfl⟩|exact bb.out|(obtain⟨v,c,a⟩:=Ad aG.out.dr;exact⟨_,_,_,a⟩)|(obtain⟨v,c,a⟩:=Ad M.out.dr;exact⟨_,_,_,a⟩)),λ_ _ _ d=>(by cases d),λaC ak d=>(by cases d;exact D.out)⟩⟩,Dv ax.out aK p.out G⟩
         |.ok (bB,aw)=>
          have aU:=JM _ au bB aw hpd;obtain⟨a9,b8⟩:∃t,Ag s (AC s (AC s q))=t:=⟨_,rfl⟩;have cD:bB=a9:=by
           obtain⟨x,am,bw,bK⟩:=Ac hpd;split at bK
           ·cases bK
           ·cases bK;obtain⟨-,-,rfl,-⟩:=EU au bw;exact b8
          obtain⟨bX,bQ,co⟩:=Adb.1 Tryz.gT;simp only[Aeb]at co;obtain⟨bN,bO,bP⟩:=co;have bR:u.length<=2000:=by omega
          have cJ:=hid hpd;match hpt:Bt s 20 aw with
          |P (c,h)=>
           have G:=FSa s 20 aw c h hpt;have aT:((c:Int)==0)=false:=by rw[beq_eq_false_iff_ne];omega
           have D:Hid (r0=P (c,h)):=by show _=_;rw[bi.out,hpd,Ai,hpt];rfl
           go_wp2_with (first
            |(go_at_call 39;refine z.out.mono ?_;rintro a ae ⟨rfl,g,i⟩;have r:=hid g;have k:=hid i;clear g i z)
            |(go_at_call 39;refine(N.out _ r.out).mono ?_;rintro a aj ⟨rfl,f,e⟩;have K:=hid f;have O:=hid e;have Y:=hid ((L.out.ma.nf.trans (NF.cM k.out)).trans (NF.cM e));have y:=hid ((M.out.ef k.out).ef e);have aZ:=f.c7;clear f e N)
            |(go_at_call 42;refine(Ej K.out H au y.out.ir y.out.dr y.out.dk.len bR (by simp)).mono ?_;rw[b8];rintro a ao ⟨rfl,I,az⟩;rw[hpd]at az;obtain⟨j,aW⟩:=az;have p:=hid j;have U:=hid I;have ba:=j.c3;clear j I)
            |(go_at_call 43;refine(ES (most:=20) p.out H aU.2).mono ?_;rintro a aB ⟨a1,aQ,aO,rfl,a6⟩;rw[hpt]at aQ a6;have bp:=hid a1;have bD:=hid a6;have aq:=hid ((y.out.ef U.out).ef a1);obtain⟨bf,a3,bT⟩:=aQ;have c0:=hid bT;have cx:=a3.c6;have ca:=a3.lt;clear a1 a6)
            |(at_builtin;refine Adl _ rfl _ _ _ rfl (w+1) 55 bX _ 2 24 Tryz.underlying36 bQ bN bO bP rfl (by omega) aJ u.length (Cm u) rfl (Adr aq.out.ir _) ⟨aB.heap.size,0,none⟩ 1 1 [S a9,V C aO] rfl rfl (by have B:=Adu (Adp aB (Adi #[S a9,V C aO] 55));simpa using B) (by intro bo aX;simp at aX;rcases aX with rfl|rfl<;>rfl) (by omega) (by unfold Aed;omega) (by omega) (by simp;omega) (aB.heap.size+1) (by simp) ?_;intro aa bv cw aV a8 b0 cp;have bG:=hid aV;have bg:=hid a8;have ah:=a3.grown a8 (λaa a7=>by have:=(aq.out.ir.lt aa a7).1;omega);have cs:=ah.c6;have ct:=ah.f 6 (by omega);have a4:=ah.eL (W (some ⟨aa,0,none⟩) (u.length+1) bv);have bj:=hid a4;have cr:=a4.c3;clear aV a8 b0 ah a4))
           all_goals first
            |(exfalso;omega)
            |(exfalso;simp_all;done)
            |skip
           exact⟨⟨P (c,h),0,⟨Qn.err ((((Y.out.trans (NF.cM U.out)).trans (NF.cM bp.out)).grown bg.out (λaa a7=>by have:=(aq.out.ir.lt aa a7).1;omega)).set _) G bj.out c0.out (by first|exact⟨_,_,_,rfl⟩|exact bb.out|(obtain⟨v,c,a⟩:=Ad aG.out.dr;exact⟨_,_,_,a⟩)|(obtain⟨v,c,a⟩:=Ad M.out.dr;exact⟨_,_,_,a⟩)),λ_ _ _ d=>(by cases d),λaC ak d=>(by cases d;exact D.out)⟩⟩,Dv ax.out aK bj.out G⟩
          |.ok (h,bf)=>
           have bL:=B7 aw aU.2 h bf hpt;have bu:Hid (r0=pb (Al s Ae bf) λ_ an=>CI s ag (u++[(a9,h.1)]) [] an):=by show _=_;rw[bi.out,hpd,Ai,hpt,cD];rfl
           match hwc:Al s Ae bf with
           |P (c,ak)=>
            have G:=A5 s _ bf c ak hwc;have aT:((c:Int)==0)=false:=by rw[beq_eq_false_iff_ne];omega
            have D:Hid (r0=P (c,ak)):=by show _=_;rw[bu.out,hwc];rfl
            go_wp2_with (first
             |(go_at_call 39;refine z.out.mono ?_;rintro a ae ⟨rfl,g,i⟩;have r:=hid g;have k:=hid i;clear g i z)
             |(go_at_call 39;refine(N.out _ r.out).mono ?_;rintro a aj ⟨rfl,f,e⟩;have K:=hid f;have O:=hid e;have Y:=hid ((L.out.ma.nf.trans (NF.cM k.out)).trans (NF.cM e));have y:=hid ((M.out.ef k.out).ef e);have aZ:=f.c7;clear f e N)
             |(go_at_call 42;refine(Ej K.out H au y.out.ir y.out.dr y.out.dk.len bR (by simp)).mono ?_;rw[b8];rintro a ao ⟨rfl,I,az⟩;rw[hpd]at az;obtain⟨j,aW⟩:=az;have p:=hid j;have U:=hid I;have ba:=j.c3;clear j I)
             |(go_at_call 43;refine(ES (most:=20) p.out H aU.2).mono ?_;rintro a aB ⟨a1,aQ,aO,rfl,a6⟩;rw[hpt]at aQ a6;have bp:=hid a1;have bD:=hid a6;have aq:=hid ((y.out.ef U.out).ef a1);obtain⟨a3,bT⟩:=aQ;have cx:=a3.c6;have ca:=a3.lt;clear a1 a6)
             |(at_builtin;refine Adl _ rfl _ _ _ rfl (w+1) 55 bX _ 2 24 Tryz.underlying36 bQ bN bO bP rfl (by omega) aJ u.length (Cm u) rfl (Adr aq.out.ir _) ⟨aB.heap.size,0,none⟩ 1 1 [S a9,V C aO] rfl rfl (by have B:=Adu (Adp aB (Adi #[S a9,V C aO] 55));simpa using B) (by intro bo aX;simp at aX;rcases aX with rfl|rfl<;>rfl) (by omega) (by unfold Aed;omega) (by omega) (by simp;omega) (aB.heap.size+1) (by simp) ?_;intro aa bv cw aV a8 b0 cp;have bG:=hid aV;have bg:=hid a8;have ah:=a3.grown a8 (λaa a7=>by have:=(aq.out.ir.lt aa a7).1;omega);have cs:=ah.c6;have ct:=ah.f 6 (by omega);have a4:=ah.eL (W (some ⟨aa,0,none⟩) (u.length+1) bv);have bj:=hid a4;have cr:=a4.c3;clear aV a8 b0 ah a4)
             |(go_at_call 37;refine(A6 (t:=Ae) bj.out H bL.2).mono ?_;rintro a bZ ⟨rfl,o⟩;rw[hwc]at o;obtain⟨a2,aM,a5,b2⟩:=AN o;have aE:=hid a2;have ay:=hid a5;clear o a2 a5))
            all_goals first
             |(exfalso;omega)
             |(exfalso;simp_all;done)
             |skip
            exact⟨⟨P (c,ak),0,⟨Qn.err (((((Y.out.trans (NF.cM U.out)).trans (NF.cM bp.out)).grown bg.out (λaa a7=>by have:=(aq.out.ir.lt aa a7).1;omega)).set _).trans (NF.cM aE.out)) G ay.out b2 (by first|exact⟨_,_,_,rfl⟩|exact bb.out|(obtain⟨v,c,a⟩:=Ad aG.out.dr;exact⟨_,_,_,a⟩)|(obtain⟨v,c,a⟩:=Ad M.out.dr;exact⟨_,_,_,a⟩)),λ_ _ _ d=>(by cases d),λaC cK d=>(by cases d;exact D.out)⟩⟩,Dv ax.out aK ay.out G⟩
           |.ok (bo,aM)=>
            have bM:=Aj (s:=s) (t:=Ae) (by decide) bf bL.2 bo aM hwc;have D:Hid (r0=CI s ag (u++[(a9,h.1)]) [] aM):=by show _=_;rw[bu.out,hwc];rfl
            go_wp2_with (first
             |(go_at_call 39;refine z.out.mono ?_;rintro a ae ⟨rfl,g,i⟩;have r:=hid g;have k:=hid i;clear g i z)
             |(go_at_call 39;refine(N.out _ r.out).mono ?_;rintro a aj ⟨rfl,f,e⟩;have K:=hid f;have O:=hid e;have Y:=hid ((L.out.ma.nf.trans (NF.cM k.out)).trans (NF.cM e));have y:=hid ((M.out.ef k.out).ef e);have aZ:=f.c7;clear f e N)
             |(go_at_call 42;refine(Ej K.out H au y.out.ir y.out.dr y.out.dk.len bR (by simp)).mono ?_;rw[b8];rintro a ao ⟨rfl,I,az⟩;rw[hpd]at az;obtain⟨j,aW⟩:=az;have p:=hid j;have U:=hid I;have ba:=j.c3;clear j I)
             |(go_at_call 43;refine(ES (most:=20) p.out H aU.2).mono ?_;rintro a aB ⟨a1,aQ,aO,rfl,a6⟩;rw[hpt]at aQ a6;have bp:=hid a1;have bD:=hid a6;have aq:=hid ((y.out.ef U.out).ef a1);obtain⟨a3,bT⟩:=aQ;have cx:=a3.c6;have ca:=a3.lt;clear a1 a6)
             |(at_builtin;refine Adl _ rfl _ _ _ rfl (w+1) 55 bX _ 2 24 Tryz.underlying36 bQ bN bO bP rfl (by omega) aJ u.length (Cm u) rfl (Adr aq.out.ir _) ⟨aB.heap.size,0,none⟩ 1 1 [S a9,V C aO] rfl rfl (by have B:=Adu (Adp aB (Adi #[S a9,V C aO] 55));simpa using B) (by intro bo aX;simp at aX;rcases aX with rfl|rfl<;>rfl) (by omega) (by unfold Aed;omega) (by omega) (by simp;omega) (aB.heap.size+1) (by simp) ?_;intro aa bv cw aV a8 b0 cp;have bG:=hid aV;have bg:=hid a8;have ah:=a3.grown a8 (λaa a7=>by have:=(aq.out.ir.lt aa a7).1;omega);have cs:=ah.c6;have ct:=ah.f 6 (by omega);have a4:=ah.eL (W (some ⟨aa,0,none⟩) (u.length+1) bv);have bj:=hid a4;have cr:=a4.c3;clear aV a8 b0 ah a4)
             |(go_at_call 37;refine(A6 (t:=Ae) bj.out H bL.2).mono ?_;rintro a bZ ⟨rfl,o⟩;rw[hwc]at o;obtain⟨a2,a5,b2⟩:=AN o;have aE:=hid a2;have ay:=hid a5;clear o a2 a5))
            all_goals first
             |(exfalso;omega)
             |(exfalso;simp_all;done)
             |skip
            obtain⟨c9,-⟩:=bD.out h bf rfl;refine⟨⟨.ok ((u++[(a9,h.1)],[]),aM),ag,⟨⟨(((((Y.out.trans (NF.cM U.out)).trans (NF.cM bp.out)).grown bg.out (λaa a7=>by have:=(aq.out.ir.lt aa a7).1;omega)).set _).trans (NF.cM aE.out)),λb9 b7 bC d=>?_,λaC ak d=>(by cases d)⟩,λb9 b7 bC d=>?_,λaC ak d=>(by cases d)⟩⟩,?_⟩
            ·cases d;exact⟨bM.2,by simp at*;omega,_,_,_,ay.out,(aq.out.eN (x:=(a9,h.1)) ca bg.out (by rw[<-c9];exact bG.out)).ef aE.out⟩
            ·cases d;exact⟨by omega,D.out⟩
            ·rw[Fc ax.out,Fc ay.out];omega
        ·have bH:=hid al;by_cases aP:ab=SN
         ·rw[show decide (ab=SN)=true by simp[aP]]at bI;rw[show decide (ab=D9)=false by rw[aP];decide]at b6;have bi:Hid (r0=pb (pb (GP s (u.map (·.1)++ad.map (·.1)) (AC s (AC s q))) λbc av=>.ok ((u,ad++[bc]),av)) λx aL=>pb (Al s Ae aL) λ_ an=>CI s ag x.1 x.2 an):=by
           show _=_;rw[af.out];unfold EB;rw[ai,if_neg al,if_pos aP];rfl
          clear af ai al aP bH;match hpd:GP s (u.map (·.1)++ad.map (·.1)) (AC s (AC s q)) with
          |P (c,h)=>
           have G:=Yv s _ _ c h hpd;have aT:((c:Int)==0)=false:=by rw[beq_eq_false_iff_ne];omega
           have D:Hid (r0=P (c,h)):=by show _=_;rw[bi.out,hpd];rfl
           go_wp2_with (first
            |(go_at_call 39;refine z.out.mono ?_;rintro a ae ⟨rfl,g,i⟩;have r:=hid g;have k:=hid i;clear g i z)
            |(go_at_call 39;refine(N.out _ r.out).mono ?_;rintro a aj ⟨rfl,f,e⟩;have K:=hid f;have O:=hid e;have Y:=hid ((L.out.ma.nf.trans (NF.cM k.out)).trans (NF.cM e));have y:=hid ((M.out.ef k.out).ef e);have aZ:=f.c7;clear f e N)
            |(go_at_call 44;refine(Ig K.out H au y.out (by omega) (by omega)).mono ?_;rintro a ao ⟨rfl,aS,aR⟩;rw[hpd]at aR;obtain⟨aw,ch,j,aW,ck⟩:=aR;have bb:=hid ck;clear ck;have p:=hid j;have bq:=hid aS;have ba:=j.c3;clear j aS))
           all_goals first
            |(exfalso;omega)
            |(exfalso;simp_all;done)
            |skip
           exact⟨⟨P (c,h),0,⟨Qn.err (Y.out.trans bq.out) G p.out aW (by first|exact⟨_,_,_,rfl⟩|exact bb.out|(obtain⟨v,c,a⟩:=Ad aG.out.dr;exact⟨_,_,_,a⟩)|(obtain⟨v,c,a⟩:=Ad M.out.dr;exact⟨_,_,_,a⟩)),λ_ _ _ d=>(by cases d),λaC ak d=>(by cases d;exact D.out)⟩⟩,Dv ax.out aK p.out G⟩
          |.ok (bc,aw)=>
           have aU:=Xc _ au bc aw hpd;have bu:Hid (r0=pb (Al s Ae aw) λ_ an=>CI s ag u (ad++[bc]) an):=by show _=_;rw[bi.out,hpd];rfl
           match hwc:Al s Ae aw with
           |P (c,h)=>
            have G:=A5 s _ aw c h hwc;have aT:((c:Int)==0)=false:=by rw[beq_eq_false_iff_ne];omega
            have D:Hid (r0=P (c,h)):=by show _=_;rw[bu.out,hwc];rfl
            go_wp2_with (first
             |(go_at_call 39;refine z.out.mono ?_;rintro a ae ⟨rfl,g,i⟩;have r:=hid g;have k:=hid i;clear g i z)
             |(go_at_call 39;refine(N.out _ r.out).mono ?_;rintro a aj ⟨rfl,f,e⟩;have K:=hid f;have O:=hid e;have Y:=hid ((L.out.ma.nf.trans (NF.cM k.out)).trans (NF.cM e));have y:=hid ((M.out.ef k.out).ef e);have aZ:=f.c7;clear f e N)
             |(go_at_call 44;refine(Ig K.out H au y.out (by omega) (by omega)).mono ?_;rintro a ao ⟨rfl,aS,aR⟩;rw[hpd]at aR;obtain⟨ch,cH,j,aW,bz⟩:=aR;have p:=hid j;have aG:=hid bz;have bq:=hid aS;have ba:=j.c3;clear j aS bz)
             |(go_at_call 37;refine(A6 (t:=Ae) p.out H aU.2).mono ?_;rintro a bZ ⟨rfl,o⟩;rw[hwc]at o;obtain⟨a2,aM,a5,b2⟩:=AN o;have aE:=hid a2;have ay:=hid a5;clear o a2 a5))
            all_goals first
             |(exfalso;omega)
             |(exfalso;simp_all;done)
             |skip
            exact⟨⟨P (c,h),0,⟨Qn.err ((Y.out.trans bq.out).trans (NF.cM aE.out)) G ay.out b2 (by first|exact⟨_,_,_,rfl⟩|exact bb.out|(obtain⟨v,c,a⟩:=Ad aG.out.dr;exact⟨_,_,_,a⟩)|(obtain⟨v,c,a⟩:=Ad M.out.dr;exact⟨_,_,_,a⟩)),λ_ _ _ d=>(by cases d),λaC ak d=>(by cases d;exact D.out)⟩⟩,Dv ax.out aK ay.out G⟩
           |.ok (bo,aM)=>
            have bM:=Aj (s:=s) (t:=Ae) (by decide) aw aU.2 bo aM hwc;have D:Hid (r0=CI s ag u (ad++[bc]) aM):=by show _=_;rw[bu.out,hwc];rfl
            go_wp2_with (first
             |(go_at_call 39;refine z.out.mono ?_;rintro a ae ⟨rfl,g,i⟩;have r:=hid g;have k:=hid i;clear g i z)
             |(go_at_call 39;refine(N.out _ r.out).mono ?_;rintro a aj ⟨rfl,f,e⟩;have K:=hid f;have O:=hid e;have Y:=hid ((L.out.ma.nf.trans (NF.cM k.out)).trans (NF.cM e));have y:=hid ((M.out.ef k.out).ef e);have aZ:=f.c7;clear f e N)
             |(go_at_call 44;refine(Ig K.out H au y.out (by omega) (by omega)).mono ?_;rintro a ao ⟨rfl,aS,aR⟩;rw[hpd]at aR;obtain⟨ch,cH,j,aW,bz⟩:=aR;have p:=hid j;have aG:=hid bz;have bq:=hid aS;have ba:=j.c3;clear j aS bz)
             |(go_at_call 37;refine(A6 (t:=Ae) p.out H aU.2).mono ?_;rintro a bZ ⟨rfl,o⟩;rw[hwc]at o;obtain⟨a2,a5,b2⟩:=AN o;have aE:=hid a2;have ay:=hid a5;clear o a2 a5))
            all_goals first
             |(exfalso;omega)
             |(exfalso;simp_all;done)
             |skip
            refine⟨⟨.ok ((u,ad++[bc]),aM),ag,⟨⟨((Y.out.trans bq.out).trans (NF.cM aE.out)),λb9 b7 bC d=>?_,λaC ak d=>(by cases d)⟩,λb9 b7 bC d=>?_,λaC ak d=>(by cases d)⟩⟩,?_⟩
            ·cases d;exact⟨bM.2,by simp at*;omega,_,_,_,ay.out,aG.out.ef aE.out⟩
            ·cases d;exact⟨by omega,D.out⟩
            ·rw[Fc ax.out,Fc ay.out];omega
         ·rw[show decide (ab=SN)=false by simp[aP]]at bI;obtain⟨c,h,G,D⟩:∃c h,c≠0/\Hid (r0=P (c,h)/\c=2/\h=Am s (AC s q)):=by
           refine⟨2,Am s (AC s q),by decide,?_,rfl,rfl⟩;rw[af.out];unfold EB;rw[ai,if_neg al,if_neg aP];rfl
          by_cases aH:ab=D9
          ·rw[show decide (ab=D9)=true by simp[aH]]at b6;have cQ:((ad.length:Int)==0)=false:=by
            rw[beq_eq_false_iff_ne];intro B;exact al ⟨aH,Aeo (by omega)⟩
           have cR:ad.length≠0:=λB=>al ⟨aH,Aeo B⟩;clear af ai al aP aH bH;go_wp2_with (first
            |(go_at_call 39;refine z.out.mono ?_;rintro a ae ⟨rfl,g,i⟩;have r:=hid g;have k:=hid i;clear g i z)
            |(go_at_call 39;refine(N.out _ r.out).mono ?_;rintro a aj ⟨rfl,f,e⟩;have K:=hid f;have O:=hid e;have Y:=hid ((L.out.ma.nf.trans (NF.cM k.out)).trans (NF.cM e));have y:=hid ((M.out.ef k.out).ef e);have aZ:=f.c7;clear f e N)
            |(go_at_call 41;refine(AR (c:=2) (q:=Am s (AC s q)) K.out).mono ?_;rintro a ao ⟨rfl,j,I⟩;have p:=hid j;have U:=hid I;have ba:=j.c3;clear j I))
           all_goals first
            |(exfalso;omega)
            |(exfalso;simp_all;done)
            |skip
           obtain⟨bw,rfl,rfl⟩:=D.out;exact⟨⟨P (2,Am s (AC s q)),0,⟨Qn.err (Y.out.trans (NF.cM U.out)) G p.out au (by first|exact⟨_,_,_,rfl⟩|exact bb.out|(obtain⟨v,c,a⟩:=Ad aG.out.dr;exact⟨_,_,_,a⟩)|(obtain⟨v,c,a⟩:=Ad M.out.dr;exact⟨_,_,_,a⟩)),λ_ _ _ d=>(by cases d),λaC ak d=>(by cases d;exact bw)⟩⟩,Dv ax.out aK p.out G⟩
          ·rw[show decide (ab=D9)=false by simp[aH]]at b6;clear af ai al aP aH bH;go_wp2_with (first
            |(go_at_call 39;refine z.out.mono ?_;rintro a ae ⟨rfl,g,i⟩;have r:=hid g;have k:=hid i;clear g i z)
            |(go_at_call 39;refine(N.out _ r.out).mono ?_;rintro a aj ⟨rfl,f,e⟩;have K:=hid f;have O:=hid e;have Y:=hid ((L.out.ma.nf.trans (NF.cM k.out)).trans (NF.cM e));have y:=hid ((M.out.ef k.out).ef e);have aZ:=f.c7;clear f e N)
            |(go_at_call 41;refine(AR (c:=2) (q:=Am s (AC s q)) K.out).mono ?_;rintro a ao ⟨rfl,j,I⟩;have p:=hid j;have U:=hid I;have ba:=j.c3;clear j I))
           all_goals first
            |(exfalso;omega)
            |(exfalso;simp_all;done)
            |skip
           obtain⟨bw,rfl,rfl⟩:=D.out;exact⟨⟨P (2,Am s (AC s q)),0,⟨Qn.err (Y.out.trans (NF.cM U.out)) G p.out au (by first|exact⟨_,_,_,rfl⟩|exact bb.out|(obtain⟨v,c,a⟩:=Ad aG.out.dr;exact⟨_,_,_,a⟩)|(obtain⟨v,c,a⟩:=Ad M.out.dr;exact⟨_,_,_,a⟩)),λ_ _ _ d=>(by cases d),λaC ak d=>(by cases d;exact bw)⟩⟩,Dv ax.out aK p.out G⟩
       ·rw[show decide (aY=Ax)=false by simp[ar]]at cf;have af:Hid (r0=P (2,Am s q)):=by show _=_;rw[ap.out,CI,aI,if_neg aD,if_neg ar]
        have br:=hid (λac (B:TX ac w s (AC s q) 0 0 b (S tt) aJ bm)=>AR (c:=2) (q:=Am s q) B);clear aI aD ar;go_wp2_with (first
         |(go_at_call 39;refine z.out.mono ?_;rintro a ae ⟨rfl,g,i⟩;have r:=hid g;have k:=hid i;clear g i z)
         |(go_at_call 41;refine(br.out _ r.out).mono ?_;rintro a ao ⟨rfl,j,I⟩;have p:=hid j;have U:=hid I;clear j I br))
        all_goals first
         |(exfalso;simp_all;done)
         |skip
        refine bE ?_;refine⟨rfl,JR.fin (r0:=r0) (by rw[af.out];exact Qn.err ((L.out.ma.nf.trans (NF.cM k.out)).trans (NF.cM U.out)) (by decide) p.out bn (by first|exact⟨_,_,_,rfl⟩|(obtain⟨v,c,a⟩:=Ad M.out.dr;exact⟨_,_,_,a⟩))) H b5.out⟩
def K5(a:Nat×Nat)(c b:Nat):Nat×Nat:=if a.1=0\/b<a.2 then (c,b) else a
theorem FP{c a:Nat}(h:TX n w s v b nd.1 nd.2 m q j):
 Adg Acs 47 #[J (some ⟨w,0,none⟩),V C (c:Int),V C (a:Int)] n λt k=>t=F (R #[])/\TX k w s v b (K5 nd c a).1 (K5 nd c a).2 m q j/\EF w n k:=by
 have i:=hid h;have B:=h.f 3 (by omega);have D:=h.f 4 (by omega);obtain⟨d,e⟩:=nd;obtain⟨x,y,z,p,r,-,-,-,-⟩:=h;simp only at p r;by_cases u:d=0
 ·have l:((d:Int)==0)=true:=by grind
  have g:Hid (K5 (d,e) c a=(c,a)):=by show _=_;unfold K5;grind
  subst u;go_enter Tryz.func47,Tryz.ntmps47;go_wp2;all_goals first
   |(refine bE ?_
     rw[g.out];exact⟨rfl,(i.out.e7 c).place a,((EF.refl w n).set _).set _⟩)
   |(exfalso;simp_all;done)
 ·have l:((d:Int)==0)=false:=by grind
  by_cases E:a<e
  ·have o:(a:Int)<(e:Int):=by omega
   have g:Hid (K5 (d,e) c a=(c,a)):=by show _=_;unfold K5;grind
   go_enter Tryz.func47,Tryz.ntmps47;go_wp2;all_goals first
    |(exfalso;omega)
    |(refine bE ?_
      rw[g.out];exact⟨rfl,(i.out.e7 c).place a,((EF.refl w n).set _).set _⟩)
  ·have o:¬(a:Int)<(e:Int):=by omega
   have g:Hid (K5 (d,e) c a=(d,e)):=by show _=_;unfold K5;grind
   go_enter Tryz.func47,Tryz.ntmps47;go_wp2;all_goals first
    |(exfalso;omega)
    |(refine bE ?_
      rw[g.out];exact⟨rfl,i.out,EF.refl w n⟩)
theorem Mj{nmx:ByteArray}(p:TX n w s v b d x m q j)(K:n.ownsRow (w+1) 55 2 q wf.length (Cm wf))(I:n.ownsRow (w+1) 88 4 j H.length (Bg wl H))(ag:wl.length=H.length)(ar:wf.length<=2000)(ao:H.length<=2000):
 Adg Acs 46 #[J (some ⟨w,0,none⟩),S nmx] n λo ak=>o=F (A (A3 nmx (Ao wf H) 0))/\ak=n:=by
 have U:=hid K;have O:=hid I;obtain⟨aj,aw,rfl⟩:=Ad K;obtain⟨ad,an,rfl⟩:=Ad I;obtain⟨-,-,-,-,-,-,al,am,-⟩:=p;obtain⟨f,u⟩:∃M,wf.map (·.1)=M:=⟨_,rfl⟩;obtain⟨g,y⟩:∃M,H.map (·.1)=M:=⟨_,rfl⟩;have Y:=hid u;have aa:=hid y;have ah:f.length=wf.length:=by rw[<-u];simp
 have ai:g.length=H.length:=by rw[<-y];simp
 have B:Hid (A3 nmx (Ao wf H) 0=(A3 nmx f 0||A3 nmx g 0)):=by
  show _=_;unfold A3 Ao;rw[u,y,Agx,Agx,Agx,Ahf]
 clear K I u y;go_enter Tryz.func46,Tryz.ntmps46;go_wp2;go_loopw [5] (λl N=>∃a:Nat,a<=wf.length/\l=V C (a:Int)/\N=n/\Hid (A3 nmx f 0=A3 nmx f a)) (λl _=>wf.length-(intOf l).toNat)
 case atStart=>exact⟨0,Ac0 _,rfl,rfl,rfl⟩
 case round=>
  obtain⟨a,au,rfl,k,z⟩:=hrel;replace k:=k.symm
  subst k;by_cases L:a<wf.length
  ·have ae:(0:Int)<=(a:Int):=by omega
   have af:(a:Int)<(wf.length:Int):=by omega
   obtain⟨e,rfl⟩:∃e,aj=some ⟨e,0,none⟩:=by
    obtain⟨e,ac,o,-⟩:=U.out.form (by omega);exact⟨e,by cases o;rfl⟩
   have G:n.cell? ⟨e,a*2,none⟩=some (S (f[a]'(by omega))):=by
    have r:=U.out.cellAt (a*2) (by omega);rw[LC wf a L]at r;rw[r];congr 2
    simp[<-Y.out]
   have i:=hid (JY nmx f (show a<f.length by omega));obtain⟨tk,t⟩:∃tk,f[a]'(by omega)=tk:=⟨_,rfl⟩;rw[t]at G i;clear t;by_cases c:tk=nmx
   ·have E:(tk.toList==nmx.toList)=true:=by rw[c];simp
    have h:Hid (A3 nmx (Ao wf H) 0=true):=by show _=_;rw[B.out,z.out,i.out];simp[c]
    clear c;go_wp2;all_goals first
     |(exfalso;simp_all;done)
     |(go_ret
       exact⟨by rw[h.out];rfl,rfl⟩)
   ·have E:(tk.toList==nmx.toList)=false:=by rw[beq_eq_false_iff_ne];exact λp=>c (Bl p)
    have h:Hid (A3 nmx f 0=A3 nmx f (a+1)):=by show _=_;rw[z.out,i.out];simp[c]
    clear c;go_wp2;all_goals first
     |exact⟨⟨a+1,by omega,by go_num,by first|rfl|trivial,h.out⟩,by simp[intOf];omega⟩
     |(exfalso;simp_all;done)
  ·have ap:¬(a:Int)<(wf.length:Int):=by omega
   obtain rfl:a=wf.length:=by omega
   have ab:Hid (A3 nmx f 0=false):=by show _=_;rw[z.out,<-ah];exact Mn _ _
   go_wp2;go_loopw [6] (λl N=>∃a:Nat,a<=H.length/\l=V C (a:Int)/\N=n/\Hid (A3 nmx g 0=A3 nmx g a)) (λl _=>H.length-(intOf l).toNat)
   case atStart=>exact⟨0,Ac0 _,rfl,rfl,rfl⟩
   case round=>
    obtain⟨a,av,rfl,k,D⟩:=hrel;replace k:=k.symm
    subst k;by_cases L:a<H.length
    ·have ae:(0:Int)<=(a:Int):=by omega
     have af:(a:Int)<(H.length:Int):=by omega
     obtain⟨e,rfl⟩:∃e,ad=some ⟨e,0,none⟩:=by
      obtain⟨e,ac,o,-⟩:=O.out.form (by omega);exact⟨e,by cases o;rfl⟩
     have G:n.cell? ⟨e,a*4,none⟩=some (S (g[a]'(by omega))):=by
      have r:=O.out.cellAt (a*4) (by omega);rw[K9 ag a L]at r;rw[r];congr 2
      simp[<-aa.out]
     have i:=hid (JY nmx g (show a<g.length by omega));obtain⟨tk,t⟩:∃tk,g[a]'(by omega)=tk:=⟨_,rfl⟩;rw[t]at G i;clear t;by_cases c:tk=nmx
     ·have E:(tk.toList==nmx.toList)=true:=by rw[c];simp
      have h:Hid (A3 nmx (Ao wf H) 0=true):=by show _=_;rw[B.out,D.out,i.out];simp[c]
      clear c;go_wp2;all_goals first
       |(exfalso;simp_all;done)
       |(go_ret
         exact⟨by rw[h.out];rfl,rfl⟩)
     ·have E:(tk.toList==nmx.toList)=false:=by rw[beq_eq_false_iff_ne];exact λp=>c (Bl p)
      have h:Hid (A3 nmx g 0=A3 nmx g (a+1)):=by show _=_;rw[D.out,i.out];simp[c]
      clear c;go_wp2;all_goals first
       |exact⟨⟨a+1,by omega,by go_num,by first|rfl|trivial,h.out⟩,by simp[intOf];omega⟩
       |(exfalso;simp_all;done)
    ·have aq:¬(a:Int)<(H.length:Int):=by omega
     obtain rfl:a=H.length:=by omega
     have h:Hid (A3 nmx (Ao wf H) 0=false):=by show _=_;rw[B.out,ab.out,D.out,<-ai,Mn];rfl
     go_wp2;go_ret;exact⟨by rw[h.out];rfl,rfl⟩
theorem IH(c:Q)(a g b:Ad5)(f:TypeInfo)(e:wp.underlying a=some (.slice b))(d:wp.info? b=some f):
 (Builtin.append_ #[a,a] g #[W none 0 0,W none 0 0]).run wp c=.ok (W none 0 0) c:=by
 simp[Builtin.append_,run_underlying e,sizeOf,typeInfo,d,Builtin.lenOf,Builtin.firstCells]
theorem GU{b:Program}(m:w4.guard=none)(i j:Operand)(a:Ad5)(o:w4.op=.call {callee:=.builtin .append,args:=#[i,j],argTypes:=#[a,a]})(d:Ad5)(f:TypeInfo)(h:b.underlying a=some (.slice d))(g:b.info? d=some f)(q:wj.eval i=W none 0 0)(e:Option Addr)(c:Nat)(r:wj.eval j=W e 0 c)(s:e=none->c=0)(k:wpList b wc w6 sg (wj.put w4.dst (W none 0 0)) n):wpList b wc w6 (w4::sg) wj n:=by
 refine wpList_plain m λ_ l=>?_;have p:(Builtin.append_ #[a,a] w4.type #[W none 0 0,W e 0 c]).run b n=.ok (W none 0 0) n:=by
  cases e with
  |none=>exact IH n a w4.type d f h g
  |some ad=>exact IL n a w4.type d f h g ad c
 unfold Oper.wp;simp[execOp,o,resolve,invoke,builtin,q,r,p,Result.andThen];exact l _ _ k
def Bk(a:Nat×Nat):Nat->Av->Nat×Nat
 |_,[]=>a
 |n,(_,pl)::r=>Bk (if 20<=n then K5 a 3 pl else a) (n+1) r
def ZP(d:Nat)(n:ByteArray)(m k:Nat)(e:Nat×Nat)(l j h:X)(b:List ByteArray)(a:Av)(g:Q)(i:Ending)(c:Q):Prop:=
 EF d g c/\TX c d n m k (Bk e b.length a).1 (Bk e b.length a).2 l j h/\∃f,i=F f/\c.ownsRow g.heap.size 9 1 f (b.length+a.length) ((b++a.map (·.1)).map .string)
structure OH (e:Nat) (l:ByteArray) (k i:Nat) (m:Nat×Nat) (j h g:X) (b:List ByteArray) (c:Av) (f wr:Q) (n:X) (a:Nat) (d:Nat×Nat):Prop where
 ef:EF e f wr
 tx:TX wr e l k i d.1 d.2 j h g
 row:wr.ownsRow f.heap.size 9 1 n (b.length+a) ((b++(c.take a).map (·.1)).map .string)
 eq:Bk m b.length c=Bk d (b.length+a) (c.drop a)
theorem OH.next{wr:Q}(g:OH w s v b nd m q j y l n wr f d v2)(L:w<n.heap.size)(z:d<l.length):
 (20<=y.length+d->∀(a c:Q) (e:Obj) (o:X),EF w wr a->TX a w s v b (K5 v2 3 l[d].2).1 (K5 v2 3 l[d].2).2 m q j->(a.alloc e).grownBy c f.ownBlock->c.ownsRow n.heap.size 9 1 o (y.length+d+1) ((y++(l.take d).map (·.1)).map .string++[.string l[d].1])->OH w s v b nd m q j y l n c o (d+1) (K5 v2 3 l[d].2))/\
 (¬20<=y.length+d->∀(a c:Q) (e:Obj) (o:X),EF w wr a->TX a w s v b v2.1 v2.2 m q j->(a.alloc e).grownBy c f.ownBlock->c.ownsRow n.heap.size 9 1 o (y.length+d+1) ((y++(l.take d).map (·.1)).map .string++[.string l[d].1])->OH w s v b nd m q j y l n c o (d+1) v2):=by
 have G:=λE k=>(g.row.lt E k).1;have h:∀a c e,EF w wr a->(a.alloc e).grownBy c f.ownBlock->EF w n c:=λa c e h k=>by
  have K:=k.size;have M:=g.ef.size;have N:=h.size;simp at K;exact⟨by rw[k.os];exact h.os.trans g.ef.os,by rw[k.tape];exact h.tape.trans g.ef.tape,by rw[k.output];exact h.output.trans g.ef.output,by omega,λr H D=>by rw[k.block r (by simp;omega) (λt=>by grind),Ad3 a e (by omega),h.block r (by omega) D,g.ef.block r H D]⟩
 have I:(y++(l.take (d+1)).map (·.1)).map Value.string=(y++(l.take d).map (·.1)).map .string++[.string l[d].1]:=by
  rw[Ade z];grind
 refine⟨λx a c e o u i p B=>?_,λx a c e o u i p B=>?_⟩
 ·refine⟨h a c e u p,?_,by grind,?_⟩
  ·refine i.cK ?_;rw[p.block w (by have:=i.lt;simp;omega) (λt=>by grind),Ad3 a e i.lt]
  ·rw[g.eq,Adv z];rw[Bk,if_pos x];rfl
 ·refine⟨h a c e u p,?_,by rw[I];exact B,?_⟩
  ·refine i.cK ?_;rw[p.block w (by have:=i.lt;simp;omega) (λt=>by have:=G w t.symm;omega),Ad3 a e i.lt]
  ·rw[g.eq,Adv z];rw[Bk,if_neg x];rfl
theorem F4{names:List ByteArray}{h:Av}(al:TX n w s b d nd.1 nd.2 m q j)(aB:n.ownsRow 0 9 1 f names.length (names.map .string))(a1:Bc n v wv vc h)(aL:w<v)(bn:names.length<=100000)(bp:h.length<=2000):
 Adg Acs 21 #[J (some ⟨w,0,none⟩),f,wv,vc] n λk bi=>ZP w s b d nd m q j names h n k bi:=by
 have az:=hid al;have aJ:=hid a1;have aI:=hid aB;have ap:=al.lt;obtain⟨aK,bl,rfl⟩:=Ad a1.l;obtain⟨aQ,bq,rfl⟩:=Ad a1.p;obtain⟨ah,ag,aP⟩:=Adb.1 Tryz.fe;simp only[Aeb]at aP;obtain⟨aq,ar,au⟩:=aP;obtain⟨K,I,bf,aN⟩:∃K I,f=W K names.length I/\(K=none->I=0):=by
  rcases aB.2 with⟨E,Y⟩|⟨g,o,bm,E,-⟩
  ·exact⟨none,0,by rw[E,Y],λ_=>rfl⟩
  ·exact⟨some ⟨g,0,none⟩,o,E,λal=>by cases al⟩
 subst bf;have aT:=hid aN;clear al aB a1 aN;by_cases a8:names.length=0
 ·have aW:Hid (names=[]):=Aeo a8;have aR:Hid (W K names.length I=W K 0 I):=congrArg (λbk=>W K bk I) a8;clear a8;go_enter Tryz.func21,Tryz.ntmps21;go_wp2_with (first
   |(at_builtin;refine GU rfl _ _ _ rfl 9 ah Ae0 ag rfl K I (by first|exact aR.out|rfl) aT.out ?_))
  have ae:Hid (OH w s b d nd m q j names h n n (W none 0 0) 0 nd):=by
   have aE:=aW.out;subst aE;exact⟨EF.refl _ _,az.out,Ad1 _ _ _ _,rfl⟩
  clear az;go_loopw [9,10] (λax ac wr=>∃e:Nat,e<=h.length/\ac=V C (e:Int)/\∃t r,ax=W t (names.length+e) r/\∃ay,Hid (OH w s b d nd m q j names h n wr ax e ay)) (λ_ ac _=>h.length-(intOf ac).toNat)
  case atStart=>
   obtain⟨t,r,k⟩:=Ad ae.out.row;exact⟨0,Ac0 _,rfl,t,r,k,nd,ae⟩
  case round=>
   obtain⟨e,aC,rfl,t,r,rfl,ay,i⟩:=hrel;rename Q=>wr
   by_cases ab:e<h.length
   ·have a0:(0:Int)<=(e:Int):=by omega
    have aZ:(e:Int)<(h.length:Int):=by omega
    have y:=hid (aJ.out.ef i.out.ef aL);obtain⟨z,rfl⟩:∃g,aK=some ⟨g,0,none⟩:=by
     obtain⟨g,o,k,-⟩:=y.out.l.form (by omega);exact⟨g,by cases k;rfl⟩
    obtain⟨a7,rfl⟩:∃g,aQ=some ⟨g,0,none⟩:=by
     obtain⟨g,o,k,-⟩:=y.out.p.form (by omega);exact⟨g,by cases k;rfl⟩
    have cb:wr.cell? ⟨z,e,none⟩=some (.string h[e].1):=by
     rw[y.out.l.cellAt e (by omega)];simp[ab]
    have ak:wr.cell? ⟨a7,e,none⟩=some (V C (h[e].2:Int)):=by
     rw[y.out.p.cellAt e (by omega)];simp[ab]
    have x:=hid (i.out.next ap ab);obtain⟨L,aw⟩:∃L,h[e]=L:=⟨_,rfl⟩;rw[aw]at cb ak x;obtain⟨ad,aH⟩:=L;simp only at cb ak x;clear aw;have aj:=hid i.out.row;have bh:=i.out.ef.size;have av:∀u,EF w wr u->u.ownsRow n.heap.size 9 1 (W t (names.length+e) r) (names.length+e) ((names++(h.take e).map (·.1)).map .string):=λu a9=>Fp aj.out a9 ap;have a3:=hid av;clear av;by_cases am:20<=names.length+e
    ·have a5:(20:Int)<=((names.length:Int)+(e:Int)):=by omega
     have a6:(20:Int)<=((names.length+e:Nat):Int):=by omega
     have U:=hid i.out.tx;have N:=hid (x.out.1 am);clear x;go_wp2_with (first
      |(go_at_call 47;refine(FP (c:=3) (a:=aH) U.out).mono ?_;rintro k u ⟨rfl,ao,G⟩;have a4:=hid ao;have ai:=hid G;have aY:u.cell? ⟨z,e,none⟩=some (S ad):=(by rw[Ac1 (a:=⟨z,e,none⟩) (G.block z (y.out.l.lt z rfl).2 (by have:=(y.out.l.lt z rfl).1;omega))];exact cb);have bg:=G.size;clear ao G)
      |(at_builtin;refine Adl _ rfl _ _ _ rfl n.heap.size 9 ah _ 1 16 Ae0 ag aq ar au rfl (by omega) (W t (names.length+e) r) (names.length+e) ((names++(h.take e).map (·.1)).map .string) rfl (Adr (a3.out _ ai.out) _) ⟨u.heap.size,0,none⟩ 1 1 [S ad] rfl rfl (AL _ _ _ _ rfl) (by intro H p;simp at p;subst p;rfl) (by omega) (by unfold Aed;omega) (by omega) (by simp;omega) (u.heap.size+1) (by simp) ?_;intro g o aG D B aa aD;have O:=hid D;have M:=hid B;clear D B aa))
     all_goals first
      |(exfalso;omega)
      |skip
     exact⟨⟨e+1,by omega,by go_num,some ⟨g,0,none⟩,o,rfl,_,N.out _ _ _ _ ai.out a4.out M.out O.out⟩,by simp[intOf];omega⟩
    ·have a5:¬(20:Int)<=((names.length:Int)+(e:Int)):=by omega
     have a6:¬(20:Int)<=((names.length+e:Nat):Int):=by omega
     have aX:((names.length:Int)+(e:Int))<20:=by omega
     have U:=hid i.out.tx;have N:=hid (x.out.2 am);clear x;go_wp2_with (first
      |(at_builtin;refine Adl _ rfl _ _ _ rfl n.heap.size 9 ah _ 1 16 Ae0 ag aq ar au rfl (by omega) (W t (names.length+e) r) (names.length+e) ((names++(h.take e).map (·.1)).map .string) rfl (Adr aj.out _) ⟨wr.heap.size,0,none⟩ 1 1 [S ad] rfl rfl (AL _ _ _ _ rfl) (by intro H p;simp at p;subst p;rfl) (by omega) (by unfold Aed;omega) (by omega) (by simp;omega) (wr.heap.size+1) (by simp) ?_;intro g o aG D B aa aD;have O:=hid D;have M:=hid B;clear D B aa))
     all_goals first
      |(exfalso;omega)
      |skip
     exact⟨⟨e+1,by omega,by go_num,some ⟨g,0,none⟩,o,rfl,_,N.out _ _ _ _ (EF.refl _ _) U.out M.out O.out⟩,by simp[intOf];omega⟩
   ·have bc:¬(e:Int)<(h.length:Int):=by omega
    obtain rfl:e=h.length:=by omega
    go_wp2;go_ret;have E:=i.out.tx;have Y:=i.out.eq;rw[Ab9]at Y;have an:=i.out.row;rw[Ad9]at an;refine⟨i.out.ef,?_,_,rfl,an⟩;rw[Y];exact E
 ·obtain⟨a0,bb⟩:∃g,K=some ⟨g,0,none⟩:=by
   obtain⟨g,o,k,-⟩:=aI.out.form (by omega);exact⟨g,by cases k;rfl⟩
  subst bb;have aU:Hid (∀a2 H,(names.map Value.string)[a2]?=some H->n.cell? ((⟨a0,0,none⟩:Addr).add a2)=some H):=λa2 H p=>aI.out.cells rfl a2 H p;have be:0<names.length:=by omega
  go_enter Tryz.func21,Tryz.ntmps21;go_wp2_with (first
   |(at_builtin;refine Adl _ rfl _ _ _ rfl n.heap.size 9 ah _ 1 16 Ae0 ag aq ar au rfl (by omega) (W none 0 0) 0 [] rfl (Ad1 _ _ _ _) ⟨a0,0,none⟩ names.length I (names.map .string) rfl (by simp) aU.out (by intro H p;obtain⟨L,-,rfl⟩:=Adj.1 p;rfl) be (by unfold Aed;omega) (by omega) (Acu _) n.heap.size rfl ?_;intro g o bj aO aM ba bo;have aV:=hid aO;have aS:=hid aM;clear aO aM ba))
  have ae:Hid (OH w s b d nd m q j names h n bj (W (some ⟨g,0,none⟩) (0+names.length) o) 0 nd):=by
   have af:=aS.out;have aE:=af.size;refine⟨⟨af.os,af.tape,af.output,aE,λe aC _=>af.block e aC (by simp[Ad6])⟩,az.out.cK (af.block w ap (by simp[Ad6])),?_,rfl⟩;have E:=aV.out;rw[Aey]at E ⊢;simpa using E
  rw[Aey]at ae;clear az;go_loopw [9,10] (λax ac wr=>∃e:Nat,e<=h.length/\ac=V C (e:Int)/\∃t r,ax=W t (names.length+e) r/\∃ay,Hid (OH w s b d nd m q j names h n wr ax e ay)) (λ_ ac _=>h.length-(intOf ac).toNat)
  case atStart=>
   obtain⟨t,r,k⟩:=Ad ae.out.row;exact⟨0,Ac0 _,rfl,t,r,k,nd,ae⟩
  case round=>
   obtain⟨e,aC,rfl,t,r,rfl,ay,i⟩:=hrel;rename Q=>wr
   by_cases ab:e<h.length
   ·have a0:(0:Int)<=(e:Int):=by omega
    have aZ:(e:Int)<(h.length:Int):=by omega
    have y:=hid (aJ.out.ef i.out.ef aL);obtain⟨z,rfl⟩:∃g,aK=some ⟨g,0,none⟩:=by
     obtain⟨g,o,k,-⟩:=y.out.l.form (by omega);exact⟨g,by cases k;rfl⟩
    obtain⟨a7,rfl⟩:∃g,aQ=some ⟨g,0,none⟩:=by
     obtain⟨g,o,k,-⟩:=y.out.p.form (by omega);exact⟨g,by cases k;rfl⟩
    have cb:wr.cell? ⟨z,e,none⟩=some (.string h[e].1):=by
     rw[y.out.l.cellAt e (by omega)];simp[ab]
    have ak:wr.cell? ⟨a7,e,none⟩=some (V C (h[e].2:Int)):=by
     rw[y.out.p.cellAt e (by omega)];simp[ab]
    have x:=hid (i.out.next ap ab);obtain⟨L,aw⟩:∃L,h[e]=L:=⟨_,rfl⟩;rw[aw]at cb ak x;obtain⟨ad,aH⟩:=L;simp only at cb ak x;clear aw;have aj:=hid i.out.row;have bh:=i.out.ef.size;have av:∀u,EF w wr u->u.ownsRow n.heap.size 9 1 (W t (names.length+e) r) (names.length+e) ((names++(h.take e).map (·.1)).map .string):=λu a9=>Fp aj.out a9 ap;have a3:=hid av;clear av;by_cases am:20<=names.length+e
    ·have a5:(20:Int)<=((names.length:Int)+(e:Int)):=by omega
     have a6:(20:Int)<=((names.length+e:Nat):Int):=by omega
     have U:=hid i.out.tx;have N:=hid (x.out.1 am);clear x;go_wp2_with (first
      |(go_at_call 47;refine(FP (c:=3) (a:=aH) U.out).mono ?_;rintro k u ⟨rfl,ao,G⟩;have a4:=hid ao;have ai:=hid G;have aY:u.cell? ⟨z,e,none⟩=some (S ad):=(by rw[Ac1 (a:=⟨z,e,none⟩) (G.block z (y.out.l.lt z rfl).2 (by have:=(y.out.l.lt z rfl).1;omega))];exact cb);have bg:=G.size;clear ao G)
      |(at_builtin;refine Adl _ rfl _ _ _ rfl n.heap.size 9 ah _ 1 16 Ae0 ag aq ar au rfl (by omega) (W t (names.length+e) r) (names.length+e) ((names++(h.take e).map (·.1)).map .string) rfl (Adr (a3.out _ ai.out) _) ⟨u.heap.size,0,none⟩ 1 1 [S ad] rfl rfl (AL _ _ _ _ rfl) (by intro H p;simp at p;subst p;rfl) (by omega) (by unfold Aed;omega) (by omega) (by simp;omega) (u.heap.size+1) (by simp) ?_;intro g o aG D B aa aD;have O:=hid D;have M:=hid B;clear D B aa))
     all_goals first
      |(exfalso;omega)
      |skip
     exact⟨⟨e+1,by omega,by go_num,some ⟨g,0,none⟩,o,rfl,_,N.out _ _ _ _ ai.out a4.out M.out O.out⟩,by simp[intOf];omega⟩
    ·have a5:¬(20:Int)<=((names.length:Int)+(e:Int)):=by omega
     have a6:¬(20:Int)<=((names.length+e:Nat):Int):=by omega
     have aX:((names.length:Int)+(e:Int))<20:=by omega
     have U:=hid i.out.tx;have N:=hid (x.out.2 am);clear x;go_wp2_with (first
      |(at_builtin;refine Adl _ rfl _ _ _ rfl n.heap.size 9 ah _ 1 16 Ae0 ag aq ar au rfl (by omega) (W t (names.length+e) r) (names.length+e) ((names++(h.take e).map (·.1)).map .string) rfl (Adr aj.out _) ⟨wr.heap.size,0,none⟩ 1 1 [S ad] rfl rfl (AL _ _ _ _ rfl) (by intro H p;simp at p;subst p;rfl) (by omega) (by unfold Aed;omega) (by omega) (by simp;omega) (wr.heap.size+1) (by simp) ?_;intro g o aG D B aa aD;have O:=hid D;have M:=hid B;clear D B aa))
     all_goals first
      |(exfalso;omega)
      |skip
     exact⟨⟨e+1,by omega,by go_num,some ⟨g,0,none⟩,o,rfl,_,N.out _ _ _ _ (EF.refl _ _) U.out M.out O.out⟩,by simp[intOf];omega⟩
   ·have bc:¬(e:Int)<(h.length:Int):=by omega
    obtain rfl:e=h.length:=by omega
    go_wp2;go_ret;have E:=i.out.tx;have Y:=i.out.eq;rw[Ab9]at Y;have an:=i.out.row;rw[Ad9]at an;refine⟨i.out.ef,?_,_,rfl,an⟩;rw[Y];exact E
def MC(a:List ByteArray->Ex->Nat×Nat->Nat×Nat)(c b:List ByteArray)(d:Bool):List Ex->Nat×Nat->Nat×Nat
 |[],st=>st
 |x::r,st=>MC a c b d r (a (if (d||r.isEmpty)=true then b else c) x st)
def Ry(c:List ByteArray->Ex->Nat×Nat->Nat×Nat)(a:List ByteArray):List (Nat×Av×Ex)->Nat×Nat->Nat×Nat
 |[],st=>st
 |b::r,st=>Ry c a r (c (a++b.2.1.map (·.1)) b.2.2 (Bk st a.length b.2.1))
def lkN(b:ByteArray->Bool)(d:List ByteArray)(c:Ex)(a:Nat×Nat):Nat×Nat:=match c with
 |.name false t pl=>if A3 t d 0=true then a else if b t=true then a else K5 a 4 pl
 |_=>a
def Qq:Ex->Bool
 |.lets r _ _ _=>r
 |_=>false
def FK(a:ByteArray->Bool):Nat->List ByteArray->Ex->Nat×Nat->Nat×Nat
 |0,_,_,st=>st
 |d+1,names,e,st=>Ry (FK a d) names (DJ e) (MC (FK a d) names (names++(GM e).map (·.1)) (Qq e) (Bd e) (lkN a names e (Bk st names.length (GM e))))
def BQ:Nat->Ex->Prop
 |0,_=>True
 |d+1,e=>(GM e).length<=2000/\(∀b∈Bd e,BQ d b)/\∀a∈DJ e,a.2.1.length<=2000/\BQ d a.2.2
section
variable {s:ByteArray} {d:Nat} {E:Nat->Pr Ex} (hs:s.size<=2000) (hE:IB s E 1) (hB:∀p e q,p<=s.size->E p=.ok (e,q)->BQ d e)
include hE hB
theorem Nh:∀e f c b g,c<=s.size->(∀a∈f,BQ d a)->BS s E e f c=.ok (b,g)->∀a∈b,BQ d a
 |0,_,_,_,_,_,_,h=>by cases h
 |e+1,f,c,b,g,hp,hg,h=>by
  rw[BS]at h;split at h
  ·cases h;exact hg
  ·let ⟨a,i,j,k⟩:=Ac h
   refine Nh e _ i b g (hE c hp a i j).2 (λm l=>?_) k;grind
theorem JQ:∀e f c b g,c<=s.size->(∀a∈f,BQ d a)->A2 s E e f c=.ok (b,g)->∀a∈b,BQ d a
 |0,_,_,_,_,_,_,h=>by cases h
 |e+1,f,c,b,g,hp,hg,h=>by
  rw[A2]at h;split at h
  ·cases h;exact hg
  ·split at h
   ·cases h
   ·let ⟨a,i,j,k⟩:=Ac h
    refine JQ e _ i b g (hE c hp a i j).2 (λm l=>?_) k;grind
theorem Ly:∀h i e c b f,c<=s.size->i.length<=c->(∀b∈e,BQ d b)->Ba s E h i e c=.ok (b,f)->b.1.length<=f/\∀g∈b.2,BQ d g
 |0,_,_,_,_,_,_,_,_,a=>by cases a
 |h+1,i,e,c,b,f,hp,hn,hg,a=>by
  let ⟨y,k,o,a⟩:=Ac a
  have u:=Aj (by decide) c hp y k o;let ⟨z,l,p,a⟩:=Ac a
  have v:=BH k u.2 z l p;split at a
  ·cases a
  ·let ⟨n,m,q,a⟩:=Ac a
   have w:=hE l v.2 n m q;let ⟨B,j,r,a⟩:=Ac a
   have x:=Aj (by decide) m w.2 B j r;have t:∀g∈e++[n],BQ d g:=λg G=>by
    grind
   have D:=AX s j;split at a
   ·grind
   ·exact Ly h _ _ j b f x.2 (by simp;omega) t a
end
theorem Kb{d:ByteArray}:∀e f a b c,a<=d.size->f.length<=a->AU d e f a=.ok (b,c)->b.length<=c
 |0,_,_,_,_,_,_,h=>by cases h
 |e+1,f,a,b,c,hp,hg,h=>by
  rw[AU]at h;split at h
  ·cases h;have:=AX d a;have:=GR d a;unfold Am at this;omega
  ·let ⟨l,i,j,g⟩:=Ac h
   have k:=BH a hp l i j;split at g
   ·cases g
   ·exact Kb e _ i b c k.2 (by simp;omega) g
theorem LH(h:s.size<=2000)(b:w<=s.size)(a:Be s w=.ok (l,v)):l.length<=2000:=by
 have g:=(BU w b l v a).2;let ⟨f,c,d,e⟩:=Ac a
 have:=Kb _ [] c l v (Aj (by decide) w b f c d).2 (by simp) e;omega
section
variable {s:ByteArray} {d:Nat} {E:Nat->Pr Ex} (hs:s.size<=2000) (hE:IB s E 1) (hB:∀p e q,p<=s.size->E p=.ok (e,q)->BQ d e)
include hs hE hB
theorem Rn:∀g c f e i,f<=s.size->(∀b∈c,b.2.1.length<=2000/\BQ d b.2.2)->C4 s E g c f=.ok (e,i)->∀b∈e,b.2.1.length<=2000/\BQ d b.2.2
 |0,_,_,_,_,_,_,a=>by cases a
 |g+1,c,f,e,i,hp,hg,a=>by
  let ⟨G,r,x,a⟩:=Ac a
  let ⟨v,t,y,a⟩:=Ac a
  have p:=B7 r (Aj (by decide) f hp G r x).2 v t y;split at a
  ·cases a
  ·let ⟨w,j,m,a⟩:=Ac a
   have q:=BU t p.2 w j m;let ⟨l,k,n,a⟩:=Ac a
   let ⟨H,u,z,a⟩:=Ac a
   have D:=Aj (by decide) k (hE j q.2 l k n).2 H u z;have o:∀b∈c++[(v.1,w,l)],b.2.1.length<=2000/\BQ d b.2.2:=λb B=>by
    rcases Acz.1 B with h|h
    ·exact hg b h
    ·obtain rfl:=Ac9.1 h;exact⟨(LH hs p.2 m),hB j l k q.2 n⟩
   split at a
   ·cases a;exact o
   ·exact Rn g _ u e i D.2 o a
theorem Vt(p:Nat)(n:Ex)(w:Nat)(u:p<=s.size)(a:AY s E p=.ok (n,w)):BQ (d+1) n:=by
 have o:=AK u;have B:∀q,BE s E q (AC s p)=.ok (n,w)->BQ (d+1) n:=λq a=>by
  have I:=(JV hE q _ o n w a).2;let ⟨j,b,f,a⟩:=Ac a
  have h:=Aj (by decide) _ o j b f;let ⟨i,e,g,a⟩:=Ac a
  have v:=Eg hE _ _ _ b h.2 i e g;have m:=Ly hE hB _ [] [] b i e h.2 (by simp) (λk c=>by cases c) g;let ⟨y,x,t,a⟩:=Ac a
  have K:=Aj (by decide) e v.2 y x t;let ⟨M,L,H,a⟩:=Ac a
  cases a;refine⟨?_,λk c=>?_,λr l=>by cases l⟩
  ·show i.1.length<=2000;omega
  ·rcases Acz.1 c with z|z
   ·exact m.2 k z
   grind
 unfold AY at a;split at a
 ·let ⟨G,b,f,a⟩:=Ac a
  have h:=hE _ o G b f;let ⟨q,e,g,a⟩:=Ac a
  cases a;refine⟨Ac0 _,λk c=>?_,λr l=>by cases l⟩;rcases(by simpa[Bd]using c) with rfl|rfl
  ·grind
  grind
 ·split at a
  ·exact B _ a
  ·split at a
   ·exact B _ a
   ·split at a
    ·let ⟨j,b,f,a⟩:=Ac a
     have h:=B7 _ o j b f;let ⟨i,e,g,a⟩:=Ac a
     have m:=JQ hE hB _ [] b i e h.2 (λk c=>by cases c) g;cases a;exact⟨Ac0 _,m,λr l=>by cases l⟩
    ·split at a
     ·let ⟨j,b,f,a⟩:=Ac a
      have h:=hE _ o j b f;let ⟨i,e,g,a⟩:=Ac a
      have m:=Rn hs hE hB _ [] b i e h.2 (λk c=>by cases c) g;cases a;refine⟨Ac0 _,λk c=>?_,m⟩;obtain rfl:k=j:=by simpa[Bd]using c
      grind
     ·let ⟨j,b,f,a⟩:=Ac a
      have h:=hE p u j b f;let ⟨i,e,g,a⟩:=Ac a
      have v:=hE b h.2 i e g;let ⟨y,x,t,a⟩:=Ac a
      have D:=Nh hE hB _ [j,i] e y x v.2 (λk c=>by
       rcases(by simpa using c) with rfl|rfl
       ·exact hB _ _ _ u f
       ·exact hB _ _ _ h.2 g) t
      cases a;exact⟨Ac0 _,D,λr l=>by cases l⟩
end
theorem NV(a:BB s v=.ok (N,b)):BQ (w+1) N:=by
 unfold BB at a;split at a
 ·cases a;exact⟨Ac0 _,λf d=>(by cases d),λe c=>(by cases c)⟩
 ·split at a
  ·cases a;exact⟨Ac0 _,λf d=>(by cases d),λe c=>(by cases c)⟩
  ·cases a
theorem XT{f:ByteArray}(h:f.size<=2000):∀d c b e,c<=f.size->pE f d c=.ok (b,e)->BQ (d+1) b
 |0,c,b,e,_,a=>by
  rw[pE]at a;split at a
  ·cases a
  ·exact NV a
 |d+1,c,b,e,g,a=>by
  rw[pE]at a;split at a
  ·let ⟨m,k,i,a⟩:=Ac a
   let ⟨n,l,j,a⟩:=Ac a
   cases a;exact Vt h (Dq f d) (λc b e g a=>XT h d c b e g a) _ _ _ (AK g) i
  ·exact NV a
def fK:Nat->Av->List (Nat×Nat)
 |_,[]=>[]
 |n,(_,pl)::r=>(if 20<=n then [(3,pl)] else [])++fK (n+1) r
def fN(a:ByteArray->Bool)(c:List ByteArray)(b:Ex):List (Nat×Nat):=match b with
 |.name _ t pl=>if A3 t c 0=true then [] else if a t=true then [] else [(4,pl)]
 |_=>[]
def IJ(a:Nat×Nat)(c:List (Nat×Nat)):Nat×Nat:=c.foldl (λa b=>K5 a b.1 b.2) a
theorem Dg(c:Nat×Nat)(a b:List (Nat×Nat)):IJ c (a++b)=IJ (IJ c a) b:=Aci ..
theorem Eb:∀c a b,Bk b a c=IJ b (fK a c)
 |[],_,_=>rfl
 |(t,pl)::r,a,b=>by
  rw[Bk,fK,Dg,Eb r];split<;>rfl
def fP(a:List ByteArray->Ex->List (Nat×Nat))(c b:List ByteArray)(d:Bool):List Ex->List (Nat×Nat)
 |[]=>[]
 |x::r=>a (if (d||r.isEmpty)=true then b else c) x++fP a c b d r
def XY(c:List ByteArray->Ex->List (Nat×Nat))(b:List ByteArray)(d:List (Nat×Av×Ex)):List (Nat×Nat):=d.flatMap λa=>fK b.length a.2.1++c (b++a.2.1.map (·.1)) a.2.2
def fE(a:ByteArray->Bool):Nat->List ByteArray->Ex->List (Nat×Nat)
 |0,_,_=>[]
 |d+1,names,e=>fK names.length (GM e)++(fN a names e++(fP (fE a d) names (names++(GM e).map (·.1)) (Qq e) (Bd e)++XY (fE a d) names (DJ e)))
def xB:Ex->List Nat
 |.name true _ pl=>[pl]
 |_=>[]
def xU:Ex->List Nat
 |.name _ _ pl=>[pl]
 |_=>[]
def fB:Nat->Ex->List Nat
 |0,_=>[]
 |d+1,e=>xB e++((GM e).map (·.2)++((Bd e).flatMap (fB d)++(DJ e).flatMap λa=>a.2.1.map (·.2)++fB d a.2.2))
def fU:Nat->Ex->List Nat
 |0,_=>[]
 |d+1,e=>xU e++((Bd e).flatMap (fU d)++(DJ e).flatMap λa=>fU d a.2.2)
structure Ap (a c:List Nat) (p q:Nat):Prop where
 b:∀x∈a,p<=x/\x<q
 u:∀x∈c,p<=x/\x<q
 n:∀x∈a,x∉c
theorem Ap.nil(c d:Nat):Ap [] [] c d:=⟨λb a=>(by cases a),λb a=>(by cases a),λb a=>nofun⟩
theorem Ap.dM{r:Nat}(d:Ap t wg w v)(e:Ap w9 ng v r)(i:w<=v)(j:v<=r):Ap (t++w9) (wg++ng) w r:=by
 refine⟨λc f=>?_,λc f=>?_,λc f h=>?_⟩
 ·rcases Acz.1 f with a|a
  ·have:=d.b c a;omega
  ·have:=e.b c a;omega
 ·rcases Acz.1 f with a|a
  ·have:=d.u c a;omega
  ·have:=e.u c a;omega
 ·rcases Acz.1 f with a|a<;>rcases Acz.1 h with g|g
  ·exact d.n c a g
  ·have:=d.b c a;have:=e.u c g;omega
  ·have:=e.b c a;have:=d.u c g;omega
  ·exact e.n c a g
theorem Ap.sub{h:Nat}(e:Ap t wg w v)(f:∀a∈w9,a∈t)(g:∀a∈ng,a∈wg)(j:h<=w)(k:v<=d):Ap w9 ng h d:=
 ⟨λa c=>by have:=e.b a (f a c);omega,λa c=>by have:=e.u a (g a c);omega,λa c i=>e.n a (f a c) (g a i)⟩
theorem Ap.bind{p q:Nat}{x:Nat}(c:p<=x/\x<q):Ap [x] [] p q:=⟨λb a=>(by grind),λb a=>(by cases a),λb _ a=>(by cases a)⟩
theorem Ap.hf(d:w<=b/\b<v):Ap [] [b] w v:=⟨λc a=>(by cases a),λc a=>(by grind),λc a=>(by cases a)⟩
theorem TL(c:w<=s.size)(b:Ag s w≠⟨#[]⟩):w<=Am s w/\Am s w<AC s w:=by
 have f:=Cb c;have e:w<=Am s w:=AX s w;have d:(Ag s w).size≠0:=λa=>b (Abx (Abh a));omega
theorem Rl(d:w<=s.size)(a:AV s w=.ok (nh,v)):w<=nh.2/\nh.2<v:=by
 unfold AV at a;split at a
 ·rename_i b
  cases a;exact TL d (λc=>by rw[c,DG]at b;cases b)
 ·cases a
theorem NI{l:ByteArray}:∀f g d a c e,a<=l.size->d<=a->(∀b∈g,d<=b.2/\b.2<a)->AU l f g a=.ok (c,e)->∀b∈c,d<=b.2/\b.2<e
 |0,_,_,_,_,_,_,_,_,h=>by cases h
 |f+1,g,d,a,c,e,hp,h0,hg,h=>by
  have m:=GX (f+1) g a hp c e h;rw[AU]at h;split at h
  ·grind
  ·let ⟨b,k,j,i⟩:=Ac h
   have o:=Rl hp j;split at i
   ·cases i
   ·refine NI f _ d k c e (BH a hp b k j).2 (by omega) (λp n=>?_) i;grind
theorem Nj(h:w<=s.size)(e:Be s w=.ok (l,v)):Ap (l.map (·.2)) [] w v:=by
 let ⟨c,b,f,g⟩:=Ac e
 have j:=Aj (by decide) w h c b f;have:=NI _ [] b b l v j.2 .refl (λc i=>by cases i) g;refine⟨λd a=>?_,λd a=>(by cases a),λd _ a=>(by cases a)⟩;grind
section
variable {s:ByteArray} {d:Nat} {E:Nat->Pr Ex} (hE:IB s E 1) (hA:∀p e q,p<=s.size->E p=.ok (e,q)->Ap (fB d e) (fU d e) p q)
include hE hA
theorem I0{got:List Ex}(e:w<=v)(c:v<=s.size)(f:Ap (got.flatMap (fB d)) (got.flatMap (fU d)) w v)(a:E v=.ok (N,b)):Ap ((got++[N]).flatMap (fB d)) ((got++[N]).flatMap (fU d)) w b:=by
 rw[Ado,Ado];have h:=hE v c N b a;refine f.dM (Ap.sub (hA v N b c a) ?_ ?_ .refl .refl) e (by omega)<;>intro i g<;>simpa using g
theorem RF:∀h e f b c g,b<=s.size->f<=b->Ap (e.flatMap (fB d)) (e.flatMap (fU d)) f b->BS s E h e b=.ok (c,g)->Ap (c.flatMap (fB d)) (c.flatMap (fU d)) f g
 |0,_,_,_,_,_,_,_,_,a=>by cases a
 |h+1,e,f,b,c,g,hp,h0,hg,a=>by
  have n:=HO hE (h+1) e b hp c g a;rw[BS]at a;split at a
  ·cases a;exact hg.sub (λ_ a=>a) (λ_ a=>a) .refl (by omega)
  ·let ⟨m,j,i,k⟩:=Ac a
   have l:=hE b hp m j i;exact RF h _ f j c g l.2 (by omega) (I0 hE hA h0 hp hg i) k
theorem Lu:∀h e f b c g,b<=s.size->f<=b->Ap (e.flatMap (fB d)) (e.flatMap (fU d)) f b->A2 s E h e b=.ok (c,g)->Ap (c.flatMap (fB d)) (c.flatMap (fU d)) f g
 |0,_,_,_,_,_,_,_,_,a=>by cases a
 |h+1,e,f,b,c,g,hp,h0,hg,a=>by
  have n:=E7 hE (h+1) e b hp c g a;rw[A2]at a;split at a
  ·cases a;exact hg.sub (λ_ a=>a) (λ_ a=>a) .refl (by omega)
  ·split at a
   ·cases a
   ·let ⟨m,j,i,k⟩:=Ac a
    have l:=hE b hp m j i;exact Lu h _ f j c g l.2 (by omega) (I0 hE hA h0 hp hg i) k
theorem Nn:∀(f:Nat) (e:Av) (b:List Ex) (c p:Nat) (x:Av×List Ex) (q:Nat),p<=s.size->c<=p->Ap (e.map (·.2)++b.flatMap (fB d)) (b.flatMap (fU d)) c p->Ba s E f e b p=.ok (x,q)->Ap (x.1.map (·.2)++x.2.flatMap (fB d)) (x.2.flatMap (fU d)) c q
 |0,_,_,_,_,_,_,_,_,_,a=>by rw[Ba]at a;cases a
 |f+1,e,b,c,p,x,q,hp,h0,hg,a=>by
  have H:=Eg hE (f+1) e b p hp x q a;rw[Ba]at a;obtain⟨B,t,u,a⟩:=Ac a;have o:=Aj (by decide) p hp B t u;obtain⟨k,g,l,a⟩:=Ac a;have r:=BH t o.2 k g l;have I:=Rl o.2 l;split at a
  ·cases a
  ·obtain⟨i,j,m,a⟩:=Ac a;have y:=hE g r.2 i j m;obtain⟨D,h,v,a⟩:=Ac a;have z:=Aj (by decide) j y.2 D h v;have n:Ap ((e++[k]).map (·.2)++(b++[i]).flatMap (fB d)) ((b++[i]).flatMap (fU d)) c h:=by
    refine((hg.dM (Ap.bind (p:=p) (q:=g) (x:=k.2) (by omega)) h0 (by omega)).dM (hA g i j r.2 m) (by omega) (by omega)).sub (λG w=>?_) (λG w=>?_) (Acu _) (by omega)
    ·grind
    grind
   split at a
   ·cases a;exact n.sub (λ_ a=>a) (λ_ a=>a) (Acu _) (AX s h)
   ·exact Nn f _ _ c h x q z.2 (by omega) n a
theorem Vh:∀(l:Nat) (e:List (Nat×Av×Ex)) (c f:Nat) (g:List (Nat×Av×Ex)) (h:Nat),f<=s.size->c<=f->Ap (e.flatMap λb=>b.2.1.map (·.2)++fB d b.2.2) (e.flatMap λb=>fU d b.2.2) c f->C4 s E l e f=.ok (g,h)->Ap (g.flatMap λb=>b.2.1.map (·.2)++fB d b.2.2) (g.flatMap λb=>fU d b.2.2) c h
 |0,_,_,_,_,_,_,_,_,a=>by rw[C4]at a;cases a
 |l+1,e,c,f,g,h,hp,h0,hg,a=>by
  rw[C4]at a;obtain⟨I,w,y,a⟩:=Ac a;have D:=Aj (by decide) f hp I w y;obtain⟨o,x,z,a⟩:=Ac a;have u:=B7 w D.2 o x z;split at a
  ·cases a
  ·obtain⟨p,n,q,a⟩:=Ac a;have v:=BU x u.2 p n q;obtain⟨k,i,r,a⟩:=Ac a;have G:=hE n v.2 k i r;obtain⟨K,j,B,a⟩:=Ac a;have H:=Aj (by decide) i G.2 K j B;have t:Ap ((e++[(o.1,p,k)]).flatMap λb=>b.2.1.map (·.2)++fB d b.2.2) ((e++[(o.1,p,k)]).flatMap λb=>fU d b.2.2) c j:=by
    rw[Ado,Ado];refine(hg.dM (((Nj u.2 q).dM (hA n k i v.2 r) (by omega) (by omega)).sub (λ_ a=>a) (λ_ a=>a) (by omega) (Acu _)) h0 (by omega):Ap _ _ c i).sub (λL m=>?_) (λL m=>?_) (Acu _) (by omega)
    ·simpa using m
    ·simpa using m
   split at a
   ·cases a;exact t.sub (λ_ a=>a) (λ_ a=>a) (Acu _) (AX s j)
   ·exact Vh l _ c j g h H.2 (by omega) t a
theorem WK(l:Nat)(n:Ex)(t:Nat)(w:l<=s.size)(a:AY s E l=.ok (n,t)):Ap (fB (d+1) n) (fU (d+1) n) l t:=by
 have o:=AK w;have z:=Ac5 (AX s l) (GR s l);have D:∀r,BE s E r (AC s l)=.ok (n,t)->Ap (fB (d+1) n) (fU (d+1) n) l t:=λr a=>by
  let ⟨j,c,i,a⟩:=Ac a
  have g:=Aj (by decide) _ o j c i;let ⟨h,e,f,a⟩:=Ac a
  have q:=Eg hE _ _ _ c g.2 h e f;have k:=Nn hE hA _ [] [] c c h e g.2 (Acu _) (Ap.nil _ _) f;let ⟨x,u,v,a⟩:=Ac a
  have B:=Aj (by decide) e q.2 x u v;let ⟨H,G,y,a⟩:=Ac a
  have L:=hE u B.2 H G y;have K:=hA u H G B.2 y;cases a;refine(k.dM (r:=t) (K.sub (λ_ a=>a) (λ_ a=>a) (by omega) (Acu _)) (by omega) (by omega)).sub (λm b=>?_) (λm b=>?_) (by omega) (Acu _)
  ·simp only[fB,xB,GM,Bd,DJ,Aec,Ado,Adh,Ae1,Ad8,Aem]at b ⊢;exact b
  ·simp only[fU,xU,Bd,DJ,Aec,Ado,Adh,Ae1,Ad8]at b ⊢;exact b
 unfold AY at a;split at a
 ·let ⟨j,c,i,a⟩:=Ac a
  have g:=hE _ o j c i;have p:=hA _ j c o i;let ⟨h,e,f,a⟩:=Ac a
  have q:=hE c g.2 h e f;have k:=hA c h e g.2 f;cases a;refine(p.dM k (by omega) (by omega)).sub (λm b=>?_) (λm b=>?_) z (Acu _)
  ·simpa[fB,xB,GM,Bd,DJ]using b
  ·simpa[fU,xU,Bd,DJ]using b
 ·split at a
  ·exact D _ a
  ·split at a
   ·exact D _ a
   ·split at a
    ·let ⟨j,c,i,a⟩:=Ac a
     have g:=B7 _ o j c i;let ⟨h,e,f,a⟩:=Ac a
     have k:=Lu hE hA _ [] c c h e g.2 (Acu _) (Ap.nil _ _) f;cases a;refine k.sub (λm b=>?_) (λm b=>?_) (by omega) (Acu _)
     ·simpa[fB,xB,GM,Bd,DJ]using b
     ·simpa[fU,xU,Bd,DJ]using b
    ·split at a
     ·let ⟨j,c,i,a⟩:=Ac a
      have g:=hE _ o j c i;have p:=hA _ j c o i;let ⟨h,e,f,a⟩:=Ac a
      have q:=I4 hE _ _ c g.2 h e f;have k:=Vh hE hA _ [] c c h e g.2 (Acu _) (Ap.nil _ _) f;cases a;refine(p.dM k (by omega) (by omega)).sub (λm b=>?_) (λm b=>?_) z (Acu _)
      ·simp only[fB,xB,GM,Bd,DJ,Aec,Aez,Adh,Ae1,Ad8]at b ⊢;exact b
      ·simp only[fU,xU,Bd,DJ,Aec,Adh,Ae1,Ad8]at b ⊢;exact b
     ·let ⟨j,c,i,a⟩:=Ac a
      have g:=hE l w j c i;have p:=I0 hE hA (got:=[]) (Acu _) w (Ap.nil _ _) i;let ⟨h,e,f,a⟩:=Ac a
      have q:=hE c g.2 h e f;have k:=I0 hE hA (by omega) g.2 p f;let ⟨x,u,v,a⟩:=Ac a
      have I:=RF hE hA _ [j,h] l e x u q.2 (by omega) k v;cases a;refine I.sub (λm b=>?_) (λm b=>?_) (by omega) (Acu _)
      ·simpa[fB,xB,GM,Bd,DJ]using b
      ·simpa[fU,xU,Bd,DJ]using b
end
theorem Qv(f d:Nat)(c:Ex)(h:Nat)(i:d<=s.size)(b:BB s d=.ok (c,h)):Ap (fB (f+1) c) (fU (f+1) c) d h:=by
 unfold BB at b;split at b
 ·rename_i g
  cases b;refine(Ap.hf (TL i (λc=>by rw[c,DG]at g;cases g))).sub (λe a=>?_) (λe a=>?_) .refl .refl
  ·simp[fB,xB,GM,Bd,DJ]at a
  ·simpa[fU,xU,Bd,DJ]using a
 ·split at b
  ·cases b;refine(Ap.nil d _).sub (λe a=>?_) (λe a=>?_) .refl .refl
   ·simp[fB,xB,GM,Bd,DJ]at a
   ·simp[fU,xU,Bd,DJ]at a
  ·cases b
theorem Z0(f:ByteArray):∀b d c e,d<=f.size->pE f b d=.ok (c,e)->Ap (fB (b+1) c) (fU (b+1) c) d e
 |0,d,c,e,hp,a=>by
  rw[pE]at a;split at a
  ·cases a
  ·exact Qv 0 d c e hp a
 |b+1,d,c,e,hp,a=>by
  rw[pE]at a;split at a
  ·rename_i l
   have k0:=Dw hp (by rw[l];decide);let ⟨i,g,h,a⟩:=Ac a
   have j:=WK (Dq f b) (Z0 f b) _ i g k0.2 h;let ⟨n,m,k,a⟩:=Ac a
   have o:=Aj (by decide) g (NS (Dq f b) _ k0.2 i g h).2 n m k;cases a;exact j.sub (λ_ a=>a) (λ_ a=>a) (by omega) (by omega)
  ·exact Qv (b+1) d c e hp a
def C5:Ex->List (Ex×Av)
 |.call ps=>ps.map λa=>(a,[])
 |.lets r ns es b=>es.map (λa=>(a,if r then ns else []))++[(b,ns)]
 |.Fs _ fs=>fs.map λa=>(a,[])
 |.case e brs=>(e,[])::brs.map λb=>(b.2.2,b.2.1)
 |.op _ l r=>[(l,[]),(r,[])]
 |_=>[]
def gE(b:ByteArray->Bool):Nat->List ByteArray->Ex->List (Nat×Nat)
 |0,_,_=>[]
 |d+1,names,e=>fN b names e++(C5 e).flatMap λa=>fK names.length a.2++gE b d (names++a.2.map (·.1)) a.1
def Yu(a:Nat)(b:Ex):Prop:=∀c∈fB a b,c∉fU a b
theorem Yu.ps(b:Yu (w+1) N)(a:sm∈Bd N):Yu w sm:=λe d c=>
 b e (Acx _ (Acx _ (Acw _ (Ada.2 ⟨sm,a,d⟩)))) (Acx _ (Acw _ (Ada.2 ⟨sm,a,c⟩)))
theorem Yu.al(b:Yu (w+1) N)(a:ss∈DJ N):Yu w ss.2.2:=λe d c=>
 b e (Acx _ (Acx _ (Acx _ (Ada.2 ⟨ss,a,Acx _ d⟩)))) (Acx _ (Acx _ (Ada.2 ⟨ss,a,c⟩)))
theorem M2{d:List ByteArray->Ex->Nat×Nat->Nat×Nat}{e:List ByteArray->Ex->List (Nat×Nat)}{i f:List ByteArray}{j:Bool}:∀c a,(∀b∈c,∀g a,d g b a=IJ a (e g b))->MC d i f j c a=IJ a (fP e i f j c)
 |[],_,_=>rfl
 |b::r,a,h=>by rw[MC,fP,Dg,h b (Aew ..),M2 r _ λl k=>h l (Aei _ k)]
theorem ON{c:List ByteArray->Ex->Nat×Nat->Nat×Nat}{d:List ByteArray->Ex->List (Nat×Nat)}{g:List ByteArray}:∀b a,(∀e∈b,∀f a,c f e.2.2 a=IJ a (d f e.2.2))->Ry c g b a=IJ a (XY d g b)
 |[],_,_=>rfl
 |x::r,a,h=>by
  rw[Ry,h x (Aew ..),ON r _ λj i=>h j (Aei _ i),Eb,<-Dg,<-Dg];unfold XY;simp
theorem Jd(d:ByteArray->Bool):∀b f c a,Yu b c->FK d b f c a=IJ a (fE d b f c)
 |0,_,_,_,_=>rfl
 |b+1,f,c,a,h=>by
  rw[FK,fE,ON _ _ (λi j e a=>Jd d b e i.2.2 a (h.al j)),M2 _ _ (λl k e a=>Jd d b e l a (h.ps k)),Dg,Dg,Dg,Eb];cases c with
  |name g t pl=>
   cases g with
   |true=>exact absurd (Acw _ (Ac9.2 rfl)) (h pl (Acw _ (Ac9.2 rfl)))
   |false=>
    simp[lkN,fN];split
    ·rfl
    ·split<;>rfl
  |_=>rfl
theorem HQ(b:List ByteArray->Ex->List (Nat×Nat))(a:List ByteArray)(d:Bool):∀c:List Ex,fP b a a d c=c.flatMap (b a)
 |[]=>rfl
 |x::r=>by rw[fP,HQ b a d r,ite_self,Adh]
theorem QE(a:List ByteArray->Ex->List (Nat×Nat))(d b:List ByteArray)(e:Bool)(c:Ex):∀f:List Ex,fP a d b e (f++[c])=f.flatMap (a (if e=true then b else d))++a b c
 |[]=>by simp[fP]
 |x::r=>by
  rw[Ae2,fP,QE a d b e c r,Adh,Aem];simp
theorem L5(j:ByteArray->Bool):∀h d e f,f∈fE j h d e↔f∈gE j h d e
 |0,_,_,_=>Iff.rfl
 |h+1,d,e,f=>by
  have o:=L5 j h;cases e with
  |num n=>rfl
  |name g t pl=>rfl
  |call ps=>
   simp only[fE,gE,GM,Bd,DJ,C5,XY,fK,fN,Aez,Ad8,HQ,Aec,Ae1,Ada,Adj];constructor
   ·grind
   ·rintro⟨p,⟨c,i,rfl⟩,m⟩;exact⟨c,i,(o d c f).2 (by simpa[fK]using m)⟩
  |lets r ns es b=>
   simp only[fE,gE,GM,Bd,DJ,C5,XY,fN,Qq,Ad8,QE,Aec,Ae1,Ada,Adj,Acz,Ado,Adh];constructor
   ·grind
   ·rintro(⟨p,⟨c,i,rfl⟩,a⟩|a|a)
    ·cases r
     ·rcases a with a|a
      ·simp[fK]at a
      grind
     grind
    ·exact Ads a
    grind
  |Fs t fs=>
   simp only[fE,gE,GM,Bd,DJ,C5,XY,fK,fN,Aez,Ad8,HQ,Aec,Ae1,Ada,Adj];constructor
   ·grind
   ·rintro⟨p,⟨c,i,rfl⟩,m⟩;exact⟨c,i,(o d c f).2 (by simpa[fK]using m)⟩
  |case e brs=>
   simp[fE,gE,GM,Bd,DJ,C5,XY,fK,fN,HQ];grind
  |op k l r=>
   simp[fE,gE,GM,Bd,DJ,C5,XY,fK,fN,HQ];grind
theorem J2:∀d c b,b∈fK c d->b.1=3/\b.2∈d.map (·.2)
 |[],_,_,a=>by cases a
 |(t,pl)::r,c,b,a=>by
  rcases Acz.1 a with a|a
  ·grind
  ·have:=J2 r _ b a;grind
theorem Me(j:ByteArray->Bool):∀d o f c,c∈fE j d o f->(c.1=3/\c.2∈fB d f)\/(c.1=4/\c.2∈fU d f)
 |0,_,_,_,a=>by cases a
 |d+1,o,f,c,a=>by
  have u:=Me j d;rw[fE]at a;rcases Acz.1 a with a|a
  ·have:=J2 _ _ c a;exact Ads ⟨this.1,Acx _ (Acw _ this.2)⟩
  rcases Acz.1 a with a|a
  ·right
   cases f with
   |name g t pl=>
    simp only[fN]at a;split at a
    ·cases a
    ·split at a
     ·cases a
     ·obtain rfl:=Ac9.1 a;exact⟨rfl,Acw _ (Ac9.2 rfl)⟩
   |_=>simp[fN]at a
  rcases Acz.1 a with a|a
  ·have s:∀i p n q,c∈fP (fE j d) p n q i->∃e∈i,(c.1=3/\c.2∈fB d e)\/(c.1=4/\c.2∈fU d e):=by
    intro i;induction i with
    |nil=>intro _ _ _ a;cases a
    |cons e r ih2=>
     intro p n q a;rw[fP]at a;grind
   let ⟨e,m,k⟩:=s _ _ _ _ a
   refine k.imp (λb=>⟨b.1,?_⟩) (λb=>⟨b.1,?_⟩)
   ·exact Acx _ (Acx _ (Acw _ (Ada.2 ⟨e,m,b.2⟩)))
   ·exact Acx _ (Acw _ (Ada.2 ⟨e,m,b.2⟩))
  ·let ⟨h,l,k⟩:=Ada.1 a
   rcases Acz.1 k with b|b
   ·have:=J2 _ _ c b;exact Ads ⟨this.1,Acx _ (Acx _ (Acx _ (Ada.2 ⟨h,l,Acw _ this.2⟩)))⟩
   ·refine(u _ h.2.2 c b).imp (λb=>⟨b.1,?_⟩) (λb=>⟨b.1,?_⟩)
    ·exact Acx _ (Acx _ (Acx _ (Ada.2 ⟨h,l,Acx _ b.2⟩)))
    ·exact Acx _ (Acx _ (Ada.2 ⟨h,l,b.2⟩))
def Hd(b:Option (Nat×Nat))(a:Nat×Nat):Option (Nat×Nat):=match b with|none=>some a|some y=>if a.2<y.2 then some a else some y
def Lv(b:Option (Nat×Nat))(a:List (Nat×Nat)):Option (Nat×Nat):=a.foldl Hd b
theorem F8:∀h a,(∀d,Lv a h=some d->(d∈h\/a=some d)/\(∀e∈h,d.2<=e.2)/\∀e,a=some e->d.2<=e.2)/\(Lv a h=none->a=none/\h=[])
 |[],a=>⟨λd b=>⟨Ad7 b,λe g=>(by cases g),λe g=>(by rw[show Lv a []=a from rfl,g]at b;grind)⟩,λb=>⟨b,rfl⟩⟩
 |c::r,a=>by
  have b:=F8 r (Hd a c);have n:Lv a (c::r)=Lv (Hd a c) r:=rfl;refine⟨λd m=>?_,λl=>?_⟩
  ·let ⟨f,o,i⟩:=b.1 d m
   match a,f,i with
   |none,f,i=>
    have p:=i c rfl;refine⟨?_,λe g=>?_,λe g=>by cases g⟩
    ·rcases f with f|f
     ·grind
     ·cases f;simp
    grind
   |some u,f,i=>
    by_cases j:c.2<u.2
    ·have k:Hd (some u) c=some c:=by simp[Hd,j]
     grind
    ·have k:Hd (some u) c=some u:=by simp[Hd,j]
     grind
  ·have:=(b.2 l).1;match a,this with
   |none,b=>cases b
   |some u,b=>simp[Hd]at b;grind
theorem T7(e:∀a,a∈s7↔a∈xm)(c:∀a∈s7,∀b∈s7,a.2=b.2->a=b):Lv none s7=Lv none xm:=by
 have d:=F8 s7 none;have f:=F8 xm none;match e1:Lv none s7,e2:Lv none xm with
 |none,none=>rfl
 |none,some a=>
  grind
 |some a,none=>
  grind
 |some a,some b=>
  grind
def Ya(a:Nat×Nat):Option (Nat×Nat):=if a.1=0 then none else some a
theorem Oy:∀c a,(∀d∈c,d.1≠0)->Ya (IJ a c)=Lv (Ya a) c
 |[],_,_=>rfl
 |x::r,a,h=>by
  show Ya (IJ (K5 a x.1 x.2) r)=Lv (Hd (Ya a) x) r;rw[Oy r _ λd g=>h d (Aei _ g)];have f:=h x (Aew ..);unfold K5 Ya;by_cases b:a.1=0
  ·simp[b,f,Hd]
  ·by_cases e:x.2<a.2
   ·simp[b,e,f,Hd]
   ·simp[b,e,Hd]
def XC:Ex->Prop
 |.call ps=>2<=ps.length
 |_=>True
def CN:Nat->Ex->Prop
 |0,_=>True
 |d+1,e=>((Bd e).length<=2001/\(DJ e).length<=2000/\XC e)/\(∀b∈Bd e,CN d b)/\∀a∈DJ e,CN d a.2.2
theorem all_push(h:∀a d c,a<=s.size->nw a=.ok (d,c)->xt d){e:List Ex}{a c:Nat}{b:Ex}(j:a<=s.size)(i:∀b∈e,xt b)(g:nw a=.ok (b,c)):∀f∈e++[b],xt f:=by
 grind
section
variable {s:ByteArray} {Q:Ex->Prop} {E:Nat->Pr Ex} (hE:IB s E 1) (hB:∀p e q,p<=s.size->E p=.ok (e,q)->Q e)
include hE hB
theorem MY:∀f c b a e,b<=s.size->c.length<=b->(∀d∈c,Q d)->BS s E f c b=.ok (a,e)->a.length<=e/\c.length<=a.length/\∀d∈a,Q d
 |0,_,_,_,_,_,_,_,h=>by cases h
 |f+1,c,b,a,e,hp,hl,hg,h=>by
  rw[BS]at h;split at h
  ·have:=AX s b;grind
  ·let ⟨d,i,g,j⟩:=Ac h
   have k:=hE b hp d i g;have:=MY f _ i a e k.2 (by simp;omega) (all_push hB hp hg g) j;grind
theorem Kt:∀f d a b e,a<=s.size->d.length<=a->(∀c∈d,Q c)->A2 s E f d a=.ok (b,e)->b.length<=e/\∀c∈b,Q c
 |0,_,_,_,_,_,_,_,h=>by cases h
 |f+1,d,a,b,e,hp,hl,hg,h=>by
  rw[A2]at h;split at h
  ·have:=AX s a;grind
  ·split at h
   ·cases h
   ·let ⟨c,i,g,j⟩:=Ac h
    have k:=hE a hp c i g;exact Kt f _ i b e k.2 (by simp;omega) (all_push hB hp hg g) j
theorem K7:∀(f:Nat) (j:Av) (d:List Ex) (c:Nat) (b:Av×List Ex) (e:Nat),c<=s.size->d.length<=c->(∀b∈d,Q b)->Ba s E f j d c=.ok (b,e)->b.2.length<=e/\∀z∈b.2,Q z
 |0,_,_,_,_,_,_,_,_,a=>by rw[Ba]at a;cases a
 |f+1,j,d,c,b,e,hp,hn,hg,a=>by
  rw[Ba]at a;let ⟨v,k,n,a⟩:=Ac a
  have r:=Aj (by decide) c hp v k n;let ⟨w,l,o,a⟩:=Ac a
  have i:=BH k r.2 w l o;split at a
  ·cases a
  ·let ⟨x,m,h,a⟩:=Ac a
   have t:=hE l i.2 x m h;let ⟨y,g,p,a⟩:=Ac a
   have u:=Aj (by decide) m t.2 y g p;have q:=all_push hB i.2 hg h;have B:=AX s g;split at a
   ·grind
   ·exact K7 f _ _ g b e u.2 (by simp;omega) q a
theorem QA:∀g c e d f,e<=s.size->c.length<=e->(∀b∈c,Q b.2.2)->C4 s E g c e=.ok (d,f)->d.length<=f/\∀b∈d,Q b.2.2
 |0,_,_,_,_,_,_,_,a=>by cases a
 |g+1,c,e,d,f,hp,hl,hg,a=>by
  let ⟨H,p,u,a⟩:=Ac a
  have z:=Aj (by decide) e hp H p u;let ⟨r,q,v,a⟩:=Ac a
  have B:=B7 p z.2 r q v;split at a
  ·cases a
  ·let ⟨t,i,w,a⟩:=Ac a
   have o:=BU q B.2 t i w;let ⟨l,j,m,a⟩:=Ac a
   have D:=hE i o.2 l j m;let ⟨I,k,x,a⟩:=Ac a
   have G:=Aj (by decide) j D.2 I k x;have n:∀b∈c++[(r.1,t,l)],Q b.2.2:=λb y=>by
    rcases Acz.1 y with h|h
    ·exact hg b h
    ·obtain rfl:=Ac9.1 h;exact hB i l j o.2 m
   have K:=AX s k;split at a
   ·cases a;exact⟨by simp;omega,n⟩
   ·exact QA g _ k d f G.2 (by simp;omega) n a
end
theorem TH(L:s.size<=2000)(f:IB s nw 1)(m:∀o l u,o<=s.size->nw o=.ok (l,u)->CN w l)(o:Nat)(l:Ex)(u:Nat)(z:o<=s.size)(a:AY s nw o=.ok (l,u)):CN (w+1) l:=by
 have r:=AK z;have G:∀B,BE s nw B (AC s o)=.ok (l,u)->CN (w+1) l:=λB a=>by
  let ⟨j,b,i,a⟩:=Ac a
  have g:=Aj (by decide) _ r j b i;let ⟨h,c,e,a⟩:=Ac a
  have p:=Eg f _ _ _ b g.2 h c e;have q:=K7 f m _ [] [] b h c g.2 (by simp) (λk d=>by cases d) e;let ⟨x,v,t,a⟩:=Ac a
  have H:=Aj (by decide) c p.2 x v t;let ⟨N,M,K,a⟩:=Ac a
  cases a;refine⟨⟨by simp[Bd];omega,Ac0 _,trivial⟩,λk d=>?_,λy n=>by cases n⟩;rcases Acz.1 d with E|E
  ·exact q.2 k E
  grind
 unfold AY at a;split at a
 ·let ⟨I,b,i,a⟩:=Ac a
  have g:=f _ r I b i;let ⟨B,c,e,a⟩:=Ac a
  cases a;refine⟨⟨by simp[Bd],Ac0 _,trivial⟩,λk d=>?_,λy n=>by cases n⟩;rcases(by simpa[Bd]using d) with rfl|rfl
  ·grind
  grind
 ·split at a
  ·exact G _ a
  ·split at a
   ·exact G _ a
   ·split at a
    ·let ⟨j,b,i,a⟩:=Ac a
     have g:=B7 _ r j b i;let ⟨h,c,e,a⟩:=Ac a
     have p:=E7 f _ [] b g.2 h c e;have q:=Kt f m _ [] b h c g.2 (by simp) (λk d=>by cases d) e;cases a;exact⟨⟨by simp[Bd];omega,Ac0 _,trivial⟩,q.2,λy n=>by cases n⟩
    ·split at a
     ·let ⟨j,b,i,a⟩:=Ac a
      have g:=f _ r j b i;let ⟨h,c,e,a⟩:=Ac a
      have p:=I4 f _ [] b g.2 h c e;have q:=QA f m _ [] b h c g.2 (by simp) (λk d=>by cases d) e;cases a;refine⟨⟨by simp[Bd],by simp[DJ];omega,trivial⟩,λk d=>?_,q.2⟩;obtain rfl:k=j:=by simpa[Bd]using d
      exact m _ _ _ r i
     ·let ⟨j,b,i,a⟩:=Ac a
      have g:=f o z j b i;let ⟨h,c,e,a⟩:=Ac a
      have p:=f b g.2 h c e;let ⟨x,v,t,a⟩:=Ac a
      have H:=HO f _ [j,h] c p.2 x v t;have D:=MY f m _ [j,h] c x v p.2 (by simp;omega) (λk d=>by
       rcases(by simpa using d) with rfl|rfl
       ·exact m _ _ _ z i
       ·exact m _ _ _ g.2 e) t
      cases a;exact⟨⟨by simp[Bd];omega,Ac0 _,by have:=D.2.1;simpa[XC]using this⟩,D.2.2,λy n=>by cases n⟩
theorem Nv(a:BB s v=.ok (N,b)):CN (w+1) N:=by
 unfold BB at a;split at a
 ·cases a;exact⟨⟨Ac0 _,Ac0 _,trivial⟩,λf d=>(by cases d),λe c=>(by cases c)⟩
 ·split at a
  ·cases a;exact⟨⟨Ac0 _,Ac0 _,trivial⟩,λf d=>(by cases d),λe c=>(by cases c)⟩
  ·cases a
theorem X9{e:ByteArray}(g:e.size<=2000):∀b d c f,d<=e.size->pE e b d=.ok (c,f)->CN (b+1) c
 |0,d,c,f,_,a=>by
  rw[pE]at a;split at a
  ·cases a
  ·exact Nv a
 |b+1,d,c,f,hp,a=>by
  rw[pE]at a;split at a
  ·let ⟨l,j,h,a⟩:=Ac a
   let ⟨m,k,i,a⟩:=Ac a
   cases a;exact TH g (Dq e b) (X9 g b) _ _ _ (AK hp) h
  ·exact Nv a
end Go.Proofs.YtnghccjoicmabaaGreatDoor
