import Derived.Test.YtcacpmkdfnmhaaaGreatDoorJ7J
set_option linter.unusedSimpArgs false
set_option maxRecDepth 100000
set_option maxHeartbeats 8000000
open Go renaming Calls->Av,Value->X,World->Q
open Go.Ending renaming returned->F
open Go.IntKind renaming i64->C
open Go.Obj renaming cells->AO
open Go.Proofs.Tryz renaming prog->Aa
open Go.Value renaming agg->T,int->V,slice->W,string->S
open Go.World renaming news_of_block->A1
open List renaming length->L,range->AU
open Option renaming none->N,some->I
namespace Go.Proofs.YtcacpmkdfnmhaaaGreatDoor
open Go.RowKit Go.Sort
variable{vi sq:Nat->Prop}{b:Value}{wf:List Int}{n p:World}{w:Nat}
def GA(b:ByteArray->Option (Nat×Int))(a:BA):Bool:=(BO (λ_ c=>(b c.name).isNone) a.Bu 0).isSome
def GS(c:ByteArray->Option (Nat×Int))(b:BA):Bool:=(BO (λ_ a=>decide ((C6 (c a.name)).2≠a.arity)) b.Bu 0).isSome
theorem Abp(b c:X)(a:Q):Sem.run Aa (Instr.field 147 (T #[b,c]) 0) a=.ok b a:=O3
theorem Akb(c b:X)(a:Q):Sem.run Aa (Instr.field 147 (T #[c,b]) 1) a=.ok b a:=O3
def Kl(b:Nat->Addr)(c:ByteArray->Option (Nat×Int))(a:List BA):X:=match BO (λ_=>GA c) a 0 with
 |some d=>Gv (b 15) 0 (d:Int)
 |none=>Q8 b 16 (BO (λ_=>GS c) a 0)
theorem Am2(a:List BA)(ak:X)(i:Q)(ae:Nat->Addr)(af aC:Nat)(e:ByteArray->Option (Nat×Int))(av:Iq i ak a)(ah:XM i af aC e)(ai:DP i ae):
 Av Aa 46 #[ak,.map (I af)] i λo s=>o=F (Kl ae e a)/\Below i.heap.size i s:=by
 obtain⟨aF,aJ,rfl,a1,ag⟩:=av;have Y:O9 (∀s,Below i.heap.size i s->Ip s aF a):=λs hb=>ag.bE hb;have aa:=O0 (λs (hb:Below i.heap.size i s)=>ah.bE hb);have ac:=O0 ai;unfold short at a1;clear ag ah ai;go_enter Tryz.func46,Tryz.ntmps46;go_wp2;go_loopw [17] (λq wr=>∃b:Nat,b<=L a/\q=V C (b:Int)/\O9 (BO (λ_=>GA e) a 0=BO (λ_=>GA e) (a.drop b) b/\Below i.heap.size i wr)) (λq _=>L a-(intOf q).toNat)
 case atStart=>exact⟨0,Ak _,rfl,rfl,Ae _ _⟩
 case round=>
  obtain⟨b,aj,rfl,g⟩:=hrel;rename Q=>wr
  by_cases z:b<L a
  ·have aw:(0:Int)<=(b:Int):=O1;have ax:(b:Int)<(L a:Int):=O1;obtain⟨am,aD,a7,a4,au,aq,rfl,an,ao,ap,v⟩:=(Y.o _ g.o.2).cells z;obtain⟨a8,a5,o,az,x⟩:=v.Bs.1.open;cases o;have G:=O0 x;have n:=O0 (g.o.1.trans (LF (λ_=>GA e) a z));have u:=O0 g.o.2;have B:=g.o.2.size;unfold GA at n;clear x v g;generalize a[b].Bs=gl at*;generalize a[b].name=onm at*;generalize a[b].Bu=im at*;go_wp2;go_loopw [25] (λp l=>∃d:Nat,d<=L im/\p=V C (d:Int)/\O9 (BO (λ_ f=>(e f.name).isNone) im 0=BO (λ_ (f:Dd)=>(e f.name).isNone) (im.drop d) d/\Below wr.heap.size wr l)) (λp _=>L im-(intOf p).toNat)
   case atStart=>exact⟨0,Ak _,rfl,rfl,bA⟩
   case round=>
    obtain⟨d,a0,rfl,h⟩:=hrel;rename Q=>l
    by_cases y:d<L im
    ·have a9:(0:Int)<=(d:Int):=O1;have aB:(d:Int)<(L im:Int):=O1;obtain⟨ib,a6,rfl,a2,a3,M⟩:=G.o _ h.o.2 d y;have j:=O0 (u.o.trans (h.o.2.mono B));have D:=j.o.size;have O:=h.o.2.size;have t:=λU=>(aa.o _ (j.o.alloc D U)).look im[d].name M;have m:=O0 (h.o.1.trans (LF (λ_ (f:Dd)=>(e f.name).isNone) im y));generalize im[d].name=nm at*;generalize im[d].arity=ar at*;cases hf:e nm with
     |some r=>
      obtain⟨aG,ad⟩:=r;rw[hf]at t m;simp only[Hx,C6,As0]at t;go_wp2;go_roundw
      case rel=>exact⟨d+1,O1,by go_num,m.o,(h.o.2.alloc O _).alloc O5 _⟩
      case measure=>simp[intOf];omega
     |none=>
      rw[hf]at t m;simp only[Hx,C6,As1]at t;have k:O9 (BO (λ_=>GA e) a 0=I b):=by
       show _=_;rw[show BO (λ_=>GA e) a 0=_ from n.o,m.o];rfl
      have w:=(ac.o.bE j.o).c 15 O1;simp only[CX,Hi,Ar4,Ar3]at w;have ay:=λE aE=>alloc_old (l.alloc E) aE _ _ _ (alloc_old l E _ _ _ w);go_wp2_with (first
       |(go_at_call 27;refine(Sj _ _ _ _).mono ?_;rintro o aH ⟨rfl,rfl⟩))
      go_ret;exact⟨Ph (by unfold Kl;rw[k.o];rfl),(j.o.alloc D _).alloc O5 _⟩
    ·obtain rfl:d=L im:=O1;have K:¬(L im:Int)<(L im:Int):=O1;have k:O9 (BO (λ_=>GA e) a 0=BO (λ_=>GA e) (a.drop (b+1)) (b+1)):=by
      show _=_;rw[show BO (λ_=>GA e) a 0=_ from n.o,h.o.1,Mw _ _ (Ac _)];rfl
     go_wp2;go_roundw
     case rel=>exact⟨b+1,O1,by go_num,k.o,u.o.trans (h.o.2.mono B)⟩
     case measure=>simp[intOf];omega
  ·obtain rfl:b=L a:=O1;have K:¬(L a:Int)<(L a:Int):=O1;have ab:O9 (BO (λ_=>GA e) a 0=N):=by
    show _=_;rw[g.o.1,Mw _ _ (Ac _)]
   have al:=O0 g.o.2;clear g aj;rename Q=>wy
   have aI:=Akb;go_wp2;go_loopw [45] (λq wr=>∃b:Nat,b<=L a/\q=V C (b:Int)/\O9 (BO (λ_=>GS e) a 0=BO (λ_=>GS e) (a.drop b) b/\Below i.heap.size i wr)) (λq _=>L a-(intOf q).toNat)
   case atStart=>exact⟨0,Ak _,rfl,rfl,al.o⟩
   case round=>
    obtain⟨b,aj,rfl,g⟩:=hrel;rename Q=>wr
    by_cases z:b<L a
    ·have aw:(0:Int)<=(b:Int):=O1;have ax:(b:Int)<(L a:Int):=O1;obtain⟨am,aD,a7,a4,au,aq,rfl,an,ao,ap,v⟩:=(Y.o _ g.o.2).cells z;obtain⟨a8,a5,o,az,x⟩:=v.Bs.1.open;cases o;have G:=O0 x;have n:=O0 (g.o.1.trans (LF (λ_=>GS e) a z));have u:=O0 g.o.2;have B:=g.o.2.size;unfold GS at n;clear x v g;generalize a[b].Bs=gl at*;generalize a[b].name=onm at*;generalize a[b].Bu=im at*;go_wp2;go_loopw [53] (λp l=>∃d:Nat,d<=L im/\p=V C (d:Int)/\O9 (BO (λ_ f=>decide ((C6 (e f.name)).2≠f.arity)) im 0=BO (λ_ (f:Dd)=>decide ((C6 (e f.name)).2≠f.arity)) (im.drop d) d/\Below wr.heap.size wr l)) (λp _=>L im-(intOf p).toNat)
     case atStart=>exact⟨0,Ak _,rfl,rfl,bA⟩
     case round=>
      obtain⟨d,a0,rfl,h⟩:=hrel;rename Q=>l
      by_cases y:d<L im
      ·have a9:(0:Int)<=(d:Int):=O1;have aB:(d:Int)<(L im:Int):=O1;obtain⟨ib,a6,rfl,a2,a3,M⟩:=G.o _ h.o.2 d y;have j:=O0 (u.o.trans (h.o.2.mono B));have D:=j.o.size;have O:=h.o.2.size;have t:=λU=>(aa.o _ (j.o.alloc D U)).eG im[d].name M;have m:=O0 (h.o.1.trans (LF (λ_ (f:Dd)=>decide ((C6 (e f.name)).2≠f.arity)) im y));generalize im[d].name=nm at*;generalize im[d].arity=ar at*;generalize e nm=fo at*;unfold Hx at t;generalize (C6 fo).1=aG at*;generalize (C6 fo).2=ad at*;by_cases H:ad=ar
       ·have k:O9 (BO (λ_ (f:Dd)=>decide ((C6 (e f.name)).2≠f.arity)) im 0=BO (λ_ (f:Dd)=>decide ((C6 (e f.name)).2≠f.arity)) (im.drop (d+1)) (d+1)):=by
         show _=_;rw[m.o,if_neg (by simp[H])]
        subst H;go_wp2;go_roundw
        case rel=>exact⟨d+1,O1,by go_num,k.o,h.o.2.alloc O _⟩
        case measure=>simp[intOf];omega
       ·have k:O9 (BO (λ_=>GS e) a 0=I b):=by
         show _=_;rw[show BO (λ_=>GS e) a 0=_ from n.o,m.o];simp[H]
        have w:=(ac.o.bE j.o).c 16 O1;simp only[CX,Hi,Ar4,Ar3]at w;have ay:=λE=>alloc_old l E _ _ _ w;go_wp2_with (first
         |(go_at_call 27;refine(Sj _ _ _ _).mono ?_;rintro o aH ⟨rfl,rfl⟩))
        go_ret;exact⟨Ph (by unfold Kl;rw[ab.o,k.o];rfl),j.o.alloc D _⟩
      ·obtain rfl:d=L im:=O1;have K:¬(L im:Int)<(L im:Int):=O1;have k:O9 (BO (λ_=>GS e) a 0=BO (λ_=>GS e) (a.drop (b+1)) (b+1)):=by
        show _=_;rw[show BO (λ_=>GS e) a 0=_ from n.o,h.o.1,Mw _ _ (Ac _)];rfl
       go_wp2;go_roundw
       case rel=>exact⟨b+1,O1,by go_num,k.o,u.o.trans (h.o.2.mono B)⟩
       case measure=>simp[intOf];omega
    ·obtain rfl:b=L a:=O1;have K:¬(L a:Int)<(L a:Int):=O1;go_wp2;go_ret;exact⟨Ph (by unfold Kl;rw[ab.o,g.o.1,Mw _ _ (Ac _)];rfl),g.o.2⟩
theorem Tryz.ga:(Aa.info? 3).map (λa=>(a.zero,a.size,a.bytes))=I (I (V C 0),1,8):=O3
def iC(a:List Int):List X:=a.map λb=>V C b
def Kh(f:Nat->Prop)(i:Q)(h:X)(c:List Int):Prop:=∃e g,h=W e (L c) g/\∀b (j:b<L c),∃a d,f a/\e=I ⟨a,d,N⟩/\i.cell? ⟨a,d+b,N⟩=I (.int C c[b])
theorem Kh.at{w:Q}(c:Kh vi w b wf):NE w b wf:=by
 let ⟨d,a,e,f⟩:=c
 refine⟨d,a,e,λi g=>?_⟩;grind
theorem Kh.fr(f:Kh vi n b wf)(g:∀a,vi a->a<n.heap.size->sq a/\p.heap[a]?=n.heap[a]?):Kh sq p b wf:=by
 let ⟨m,cap,d,h⟩:=f
 refine⟨m,cap,d,λk i=>?_⟩;let ⟨a,l,j,e,c⟩:=h k i
 have:=g a j (AG c);exact⟨a,l,this.1,e,by rw[Ai this.2];exact c⟩
theorem Ahz{ns:List Int}(e:n.ownsRow w 3 1 b (L ns) (iC ns)):Kh (λa=>w<=a) n b ns:=by
 have j:=λa (h:b.ownBlock=I a)=>N3 e h;rcases Qy (Ib e) with⟨rfl,k⟩|⟨d,g,rfl,-,i⟩
 ·obtain rfl:ns=[]:=Asj k;exact⟨N,0,rfl,λf c=>absurd c nofun⟩
 ·refine⟨_,g,rfl,λf c=>⟨d,0,j d rfl,rfl,?_⟩⟩;rw[Aqy,i f O1];simp[iC,c]
def HW(b:ByteArray->Option (Nat×Int))(a:BA)(c:Nat):List Int:=a.Bu.map (λd=>(C6 (b d.name)).1)++(AU (L a.Bs)).map λe=>((c+e:Nat):Int)
theorem Rf(b:ByteArray->Option (Nat×Int))(a:BA)(c:Nat):(HW b a c).length=L a.Bu+L a.Bs:=by simp[HW]
theorem UW(a:List Int)(b:Int):iC (a++[b])=iC a++[V C b]:=by simp[iC]
theorem Abj(b:BA)(ap:X)(e O a8:Nat)(c:ByteArray->Option (Nat×Int))(f:Q)(a1:EK f ap b)(ad:XM f O a8 c)(aN:(L b.Bu)*24<=140737488351232)(aJ:(L b.Bs)<=200000)(aI:e<=200000):
 Av Aa 96 #[ap,V C (e:Int),.map (I O)] f λay v=>Below f.heap.size f v/\∃aq ao U,ay=F (W aq ao U)/\Kh (λM=>f.heap.size<=M) v (W aq ao U) (HW c b e):=by
 obtain⟨am,ah,ai⟩:=AB.1 Tryz.ga;simp only[Aq2]at ai;obtain⟨ae,af,ag⟩:=ai;obtain⟨aW,aG,rfl,aQ,ac,ab⟩:=a1;obtain⟨a7,a6,rfl,aO,aj⟩:=ac.open;obtain⟨aa,Y,rfl,aM,-⟩:=ab.open;have av:=O0 aj;have aw:=O0 (λv (hb:Below f.heap.size f v)=>ad.bE hb);have aF:=Abp;clear aj ad ac ab;obtain⟨g,n⟩:∃g,g=f.alloc (.cells #[S b.name,W a7 (L b.Bu) a6,W aa (L b.Bs) Y] 41):=⟨_,rfl⟩;have t:O9 (Below f.heap.size f g):=by show Below _ _ _;rw[n];exact bA
 have au:O9 (g.cell? ⟨f.heap.size,2,N⟩=I (W aa (L b.Bs) Y)):=by show _=_;rw[n];simp
 have aR:g.heap.size=f.heap.size+1:=by rw[n];simp
 go_enter Tryz.func96,Tryz.ntmps96;go_wp2;rw[<-n];clear n;go_loopw [7,14] (λD l wr=>∃(a:Nat) (j:Option Addr) (i:Nat),a<=L b.Bu/\D=W j a i/\l=V C (a:Int)/\O9 (Gr g wr 3 1 (W j a i) a (iC ((b.Bu.take a).map λd=>(C6 (c d.name)).1)))) (λ_ l _=>L b.Bu-(intOf l).toNat)
 case atStart=>exact⟨0,N,0,Ak _,rfl,rfl,Ae _ _,Aq7 _ _ _ _⟩
 case round=>
  obtain⟨a,j,i,u,rfl,rfl,k⟩:=hrel;rename Q=>wr
  by_cases al:a<L b.Bu
  ·have aH:(0:Int)<=(a:Int):=O1;have E:(a:Int)<(L b.Bu:Int):=O1;have x:=O0 (t.o.trans (k.o.low.mono t.o.size));obtain⟨ib,aV,rfl,aS,aT,a3⟩:=av.o _ x.o a al;have a5:=x.o.size;have a4:=k.o.low.size;have a2:=λa9=>(aw.o _ (x.o.alloc a5 a9)).eG b.Bu[a].name a3;have B:O9 (iC ((b.Bu.take (a+1)).map λd=>(C6 (c d.name)).1)=iC ((b.Bu.take a).map λd=>(C6 (c d.name)).1)++[V C (C6 (c b.Bu[a].name)).1]):=by
    show _=_;rw[Au al,AJ,Aqv,Ars,UW]
   unfold Hx at a2;generalize (C6 (c b.Bu[a].name)).1=q at*;generalize (C6 (c b.Bu[a].name)).2=q2 at*;generalize b.Bu[a].name=nm at*;generalize b.Bu[a].arity=ar at*;have z:=O0 k.o.row;generalize iC ((b.Bu.take a).map λd=>(C6 (c d.name)).1)=XS at*;go_wp2_with (first
    |(at_builtin;refine wpList_append_lies _ rfl (.tmp 18) (.tmp 24) 225 rfl g.heap.size 3 am _ 1 8 Tryz.underlying225 ah ae af ag rfl O1 (W j a i) a XS rfl ((z.o.alloc _).alloc _) ⟨wr.heap.size+1,0,N⟩ 1 1 [V C q] rfl rfl (by have:=A1 (AL (wr.alloc (AO #[S nm,V C ar] 74)) (AO #[V C q] 3));simpa using this) (by intro aB s;simp at s;rcases s with rfl;rfl) O1 O8 O1 O5 _ rfl ?_;intro a0 an aE r p G H;have y:=O0 (k.o.next (bA.alloc O2 _) p r);clear r p G H))
   exact⟨⟨a+1,_,_,O1,rfl,by go_num,by rw[B.o];exact y.o⟩,by simp[intOf];omega⟩
  ·obtain rfl:a=L b.Bu:=O1;have aK:¬(L b.Bu:Int)<(L b.Bu:Int):=O1;have az:=Bn k.o.low au.o;have K:O9 (Gr g wr 3 1 (W j (L b.Bu) i) (L b.Bu) (iC (b.Bu.map λd=>(C6 (c d.name)).1))):=by
    have:=k.o;rw[AQ]at this;exact this
   clear k u;have ak:(b.Bu.map λd=>(C6 (c d.name)).1).length=L b.Bu:=O2;have ax:O9 (∀a,a<=L b.Bs->b.Bu.map (λd=>(C6 (c d.name)).1)++(AU a).map (λh=>((e+h:Nat):Int))=(HW c b e).take (L b.Bu+a)):=λa u=>by
    unfold HW;rw[List.take_append,ak,Arv (by rw[ak];omega),show L b.Bu+a-L b.Bu=a by omega,<-List.map_take,List.take_range,Ast u]
   generalize b.Bu.map (λd=>(C6 (c d.name)).1)=NS at*;go_wp2;go_loopw [7,30] (λD l w=>∃(a:Nat) (j:Option Addr) (i:Nat),a<=L b.Bs/\D=W j (L b.Bu+a) i/\l=V C (a:Int)/\O9 (Gr g w 3 1 (W j (L b.Bu+a) i) (L b.Bu+a) (iC (NS++(AU a).map λh=>((e+h:Nat):Int))))) (λ_ l _=>L b.Bs-(intOf l).toNat)
   case atStart=>exact⟨0,j,i,Ak _,rfl,rfl,by show Gr _ _ _ _ _ _ _;simpa using K.o⟩
   case round=>
    clear K az;obtain⟨a,aD,aC,u,rfl,rfl,m⟩:=hrel;rename Q=>w
    by_cases aP:a<L b.Bs
    ·have k0:(0:Int)<=(a:Int):=O1;have an:(a:Int)<(L b.Bs:Int):=O1;have a4:=m.o.low.size;have B:O9 (iC (NS++(AU (a+1)).map λh=>((e+h:Nat):Int))=iC (NS++(AU a).map λh=>((e+h:Nat):Int))++[V C ((e+a:Nat):Int)]):=by
      show _=_;rw[Ats,AJ,Aqv,Ars,<-AH,UW]
     have z:=O0 m.o.row;generalize iC (NS++(AU a).map λh=>((e+h:Nat):Int))=XS at*;go_wp2_with (first
      |(at_builtin;refine wpList_append_lies _ rfl (.tmp 33) (.tmp 37) 225 rfl g.heap.size 3 am _ 1 8 Tryz.underlying225 ah ae af ag rfl O1 (W aD (L b.Bu+a) aC) (L b.Bu+a) XS rfl (z.o.alloc _) ⟨w.heap.size,0,N⟩ 1 1 [V C ((e:Int)+(a:Int))] rfl rfl (by simpa using A1 (AL w (AO #[V C ((e:Int)+(a:Int))] 3))) (by intro aB s;simp at s;rcases s with rfl;rfl) O1 O8 O1 O5 _ rfl ?_;intro a0 an aE r p G H;have y:=O0 (m.o.next bA p r);clear r p G H))
     exact⟨⟨a+1,_,_,O1,rfl,by go_num,by rw[B.o];exact y.o⟩,by simp[intOf];omega⟩
    ·obtain rfl:a=L b.Bs:=O1;have aL:¬(L b.Bs:Int)<(L b.Bs:Int):=O1;go_wp2;go_ret;refine⟨t.o.trans (m.o.low.mono t.o.size),_,_,_,rfl,?_⟩;have E:=m.o.row;rw[ax.o _ (Ac _),Arv (by rw[Rf];omega)]at E;have:=Ahz (ns:=HW c b e) (by rw[Rf];exact E);exact this.fr λM hb _=>⟨O1,rfl⟩
end Go.Proofs.YtcacpmkdfnmhaaaGreatDoor
