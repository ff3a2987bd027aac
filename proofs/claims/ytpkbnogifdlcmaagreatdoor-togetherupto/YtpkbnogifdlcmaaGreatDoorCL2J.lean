import Derived.Test.YtpkbnogifdlcmaaGreatDoorHeJ
import Derived.Test.YtpkbnogifdlcmaaGreatDoorECJ
import Derived.SizedLaws
import Derived.Stop.LaidErr
import Derived.LaidHandle
import Derived.OpenShut
import Derived.Lib.LaidTab
import Derived.Deep.DeepHandedRow
import Derived.Deep.DeepLaidRun
import Derived.Test.YtpkbnogifdlcmaaGreatDoorCL0J
set_option linter.unusedSimpArgs false
set_option maxRecDepth 100000
set_option maxHeartbeats 4000000
open And renaming intro->Aw6
open Except renaming error->P
open Go renaming Calls->Az,TypeId->A0,Value->X,World->Q
open Go.Ending renaming returned->F
open Go.IntKind renaming i64->C
open Go.Obj renaming cells->AW
open Go.Proofs.Tryz renaming prog->Aa,underlying9->Awz
open Go.Value renaming agg->T,bool->A,iface->Z,int->V,pointer->J,slice->W,string->S,tuple->R
open List renaming length->L,range->AV
open Option renaming none->N,some->I
open Or renaming inr->Axf
namespace Go.Proofs.YtpkbnogifdlcmaaGreatDoor
open Go.RowKit Go.Sort Go.ChangeShapes Go.WideShapes Go.ChangeAt Go.Proofs.Tryz
variable{ym:Fq->Bool}{yh:Fq->List UInt8}{w2:List Fq}{w s:Nat}{m w0 v1 s9:Oy}{o:List UInt8}{H vw:List BD}{D nf:Int}{f:List Oy}{n:World}{M:Nat->Addr}{U:Option Addr}{wj:List Value}{p:Value}{z8:String}{z9:List (String×DataW Unit)}{xu:Nat->Bool}{w4:Bool}{wp zt:TypeId}{xr:Array Field}{wi:List Int}{zh:List MemPlace}{wa:Type}
def H8(a:List UInt8):List UInt8:=40::(ND.data.toList++32::(a++[32]))
def nO:List UInt8:=[111,110,101]
def nT:List UInt8:=[116,119,111]
def nB:List UInt8:=[98,111,116,104]
def gI(a:Fq):List UInt8:=Lq (KO (JU a))
def gD(a:Fq):List UInt8:=tD (JU a)
def fF(a:Fq->Bool)(b:Fq->List UInt8)(c:List Fq):List UInt8:=(c.filter a).flatMap b
def lL(b:List Fq):List (DL×Bool):=b.map λa=>(JU a,a.f)
theorem KN(a:w<L w2):fF ym yh (w2.take (w+1))=fF ym yh (w2.take w)++(if ym w2[w] then yh w2[w] else []):=by
 unfold fF;rw[Az4,Af a,List.filter_append,AH];grind
theorem Aan:∀a:List Fq,L a<=Ge a
 |[]=>Ai _
 |d::a=>by
  have:=Aan a;unfold Ge at this ⊢;grind
theorem QO{Phh:Fq->Bool}{b:Fq->List UInt8}:∀{l:List Fq},(∀a∈l,(b a).length<=FI a+60)->(fF Phh b l).length<=Ge l
 |[],_=>Ac _
 |a::l,h=>by
  have c:(fF Phh b l).length<=Ge l:=QO λe d=>h e (.tail _ d);unfold fF Ge at c ⊢;grind
theorem NM(a:Oy):(bL a).length=a.size:=rfl
theorem Acy:∀a:List Oy,(jr (a.map bL)).length=FY a
 |[]=>rfl
 |p::a=>by
  have:=Acy a;unfold jr FY at this ⊢;rw[A1,AD,Aw,this,A1,Axm,AO,NM]
theorem RF(a:Fq):(gD a).length<=FI a+60:=by
 have b:(jn (a.ps.map bL)).length<=FY a.ps:=by
  rw[<-Acy];cases a.ps with
  |nil=>exact Ac _
  |cons p ps=>simp[jn,jr]
 unfold gD FI;rw[Qh];unfold tX JU;simp[Aw,AO,NM,show L GA.data.toList=3 from rfl];omega
theorem Ov{d:Fq}(a:FI d<=100000000):(gI d).length<=FI d+60:=by
 have b:=OQ d.ps;unfold FI at a ⊢;have c:=Lib.itoa_length_le (L d.ps) O1 O1;unfold gI Lq KO JU;simp[Aw,AO,Bc,An,NM,show L Kp.data.toList=6 from rfl];omega
theorem PI(h:Ge w2<=100000000)(e:∀a,FI a<=100000000->(yh a).length<=FI a+60)(b:bL m=o++fF ym yh (w2.take w)):m.size<=L o+100000000:=by
 have c:=congrArg L b;rw[NM,Aw]at c;have f:(fF ym yh (w2.take w)).length<=_:=QO λa d=>e a (by have:=MD (Ay6 d);omega);have g:Ge (w2.take w)<=Ge w2:=by
  have:=congrArg Ge (Axq w w2);unfold Ge at this ⊢;grind
 omega
theorem Aob(a:Bool):GI (lL w2) a=(w2.filter λb=>b.f==a).map JU:=by
 simp[GI,lL,List.filter_map,Aw4]
theorem Xa(d:List UInt8)(b c:Bool):H8 d++fF (λa=>a.f==b) gI w2++fF (λa=>a.f==c) gD w2++[41]=Ih d ((GI (lL w2) b).map KO) (GI (lL w2) c):=by
 simp[H8,fF,Ih,Aob,List.flatMap_map];rfl
theorem Am8(a:List UInt8):H8 a++fF (λ_=>true) gD w2++[41]=Ih a [] ((lL w2).map (·.1)):=by
 unfold fF;rw[List.filter_eq_self.2 λ_ _=>rfl];simp[H8,Ih,lL,List.flatMap_map];rfl
structure TG (a:List Fq) (b c e:Oy):Prop where
 o:∀d∈a,Kb (JU d)
 e1:bL b=Ih nO ((GI (lL a) false).map KO) (GI (lL a) true)
 e2:bL c=Ih nT ((GI (lL a) true).map KO) (GI (lL a) false)
 eb:bL e=Ih nB [] ((lL a).map (·.1))
 r:∀s∈[b,c,e],(Hw s).1=0
def MH(b:List Oy)(c:Int):Prop:=(∃d∈b,∃e,Dd d=P e)\/∃a,Im b a/\¬DZ a sM/\(HV a->sz a<=200000->c=18)
theorem Anw(b:(Hw m).1=0)(c:Nat×Nat):Dd m≠P c:=λa=>by
 have:=Q7 a;unfold Hw at b;grind
theorem TG.all(b:TG w2 m w0 v1)(h:Im [m,w0] H)(j:Im [v1] vw):(HV H/\sz H<=200000)/\(HV vw/\sz vw<=200000)/\(DZ H sM↔DZ vw sM)/\(DZ H sM->∀a c,(Du (Cj vw) (Dx vw sM) a c).2=(Du (Cj H) (Dx H sM) a c).2/\(Du (Cj vw) (Dx vw sM) a c).1.BB=(Du (Cj H) (Dx H sM) a c).1.BB):=by
 let ⟨i,d⟩:=h
 let ⟨k,l⟩:=j
 match H,i,vw,k with
 |[Obj1,Obj2],_,[Ob],_=>
  refine Ag3 (λn g=>?_) ⟨O4,by unfold J9;decide⟩ ⟨O4,by unfold J9;decide⟩ ⟨O4,by unfold J9;decide⟩ b.e1 b.e2 b.eb (d 0 O2 O2) (d 1 .refl .refl) (l 0 .refl .refl);obtain⟨e,f,rfl⟩:=AE.1 g;exact b.o e f
theorem TG.er(d:TG w2 m w0 v1)(e:∀b∈f,b∈[m,w0,v1])(c:MH f D):∃a,Im f a/\¬DZ a sM/\(HV a->sz a<=200000->D=18):=by
 rcases c with⟨b,g,i,h⟩|c
 ·exact absurd h (Anw (d.r b (e b g)) i)
 exact c
theorem TG.two(a:s9∈[m,w0]):s9∈[m,w0,v1]:=by
 grind
theorem TG.three(a:s9∈[v1]):s9∈[m,w0,v1]:=by
 grind
theorem TG.ee(a:TG w2 m w0 v1)(b:MH [m,w0] D)(c:MH [v1] nf):D=18/\nf=18:=by
 obtain⟨f,d,-,j⟩:=a.er (λ_=>TG.two) b;obtain⟨g,e,-,k⟩:=a.er (λ_=>TG.three) c;obtain⟨h,i,-⟩:=a.all d e;grind
theorem TG.eg(a:TG w2 m w0 v1)(b:MH [m,w0] D)(f:Im [v1] H):¬DZ H sM:=λc=>by
 obtain⟨g,e,d,-⟩:=a.er (λ_=>TG.two) b;exact d ((a.all e f).2.2.1.2 c)
theorem TG.ge(a:TG w2 m w0 v1)(e:Im [m,w0] H)(b:MH [v1] D):¬DZ H sM:=λc=>by
 obtain⟨g,f,d,-⟩:=a.er (λ_=>TG.three) b;exact d ((a.all e f).2.2.1.1 c)
theorem TG.gg(k:TG w2 m w0 v1)(n:Im [m,w0] H)(o:Im [v1] vw)(l:DZ H sM)(a b:Int):∃c e g f h d,Jd (Cj H) (Dx H sM) a b=T #[V C c,S d,V C e,V C g]/\Jd (Cj vw) (Dx vw sM) a b=T #[V C c,S d,V C f,V C h]:=by
 let ⟨i,j⟩:=(k.all n o).2.2.2 l a b
 exact⟨_,_,_,_,_,_,rfl,by unfold Jd;rw[i,j]⟩
def TA(j:Q)(h:List Oy)(b:Ending)(i:Q):Prop:=Ow j i/\((∃d:Int,d≠0/\b=F (R #[J N,V C d,A true])/\MH h d)\/∃(a:List BD) (e:Nat),b=F (R #[J (I ⟨e,0,N⟩),V C 0,A true])/\Im h a/\DZ a sM/\∀c,Ow i c->∀f g:Int,Az Aa 10 #[J (I ⟨e,0,N⟩),V C f,V C g] c λb k=>b=F (Jd (Cj a) (Dx a sM) f g)/\Ow c k)
theorem Apf(a:Q)(b:Array X)(d:List Oy)(c:A0)(e:b=(d.map .string).toArray):Jl (a.alloc (.cells b c)) (I ⟨a.heap.size,0,N⟩) d:=λg f=>⟨_,_,rfl,by
 rw[Bg];exact CS a b c g _ (by rw[e];simp[f])⟩
theorem Aby(g:Ij n M)(c:Array X)(b:List Oy)(d:Nat)(l:c=(b.map .string).toArray)(t:(L b)<=1048576):Az Aa 9 #[W (I ⟨n.heap.size,0,N⟩) (L b) d,S sM] (n.alloc (.cells c 9)) (TA n b):=by
 have a:Ow n (n.alloc (.cells c 9)):=bA;refine(X1 (entry:=sM) (g.bG a) (Apf n c b _ l) t O4).mono ?_;rintro w z ⟨hb,⟨d,p,rfl,q⟩|⟨j,i,y,x,d,s,r,h,rfl,o,m⟩⟩
 ·exact⟨a.trans (hb.mono a.size),.inl ⟨d,p,rfl,q⟩⟩
 ·have f:=a.trans (hb.mono a.size);refine⟨f,.inr ⟨j,i,rfl,s,h,λv e k u=>Y3 ((g.bG f).bG e) r h (o.bG e) (m.bG e) k u⟩⟩
theorem Ak5{p:Q}{l:List Fq}{c:Nat}(H:Ij p M)(ap:MF p U l)(K:Ge l<=100000000):Az Aa 3 #[W U (L l) c] p λj E=>j=F (A true)/\Ow p E:=by
 have ai:=O0 λh (hb:Ow p h)=>ap.bG hb;have a0:=O0 λh (hb:Ow p h)=>Ajj (c:=c) (ap.bG hb) K;have ax:=O0 (Ag1 H);have bC:(L l)<=100000000:=Ay (Aan l) K;have a2:O9 (∀{h:Q},Ow p h->∀g,Ow h g->∀a:Nat,a<=100000000->Az Aa 6 #[V C (a:Int)] g λj E=>j=F (S ⟨(Lib.itoa (a:Int)).toArray⟩)/\O9 (Ow h E)):=λaG g B a aL=>(Qe (a:Int) O1 O1 g (H.r.b g (aG.trans (B.mono aG.size)))).mono λj E ⟨x,a,bh,bc⟩=>⟨x,by rw[bc];exact B.trans (Lib.below_grow _ _ B.size a bh)⟩;have az:O9 (∀h,Ow p h->∀s,Az Aa 8 #[S s] h λj E=>Ow p E/\∃c d:Int,j=F (R #[V C c,V C d])/\O9 (c=0->(Hw s).1=0)):=λh hb s=>(Aa2 (s:=s) (λt _ _ _=>.of λ_=>TE t 30 0 rfl) (H.bG hb).s (H.bG hb).y).mono λj E ⟨aD,x⟩=>⟨hb.trans (aD.mono hb.size),_,_,x,λaD=>O1⟩;have a1:O9 (∀h,Ow p h->∀q b:Oy,Az Aa 9 #[W (I ⟨h.heap.size,0,N⟩) 2 2,S ⟨#[109,97,105,110]⟩] (h.alloc (.cells #[S q,S b] 9)) (TA h [q,b])):=λh hb q b=>Aby (H.bG hb) #[S q,S b] [q,b] 2 rfl O2;have al:O9 (∀h,Ow p h->∀q:Oy,Az Aa 9 #[W (I ⟨h.heap.size,0,N⟩) 1 1,S ⟨#[109,97,105,110]⟩] (h.alloc (.cells #[S q] 9)) (TA h [q])):=λh hb q=>Aby (H.bG hb) #[S q] [q] 1 rfl O2;clear H ap;go_enter func3,ntmps3;go_wp2_with (first
  |(go_at_call 4;refine ax.o.mono ?_;rintro j bI ⟨rfl,hb⟩;have Y:=O0 hb;clear hb ax)
  |(go_at_call 5;refine(a0.o _ Y.o).mono ?_;rintro j bJ ⟨hb,aX,rfl,aM⟩;replace Y:=O0 (Y.o.trans (hb.mono Y.o.size));have a3:=O0 aM;clear hb aM a0;cases aX))
 ·go_ret;exact⟨rfl,Y.o⟩
 go_loopw [5,6,8] (λau av O o=>∃a:Nat,∃u v:Oy,a<=L l/\au=S u/\av=S v/\O=V C (a:Int)/\O9 (Ow p o/\bL u=H8 nO++fF (λd=>d.f==false) gI (l.take a)/\bL v=H8 nT++fF (λd=>d.f==true) gI (l.take a))) (λ_ _ O _=>L l-(intOf O).toNat)
 ·exact⟨0,_,_,Ai _,rfl,rfl,rfl,Y.o,rfl,rfl⟩
 ·obtain⟨a,u,v,aL,rfl,rfl,rfl,e⟩:=hrel;rename Q=>o
  by_cases k:a<L l
  ·have bf:(0:Int)<=(a:Int):=O1;have bg:(a:Int)<(L l:Int):=O1;obtain⟨b,D,aP,pc,rfl,c0,-,a6,ad,-⟩:=ai.o o e.o.1 a k;have ah:O9 (∀g,Ow o g->g.cell? ⟨b,D+a*4,N⟩=I (.string l[a].n)/\g.cell? ⟨b,D+a*4+2,N⟩=I (.slice aP l[a].ps.length pc)/\g.cell? ⟨b,D+a*4+3,N⟩=I (.bool l[a].f)):=λg hb=>⟨Bu hb c0,Bu hb a6,Bu hb ad⟩;have t:=MD (Ao k);have bb:FI l[a]<=100000000:=O1;have aI:=Ov bb;unfold FI at t;have bd:u.size<=12+100000000:=PI K (λ_=>Ov) e.o.2.1;have be:v.size<=12+100000000:=PI K (λ_=>Ov) e.o.2.2;have bD:=OQ l[a].ps;have bB:=Lib.itoa_length_le (l[a].ps.length:Int) O1 O1;have aV:O9 (∀g,Ow o g->Az Aa 6 #[V C (l[a].ps.length:Int)] g λj E=>j=F (S ⟨(Lib.itoa (l[a].ps.length:Int)).toArray⟩)/\O9 (Ow o E)):=λg B=>a2.o e.o.1 g B l[a].ps.length O1;have ba:O9 (bL (⟨#[40,105,109,112,111,114,116,32]⟩++l[a].n++⟨#[32]⟩++⟨(Lib.itoa (l[a].ps.length:Int)).toArray⟩++⟨#[41,32]⟩)=gI l[a]):=by
    show _=_;simp[bL,gI,Lq,KO,JU,Kp]
   have m:O9 (Ow o o.drew):=(Ae _ _).drew;obtain⟨bl,bN,-⟩:=ah.o _ m.o;go_upto_region 11 with fail
   go_cut [9] (λbk wr=>∃G:Oy,bk=S G/\O9 (bL G=gI l[a]/\Ow o wr))
   case first=>
    go_region_with ((go_at_call 6;refine(aV.o _ m.o).mono ?_;rintro j aw ⟨rfl,ay⟩;obtain⟨bx,bz,-⟩:=ah.o aw ay.o))
    all_goals go_wp2_with fail
    all_goals go_meet
    all_goals exact⟨_,rfl,ba.o,ay.o⟩
   case rest=>
    obtain⟨G,rfl,z⟩:=hcut;rename Q=>wr
    obtain⟨-,-,bm⟩:=ah.o wr z.o.2;have af:G.size<=100000060:=by
     have:=z.o.1;rw[<-NM,this];omega
    have i:=O0 (e.o.1.trans (z.o.2.mono e.o.1.size));cases hf:l[a].f<;>rw[hf]at bm;all_goals
     go_wp2;exact⟨⟨a+1,_,_,k,rfl,rfl,by go_num,i.o,by(first|rw[HP,e.o.2.1,z.o.1,KN k,hf]|rw[e.o.2.1,KN k,hf])<;>simp,by(first|rw[HP,e.o.2.2,z.o.1,KN k,hf]|rw[e.o.2.2,KN k,hf])<;>simp⟩,by simp[intOf];omega⟩
  ·obtain rfl:a=L l:=O1;have aZ:¬(L l:Int)<(L l:Int):=O1;have ab:=e;rw[AP]at ab;have aE:(H8 nO++fF (λd=>d.f==false) gI l).length<=100000012:=by
    have:=QO (l:=l) (Phh:=λd=>d.f==false) λd aq=>Ov (d:=d) (by have:=MD aq;omega);rw[Aw,show(H8 nO).length=12 from rfl];omega
   have aF:(H8 nT++fF (λd=>d.f==true) gI l).length<=100000012:=by
    have:=QO (l:=l) (Phh:=λd=>d.f==true) λd aq=>Ov (d:=d) (by have:=MD aq;omega);rw[Aw,show(H8 nT).length=12 from rfl];omega
   have ak:=O0 (Aw6 aE aF);clear e aE aF;go_wp2;go_loopw [5,6,7,10] (λau av bv O o=>∃a:Nat,∃u v aa:Oy,a<=L l/\au=S u/\av=S v/\bv=S aa/\O=V C (a:Int)/\O9 (Ow p o/\bL u=H8 nO++fF (λd=>d.f==false) gI l++fF (λd=>d.f==true) gD (l.take a)/\bL v=H8 nT++fF (λd=>d.f==true) gI l++fF (λd=>d.f==false) gD (l.take a)/\bL aa=H8 nB++fF (λ_=>true) gD (l.take a))) (λ_ _ _ O _=>L l-(intOf O).toNat)
   ·exact⟨0,_,_,_,Ai _,rfl,rfl,rfl,rfl,ab.o.1,by rw[ab.o.2.1];simp[fF],by rw[ab.o.2.2];simp[fF],rfl⟩
   ·obtain⟨a,u,v,aa,aL,rfl,rfl,rfl,rfl,e⟩:=hrel;rename Q=>o
    have bd:u.size<=200000012:=Ay (PI K (λd _=>RF d) e.o.2.1) (by have:=ak.o.1;omega);have be:v.size<=200000012:=Ay (PI K (λd _=>RF d) e.o.2.2.1) (by have:=ak.o.2;omega);have bE:aa.size<=13+100000000:=PI K (λd _=>RF d) e.o.2.2.2;by_cases k:a<L l
    ·have bf:(0:Int)<=(a:Int):=O1;have bg:(a:Int)<(L l:Int):=O1;obtain⟨b,D,aP,pc,rfl,c0,bt,a6,ad,aO⟩:=ai.o o e.o.1 a k;have t:=MD (Ao k);have ao:=O0 (At0 (n:=l[a].n) (b:=l[a].b) (f:=l[a].f) (pc:=pc) aO (by unfold FI at t;omega));have a5:O9 (∀g,Ow o g->g.cell? ⟨b,D+a*4+3,N⟩=I (.bool l[a].f)):=λg hb=>Bu hb ad;have aI:=RF l[a];clear aO;cases hf:l[a].f<;>rw[hf]at ao a5 ad;all_goals
      go_wp2_with (first
       |(go_at_call 7;refine ao.o.mono ?_;rintro j aw ⟨hb,G,rfl,af⟩;have bG:G.size<=100000060:=(by rw[<-NM,af];exact Ay aI O1);have z:O9 (bL G=gD l[a]):=af;have b0:=a5.o aw hb;have i:=O0 (e.o.1.trans (hb.mono e.o.1.size));clear hb af ao))
      exact⟨⟨a+1,_,_,_,k,rfl,rfl,rfl,by go_num,i.o,by(first|rw[HP,e.o.2.1,z.o,KN k,hf]|rw[e.o.2.1,KN k,hf])<;>simp,by(first|rw[HP,e.o.2.2.1,z.o,KN k,hf]|rw[e.o.2.2.1,KN k,hf])<;>simp,by rw[HP,e.o.2.2.2,z.o,KN k];simp⟩,by simp[intOf];omega⟩
    ·obtain rfl:a=L l:=O1;have aZ:¬(L l:Int)<(L l:Int):=O1;have w:O9 ((Hw (u++⟨#[41]⟩)).1=0->(Hw (v++⟨#[41]⟩)).1=0->(Hw (aa++⟨#[41]⟩)).1=0->TG l (u++⟨#[41]⟩) (v++⟨#[41]⟩) (aa++⟨#[41]⟩)):=λb5 b6 b7=>by
      obtain⟨-,a7,a8,a9⟩:=e.o;rw[AP]at a7 a8 a9;refine⟨a3.o O2,by rw[HP,a7];exact Xa nO false true,by rw[HP,a8];exact Xa nT true false,by rw[HP,a9];exact Am8 nB,λs t=>?_⟩;simp only[AX,Axw,or_false]at t;rcases t with rfl|rfl|rfl<;>assumption
     have i:=O0 e.o.1;clear e ab ak a2 ai a3;go_wp2_with (first
      |(go_at_call 8;refine(az.o _ i.o _).mono ?_;rintro j bK ⟨hb,aY,b1,rfl,ae⟩;replace i:=O0 hb;clear hb;first|(have aW:=w;clear aW;rcases Decidable.em (aY=0) with rfl|bH<;>first|(replace w:=O0 (w.o (ae.o rfl));clear ae)|clear w ae)|clear ae)
      |(go_at_call 9;first
       |((with_reducible refine(a1.o _ i.o _ _).mono ?_);rintro j w5 ⟨hb,⟨bu,b8,rfl,x⟩|⟨bp,bn,rfl,aK,aH,aN⟩⟩<;>(replace i:=O0 (i.o.trans (hb.mono i.o.size));clear hb a1 az;first|(have aj:=O0 x;clear x)|(have ac:=O0 (Aw6 aK aH);have a4:=O0 aN;clear aK aH aN)))
       |((with_reducible refine(al.o _ i.o _).mono ?_);rintro j ag ⟨hb,⟨b2,b9,rfl,x⟩|⟨bq,bo,rfl,ar,aJ,t⟩⟩<;>first
        |(obtain⟨bi,bj⟩:=w.o.ee aj.o x;subst bi bj;replace i:=O0 (i.o.trans (hb.mono i.o.size));clear hb al w aj x)
        |exact absurd aJ (w.o.eg aj.o ar)
        |exact absurd ac.o.2 (w.o.ge ac.o.1 x)
        |(obtain⟨bw,q,b,br,bs,G,aB,aC⟩:=w.o.gg ac.o.1 ar ac.o.2 100000 100000;have am:=O0 λg (B:Ow ag g)=>a4.o g (hb.trans (B.mono hb.size)) 100000 100000;have an:=O0 λg (B:Ow ag g)=>t g B 100000 100000;rw[aB]at am;rw[aC]at an;replace i:=O0 (i.o.trans (hb.mono i.o.size));have m:=O0 (Ae ag.heap.size ag);clear hb t ar aJ aB aC al w ac a4)))
      |(go_at_call 10;first
       |((with_reducible refine(am.o _ m.o).mono ?_);rintro j aS ⟨rfl,hb⟩;replace m:=O0 (m.o.trans (hb.mono m.o.size));clear hb am)
       |((with_reducible refine(an.o _ (m.o.alloc m.o.size _)).mono ?_);rintro j aT ⟨rfl,hb⟩;have aQ:=Bu hb (CS aS _ _ 0 _ rfl);have aR:=Bu hb (CS aS _ _ 1 _ rfl);have bl:=λD=>BM aT D _ _ _ aQ;have bM:=λD=>BM aT D _ _ _ aR;replace m:=O0 ((m.o.alloc m.o.size _).trans (hb.mono (by have:=m.o.size;simp;omega)));clear hb an aQ aR)))
     all_goals go_ret
     all_goals first
      |exact⟨rfl,i.o⟩
      |exact⟨by simp[*],i.o.trans ((m.o.alloc m.o.size _).mono i.o.size)⟩
theorem RV(c:s=1)(a:(wj.drop w).take s=[p]):wj[w]?=I p:=by
 subst c;have b:=congrArg (·[0]?) a;simpa[List.getElem?_take,List.getElem?_drop]using b
theorem QA:Aa.cellsOf 9=1:=O3
theorem Qa{c:Program}{d:Q}{x:String×DataW Unit}:∀{e:List (String×DataW Unit)},laidMet c e d->x∈e->∃b,laidMet c (x::b) d
 |y::b,h,a=>by
  rcases AX.1 a with rfl|a
  ·exact⟨b,h⟩
  ·exact Qa h.tail a
theorem star: "*"++ "errors.errorString"= "*errors.errorString":=O4
theorem Au4(a:A0)(b:Aa.typeName? 3 a=I "*errors.errorString"):a=447:=
 typeName_ptr_named (nm:= "errors.errorString") (by rw[star];kernel_rfl) O3 O4 a (by rw[star];exact b)
theorem Apj:Aa.cellsOf 449=1:=O3
theorem E6{g:Nat}(e:laidMet Aa z9 n)(x:Nat)(t:z9[x]?=I (z8,DataW.iface "*errors.errorString" (.ptr (.agg [.lit (.string o)]))))(s:Aa.globalNamed z8=I g)(v:(Aa.globals[g]?).map (·.type)=I 47):
 ∃(c:Addr) (j:Oy),n.cell? ⟨g,0,N⟩=I (Di c)/\n.cell? c=I (.string j)/\j.data.toList=o/\∃k D,n.heap[c.block]?=I (.cells k D (0,0)):=by
 obtain⟨U,e⟩:=Qa e (Aw1 t);obtain⟨M,⟨G,Y,l,E,K,O,f,w,i,r,_,p⟩,_,h⟩:=e;obtain rfl:=Axi (s.symm.trans f);obtain rfl:=Axi (v.symm.trans w);subst p;obtain⟨y⟩:=l;have z:∀a b,y=[.iface a b]->Value.okWide Aa n .any 0 a b:=λa b m=>by
  subst m;exact(h g 0 (by simp[MemPlace.row])).2 a b (by simpa using World.var?_cell f i 0)
 obtain⟨d,B,rfl,q,u,H,rfl⟩:=errorString_of_trod underlying47 Au4 underlying447 underlying449 rfl rfl Awz Apj QA r z;refine⟨d,B,by simpa[Di]using World.var?_cell f i 0,q,u,(h d.block d.off ?_).1⟩;simp[MemPlace.row]
def RH:List (String×DataW Unit):=[("math/bits.deBruijn32tab",Rows.laid_math_bits_deBruijn32tab),("math/bits.deBruijn64tab",Rows.laid_math_bits_deBruijn64tab),("internal/strconv.uint64pow10",Rows.laid_internal_strconv_uint64pow10),("strconv.ErrRange",Rows.laid_strconv_ErrRange),("strconv.ErrSyntax",Rows.laid_strconv_ErrSyntax),("tarn/fault.Long",Rows.laid_tarn_fault_Long),("tarn/fault.Syntax",Rows.laid_tarn_fault_Syntax),("tarn/fault.Deep",Rows.laid_tarn_fault_Deep),("tarn/fault.Twice",Rows.laid_tarn_fault_Twice),("tarn/fault.Name",Rows.laid_tarn_fault_Name),("tarn/fault.Short",Rows.laid_tarn_fault_Short),("tarn/fault.Sum",Rows.laid_tarn_fault_Sum),("tarn/fault.Form",Rows.laid_tarn_fault_Form),("tarn/fault.Varint",Rows.laid_tarn_fault_Varint),("tarn/fault.Order",Rows.laid_tarn_fault_Order),("tarn/fault.More",Rows.laid_tarn_fault_More),("tarn/fault.Index",Rows.laid_tarn_fault_Index),("tarn/fault.Jump",Rows.laid_tarn_fault_Jump),("tarn/fault.Depth",Rows.laid_tarn_fault_Depth),("tarn/fault.Value",Rows.laid_tarn_fault_Value),("tarn/fault.Missing",Rows.laid_tarn_fault_Missing),("tarn/fault.Arity",Rows.laid_tarn_fault_Arity),("tarn/fault.Entry",Rows.laid_tarn_fault_Entry),("tarn/fault.Big",Rows.laid_tarn_fault_Big),("tarn/object.rows",Rows.laid_tarn_object_rows)]
theorem Oe(a:laidMetH Aa Rows.togetherUptoRow.laid n):laidMet Aa RH n/\handlesMet Aa [("errors.errorType",Rows.laid_errors_errorType)] n:=a
def TZ:DataW Unit->List UInt8
 |.iface _ (.ptr (.agg [.lit (.string b)]))=>b
 |_=>[]
def Ro(a:Nat):List UInt8:=([Rows.laid_tarn_fault_Value,Rows.laid_tarn_fault_Index,Rows.laid_tarn_fault_Jump,Rows.laid_tarn_fault_Depth,Rows.laid_tarn_fault_Long,Rows.laid_tarn_fault_Name,Rows.laid_tarn_fault_Short,Rows.laid_tarn_fault_Sum,Rows.laid_tarn_fault_Form,Rows.laid_tarn_fault_Varint,Rows.laid_tarn_fault_Order,Rows.laid_tarn_fault_More,Rows.laid_tarn_fault_Syntax,Rows.laid_tarn_fault_Deep,Rows.laid_tarn_fault_Twice,Rows.laid_tarn_fault_Missing,Rows.laid_tarn_fault_Arity,Rows.laid_tarn_fault_Entry,Rows.laid_tarn_fault_Big].map TZ).getD a []
theorem Ar6:∀a,a<19->∀b,b<19->a≠b->Ro a≠Ro b:=O4
theorem Aju(a:laidMet Aa RH n):∀b,b<19->∃(c:Addr) (d:Oy),n.cell? ⟨HT b,0,N⟩=I (Di c)/\n.cell? c=I (S d)/\d.data.toList=Ro b/\∃e f,n.heap[c.block]?=I (.cells e f (0,0))
 |0,_=>E6 a 19 rfl O3 O3
 |1,_=>E6 a 16 rfl O3 O3
 |2,_=>E6 a 17 rfl O3 O3
 |3,_=>E6 a 18 rfl O3 O3
 |4,_=>E6 a 5 rfl O3 O3
 |5,_=>E6 a 9 rfl O3 O3
 |6,_=>E6 a 10 rfl O3 O3
 |7,_=>E6 a 11 rfl O3 O3
 |8,_=>E6 a 12 rfl O3 O3
 |9,_=>E6 a 13 rfl O3 O3
 |10,_=>E6 a 14 rfl O3 O3
 |11,_=>E6 a 15 rfl O3 O3
 |12,_=>E6 a 6 rfl O3 O3
 |13,_=>E6 a 7 rfl O3 O3
 |14,_=>E6 a 8 rfl O3 O3
 |15,_=>E6 a 20 rfl O3 O3
 |16,_=>E6 a 21 rfl O3 O3
 |17,_=>E6 a 22 rfl O3 O3
 |18,_=>E6 a 23 rfl O3 O3
 |b+19,a=>absurd a O1
theorem Atl:Aa.globalNamed "errors.errorType"=I 18:=O3
theorem Afn:(Aa.cutTypes.find? (·.1== "internal/reflectlite.rtype")).map (·.2)=I 216:=O3
theorem Ali:Aa.types.size=477:=O3
theorem Afy:((AV 477).filter λa=>Aa.rowNamed a [101,114,114,111,114])=[47]:=O3
theorem Alj:typeHandle Aa 47=J (I ⟨27,47,N⟩):=O3
theorem Alt(h:handlesMet Aa [("errors.errorType",Rows.laid_errors_errorType)] n):n.cell? ⟨18,0,N⟩=I (Z 216 (T #[J (I ⟨27,47,N⟩)])):=by
 obtain⟨i,l,k,c,d,e,f,a⟩:=h _ (Ax.2 rfl);have g:i=[101,114,114,111,114]:=(Axi c).symm;subst g;obtain rfl:=Axi (Afn.symm.trans d);have b:k∈(AV 477).filter λj=>Aa.rowNamed j [101,114,114,111,114]:=List.mem_filter.2 ⟨Ayo.2 (by rw[<-Ali];exact e),f⟩;rw[Afy]at b;obtain rfl:=Ax.1 b;rw[Alj]at a;simpa using World.var?_cell Atl a 0
theorem Asa(c:laidMetH Aa Rows.togetherUptoRow.laid n):∃e,EJ n e:=by
 obtain⟨l,m⟩:=Oe c;obtain⟨e,d⟩:=Go.Deep.choose_lt (Aju l);refine⟨e,λb ⟨_,a⟩=>?_,λb ⟨_,a⟩=>?_,λb i ⟨_,a⟩ ⟨_,h⟩ q k=>?_,Alt m⟩
 ·obtain⟨j,c,-⟩:=d b a;exact c
 ·obtain⟨j,-,-,-,c⟩:=d b a;exact c
 ·obtain⟨j,-,g,o,-⟩:=d b a;obtain⟨r,-,f,p,-⟩:=d i h;rw[k]at g;rw[g]at f;simp only[Bah,Value.string.injEq]at f;subst f;exact Ar6 b a i h q (o.symm.trans p)
theorem Asr(f:laidMetH Aa Rows.togetherUptoRow.laid n)(a:EJ n M):SY n M:=by
 obtain⟨b,-⟩:=Oe f;obtain⟨h,j,d,-⟩:=E6 (g:=25) b 4 rfl O3 O3;obtain⟨i,k,e,-⟩:=E6 (g:=26) b 3 rfl O3 O3;exact⟨a.c 12 O1,a.c 13 O1,a.c 14 O1,a.c 5 O1,a.c 4 O1,⟨_,d,Axf ⟨_,_,rfl⟩⟩,⟨_,e,Axf ⟨_,_,rfl⟩⟩⟩
theorem Ai5(t:Aa.underlying wp=I (.struct xr))(s:∀(a:Nat) (c:Field),xr[a]?=I c->c.offset=a/\Aa.cellsOf c.type=1)(q:∀(a:Nat) (c:Field),xr[a]?=I c->Aa.underlying c.type=I (.int C))(k:DataW.trod (λ_=>()) Aa n 0 xu w4 w wp wj=I (.agg (wi.map λb=>.lit (.int C b)),zh)):∀a,a<xr.size->wj[a]?=I (.int C (wi.getD a 0)):=by
 intro a p;obtain⟨v,y,-,u,-,x,o⟩:=DataW.trod_struct t k;have d:xr[a]?=I xr[a]:=Axz p;obtain⟨r,m⟩:=s a _ d;have f:=o a _ d;rw[r,m,Af O1]at f;obtain⟨b,h,i,-⟩:=DataW.trod_int (q a _ d) f;have j:wi.map (λb=>(DataW.lit (.int C b):DataW Unit))=v.map (·.1):=by
  have:=congrArg Prod.fst u;simpa using this
 have e:(wi.map (λb=>(DataW.lit (.int C b):DataW Unit)))[a]?=I (.lit (.int C b)):=by
  rw[j,Awt,Af O1,i];rfl
 rw[Awt]at e;obtain⟨z,l,g⟩:=AB.1 e;simp only[DataW.lit.injEq,Lit.int.injEq,true_and]at g;subst g;rw[RV rfl h,List.getD,l];rfl
def Acg(b:Nat):DataW Unit:=.agg (((AV 7).map λa=>BP b a).map λc=>.lit (.int C c))
theorem Aks:(Rows.laid_tarn_object_rows:DataW Unit)=.agg ((AV 21).map Acg):=by rfl
theorem Agw:Aa.cellsOf 374=7:=O3
theorem Apq:(match Aa.underlying 374 with|some (.struct fs)=>(AV fs.size).all (λa=>match fs[a]? with|some f=>f.offset==a && Aa.cellsOf f.type==1 && (match Aa.underlying f.type with|some (.int C)=>true|_=>false)|none=>false) && fs.size==7|_=>false)=true:=O3
theorem Aae(s:laidMet Aa RH n):CJ n:=by
 obtain⟨ah,t⟩:=Qa (x:=("tarn/object.rows",Rows.laid_tarn_object_rows)) s (Aw1 (i:=24) rfl);obtain⟨af,⟨Y,ai,r,U,ae,ag,l,E,G,k,_,O⟩,_,ad⟩:=t;have z:Aa.globalNamed "tarn/object.rows"=I 24:=O3;have D:(Aa.globals[24]?).map (·.type)=I 375:=O3;obtain rfl:=Axi (z.symm.trans l);obtain rfl:=Axi (D.symm.trans E);rw[Aks]at k;obtain⟨q,K,-,H,ab,ac,y⟩:=DataW.trod_array underlying375 k;obtain⟨e,p⟩:∃e,Aa.underlying 374=I (.struct e):=⟨_,underlying374⟩;have d:=Apq;rw[p]at d;simp only[Bh,Axk,Ayo,beq_iff_eq]at d;obtain⟨d,aa⟩:=d;have o:∀(i:Nat) (a:Field),e[i]?=I a->(a.offset=i/\Aa.cellsOf a.type=1)/\Aa.underlying a.type=I (.int C):=by
  intro i a h;have B:i<e.size:=(A9.1 h).1;have:=d i B;rw[h]at this;simp only[Bh,beq_iff_eq]at this;refine⟨this.1,?_⟩;have b:=this.2;split at b
  ·rename_i c
   exact c
  ·cases b
 intro i h;have m:i / 7<21:=O1;have b:=y (i / 7) m;rw[Agw,Af O1]at b;have c:(q.map (·.1))[i / 7]?=I (Acg (i / 7)):=by
  have:=congrArg Prod.fst H;simp only[DataW.agg.injEq]at this;rw[<-this,Awt,List.getElem?_range m];rfl
 rw[Awt,Af O1]at c;simp only[Azb,Bah]at c;have u:DataW.trod (λ_=>()) Aa n 0 (λ_=>true) false K 374 ((r.toList.drop (i / 7*7)).take 7)=I (.agg (((AV 7).map λj=>BP (i / 7) j).map λM=>.lit (.int C M)),(q[i / 7]'(by omega)).2):=by
  rw[b];exact congrArg I (Prod.ext c rfl)
 have g:=Ai5 p (λi a f=>(o i a f).1) (λi a f=>(o i a f).2) u (i % 7) O1;have v:=World.var?_cell l G i;rw[v];rw[List.getElem?_take,if_pos O1,List.getElem?_drop,show i / 7*7+i % 7=i by omega]at g;have w:((AV 7).map λj=>BP (i / 7) j).getD (i % 7) 0=FO.getD i 0:=by
  rw[List.getD,Awt,List.getElem?_range O1];simp only[Azb,Ax2,BP];rw[show i / 7*7+i % 7=i by omega]
 rw[w]at g;simpa using g
theorem Afw(b:laidMet Aa RH n):Lib.TabIs Aa n "internal/strconv.uint64pow10" .u64 Lib.pow10Tab:=by
 obtain⟨c,a⟩:=Qa (x:=("internal/strconv.uint64pow10",Rows.laid_internal_strconv_uint64pow10)) b (Aw1 (i:=2) rfl);rw[show(Rows.laid_internal_strconv_uint64pow10:DataW Unit)=Lib.tabData .u64 Lib.pow10Tab from rfl]at a;exact Lib.tabIs_of_head (g:=19) (t:=203) O3 O3 underlying203 underlying120 O3 O3 a
theorem Af0(a:laidMetH Aa Rows.togetherUptoRow.laid n):MV n n.heap.size:=⟨Aae (Oe a).1,AL (Aae (Oe a).1 0 O1),Lib.tabBelow_of_tabIs (Afw (Oe a).1)⟩
noncomputable def low:Nat:=(World.holding Aa default ⟨#[],#[],[]⟩).heap.size
def TL:DataW Unit->List Lit
 |.agg l=>l.filterMap fun|.lit x=>I x|_=>N
 |_=>[]
def cellOf:Lit->X
 |.int k n=>.int k n
 |.bool b=>.bool b
 |_=>.nilIface
def Ajd(a:Nat):List UInt8:=if a<19 then Ro a else if a=19 then TZ Rows.laid_strconv_ErrSyntax else TZ Rows.laid_strconv_ErrRange
def Anp(a:Nat):Nat:=if a<19 then HT a else if a=19 then 25 else 26
noncomputable def SH(d:Os):Q:=
 let b:=World.holding Aa d ⟨((AV 21).map λa=>AW #[S ⟨(Ajd a).toArray⟩] 449).toArray,#[],[]⟩
 {b with heap:=((((((AV 21).foldl (λ(c:Array Obj) a=>c.modify (Anp a) fun
  |.cells _ t frozen=>.cells #[Z 447 (J (I ⟨low+a,0,N⟩))] t frozen
  |o=>o) b.heap).modify 18 fun
  |.cells _ t frozen=>.cells #[Z 216 (T #[J (I ⟨27,47,N⟩)])] t frozen
  |o=>o).modify 24 fun
  |.cells _ t frozen=>.cells (FO.map λe=>Value.int C e).toArray t frozen
  |o=>o).modify 19 fun
  |.cells _ t frozen=>.cells ((TL Rows.laid_internal_strconv_uint64pow10).map cellOf).toArray t frozen
  |o=>o).modify 21 fun
  |.cells _ t frozen=>.cells ((TL Rows.laid_math_bits_deBruijn32tab).map cellOf).toArray t frozen
  |o=>o).modify 22 fun
  |.cells _ t frozen=>.cells ((TL Rows.laid_math_bits_deBruijn64tab).map cellOf).toArray t frozen
  |o=>o}
theorem Ara(a:Os):laidMetH Aa Rows.togetherUptoRow.laid ((SH a).forCall (λ_ _=>0) ⟨#[],#[W N 0 0],[]⟩).memory:=
 laidMetH_of_parts (laidMet_of_run3 8 O3 O3 O3) O3
theorem reads(c:Os){a:Type}(b:A0×X->a):∃d,DataW.whole b Aa ((SH c).forCall (λ_ _=>0) ⟨#[],#[.slice N 0 0],[]⟩).memory Tryz.f3.params.toList Rows.togetherSpec.vars false #[.slice N 0 0].toList 8=I ([.nil],[],d):=
 ⟨[],O3⟩
theorem Asi:ownKnob Aa.godebug=none:=rfl
theorem Aht:laidOutB Aa=true:=O3
theorem At7:Aa.readableRec 22=true:=O3
theorem Wb{f:Type}(d:Nat->Nat)(c:Nat->DataW f):∀e:List Nat,(∀b∈e,d b<=Rows.uptoBulk (c b))->(e.map d).sum<=Rows.uptoBulkAll (e.map c)
 |[],_=>Ac _
 |a::r,h=>by
  have i:=Wb d c r λb g=>h b (.tail _ g);have j:=h a (.head _);simp[Rows.uptoBulkAll,A1,Axm];omega
theorem Aad{k:A0×X->wa}{u:DataW wa×List MemPlace}(K:Aa.underlying wp=I (.slice zt))(r:Aa.cellsOf zt=s)(D:0<s)(v:DataW.trod k Aa n 0 xu w4 w wp [p]=I u):p=.slice N 0 0\/∃a c h j,∃f,p=.slice (I a) c h/\Rows.uptoBulkAll ((AV c).map f)<=Rows.uptoBulk u.1/\∀b,b<c->∃g i d O,a=⟨g,i,N⟩/\L d=s/\(∀e,e<s->n.cell? ⟨g,i+b*s+e,N⟩=d[e]?)/\DataW.trod k Aa n 0 xu w4 j zt d=I (f b,O):=by
 rcases Go.Deep.open_slice K v with⟨l,-⟩|⟨a,c,h,M,j,f,Y,l,-,ac,-,G,rfl,t⟩
 ·grind
 ·obtain rfl:p=.slice (I a) c h:=by simpa using l
  refine .inr ⟨a,c,h,j,f,rfl,by simp[Rows.uptoBulk];omega,λb ab=>?_⟩;have z:b<M:=by rw[G];split<;>omega
  let ⟨d,o,H⟩:=t b z
  rw[r]at o;obtain⟨-,E,x⟩:=World.cells?_some o;obtain⟨g,i,U⟩:=a;obtain⟨aa,q,-⟩:=t 0 O1;rw[r]at q;obtain⟨-,ad,y⟩:=World.cells?_some q;have m:=y 0 D;rw[Af O1]at m;obtain rfl:U=none:=by simpa[Addr.add]using World.cell?_spot m
  refine⟨g,i,d,_,rfl,E,λe B=>?_,H⟩;have:=x e B;rw[Om,Om]at this;exact this
theorem Agn{s:A0×X->wa}{o:X}{q:DataW wa×List MemPlace}(i:DataW.trod s Aa n 0 xu w4 w 25 [o]=I q):∃p j g,o=.slice p (L j) g/\Jl n p j/\FY j<=Rows.uptoBulk q.1:=by
 rcases Aad underlying25 QA O1 i with rfl|⟨l,d,g,z,k,rfl,hb,v⟩
 ·exact⟨N,[],0,rfl,λa b=>absurd b O2,Ai _⟩
 ·obtain⟨h,t⟩:=Go.Deep.choose_lt (p:=λa f=>∃c e,l=⟨c,e,N⟩/\n.cell? ⟨c,e+a,N⟩=I (.string f)/\f.size+1<=Rows.uptoBulk (k a)) (λa b=>by
   obtain⟨c,e,x,B,rfl,m,y,u⟩:=v a b;obtain⟨f,rfl,r,-⟩:=DataW.trod_string Awz u;exact⟨f,c,e,rfl,O6,by rw[(Prod.mk.inj r).1];simp[Rows.uptoBulk]⟩)
  have m:((AV d).map h).length=d:=O2;refine⟨I l,(AV d).map h,g,by rw[m],λa b=>?_,?_⟩
  ·grind
  ·have:=Wb (λa=>(h a).size+1) k (AV d) λa b=>by
    obtain⟨-,-,-,-,i⟩:=t a (Ayo.1 b);exact i
   unfold FY;rw[A4];exact Ay this hb
theorem Au2{o:A0×X->wa}{f:DataW wa×List MemPlace}(D:(L wj)=4)(q:DataW.trod o Aa n 0 xu w4 w 27 wj=I f):∃a e z,wj[0]?=I (.string a.n)/\wj[1]?=I (.string a.b)/\wj[2]?=I (.slice e (L a.ps) z)/\wj[3]?=I (.bool a.f)/\Jl n e a.ps/\FI a+60<=64*Rows.uptoBulk f.1:=by
 obtain⟨G,H,K,M,E,rfl,-,r,s,t,u⟩:=Go.Joins.trod_struct4 underlying27 q;obtain⟨g,j,rfl,-⟩:=DataW.trod_string Awz r;obtain⟨h,k,rfl,-⟩:=DataW.trod_string Awz s;obtain⟨p,l,-⟩:=DataW.trod_bool underlying4 u;have b:∃c,(wj.drop 2).take 1=[c]/\wj[2]?=I c:=⟨wj[2],by rw[A2 O1];rfl,Af O1⟩;let ⟨c,b,m⟩:=b
 have d:=t;rw[show Aa.cellsOf 25=1 by kernel_rfl,b]at d;obtain⟨y,x,i,rfl,v,B⟩:=Agn d;refine⟨⟨g,h,x,p⟩,y,i,RV QA j,RV QA k,m,RV O3 l,v,?_⟩;simp[Rows.uptoBulk,Rows.uptoBulkAll,FI,Ax5,ByteArray.size_data];omega
theorem Ary{u:A0×X->wa}{d:Q}{s:X}{t:DataW wa×List MemPlace}(v:DataW.trod u Aa d 0 xu w4 w 22 [s]=I t):∃p b j,s=.slice p (L b) j/\MF d p b/\Ge b<=64*Rows.uptoBulk t.1:=by
 rcases Aad underlying22 (show _=4 by kernel_rfl) O1 v with rfl|⟨o,h,j,n,m,rfl,hb,B⟩
 ·exact⟨N,[],0,rfl,λa f=>absurd f O2,Ai _⟩
 ·have:Inhabited Fq:=⟨⟨⟨#[]⟩,⟨#[]⟩,[],false⟩⟩;let ⟨k,x⟩:=Go.Deep.choose_lt (n:=h) (p:=λa c=>(∃e i l r,o=⟨e,i,N⟩/\d.cell? ⟨e,i+a*4,N⟩=I (.string c.n)/\d.cell? ⟨e,i+a*4+1,N⟩=I (.string c.b)/\d.cell? ⟨e,i+a*4+2,N⟩=I (.slice l (L c.ps) r)/\d.cell? ⟨e,i+a*4+3,N⟩=I (.bool c.f)/\Jl d l c.ps)/\FI c+60<=64*Rows.uptoBulk (m a)) (λa f=>by
   obtain⟨e,i,E,aa,rfl,g,H,z⟩:=B a f;let ⟨c,l,r,k0,K,M,O,U,Y⟩:=Au2 g z
   grind)
  have g:((AV h).map k).length=h:=O2;refine⟨I o,(AV h).map k,j,by rw[g],λa f=>?_,?_⟩
  ·grind
  ·have q:∀b:List Nat,(∀a∈b,a<h)->((b.map k).map λc=>FI c+60).sum<=64*Rows.uptoBulkAll (b.map m):=λb g=>by
    induction b with
    |nil=>exact Ai _
    |cons a b ih=>
     have q:=ih λD y=>g D (.tail _ y);have G:=(x a (g a (.head _))).2;simp only[Rows.uptoBulkAll,A1,Axm];omega
   have:=q (AV h) λa f=>Ayo.1 f;unfold Ge;omega
theorem Aqg(d:Type)(l:A0×X->d)(a:Q)(s:Nat)(b:Array X)(i m:List (DataW d))(u:List MemPlace)(H:∀(q:Nat) t c,Tryz.f3.params[q]?=I t->b[q]?=I c->Value.okWide Aa a .any s t c)(p:DataW.Whole l Aa Tryz.f3.params.toList Rows.togetherSpec.vars false a b.toList i m u)(D:Rows.uptoSmall d (i++m)=true)(f:laidMetH Aa Rows.togetherUptoRow.laid a):
 Az Aa 3 b a λj h=>∃c,j=.returned c/\Rows.togetherSpec.post l Aa Tryz.f3 false true false false a b c h:=by
 have g:=p;obtain⟨ak,al,y,B,rfl,ah,ai⟩:=p;have x:=y;obtain⟨r,aq,v,ac,M,am,af,rfl,rfl,n,O⟩:=trodAll_cons x;obtain⟨rfl,rfl,rfl⟩:=trodAll_nil O;obtain rfl:b=#[r]:=O6;obtain⟨rfl,rfl⟩:=trodVars_none B;simp[A6]at g;obtain⟨Y,aj,ab,rfl⟩:=okWide_slice underlying22 (H 0 22 r rfl rfl);let ⟨ad,w⟩:=id n
 let ⟨ao,ap,an,k,z,ae⟩:=Ary w
 simp[Value.slice.injEq]at k;obtain⟨rfl,rfl,rfl⟩:=k;have ag:Rows.uptoBulk v<=1048576:=by
  have e:=of_decide_eq_true D;simp[A6,Rows.uptoBulkAll]at e;omega
 let ⟨aa,o⟩:=Asa f
 refine(Ak5 (⟨o,Asr f o,Af0 f⟩) z O6).mono λj h ⟨E,hb⟩=>?_;subst E;have G:=λU K=>by simpa using g.lt U K
 refine⟨_,rfl,_,_,_,[],M,[],g,?_,?_,?_,?_,λe=>by cases e⟩
 ·exact trodAll_mk1 (shut_bool underlying4 true)
 ·exact trodAll_mk1 (Below.trod Aht At7 (of_decide_eq_true rfl) n hb G)
 ·rfl
 ·exact hb.frame _
theorem Agr(a:Os)(p:a.Started)(b:Type)(enc:A0×X->b)(c:Stop.Interp):
 ReturnsInHanded {} Tryz.checked a 3 .any ((Rows.OpenSpec.upto Rows.togetherSpec).preRow enc Aa Tryz.f3 Rows.togetherUptoRow.domain false Rows.togetherUptoRow.laid) (((Rows.OpenSpec.upto Rows.togetherSpec).at c).post enc Aa Tryz.f3 false true false false):=by
 obtain⟨r,o⟩:=reads a enc;refine returnsInHanded_of_row (C:=Tryz.checked) (s:=Rows.OpenSpec.upto Rows.togetherSpec) Asi p O3 func3
  (witness_row_at (enc:=enc) (C:=Tryz.checked) false (SH a) #[W N 0 0] rfl O3 O3 O3
   (OpenSpec.preRow_of_cond 8 o O3 (λq m=>by cases m;kernel_rfl) O3 (Ara a))) ?_
 intro d f e h i g n k _ l _ j _ _;exact Aqg b enc d f e h i g n k (l _ rfl) j
theorem Arb:Rows.TogetherUptoSaid:=
 OpenClaim.holds_of_cond 3 Tryz.f3 rfl rfl rfl rfl rfl rfl rfl ⟨rfl,rfl,rfl,rfl,rfl⟩ rfl rfl rfl rfl rfl O3 func3 Aid
  (of_decide_eq_true O3) (by unfold Func.isWrapper;first|(rw[if_pos (by decide+kernel)];kernel_rfl)|(rw[if_neg (by decide+kernel)];exact⟨rfl,rfl⟩))
  (λd e b c _ a=>by rw[OpenClaim.pre_eq_preRow];exact Agr d e b c a)
end Go.Proofs.YtpkbnogifdlcmaaGreatDoor
