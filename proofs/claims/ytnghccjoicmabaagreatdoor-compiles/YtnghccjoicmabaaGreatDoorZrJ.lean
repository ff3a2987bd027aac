import Derived.Test.YtnghccjoicmabaaGreatDoorZqJ
set_option maxRecDepth 100000
set_option maxHeartbeats 8000000
open Go renaming Calls->Adg,TypeId->Ad5,Value->X,World->Q
open Go.Act renaming eval->Aef
open Go.Ending renaming returned->F
open Go.IntKind renaming i64->C
open Go.Proofs.Tryz renaming prog->Acs
open Go.RowKit renaming wrap64->Aer
open Go.Value renaming agg->T,int->V,slice->W,tuple->R
namespace Go.Proofs.YtnghccjoicmabaaGreatDoor
open Go.RowKit Go.Sort
variable{l:Av}{w v b:Nat}{r:KS}{e:Cc}{t:List Nat}{n:World}{nb:List BT}{wa nc:List As}{m:Value}{wb:List Value}{vn:BT->Nat}{w1:KS->KS}
def C8(a:Int):Nat->List ByteArray->List (ByteArray×Int)
 |_,[]=>[]
 |b,t::r=>(t,Aer (Aer (a-1)-(b:Int)))::C8 a (b+1) r
theorem G6(c:Int)(d:ByteArray):∀b a,C8 c a (b++[d])=C8 c a b++[(d,Aer (Aer (c-1)-((a+b.length:Nat):Int)))]
 |[],a=>rfl
 |x::b,a=>by simp[C8,G6 c d b,show a+1+b.length=a+(b.length+1) by omega]
theorem Ee(c:Int):∀a b,(C8 c b a).length=a.length
 |[],b=>rfl
 |x::a,b=>by simp[C8,Ee c a]
def Ep(b:Av)(a:KS):KS:={a with loc:=a.loc++C8 a.AB 0 (b.map (·.1)),z:=a.z+b.length}
theorem SV{st:KS}(a:w<l.length):Ep (l.take (w+1)) st={Ep (l.take w) st with loc:=(Ep (l.take w) st).loc++[(l[w].1,Aer (Aer (st.AB-1)-(w:Int)))],z:=(Ep (l.take w) st).z+1}:=by
 unfold Ep;rw[Ade a,Adq,Aeg,Aez,G6,Adf,Aa0,Ag2 (by omega),Aey,Adk,Aa0,Ag2 (by omega)];grind
def CS(c:Int)(d:Nat)(b:Av)(a:KS):KS:=Ep b (AE 16 (b.length:Int) {a with AB:=c,loc:=a.loc.take d})
abbrev KJ:=KS×List Int
abbrev KA:=KJ×List G7
def BD(c:BT->KJ->KJ)(e:Int)(f:Nat)(d:List BT)(a:KA):KA:=d.foldl (λa b=>(c b (CS e f b.2.2.1 a.1.1,a.1.2),a.2++[⟨(b.1:Int),(a.1.1.code.length:Int)⟩])) a
def D5(b:Nat)(c:Bp->Bp)(a:KS):KS:=match a.code[b]? with
 |some x=>{a with code:=a.code.set b (c x)}
 |none=>a
theorem Qr{f:Bp->Bp}(a:w<r.code.length):D5 w f r={r with code:=r.code.set w (f r.code[w])}:=by simp[D5,a]
def Cg(d:KS->KS)(e:BT->KJ->KJ)(f:List BT)(c:KJ):KJ:=
 let a:=d c.1
 let b:=BD e a.AB a.loc.length f ((AE 17 0 a,c.2),[])
 (D5 a.code.length (λg=>{g with alts:=b.2}) b.1.1,b.1.2)
structure Th (c:Cc) (g h:Nat) (fr:Array X) (d:Addr×X) (f:List Int->List As->Prop) (b:BT) (a:KJ->KJ) (i:Nat):Prop where
 call:∀{js J M B w st wr},f js J->js.length<=2000->w.cell? d.1=some d.2->d.1.block∉B->At {c with E:=J++M} B w st wr->st.z<=g->b.2.2.1.length<=st.loc.length->Adg Acs h (#[T #[V C (b.1:Int),b.2.1,b.2.2.2.1]]++fr) wr λe w'=>e=F (R #[])/\∃J',f (a (st,js)).2 J'/\At {c with E:=J'++M} B w (a (st,js)).1 w'
 z:∀s,(a s).1.z<=s.1.z+i
 l:∀s,s.1.loc.length<=(a s).1.loc.length+b.2.2.1.length
 c:∀s,s.1.code.length<=(a s).1.code.length
 j:∀s,(a s).2.length<=s.2.length+1
theorem Aap:ET 63 68 2 16:=.of Tryz.underlying63 rfl rfl (by omega) (by omega)
theorem At.bq{wr:Q}{q:Addr×X}(g:At e t n r wr)(w:n.cell? q.1=some q.2)(v:q.1.block∉t)(j:Array X)(u:Ad5):∃b f,f=wr.alloc (.cells j u)/\At e b f r f/\(∀c d p,At c b f d p->At c t n d p)/\(∀l o,j[l]?=some o->∀{c d i},At c b f d i->i.cell? ⟨wr.heap.size,l,none⟩=some o)/\f.cell? q.1=some q.2/\q.1.block∉b:=by
 let ⟨b,h,k⟩:=g.cm
 let ⟨G,M,H,L,K,N,h⟩:=h
 have a:Below wr.heap.size wr (wr.alloc (.cells j u)):=(Acv _ wr).alloc .refl _;have I:=Adt w;refine⟨b,_,rfl,(CM.at ⟨_,_,_,_,_,_,h.cJ a⟩ (g.low.trans (a.mono h.s.z))),λc d p m=>?_,λl o E c d i y=>y.cell (Ak _ _ _ _ _ E) λa=>by have:=(h.rg _ a).2;simp at this,Aa a (g.cell w v),λa=>(k _ a).elim v (by omega)⟩;let ⟨x,B,D⟩:=m.cm
 exact⟨(g.af.then a).trans m.af k,m.low,x,B,k.trans D (by have:=g.af.size;have:=a.size;omega)⟩
def Ra(c:BT->KJ->KJ)(d:Int)(e:Nat)(b:BT)(a:KA):KA:=(c b (CS d e b.2.2.1 a.1.1,a.1.2),a.2++[⟨(b.1:Int),(a.1.1.code.length:Int)⟩])
theorem J3{T:BT->KJ->KJ}{d:Int}{m:Nat}{s:KA}(a:w<nb.length):BD T d m (nb.take (w+1)) s=Ra T d m nb[w] (BD T d m (nb.take w) s):=by rw[Ade a,BD,Aci];rfl
theorem At.e0{wr:Q}(a:At {e with E:=wa++pA w v m b wb::nc} t n r wr):wr.ownsRow 0 w v m b wb:=by
 let ⟨d,⟨f,k,g,j,i,l,c⟩,h⟩:=a.cm
 exact c.s.mem (A:=pA w v m b wb) (by simp)
variable{v3:BT->KJ->KJ}
theorem Tw{p:Addr×X}{d:Int}{m:Nat}{L f fr R}(k:∀c∈nb,Th e L f fr p R c (v3 c) (vn c))(n:∀c∈nb,vn c<=50000/\c.2.2.1.length<=1000)(b:KA)(o:m<=b.1.1.loc.length):∀a,a<=nb.length->(BD v3 d m (nb.take a) b).1.1.z<=b.1.1.z+a*51001/\m<=(BD v3 d m (nb.take a) b).1.1.loc.length/\b.1.1.code.length<=(BD v3 d m (nb.take a) b).1.1.code.length/\(BD v3 d m (nb.take a) b).2.length=b.2.length+a/\(BD v3 d m (nb.take a) b).1.2.length<=b.1.2.length+a:=λa=>by
 induction a with
 |zero=>simpa[BD]using o
 |succ a ih=>
  intro B;have h:a<nb.length:=by omega
  have i:=Ac8 h;let ⟨u,v,w,x,y⟩:=ih (by omega)
  have g:=k _ i;have D:=n _ i;rw[J3 h];generalize BD v3 d m (nb.take a) b=S at*;have q:=g.z (CS d m nb[a].2.2.1 S.1.1,S.1.2);have r:=g.l (CS d m nb[a].2.2.1 S.1.1,S.1.2);have s:=g.c (CS d m nb[a].2.2.1 S.1.1,S.1.2);have t:=g.j (CS d m nb[a].2.2.1 S.1.1,S.1.2);simp[Ra,CS,Ep,AE,Ee]at q r s t ⊢;omega
theorem NN{c:Cc}{f:Nat}{fr:Array X}{q:Addr×X}{R:List Int->List As->Prop}{T:BT->KJ->KJ}{k:BT->Nat}(a9:Ok c)(dn:∀bw al,(callFunc f bw).run Acs al=.ok (.enter f bw) al){aV:Ad5}{aW:X}{a0:Option Addr}{cap:Nat}(bb:∀y,Do {c with E:=y} w 107 [.iface aV aW] w1 b)(ba:∀i∈nb,Th c w f fr q R i (T i) (k i))(E:MZ c.W0 3 a0 (nb.map VZ))(cE:∀i∈pB a0,i<c.lo)(b5:∀i∈nb,B0 c.W0 i.2.1 i.2.2.1/\(∀a7,i.2.1.ownBlock=some a7->a7<c.lo)/\∃a2 a3,i.2.2.2.1=.iface a2 a3)(aE:∀i∈nb,k i<=50000/\i.2.2.1.length<=1000)(dr:b<=100000)(bG:nb.length<=1000)(dg:v+100000000<=w)(dh:w<=8000000000){js J M B al st wr}(av:R js J)(dp:js.length<=1000)(bJ:al.cell? q.1=some q.2)(bL:q.1.block∉B)(aX:At {c with E:=J++M} B al st wr)(dy:st.z<=v):
 Adg Acs 105 #[.pointer (some ⟨c.K,0,none⟩),.agg #[.iface aV aW,W a0 nb.length cap],.func (.func f) #[] fr] wr λaP cU=>aP=F (.tuple #[])/\∃ao,R (Cg w1 T nb (st,js)).2 ao/\At {c with E:=ao++M} B al (Cg w1 T nb (st,js)).1 cU:=by
 obtain⟨bl,bZ,bN,a,c6,b9,bK,bM⟩:=aX.bq bJ bL #[.iface aV aW,W a0 nb.length cap] 237;have c1:=b9 0 _ rfl a;have bQ:=(bb (J++M)).z st;have aL:=hid ((bb (J++M)).call a (by omega));obtain⟨p,be⟩:∃p,w1 st=p:=⟨_,rfl⟩;rw[be]at aL bQ;have ct:=hid be;have an:=hid (λar (cC:At {c with E:=J++M} bl bZ p ar)=>(Gx (c:={c with E:=J++M}) ⟨a9.t,a9.l⟩ 17 0 (by omega)).call cC (by omega));have am:=hid (Tw (d:=p.AB) (m:=p.loc.length) ba aE ((AE 17 0 p,js),[]) (Acu _));have cz:=hid ba;have cn:=hid b5;have cs:=hid E;have cp:=hid bK;have cq:=hid bM;have ae:=hid av;have cl:=hid aE;have dz:p.z<=v+100000:=by omega
 clear aX bJ bL bb be bQ ba b5 E bK bM av aE;go_enter Tryz.func105,Tryz.ntmps105;go_upto_region 1 with(fail)
 rw[<-bN];clear bN;go_upto_region 2 with(go_at_call 107;refine aL.out.mono ?_;rintro _ o ⟨rfl,D⟩;clear aL a c1)
 obtain⟨b1,cc,aj,I,ac,u,cK,cM⟩:=D.lens;have bU:=D.AB;have cI:o.drew.cell? ⟨c.K,2,none⟩=some (W b1 p.code.length cc):=ac;have cJ:o.drew.cell? ⟨c.K,3,none⟩=some (V C p.AB):=bU;have bT:o.drew.cell? ⟨c.K,4,none⟩=some (W aj p.loc.length I):=u;have bp:=hid (an.out _ (D.cJ (Acv _ _).drew));obtain⟨O,aT⟩:∃O,p.code.length=O:=⟨_,rfl⟩;obtain⟨m,a6⟩:∃m,p.loc.length=m:=⟨_,rfl⟩;obtain⟨d,U⟩:∃d,p.AB=d:=⟨_,rfl⟩;rw[a6]at bT cM;rw[aT]at cI cK;rw[U]at cJ;have bm:=hid aT;have ci:=hid a6;have ch:=hid U;rw[U,a6]at am;clear ac bU u aT a6 U an D;go_region
 go_wp2_with (go_at_call 109;refine bp.out.mono ?_;rintro _ cV ⟨rfl,G⟩;clear bp;have aO:=b9 1 _ rfl G)
 obtain⟨r,au⟩:∃r,AE 17 0 p=r:=⟨_,rfl⟩;have d0:r.z<=v+100001:=by rw[<-au];simp only[AE];omega
 have dm:O<r.code.length:=by rw[<-au];simp only[AE,Adk,bm.out,Aea,Ae5];omega
 rw[au]at G am;have cw:=hid au;clear au;go_loopw [9,37] (λbx ab wr=>∃(h:Nat) (ao:List As),h<=nb.length/\ab=V C (h:Int)/\R (BD T d m (nb.take h) ((r,js),[])).1.2 ao/\At {c with E:=ao++pA 68 2 bx (BD T d m (nb.take h) ((r,js),[])).2.length ((BD T d m (nb.take h) ((r,js),[])).2.flatMap FG)::M} bl bZ (BD T d m (nb.take h) ((r,js),[])).1.1 wr) (λ_ ab _=>nb.length-(intOf ab).toNat)
 case atStart=>exact⟨0,J,Ac0 _,rfl,ae.out,G.fF⟩
 case round=>
  clear G ae aO;rename X=>bx
  obtain⟨h,ap,bB,rfl,av,a⟩:=hrel;have ae:=hid av;obtain⟨bf,ax,bg,aI,bh⟩:=am.out h bB;clear av;by_cases aa:h<nb.length
  ·have da:(0:Int)<=(h:Int):=by omega
   have b3:(h:Int)<(nb.length:Int):=by omega
   have aN:=hid (J3 (T:=T) (d:=d) (m:=m) (s:=((r,js),[])) aa);generalize BD T d m (nb.take h) ((r,js),[])=S at*;have aG:=Ac8 aa;obtain⟨i,ag⟩:∃i,nb[h]=i:=⟨_,rfl⟩;obtain⟨a8,aY,a2,a3,aU⟩:=cn.out _ aG;have b8:=cl.out _ aG;have b6:=hid (cz.out _ aG);obtain⟨dd,de,rfl,-,aD⟩:=cs.out.ec a.low cE (λaP=>by rw[Aa4.1 aP]at aa;simp at aa);have aQ:=aD h (by rw[Adf];exact aa) 0 _ (by rw[Aep];rfl);have aR:=aD h (by rw[Adf];exact aa) 1 _ (by rw[Aep];rfl);have aS:=aD h (by rw[Adf];exact aa) 2 _ (by rw[Aep];rfl);rw[ag]at aQ aR aS aN a8 aY aU b8 b6;clear ag aD aG;obtain⟨ak,cQ,e,cW,b0,bz⟩:=i;simp only[Nat.add_zero]at aQ aR aS a8 aY aU b8;subst aU;obtain⟨az,ay,rfl⟩:∃az ay,cQ=W az e.length ay:=by obtain⟨a0,c,rfl,-⟩:=a8;exact⟨_,_,rfl⟩
   obtain⟨bv,bu,rfl⟩:=Ad a.e0;obtain⟨aJ,o,bO,D,c7,Y,cF,cG⟩:=a.bq cp.out cq.out #[V C (ak:Int),W az e.length ay,.iface a2 a3] 240;have df:S.2.length<=1000:=by simp only[Ae5]at aI;omega
   have ck:Hid (S.1.2.length<=2000):=by show _<=_;first|omega|(simp only at bh;omega)
   have c9:S.1.1.z<=v+60000000:=by have:=Aaa 51001 (Ac5 bB bG);omega
   have b2:=Y 0 _ rfl D;have a5:=Y 1 _ rfl D;obtain⟨b1,cc,aj,I,ac,u,cN,cO⟩:=D.lens;simp only at ac u;have cH:=λj=>alloc_old o j _ _ _ ac;have c5:=λj=>alloc_old o j _ _ _ b2;have a4:=hid D.e0;have af:Hid (∀j,Below o.heap.size o (o.alloc j)):=λj=>bA;obtain⟨H,bc⟩:∃H,S.2++[⟨(ak:Int),(S.1.1.code.length:Int)⟩]=H:=⟨_,rfl⟩;have aK:Hid (H.length=S.2.length+1/\H.flatMap FG=S.2.flatMap FG++[V C (ak:Int),V C (S.1.1.code.length:Int)]):=by subst bc;constructor<;>simp[FG]
   have cd:=hid bc;have br:=hid (λ(Z w4:Q) v' (ag:Below o.heap.size o Z) (E:IY Z 68 2 (W bv S.2.length bu) v' (S.2.length+1) (S.2.flatMap FG++[V C (ak:Int),V C (S.1.1.code.length:Int)]) w4)=>At.gk (n':=H.length) (xs':=H.flatMap FG) D ag (by rw[aK.out.1,aK.out.2];exact E));clear bc;clear a D;go_upto_region 8 with(fail)
   rw[<-bO];clear bO;have dl:S.1.1.code.length<=9000000000:=by omega
   clear bf bg aI bh;go_cut [9] (λcS L=>∃ad,Hid (ad=pA 68 2 cS H.length (H.flatMap FG)::M)/\At {c with E:=ap++ad} aJ o S.1.1 L)
   case first=>
    go_region_law (first
     |(refine Cy Aap (a4.out.alloc _) (Adp o _) (m:=1) (c:=1) (s:=.tmp 41) (x:=.tmp 50) (by simp[Aef];done) (by simp[Aef];done) rfl rfl rfl (by intro cR aw;simp at aw;rcases aw with rfl|rfl<;>rfl) (by omega) (by omega) ?_;intro b3 aO w4 E;have N:=hid (br.out _ _ _ (by first|exact af.out _|exact(af.out _).drew) E);clear E))
    all_goals
     go_wp2_with fail
     go_meet
     exact⟨_,rfl,N.out⟩
   case rest=>
    rename Q=>L
    obtain⟨ad,cf,a⟩:=hcut;clear ac u cN cO b2 a5 cH c5 a4 af br aK aQ aR aS;obtain⟨c2,bj,g⟩:=a.k;have bi:L.drew.cell? ⟨c.K,3,none⟩=some (V C S.1.1.AB):=g.c3;have d8:L.drew.frozen? ⟨c.K,3,none⟩=false:=g.f 3;obtain⟨aj,I,bE,u,bV,b7⟩:=(a.fD d).e5;have d6:(L.setCell ⟨c.K,3,none⟩ (V C d)).drew.cell? ⟨c.K,4,none⟩=some (W aj S.1.1.loc.length I):=u;replace bV:(L.setCell ⟨c.K,3,none⟩ (V C d)).drew.frozen? ⟨c.K,4,none⟩=false:=bV
    have bT:L.drew.cell? ⟨c.K,4,none⟩=some (W aj S.1.1.loc.length I):=by rw[Acy _ _ _ _ (Au (by decide))]at u;exact u
    have d9:L.drew.frozen? ⟨c.K,4,none⟩=false:=g.f 4;have bt:=hid ((b7 m ax).cJ (Acv _ _).drew);have dt:S.1.1.loc.length<=8000000000:=by have:=a.len;omega
    obtain⟨aq,aB⟩:∃aq:KS,{S.1.1 with AB:=d,loc:=S.1.1.loc.take m}=aq:=⟨_,rfl⟩;have dj:aq.z<=v+60000000:=by subst aB;exact c9
    have bs:Hid (At {c with E:=ap++ad} aJ o aq ((L.setCell ⟨c.K,3,none⟩ (V C d)).setCell ⟨c.K,4,none⟩ (W aj m I)).drew):=by subst aB;exact bt.out
    have cv:=hid aB;have dv:(m:Int)<=(S.1.1.loc.length:Int):=by have:m<=S.1.1.loc.length:=ax;omega
    have du:(0:Int)<=(m:Int):=by omega
    generalize S.1.1.loc.length=bW at*;have dw:(bW:Int)<=(I:Int):=by have:bW<=I:=bE;omega
    have dx:m<=I:=by omega
    clear a g u b7 bt aB ax bE;have an:=hid ((Gx (c:={c with E:=ap++ad}) ⟨a9.t,a9.l⟩ 16 (e.length:Int) (by omega)).call bs.out (by omega));have a5:=Y 1 _ rfl bs.out;go_upto_region 9 with(fail)
    go_region
    go_wp2_with (go_at_call 109;refine an.out.mono ?_;rintro _ cV ⟨rfl,G⟩;clear an;replace a5:=Y 1 _ rfl G)
    obtain⟨t,aC⟩:∃t:KS,AE 16 (e.length:Int) aq=t:=⟨_,rfl⟩;have dk:t.z<=v+60000001:=by subst aC;simp only[AE];omega
    rw[aC]at G;have cx:=hid aC;clear aC a5;go_loopw [73] (λab wr=>∃g:Nat,g<=e.length/\ab=V C (g:Int)/\At {c with E:=ap++ad} aJ o (Ep (e.take g) t) wr) (λab _=>e.length-(intOf ab).toNat)
    case atStart=>exact⟨0,Ac0 _,rfl,by simpa[Ep,C8]using G⟩
    case round=>
     clear G;obtain⟨g,aE,rfl,a⟩:=hrel;rename Q=>wr
     have aZ:(Ep (e.take g) t).z<=v+60002000:=by simp only[Ep,Aa0];omega
     by_cases bD:g<e.length
     ·have db:(0:Int)<=(g:Int):=by omega
      have dc:(g:Int)<(e.length:Int):=by omega
      obtain⟨a7,j,rfl,bX,bY⟩:=B0.at_ (a8.ec a.low aY) bD;have aM:=hid (SV (st:=t) bD);obtain⟨a1,bk,bP⟩:∃a1 bk,e[g]=(a1,bk):=⟨_,_,rfl⟩;rw[bP]at bX bY aM;simp only at bX bY aM;have U:(Ep (e.take g) t).AB=t.AB:=rfl;generalize Ep (e.take g) t=ar at*;generalize t.AB=d2 at*;obtain⟨B3,⟨cX,dD,c2,bj,dA,dE,ai⟩,bI⟩:=a.cm;obtain⟨n,aH⟩:∃n,n=wr.alloc (.cells #[.string a1,V C (bk:Int)] 115):=⟨_,rfl⟩;have ah:Below wr.heap.size wr n:=by rw[aH];exact bA
      have bS:n.cell? ⟨wr.heap.size,0,none⟩=some (.string a1):=by rw[aH];simp
      have u:n.cell? ⟨c.K,4,none⟩=some bj:=(ai.cJ ah).k.c4;have bi:n.cell? ⟨c.K,3,none⟩=some (V C ar.AB):=(ai.cJ ah).k.c3;rw[U]at bi;have d5:=λj=>alloc_old n j _ _ _ u;have d4:=λj=>alloc_old n j _ _ _ bi;have d1:=λj=>alloc_old n j _ _ _ bS;have a4:=hid ((ai.s.cJ ah).mem (A:=lA bj ar.loc) (by simp));have ds:ar.loc.length<=9000000000:=by have:=ai.z.2.1;omega
      have co:=hid (λ(Z w4:Q) v' x (ag:Below n.heap.size n Z)=>a.eM (Z:=Z) (w4:=w4) (v':=v') (x:=x) ai bI (ah.trans (ag.mono ah.size)));have af:Hid (∀j,Below n.heap.size n (n.alloc j)):=λj=>bA;have dq:g<1000:=by omega
      clear bP ah ai a bI aZ U am;go_upto_region 14 with(fail)
      rw[<-aH];clear aH;go_region_law (first
       |(refine Cy Ty (a4.out.alloc _) (Adp n _) (m:=1) (c:=1) (s:=.tmp 82) (x:=.tmp 93) (by simp[Aef];done) (by simp[Aef];done) rfl rfl rfl (by intro cR aw;simp at aw;rcases aw with rfl|rfl<;>rfl) (by omega) (by omega) ?_;intro b3 aO w4 E;simp only[IntWalk.i64_left]at E;obtain⟨cY,cZ,b4⟩:=co.out _ _ _ (a1,Aer (Aer (d2-1)-(g:Int))) (by first|exact af.out _|exact(af.out _).drew) E;have N:=hid b4;clear E b4))
      all_goals
       go_wp2;exact⟨⟨g+1,by omega,by go_num,by rw[aM.out];exact N.out⟩,by simp[intOf];omega⟩
     ·obtain rfl:g=e.length:=by omega
      have cD:¬(e.length:Int)<(e.length:Int):=by omega
      rw[Ad9]at a aZ;have dH:=Y 0 _ rfl a;have dI:=Y 1 _ rfl a;have dJ:=Y 2 _ rfl a;have bH:e.length<=(Ep e t).loc.length:=by simp only[Ep,Adk,Ee,Adf];omega
      have ce:=hid (b6.out.call ae.out ck.out cF cG a (by omega) bH);have cy:Hid (CS d m e S.1.1=Ep e t):=by show _=_;rw[<-cx.out,<-cv.out];rfl
      clear a aZ bH;have bn:Hid (Ra T d m (ak,W az e.length ay,e,.iface a2 a3,b0,bz) S=(T (ak,W az e.length ay,e,.iface a2 a3,b0,bz) (Ep e t,S.1.2),H)):=by show _=_;unfold Ra;simp only[cy.out,cd.out]
      go_wp2_with (refine ce.out.mono ?_;rintro _ dG ⟨rfl,c0,cr,ca⟩)
      refine⟨⟨h+1,c0,by omega,by go_num,by rw[aN.out,bn.out];exact cr,?_⟩,by simp[intOf];omega⟩;rw[aN.out,bn.out];have c8:=cf.out;subst c8;exact c7 _ _ _ ca
  ·obtain rfl:h=nb.length:=by omega
   have cD:¬(nb.length:Int)<(nb.length:Int):=by omega
   have bo:Hid (Cg w1 T nb (st,js)=(D5 O (λx=>{x with alts:=(BD T d m nb ((r,js),[])).2}) (BD T d m nb ((r,js),[])).1.1,(BD T d m nb ((r,js),[])).1.2)):=by
    show _=_;unfold Cg;simp only[ct.out,ci.out,ch.out,bm.out,cw.out]
   rw[Ad9]at a ae bf ax bg aI;clear bh;generalize BD T d m nb ((r,js),[])=S at*;obtain⟨bv,bu,rfl⟩:=Ad a.e0;have bC:O<S.1.1.code.length:=by omega
   obtain⟨a7,cc,x,ac,d7,dC,N⟩:=a.f8 bC;have cj:=hid (Qr (f:=λx=>{x with alts:=S.2}) bC);have N:=hid N;have bR:=a.lens;have di:S.1.1.code.length<=8000000000:=by obtain⟨_,_,_,_,-,-,aX,-⟩:=bR;have:=Aaa 51001 bG;omega
   have bS:(0:Int)<=(O:Int):=by omega
   have d3:(O:Int)<(S.1.1.code.length:Int):=by omega
   clear bR a bf ax bg aI am;go_wp2;exact bF ⟨rfl,ap,by rw[bo.out];exact ae.out,c6 _ _ _ (by rw[bo.out,cj.out];exact N.out)⟩ (by simp) rfl rfl
end Go.Proofs.YtnghccjoicmabaaGreatDoor
