import Derived.Test.YtpkbnogifdlcmaaGreatDoorXbJ
set_option linter.unusedSimpArgs false
set_option maxRecDepth 100000
set_option maxHeartbeats 8000000
open Go renaming Calls->Az,TypeId->A0,Value->X,World->Q
open Go.Ending renaming returned->F
open Go.IntKind renaming i64->C
open Go.Proofs.Tryz renaming prog->Aa
open Go.RowKit renaming wrap64->Bf
open Go.Value renaming agg->T,int->V,slice->W,tuple->R
open List renaming length->L
open Option renaming none->N,some->I
namespace Go.Proofs.YtpkbnogifdlcmaaGreatDoor
open Go.RowKit Go.Sort Go.Proofs.Tryz
variable{h:Bs}{w b:Nat}{r:KS}{K:Cc}{t:List Nat}{n:World}{ni:List BT}{wg ng:List As}{p:Value}{wj:List Value}{zw:BT->Nat}{np:KS->KS}
def E7(a:Int):Nat->List Oy->List (Oy×Int)
 |_,[]=>[]
 |b,t::r=>(t,Bf (Bf (a-1)-(b:Int)))::E7 a (b+1) r
theorem Sf(c:Int)(d:Oy):∀b a,E7 c a (b++[d])=E7 c a b++[(d,Bf (Bf (c-1)-((a+L b:Nat):Int)))]
 |[],a=>rfl
 |x::b,a=>by simp[E7,Sf c d b,show a+1+L b=a+(L b+1) by omega]
theorem ME(c:Int):∀a b,(E7 c b a).length=L a
 |[],b=>rfl
 |x::a,b=>by simp[E7,ME c a]
def EB(b:Bs)(a:KS):KS:={a with Br:=a.Br++E7 a.Bn 0 (b.map (·.1)),z:=a.z+L b}
theorem Ald{st:KS}(a:w<L h):EB (h.take (w+1)) st={EB (h.take w) st with Br:=(EB (h.take w) st).Br++[(h[w].1,Bf (Bf (st.Bn-1)-(w:Int)))],z:=(EB (h.take w) st).z+1}:=by
 unfold EB;rw[Av a,AC,A1,Axs,Sf,An,Awx,Ayj O1,Bg,Aw,Awx,Ayj O1];grind
def Dq(c:Int)(d:Nat)(b:Bs)(a:KS):KS:=EB b (BL 16 (L b:Int) {a with Bn:=c,Br:=a.Br.take d})
abbrev KJ:=KS×List Int
abbrev KA:=KJ×List Co
def De(c:BT->KJ->KJ)(e:Int)(f:Nat)(d:List BT)(a:KA):KA:=d.foldl (λa b=>(c b (Dq e f b.2.2.1 a.1.1,a.1.2),a.2++[⟨(b.1:Int),(L a.1.1.Bj:Int)⟩])) a
def DW(b:Nat)(c:BJ->BJ)(a:KS):KS:=match a.Bj[b]? with
 |some x=>{a with Bj:=a.Bj.set b (c x)}
 |none=>a
theorem QK{f:BJ->BJ}(a:w<L r.Bj):DW w f r={r with Bj:=r.Bj.set w (f r.Bj[w])}:=by simp[DW,a]
def D9(d:KS->KS)(e:BT->KJ->KJ)(f:List BT)(c:KJ):KJ:=
 let a:=d c.1
 let b:=De e a.Bn (L a.Br) f ((BL 17 0 a,c.2),[])
 (DW (L a.Bj) (λg=>{g with alts:=b.2}) b.1.1,b.1.2)
structure Th (c:Cc) (g h:Nat) (fr:Array X) (d:Addr×X) (f:List Int->List As->Prop) (b:BT) (a:KJ->KJ) (i:Nat):Prop where
 call:∀{js J M B w st wr},f js J->L js<=2000->w.cell? d.1=I d.2->d.1.block∉B->At {c with E:=J++M} B w st wr->st.z<=g->L b.2.2.1<=L st.Br->Az Aa h (#[T #[V C (b.1:Int),b.2.1,b.2.2.2.1]]++fr) wr λe w'=>e=F (R #[])/\∃J',f (a (st,js)).2 J'/\At {c with E:=J'++M} B w (a (st,js)).1 w'
 z:∀s,(a s).1.z<=s.1.z+i
 l:∀s,L s.1.Br<=(a s).1.Br.length+L b.2.2.1
 c:∀s,L s.1.Bj<=(a s).1.Bj.length
 j:∀s,(a s).2.length<=L s.2+1
theorem At.bq{wr:Q}{q:Addr×X}(e:At K t n r wr)(u:n.cell? q.1=I q.2)(p:q.1.block∉t)(h:Array X)(o:A0):∃a d,d=wr.alloc (.cells h o)/\At K a d r d/\(∀b c m,At b a d c m->At b t n c m)/\(∀j l,h[j]?=I l->∀{b c g},At b a d c g->g.cell? ⟨wr.heap.size,j,N⟩=I l)/\d.cell? q.1=I q.2/\q.1.block∉a:=by
 let ⟨a,f,i⟩:=e.cm
 let ⟨D,O,E,M,H,U,f⟩:=f
 have hb:Ow wr (wr.alloc (.cells h o)):=(Ae _ wr).alloc .refl _;have G:=AL u;refine⟨a,_,rfl,(CM.at ⟨_,_,_,_,_,_,f.bG hb⟩ (e.low.trans (hb.mono f.s.z))),λb c m k=>?_,λj l B b c g w=>w.cell (CS _ _ _ _ _ B) λhb=>by have:=(f.rg _ hb).2;simp at this,Bu hb (e.cell u p),λhb=>(i _ hb).elim p O1⟩;let ⟨v,x,y⟩:=k.cm
 exact⟨(e.af.then hb).trans k.af i,k.low,v,x,i.trans y (by have:=e.af.size;have:=hb.size;omega)⟩
def Sa(c:BT->KJ->KJ)(d:Int)(e:Nat)(b:BT)(a:KA):KA:=(c b (Dq d e b.2.2.1 a.1.1,a.1.2),a.2++[⟨(b.1:Int),(L a.1.1.Bj:Int)⟩])
theorem Ac3{T:BT->KJ->KJ}{d:Int}{m:Nat}{s:KA}(a:w<L ni):De T d m (ni.take (w+1)) s=Sa T d m ni[w] (De T d m (ni.take w) s):=by rw[Av a,De,Azs];rfl
theorem At.dV{wr:Q}{a:Nat}(c:At {K with E:=wg++pA w a p b wj::ng} t n r wr):wr.ownsRow 0 w a p b wj:=by
 let ⟨e,⟨f,k,g,j,i,l,d⟩,h⟩:=c.cm
 exact d.s.mem (A:=pA w a p b wj) O2
variable{su:BT->KJ->KJ}
theorem Aha{o:Addr×X}{d:Int}{m:Nat}{L f fr R}(i:∀c∈ni,Th K L f fr o R c (su c) (zw c))(k:∀c∈ni,zw c<=50000/\c.2.2.1.length<=1000)(b:KA)(n:m<=b.1.1.Br.length):∀a,a<=ni.length->(De su d m (ni.take a) b).1.1.z<=b.1.1.z+a*51001/\m<=(De su d m (ni.take a) b).1.1.Br.length/\b.1.1.Bj.length<=(De su d m (ni.take a) b).1.1.Bj.length/\(De su d m (ni.take a) b).2.length=b.2.length+a/\(De su d m (ni.take a) b).1.2.length<=b.1.2.length+a:=λa=>by
 induction a with
 |zero=>simpa[De]using n
 |succ a ih=>
  intro y;have g:a<ni.length:=O1;have h:=Ao g;let ⟨t,u,v,w,x⟩:=ih O1
  have e:=i _ h;have B:=k _ h;rw[Ac3 g];generalize De su d m (ni.take a) b=S at*;have p:=e.z (Dq d m ni[a].2.2.1 S.1.1,S.1.2);have q:=e.l (Dq d m ni[a].2.2.1 S.1.1,S.1.2);have r:=e.c (Dq d m ni[a].2.2.1 S.1.1,S.1.2);have s:=e.j (Dq d m ni[a].2.2.1 S.1.1,S.1.2);simp[Sa,Dq,EB,BL,ME]at p q r s ⊢;omega
theorem V1{c:Cc}{U f:Nat}{fr:Array X}{q:Addr×X}{R:List Int->List As->Prop}{T:BT->KJ->KJ}{k:BT->Nat}(aC:Ok c)(dr:∀bz an,(callFunc f bz).run Aa an=.ok (.enter f bz) an){aX:A0}{aY:X}{a2:Option Addr}{cap:Nat}(bd:∀v,Do {c with E:=v} w 144 [.iface aX aY] np b)(bc:∀i∈ni,Th c w f fr q R i (T i) (k i))(D:Ga c.W0 3 a2 (ni.map Li))(cJ:∀i∈pB a2,i<c.lo)(b9:∀i∈ni,CZ c.W0 i.2.1 i.2.2.1/\(∀a9,i.2.1.ownBlock=I a9->a9<c.lo)/\∃a4 a5,i.2.2.2.1=.iface a4 a5)(aG:∀i∈ni,k i<=50000/\L i.2.2.1<=1000)(du:b<=100000)(bK:(L ni)<=1000)(dj:U+100000000<=w)(dk:w<=8000000000){js J M B an st wr}(ax:R js J)(ds:(L js)<=1000)(bO:an.cell? q.1=I q.2)(bQ:q.1.block∉B)(aZ:At {c with E:=J++M} B an st wr)(d1:st.z<=U):
 Az Aa 142 #[.pointer (I ⟨c.K,0,N⟩),.agg #[.iface aX aY,W a2 (L ni) cap],.func (.func f) #[] fr] wr λaQ cZ=>aQ=F (.tuple #[])/\∃aq,R (D9 np T ni (st,js)).2 aq/\At {c with E:=aq++M} B an (D9 np T ni (st,js)).1 cZ:=by
 obtain⟨bm,ci,bT,a,cD,bE,bP,bS⟩:=aZ.bq bO bQ #[.iface aX aY,W a2 (L ni) cap] 294;have c0:=bE 0 _ rfl a;have bW:=(bd (J++M)).z st;have aM:=O0 ((bd (J++M)).call a O1);obtain⟨n,bf⟩:∃n,np st=n:=⟨_,rfl⟩;rw[bf]at aM bW;have c1:=O0 bf;have ap:=O0 (λav (cH:At {c with E:=J++M} bm ci n av)=>(GM (c:={c with E:=J++M}) ⟨aC.t,aC.l⟩ 17 0 O1).call cH O1);have ao:=O0 (Aha (d:=n.Bn) (m:=L n.Br) bc aG ((BL 17 0 n,js),[]) (Ac _));have c8:=O0 bc;have ct:=O0 b9;have cz:=O0 D;have cw:=O0 bP;have cx:=O0 bS;have ah:=O0 ax;have cs:=O0 aG;have d3:n.z<=U+100000:=O1;clear aZ bO bQ bd bf bW bc b9 D bP bS ax aG;go_enter func142,ntmps142;go_upto_region 1 with(fail)
 rw[<-bT];clear bT;go_upto_region 2 with(go_at_call 144;refine aM.o.mono ?_;rintro _ t ⟨rfl,y⟩;clear aM a c0)
 obtain⟨b5,cc,al,H,af,u,cQ,cS⟩:=y.lens;have ca:=y.Bn;have cO:t.drew.cell? ⟨c.K,2,N⟩=I (W b5 (L n.Bj) cc):=af;have cP:t.drew.cell? ⟨c.K,3,N⟩=I (V C n.Bn):=ca;have bZ:t.drew.cell? ⟨c.K,4,N⟩=I (W al (L n.Br) H):=u;have br:=O0 (ap.o _ (y.bG (Ae _ _).drew));obtain⟨aa,aV⟩:∃aa,L n.Bj=aa:=⟨_,rfl⟩;obtain⟨m,a8⟩:∃m,L n.Br=m:=⟨_,rfl⟩;obtain⟨d,ab⟩:∃d,n.Bn=d:=⟨_,rfl⟩;rw[a8]at bZ cS;rw[aV]at cO cQ;rw[ab]at cP;have bn:=O0 aV;have cp:=O0 a8;have co:=O0 ab;rw[ab,a8]at ao;clear af ca u aV a8 ab ap y;go_region
 go_wp2_with (go_at_call 146;refine br.o.mono ?_;rintro _ da ⟨rfl,E⟩;clear br;have aP:=bE 1 _ rfl E)
 obtain⟨o,aw⟩:∃o,BL 17 0 n=o:=⟨_,rfl⟩;have d4:o.z<=U+100001:=by rw[<-aw];simp only[BL];omega
 have dq:aa<L o.Bj:=by rw[<-aw];simp only[BL,Aw,bn.o,AO,Bc];omega
 rw[aw]at E ao;have c5:=O0 aw;clear aw;go_loopw [9,37] (λb0 ae wr=>∃(h:Nat) (aq:List As),h<=L ni/\ae=V C (h:Int)/\R (De T d m (ni.take h) ((o,js),[])).1.2 aq/\At {c with E:=aq++pA 184 2 b0 (De T d m (ni.take h) ((o,js),[])).2.length ((De T d m (ni.take h) ((o,js),[])).2.flatMap Gs)::M} bm ci (De T d m (ni.take h) ((o,js),[])).1.1 wr) (λ_ ae _=>L ni-(intOf ae).toNat)
 ·exact⟨0,J,Ai _,rfl,ah.o,E.ei⟩
 ·clear E ah aP;rename X=>b0
  obtain⟨h,ar,bG,rfl,ax,a⟩:=hrel;have ah:=O0 ax;obtain⟨bg,az,bh,aJ,bi⟩:=ao.o h bG;clear ax;by_cases ad:h<L ni
  ·have de:(0:Int)<=(h:Int):=O1;have b7:(h:Int)<(L ni:Int):=O1;have aO:=O0 (Ac3 (T:=T) (d:=d) (m:=m) (s:=((o,js),[])) ad);generalize De T d m (ni.take h) ((o,js),[])=S at*;have aH:=Ao ad;obtain⟨i,hb⟩:∃i,ni[h]=i:=⟨_,rfl⟩;obtain⟨aB,ba,a4,a5,aW⟩:=ct.o _ aH;have bD:=cs.o _ aH;have bB:=O0 (c8.o _ aH);obtain⟨gb,dh,rfl,-,aF⟩:=cz.o.db a.low cJ (λaQ=>by rw[Axr.1 aQ]at ad;simp at ad);have aR:=aF h (by rw[An];exact ad) 0 _ (by rw[AN];rfl);have aS:=aF h (by rw[An];exact ad) 1 _ (by rw[AN];rfl);have aT:=aF h (by rw[An];exact ad) 2 _ (by rw[AN];rfl);rw[hb]at aR aS aT aO aB ba aW bD bB;clear hb aF aH;obtain⟨am,cW,e,bv,b2,b1⟩:=i;simp only[Az7]at aR aS aT aB ba aW bD;subst aW;obtain⟨a1,a0,rfl⟩:∃a1 a0,cW=W a1 (L e) a0:=by obtain⟨a2,c,rfl,-⟩:=aB;exact⟨_,_,rfl⟩
   obtain⟨bx,bw,rfl⟩:=Cf a.dV;obtain⟨aK,t,bU,y,cE,ac,cK,cM⟩:=a.bq cw.o cx.o #[V C (am:Int),W a1 (L e) a0,.iface a4 a5] 297;have di:(L S.2)<=1000:=by simp only[Bc]at aJ;omega
   have cr:O9 (L S.1.2<=2000):=by show _<=_;first|omega|(simp only at bi;omega)
   have cG:S.1.1.z<=U+60000000:=by have:=Axt 51001 (Ay bG bK);omega
   have b6:=ac 0 _ rfl y;have a7:=ac 1 _ rfl y;obtain⟨b5,cc,al,H,af,u,cU,cV⟩:=y.lens;simp only at af u;have cN:=λj=>BM t j _ _ _ af;have cC:=λj=>BM t j _ _ _ b6;have a6:=O0 y.dV;have ai:O9 (∀j,Ow t (t.alloc j)):=λj=>bA;obtain⟨G,be⟩:∃G,S.2++[⟨(am:Int),(L S.1.1.Bj:Int)⟩]=G:=⟨_,rfl⟩;have aL:O9 (L G=L S.2+1/\G.flatMap Gs=S.2.flatMap Gs++[V C (am:Int),V C (L S.1.1.Bj:Int)]):=by subst be;constructor<;>simp[Gs]
   have ck:=O0 be;have bs:=O0 (λ(Z w4:Q) v' (hb:Ow t Z) (D:DQ Z 184 2 (W bx (L S.2) bw) v' (L S.2+1) (S.2.flatMap Gs++[V C (am:Int),V C (L S.1.1.Bj:Int)]) w4)=>At.eR (n':=L G) (xs':=G.flatMap Gs) y hb (by rw[aL.o.1,aL.o.2];exact D));clear be;clear a y;go_upto_region 8 with(fail)
   rw[<-bU];clear bU;have dp:(L S.1.1.Bj)<=9000000000:=O1;clear bg bh aJ bi;go_cut [9] (λcY O=>∃ag,O9 (ag=pA 184 2 cY (L G) (G.flatMap Gs)::M)/\At {c with E:=ar++ag} aK t S.1.1 O)
   case first=>
    go_region_law (first
     |(refine HD Wd (a6.o.alloc _) (AM t _) (m:=1) (c:=1) (s:=.tmp 41) (x:=.tmp 50) Od Od rfl rfl rfl (by intro cX ay;simp at ay;rcases ay with rfl|rfl<;>rfl) O1 O1 ?_;intro b7 aP w4 D;have Y:=O0 (bs.o _ _ _ (by first|exact ai.o _|exact(ai.o _).drew) D);clear D))
    all_goals
     go_wp2_with fail
     go_meet
     exact⟨_,rfl,Y.o⟩
   case rest=>
    rename Q=>O
    obtain⟨ag,cn,a⟩:=hcut;clear af u cU cV b6 a7 cN cC a6 ai bs aL aR aS aT;obtain⟨cB,bk,g⟩:=a.k;have bj:O.drew.cell? ⟨c.K,3,N⟩=I (V C S.1.1.Bn):=g.c3;have dD:O.drew.frozen? ⟨c.K,3,N⟩=false:=g.f 3;obtain⟨al,H,bJ,u,cd,bC⟩:=(a.ed d).dX;have d9:(O.setCell ⟨c.K,3,N⟩ (V C d)).drew.cell? ⟨c.K,4,N⟩=I (W al (L S.1.1.Br) H):=u;replace cd:(O.setCell ⟨c.K,3,N⟩ (V C d)).drew.frozen? ⟨c.K,4,N⟩=false:=cd
    have bZ:O.drew.cell? ⟨c.K,4,N⟩=I (W al (L S.1.1.Br) H):=by rw[Ah _ _ _ _ (Cv O4)]at u;exact u
    have dE:O.drew.frozen? ⟨c.K,4,N⟩=false:=g.f 4;have bu:=O0 ((bC m az).bG (Ae _ _).drew);have dw:(L S.1.1.Br)<=8000000000:=by have:=a.len;omega
    obtain⟨au,aD⟩:∃au:KS,{S.1.1 with Bn:=d,Br:=S.1.1.Br.take m}=au:=⟨_,rfl⟩;have dm:au.z<=U+60000000:=by subst aD;exact cG
    have bt:O9 (At {c with E:=ar++ag} aK t au ((O.setCell ⟨c.K,3,N⟩ (V C d)).setCell ⟨c.K,4,N⟩ (W al m H)).drew):=by subst aD;exact bu.o
    have c2:=O0 aD;have dy:(m:Int)<=(L S.1.1.Br:Int):=by have:m<=L S.1.1.Br:=az;omega
    have dx:(0:Int)<=(m:Int):=O1;generalize (L S.1.1.Br)=ce at*;have dz:(ce:Int)<=(H:Int):=by have:ce<=H:=bJ;omega
    have d0:m<=H:=O1;clear a g u bC bu aD az bJ;have ap:=O0 ((GM (c:={c with E:=ar++ag}) ⟨aC.t,aC.l⟩ 16 (L e:Int) O1).call bt.o O1);have a7:=ac 1 _ rfl bt.o;go_upto_region 9 with(fail)
    go_region
    go_wp2_with (go_at_call 146;refine ap.o.mono ?_;rintro _ da ⟨rfl,E⟩;clear ap;replace a7:=ac 1 _ rfl E)
    obtain⟨p,aE⟩:∃p:KS,BL 16 (L e:Int) au=p:=⟨_,rfl⟩;have dn:p.z<=U+60000001:=by subst aE;simp only[BL];omega
    rw[aE]at E;have c6:=O0 aE;clear aE a7;go_loopw [73] (λae wr=>∃g:Nat,g<=L e/\ae=V C (g:Int)/\At {c with E:=ar++ag} aK t (EB (e.take g) p) wr) (λae _=>L e-(intOf ae).toNat)
    ·exact⟨0,Ai _,rfl,by simpa[EB,E7]using E⟩
    ·clear E;obtain⟨g,aG,rfl,a⟩:=hrel;rename Q=>wr
     have bb:(EB (e.take g) p).z<=U+60002000:=by simp only[EB,Awx];omega
     by_cases bI:g<L e
     ·have df:(0:Int)<=(g:Int):=O1;have dg:(g:Int)<(L e:Int):=O1;obtain⟨a9,j,rfl,cf,ch⟩:=CZ.at_ (aB.db a.low ba) bI;have aN:=O0 (Ald (st:=p) bI);obtain⟨a3,bl,bV⟩:∃a3 bl,e[g]=(a3,bl):=⟨_,_,rfl⟩;rw[bV]at cf ch aN;simp only at cf ch aN;have ab:(EB (e.take g) p).Bn=p.Bn:=rfl;generalize EB (e.take g) p=av at*;generalize p.Bn=d2 at*;obtain⟨B3,⟨db,dI,cB,bk,dG,dJ,ak⟩,bN⟩:=a.cm;obtain⟨r,aI⟩:∃r,r=wr.alloc (.cells #[.string a3,V C (bl:Int)] 131):=⟨_,rfl⟩;have aj:Ow wr r:=by rw[aI];exact bA
      have bY:r.cell? ⟨wr.heap.size,0,N⟩=I (.string a3):=by rw[aI];simp
      have u:r.cell? ⟨c.K,4,N⟩=I bk:=(ak.bG aj).k.c4;have bj:r.cell? ⟨c.K,3,N⟩=I (V C av.Bn):=(ak.bG aj).k.c3;rw[ab]at bj;have d8:=λj=>BM r j _ _ _ u;have d7:=λj=>BM r j _ _ _ bj;have d5:=λj=>BM r j _ _ _ bY;have a6:=O0 ((ak.s.bG aj).mem (A:=lA bk av.Br) O2);have dv:(L av.Br)<=9000000000:=by have:=ak.z.2.1;omega
      have cv:=O0 (λ(Z w4:Q) v' x (hb:Ow r Z)=>a.dK (Z:=Z) (w4:=w4) (v':=v') (x:=x) ak bN (aj.trans (hb.mono aj.size)));have ai:O9 (∀j,Ow r (r.alloc j)):=λj=>bA;have dt:g<1000:=O1;clear bV aj ak a bN bb ab ao;go_upto_region 14 with(fail)
      rw[<-aI];clear aI;go_region_law (first
       |(refine HD UL (a6.o.alloc _) (AM r _) (m:=1) (c:=1) (s:=.tmp 82) (x:=.tmp 93) Od Od rfl rfl rfl (by intro cX ay;simp at ay;rcases ay with rfl|rfl<;>rfl) O1 O1 ?_;intro b7 aP w4 D;simp only[IntWalk.i64_left]at D;obtain⟨dc,dd,b8⟩:=cv.o _ _ _ (a3,Bf (Bf (d2-1)-(g:Int))) (by first|exact ai.o _|exact(ai.o _).drew) D;have Y:=O0 b8;clear D b8))
      all_goals
       go_wp2;exact⟨⟨g+1,O1,by go_num,by rw[aN.o];exact Y.o⟩,by simp[intOf];omega⟩
     ·obtain rfl:g=L e:=O1;have cI:¬(L e:Int)<(L e:Int):=O1;rw[AP]at a bb;have dK:=ac 0 _ rfl a;have dL:=ac 1 _ rfl a;have dM:=ac 2 _ rfl a;have bM:(L e)<=(EB e p).Br.length:=by simp only[EB,Aw,ME,An];omega
      have cl:=O0 (bB.o.call ah.o cr.o cK cM a O1 bM);have c7:O9 (Dq d m e S.1.1=EB e p):=by show _=_;rw[<-c6.o,<-c2.o];rfl
      clear a bb bM;have bo:O9 (Sa T d m (am,W a1 (L e) a0,e,.iface a4 a5,b2,b1) S=(T (am,W a1 (L e) a0,e,.iface a4 a5,b2,b1) (EB e p,S.1.2),G)):=by show _=_;unfold Sa;simp only[c7.o,ck.o]
      go_wp2_with (refine cl.o.mono ?_;rintro _ w5 ⟨rfl,c9,cy,cj⟩)
      refine⟨⟨h+1,c9,O1,by go_num,by rw[aO.o,bo.o];exact cy,?_⟩,by simp[intOf];omega⟩;rw[aO.o,bo.o];have cF:=cn.o;subst cF;exact cE _ _ _ cj
  ·obtain rfl:h=L ni:=O1;have cI:¬(L ni:Int)<(L ni:Int):=O1;have bp:O9 (D9 np T ni (st,js)=(DW aa (λx=>{x with alts:=(De T d m ni ((o,js),[])).2}) (De T d m ni ((o,js),[])).1.1,(De T d m ni ((o,js),[])).1.2)):=by
    show _=_;unfold D9;simp only[c1.o,cp.o,co.o,bn.o,c5.o]
   rw[AP]at a ah bg az bh aJ;clear bi;generalize De T d m ni ((o,js),[])=S at*;obtain⟨bx,bw,rfl⟩:=Cf a.dV;have bH:aa<L S.1.1.Bj:=O1;obtain⟨a9,cc,x,af,dC,dH,Y⟩:=a.ev bH;have cq:=O0 (QK (f:=λx=>{x with alts:=S.2}) bH);have Y:=O0 Y;have bX:=a.lens;have dl:(L S.1.1.Bj)<=8000000000:=by obtain⟨_,_,_,_,-,-,aZ,-⟩:=bX;have:=Axt 51001 bK;omega
   have bY:(0:Int)<=(aa:Int):=O1;have d6:(aa:Int)<(L S.1.1.Bj:Int):=O1;clear bX a bg az bh aJ ao;go_wp2;exact bF ⟨rfl,ar,by rw[bp.o];exact ah.o,cD _ _ _ (by rw[bp.o,cq.o];exact Y.o)⟩ O2 rfl rfl
end Go.Proofs.YtpkbnogifdlcmaaGreatDoor
