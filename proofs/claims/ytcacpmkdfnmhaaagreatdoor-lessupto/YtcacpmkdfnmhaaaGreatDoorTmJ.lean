import Derived.Test.YtcacpmkdfnmhaaaGreatDoorSnJ
import Derived.Lib.ItoaNum
set_option linter.unusedSimpArgs false
set_option maxRecDepth 100000
set_option maxHeartbeats 1000000
open Go renaming Calls->Av,World->Q
open Go.Ending renaming returned->F
open Go.IntKind renaming i64->C
open Go.Proofs.Tryz renaming prog->Aa
open Go.Value renaming agg->T,bool->A,int->V,pointer->J,slice->W,string->S,tuple->R
open List renaming length->L
open Option renaming none->N,some->I
open Or renaming inl->Ba,inr->Aq5
namespace Go.Proofs.YtcacpmkdfnmhaaaGreatDoor
open Go.RowKit Go.Sort
variable{d:List Bt}{K vs:List UInt8}{q nr:Br}{c yk:Bq}{wo:Nat->Nat->Int}{w s m j D:Nat}{n p H:World}{y nk:List Nat}{G:Option Addr}{n0:Nat->Int×Option Addr×Nat×Nat}{vm:AR}{nh:Ending}{sb:Cg}{o:Int}
theorem Ol(a:List Int)(b:1<=L a):a=a.take (L a-1)++[(a[L a-1]?).getD 0]:=by
 rcases Asl a with rfl|⟨c,d,rfl⟩
 ·simp at b
 ·simp
theorem UX(a:List Int)(b:2<=L a):a=a.take (L a-2)++[(a[L a-2]?).getD 0,(a[L a-1]?).getD 0]:=by
 rcases Asl a with rfl|⟨c,d,rfl⟩
 ·simp at b
 ·rcases Asl c with rfl|⟨c,e,rfl⟩
  ·simp at b
  ·simp
theorem Aqa(e:q.ended=false)(a:Cd d K q c)(b:Cg):CG d K (if Ch 1 q then E3 b (Cp 1 q) else BE 2 q,N) (G2 b c):=by
 unfold G2;rw[N0 a];cases hr:Ch 1 q with
 |true=>exact G8 (Tg e hr) ((a.d8 hr).add b)
 |false=>exact VQ e a hr
theorem Adh(h:q.ended=false)(b:Cd d K q c)(f:Int)(a:Nat)(e:a<=L q.now.s):CG d K (if Ch 1 q then E3 ⟨3,f,0,0,q.now.s.drop (L q.now.s-a)⟩ (Cw (q.now.s.take (L q.now.s-a)) (Cp 1 q)) else BE 2 q,N) (IU f a c):=by
 unfold IU;have g:c.stack.drop (L c.stack-a)=q.now.s.drop (L q.now.s-a):=by rw[b.stack,Am5 _ _ _ e]
 rw[g];exact SD h (b.drop e) _
theorem Ac7(g:q.ended=false)(e:Cd d K q c)(a:Nat)(j:a+1<=L q.now.s)(b:Int):CG d K (Cw (q.now.s.take (L q.now.s-1-a)++[b]) q,N) (Ff b (BQ a (BQ 1 c))):=by
 have f:=(e.drop (n:=1) O1).drop (by show a<=(q.now.s.take (L q.now.s-1)).length;grind);have h:(q.now.s.take (L q.now.s-1)).take ((q.now.s.take (L q.now.s-1)).length-a)=q.now.s.take (L q.now.s-1-a):=by
  grind
 refine G8 g ?_;have i:Cd d K (Cw ((q.now.s.take (L q.now.s-1)).take ((q.now.s.take (L q.now.s-1)).length-a)++[b]) q) (Ff b (BQ a (BQ 1 c))):=(f.push b);grind
theorem Aiv(e:q.ended=false)(a:Cd d K q c)(b:Int):CG d K ({q with now:={q.now with at_:=b}},N) {c with fr:={c.fr with at_:=b}}:=
 G8 e ⟨⟨a.cells,a.stack,a.base,a.BF,a.su,a.sm,a.mu,a.mm,a.state,a.kind,a.text⟩,a.code,rfl⟩
theorem Aht(a:Cd d K q c)(b:Di d q):EV c:=⟨by rw[a.su,a.sm];exact b.steps,by rw[a.sm];exact b.fuel,by rw[a.mu,a.mm];exact b.used,by rw[a.mm];exact b.spare⟩
theorem Am1(a:EV c)(b:DC c=true):EV (Cn (BR c)):=by
 rw[D3 b];have d:1<=c.sm-c.su:=by simpa[DC]using b
 have:=a.su;exact⟨by simp[Cn];omega,a.sm,a.mu,a.mm⟩
structure Aoq (a:Bq):Prop where
 s:(L a.stack)<=520000000
 c:(L a.cells)<=3000000
 d:(L a.BF)<=3000000
theorem Vl(a:List Bt):∀b c,(JC a c b).length=L b
 |[],_=>rfl
 |f::r,c=>by rw[JC,AM,Vl a r,AM]
theorem Si(f:CC d wo)(e:G6 d K q c)(a:RI d wo q):Aoq c:=by
 have g:=a.size;have h:=a.b.steps;have i:=a.b.fuel;have j:=a.b.used;have k:=a.b.spare;have l:=a.b.nc;have m:=f.M3;have n:=a.dl;refine⟨?_,?_,?_⟩
 ·rw[e.stack,Ay];omega
 ·rw[e.cells];omega
 ·rw[e.BF,Vl];omega
theorem Afr{j:Bq}(r:CC d wo)(a:G6 d K q j)(e:E5 d wo q):Wf (L d) j:=by
 have i:=Si r a e.toRI;have hb:=i.s;have o:=e.b.steps;have p:=e.b.fuel;have y:=e.ne;refine⟨?_,?_,?_,?_,?_,by have:=i.c;omega,?_⟩
 ·rw[a.stack];intro x;simp_all
 ·rw[a.stack,a.cells];intro m f;rcases Ag.1 f with f|f
  ·let ⟨n,t,u⟩:=AP.1 f
   exact(e.ds n t).1 m u
  ·exact e.s m f
 ·rw[a.cells];intro w v;have h:=e.b.cells w v;exact⟨h.l,h.g,h.k⟩
 ·rw[a.base,a.stack,Ay];omega
 ·rw[a.sm,a.su];omega
 ·exact⟨by rw[a.su,a.sm];exact o,by rw[a.sm];exact p,by rw[a.mu,a.mm];exact e.b.used,by rw[a.mm];exact e.b.spare⟩
theorem Tp{a:List Bt}(e:CC a wo)(l:Hl w n m a G j n0)(k:MM w n s m c y)(b:G6 a K q c)(f:E5 a wo q):Av Aa 98 #[J (I ⟨s,0,N⟩)] n λg i=>∃h,CG a K (F3 a q) h/\BL w s m y n h (R #[]) g i:=by
 refine(Afb k l (Afr e b f) (by have:=(Si e b f.toRI).d;omega)).mono λg i o=>⟨_,?_,o⟩;have:=QF e (q.fuel-q.steps).toNat f b rfl;unfold Yo F3;rw[b.sm,b.su];omega
def QW(f c d:Nat)(b:List Nat)(i:Q)(e:List Bt)(h:List UInt8)(g:AR)(j:Q):Prop:=∃a,CG e h g a/\BL f c d b i a (R #[]) (F (R #[])) j
theorem Ij(e:AF y n p)(f:∀a∈nk,a∈y\/n.heap.size<=a)(b:BL w s m nk p c (R #[]) nh H)(g:CG d K vm c):nh=F (R #[])/\O9 (QW w s m y n d K vm H):=by
 exact⟨b.1,c,g,b.of e f rfl⟩
theorem Al7{au:Q}{am:Nat}{a1:List Nat}{l:List Bt}{bh:Nat}(ap:CC l wo)(aF:Hl w au m l G bh n0)(h:MM w au am m c a1)(H:Cd l K q c)(k:FD l wo q):
 Av Aa 99 #[J (I ⟨am,0,N⟩)] au λb E=>∃ac,CG l K (CQ l q) ac/\BL w am m a1 au ac (R #[]) b E:=by
 have aa:=Aht H k.b;have u:=Om k.b H.su H.sm;cases hb:Ce q with
 |false=>
  rw[hb]at u;refine(Ac1 h aa u).mono λb E a=>⟨_,?_,a⟩;unfold CQ;rw[hb,(G4 k.b).2 hb];exact NB k.b.live H 1
 |true=>
  rw[hb]at u;have aJ:=(JG k.b).1.1 hb;have M:=ON ap k;have a8:=Si ap H.toG6 k.toRI;have p:=H.next u;have ax:=Am1 aa u;obtain⟨D,-,-,-⟩:=Q6 k;obtain⟨bi,bc⟩:=Qu k.f.g;have ak:c.fr.at_=((q.now.at_.toNat:Nat):Int):=by rw[H.at_];have:=k.f.a.1;omega
  have af:q.now.at_.toNat<L c.fr.code:=by rw[H.code];exact k.f.a.2
  have al:q.now.at_.toNat<=1000000000:=by
   have av:=k.f.a.2;rw[bc]at av;have:=(ap.code _ bi).len;omega
  have t:c.fr.code[q.now.at_.toNat]=Dv l q:=by
   unfold Dv;rw[AA k.f.a.2,Arn];simp only[H.code]
  have ai:(Cn (BR c)).stack=c.stack:=by rw[D3 u];rfl
  have ae:(Cn (BR c)).cells=c.cells:=by rw[D3 u];rfl
  have ah:c.stack=flat q++q.now.s:=H.stack;have ag:c.cells=q.cells:=H.cells;have bX:(L c.stack)=(flat q).length+L q.now.s:=by rw[ah,Ay]
  have bP:=a8.s;have bQ:=a8.c;have bR:=a8.d;revert t M;generalize aw:Dv l q=i;generalize wo q.now.g.toNat q.now.at_.toNat=d;intro M t;obtain⟨⟨cf,ch⟩,-⟩:=M.f;obtain⟨v,O⟩:∃v:Nat,i.op=(v:Int):=⟨i.op.toNat,O1⟩;have bu:v<21:=O1;have bt:i.op.toNat=v:=O1;obtain⟨an,bB,bC,bD,bE,bG⟩:=WZ M.f O bu;have aN:=M.w;rw[bt]at aN;obtain⟨ad,ci⟩:=Qt aN;obtain⟨bL,bM,bN⟩:=M.dl;obtain⟨bj,bO⟩:=M.gl;have ca:(BD q).now.s=q.now.s:=rfl;have ay:=k.s;have bY:=k.b.nc;have ce:=k.b.used;have bV:(L l)<=L q.cells:=O1;have bU:=ap.M3;by_cases a2:i.op=8
  ·have bx:0<L q.now.s:=by
    have:v=8:=O1;subst this;simp[D5]at ad;omega
   have b1:=Rp M k aJ a2;have bz:=Acf p bx;have bb:CQ l q=F3 l (HL (BD q)):=by
    unfold CQ;rw[if_pos hb,aw];simp only;rw[if_neg O1,if_pos a2]
   rw[bb];exact Aid (λac=>CG l K (F3 l (HL (BD q))) ac) h aa u ak af al (by rw[t];exact a2) O1 O1 O1 λE a5 o bl=>Tp ap (aF.low bl) o bz b1
  ·by_cases ao:i.op=19
   ·have b2:=Sv M k aJ ao;have aW:CQ l q=F3 l (BD q):=by
     unfold CQ;rw[if_pos hb,aw];simp only;rw[if_pos ao]
    rw[aW];have aH:=h.dx;refine(X7 (QW w am m a1 au l K (F3 l (BD q))) h aa u ak af al (by rw[t,ao];simp[Qb]) λE a5 a6 o z B _=>?_).mono λb E a=>?_
    ·rw[t,ao];refine⟨λh=>O1,λh=>O1,λh=>O1,λh=>O1,λh=>O1,λh=>O1,λh=>O1,λh=>O1,λh=>O1,λ_=>?_,λh=>O1⟩;refine(Tp ap (aF.low (z.low aH.2 aH.1)) o p.toG6 b2).mono ?_;rintro b U ⟨ac,b0,a⟩;exact Ij z B a b0
    ·obtain⟨rfl,ac,av,a7⟩:=a;exact⟨ac,av,a7⟩
   ·rw[Ai8 hb aw ao a2];by_cases bv:v=2\/v=3\/v=4\/v=5
    ·rcases bv with rfl|rfl|rfl|rfl
     ·simp[D5]at ad;have aq:=an O1;have ar:c.fr.code[q.now.at_.toNat].a=((i.a.toNat:Nat):Int):=by rw[t];omega
      have bp:i.a.toNat<L c.stack:=O1;refine(Aee h aa u ak af al (by rw[t];exact O) O1 ar bp).mono λb E a=>⟨_,?_,a⟩;have aX:Cl i (BD q)=Cw (q.now.s++[(q.now.s[L q.now.s-1-i.a.toNat]?).getD 0]) (BD q):=by unfold Cl;rw[O];rfl
      have bg:c.stack[L c.stack-1-i.a.toNat]'(by omega)=(q.now.s[L q.now.s-1-i.a.toNat]?).getD 0:=by
       have:=Up (flat q) q.now.s i.a.toNat O1;rw[<-ah,AA O1]at this;rw[<-this];rfl
      rw[aX,bg];exact G8 D (p.push _)
     ·simp[D5]at ad;have aY:Cl i (BD q)=if Ch 1 (BD q) then E3 ⟨2,0,(q.now.s[L q.now.s-1]?).getD 0,(q.now.s[L q.now.s-2]?).getD 0,[]⟩ (Cw (q.now.s.take (L q.now.s-2)) (Cp 1 (BD q))) else BE 2 (BD q):=by unfold Cl;rw[O];rfl
      refine(Wq h aa u ak af al O1 O1 _ (Ba ⟨by rw[t];exact O,flat q++q.now.s.take (L q.now.s-2),(q.now.s[L q.now.s-2]?).getD 0,(q.now.s[L q.now.s-1]?).getD 0,?_,rfl⟩)).mono λb E a=>⟨_,?_,a⟩
      ·rw[ah,AH,<-UX q.now.s O1]
      ·rw[aY];exact SD D (Zd p (by show 2<=L q.now.s;omega)) _
     ·simp[D5]at ad;have aq:=an O1;have aZ:Cl i (BD q)=Cw (q.now.s.take (L q.now.s-1-i.a.toNat)++[(q.now.s[L q.now.s-1]?).getD 0]) (BD q):=by unfold Cl;rw[O];rfl
      refine(Wq h aa u ak af al O1 O1 _ (Aq5 ⟨by rw[t];exact O,flat q++q.now.s.take (L q.now.s-1),(q.now.s[L q.now.s-1]?).getD 0,i.a.toNat,?_,by rw[t];omega,?_,rfl⟩)).mono λb E a=>⟨_,?_,a⟩
      ·rw[ah,AH,<-Ol q.now.s O1]
      ·rw[Ay,Aqw];omega
      ·rw[aZ];exact Ac7 D p i.a.toNat (by show i.a.toNat+1<=L q.now.s;omega) _
     ·simp[D5]at ad;have aq:=an O1;have ba:Cl i (BD q)=Cw (q.now.s.take (L q.now.s-1)) {BD q with cells:=q.cells.set ((q.now.s[L q.now.s-2-i.a.toNat]?).getD 0).toNat ⟨5,0,(q.now.s[L q.now.s-1]?).getD 0,0,[]⟩}:=by unfold Cl;rw[O];rfl
      have aL:=ay.at (i:=L q.now.s-2-i.a.toNat) O1;refine(Ajg h aa u ak af al (by rw[t];exact O) O1 (s:=flat q++q.now.s.take (L q.now.s-1)) (x:=(q.now.s[L q.now.s-1]?).getD 0) ?_ (j:=i.a.toNat) (r:=((q.now.s[L q.now.s-2-i.a.toNat]?).getD 0).toNat) (by rw[t];omega) ?_ ?_ ?_).mono λb E a=>⟨_,?_,a⟩
      ·rw[ah,AH,<-Ol q.now.s O1]
      ·rw[Ay,Aqw];omega
      ·rw[Up _ _ _ (by rw[Aqw];omega),Aqw,List.getElem?_take];rw[if_pos O1,show min (L q.now.s-1) (L q.now.s)-1-i.a.toNat=L q.now.s-2-i.a.toNat by omega];rw[AA O1]at aL ⊢;simp only[Arn]at aL ⊢;congr 1
       omega
      ·rw[ag];omega
      ·rw[ba];exact Aax D p (by show 1<=L q.now.s;omega)
    ·have bw:Qb c.fr.code[q.now.at_.toNat].op:=by rw[t,O];unfold Qb;omega
     refine(X7 (QW w am m a1 au l K (Cl i (BD q),N)) h aa u ak af al bw λE a5 a6 o z B bk=>?_).mono λb E a=>?_
     ·rw[t];have bZ:(Cn (BR c)).stack.length<=1000000000:=by rw[ai];omega
      have bS:(Cn (BR c)).cells.length<=100000000:=by rw[ae];omega
      refine⟨λb=>?_,λb=>?_,λb=>?_,λb=>?_,λb=>?_,λb=>?_,λb=>?_,λb=>?_,λb=>?_,λb=>absurd b ao,λb=>?_⟩
      ·have e:Cl i (BD q)=if Ch 1 (BD q) then E3 ⟨1,i.a,0,0,[]⟩ (Cp 1 (BD q)) else BE 2 (BD q):=by unfold Cl;rw[b];rfl
       refine(M7 ⟨1,i.a,0,0,[]⟩ (W N 0 0) ⟨N,0,rfl,λi aw=>absurd aw O2⟩ ⟨_,_,_,rfl⟩ o ax O1 O1).mono λY U a=>Ij z B a ?_;rw[e];exact Aqa D p _
      ·have bT:=bj b;refine⟨by rw[IntKind.wrap_i32];omega,(Nr i.a o O1).mono λY U a=>Ij z B a ?_⟩;have e:Cl i (BD q)=Cw (q.now.s++[i.a]) (BD q):=by unfold Cl;rw[b];rfl
       rw[e];exact G8 D (p.push i.a)
      ·obtain rfl:v=6:=O1;simp[D5]at ad;have aq:=an O1;obtain⟨j,ar⟩:∃j:Nat,i.a=(j:Int):=⟨i.a.toNat,O1⟩;have e:Cl i (BD q)=Cw (q.now.s.take (L q.now.s-i.a.toNat)) (BD q):=by unfold Cl;rw[b];rfl
       rw[ar];refine(N4 j o (by rw[ai];omega) O1).mono λY U a=>Ij z B a ?_;rw[e,ar,A9];exact G8 D (p.drop (n:=j) (by show j<=L q.now.s;omega))
      ·obtain rfl:v=7:=O1;have aq:=an O1;obtain⟨j,ar⟩:∃j:Nat,i.a=(j:Int):=⟨i.a.toNat,O1⟩;have e:Cl i (BD q)=if Ch i.a (BD q) then F4 i.a.toNat (Cp i.a (BD q)) else BE 2 (BD q):=by unfold Cl;rw[b];rfl
       rw[e,ar,A9];exact(Ag1 j O1 o ax O1 O1).mono λY U a=>Ij z B a (Aql D p j)
      ·have aI:2<=L q.now.s:=by
        have:D5 v i.a=2:=by unfold D5;rw[if_neg O1,if_neg O1,if_neg O1,if_neg O1,if_neg O1,if_neg O1,if_neg O1,if_neg O1,if_neg O1,if_neg O1]
        omega
       have a0:=ay.at (i:=L q.now.s-1) O1;have b9:=ay.at (i:=L q.now.s-2) O1;have e:Cl i (BD q)=JB i.op (q.now.s.take (L q.now.s-2)) (Co q ((q.now.s[L q.now.s-2]?).getD 0)) (Co q ((q.now.s[L q.now.s-1]?).getD 0)) (BD q):=by
        unfold Cl;rw[if_neg O1,if_neg O1,if_neg O1,if_neg O1,if_neg O1,if_neg O1,if_neg O1,if_neg O1,if_neg O1,if_neg O1,if_neg O1,if_neg O1,if_neg O1];rfl
       obtain⟨x,a4⟩:∃x:Nat,(q.now.s[L q.now.s-2]?).getD 0=(x:Int):=⟨((q.now.s[L q.now.s-2]?).getD 0).toNat,O1⟩;obtain⟨y,ab⟩:∃y:Nat,(q.now.s[L q.now.s-1]?).getD 0=(y:Int):=⟨((q.now.s[L q.now.s-1]?).getD 0).toNat,O1⟩;rw[a4]at b9 e;rw[ab]at a0 e;have b5:x<(Cn (BR c)).cells.length:=by rw[ae,ag];omega
       have az:y<(Cn (BR c)).cells.length:=by rw[ae,ag];omega
       refine(Aiy i.op b o ax O1 O1 (s:=flat q++q.now.s.take (L q.now.s-2)) (x:=x) (y:=y) ?_ b5 az).mono λY U a=>Ij z B a ?_
       ·rw[ai,ah,AH,<-a4,<-ab,<-UX q.now.s aI]
       ·rw[e];have aT:(Cn (BR c)).cells[x]=Co q (x:Int):=by
         unfold Co;rw[A9];simp only[ae,ag];rw[AA O1];rfl
        have aV:(Cn (BR c)).cells[y]=Co q (y:Int):=by
         unfold Co;rw[A9];simp only[ae,ag];rw[AA O1];rfl
        rw[aT,aV];exact Aca D p i.op _ _ aI
      ·obtain rfl:v=15:=O1;simp[D5]at ad;have aq:=an O1;obtain⟨n,br⟩:∃n:Nat,i.a % 256=(n:Int):=⟨(i.a % 256).toNat,O1⟩;have e:Cl i (BD q)=if Ch 1 (BD q) then E3 ⟨3,i.a / 256,0,0,q.now.s.drop (L q.now.s-(i.a % 256).toNat)⟩ (Cw (q.now.s.take (L q.now.s-(i.a % 256).toNat)) (Cp 1 (BD q))) else BE 2 (BD q):=by unfold Cl;rw[b];rfl
       have bf:i.a.tdiv 256=i.a / 256:=Int.tdiv_eq_ediv_of_nonneg aq.1;refine⟨O1,?_⟩;rw[bf,e,br,A9];have aK:=Adh D p (i.a / 256) n (by show n<=L q.now.s;omega);by_cases b7:(L c.stack)=0
       ·have bs:n=0:=O1;subst bs;exact(Ahd (i.a / 256) o ax O1 (by rw[ai];exact Asj b7)).mono λY U a=>Ij z B a aK
       ·exact(Af1 (i.a / 256) n O1 o ax O1 O1 (by rw[ai];omega) (by rw[ai];omega)).mono λY U a=>Ij z B a aK
      ·obtain rfl:v=16:=O1;simp[D5]at ad;have a0:=ay.at (i:=L q.now.s-1) O1;have e:Cl i (BD q)=I7 i.a (BD q):=by unfold Cl;rw[b];rfl
       obtain⟨y,ab⟩:∃y:Nat,(q.now.s[L q.now.s-1]?).getD 0=(y:Int):=⟨((q.now.s[L q.now.s-1]?).getD 0).toNat,O1⟩;rw[ab]at a0;have az:y<(Cn (BR c)).cells.length:=by rw[ae,ag];omega
       have bn:((BD q).now.s.getLast?).getD 0=(y:Int):=by rw[Ath];exact ab
       have aM:=Apn D p i.a (by show 0<L q.now.s;omega);rw[bn]at aM;refine(Acs i.a o O1 (s:=flat q++q.now.s.take (L q.now.s-1)) (r:=y) ?_ az ?_).mono λY U a=>Ij z B a ?_
       ·rw[ai,ah,AH,<-ab,<-Ol q.now.s O1]
       ·have b6:y<L q.cells:=O1;have:=(k.b.cells q.cells[y] (Ao b6)).fl;simp only[ae,ag];omega
       ·rw[e];exact aM
      ·obtain rfl:v=17:=O1;simp[D5]at ad;have a0:=ay.at (i:=L q.now.s-1) O1;have e:Cl i (BD q)=HY i.alts (BD q):=by unfold Cl;rw[b];rfl
       obtain⟨y,ab⟩:∃y:Nat,(q.now.s[L q.now.s-1]?).getD 0=(y:Int):=⟨((q.now.s[L q.now.s-1]?).getD 0).toNat,O1⟩;rw[ab]at a0;have az:y<(Cn (BR c)).cells.length:=by rw[ae,ag];omega
       have a3:LQ w E a6 i.alts:=by
        obtain⟨bI,n,bK,aO,aP⟩:=bk;obtain⟨a9,aC,aB,aR,aQ,aD,aS,aj,-⟩:=o;have aG:=aj.cd;have bq:=aj.m.at 4 rfl;have bm:(Cn (BR c)).fr.code=c.fr.code:=by rw[D3 u];rfl
        rw[bm]at aG;obtain⟨bJ,bH,-,be,b8,a3⟩:=aG.alts af;rw[bq,be]at aO;cases aO;rw[b8]at aP;cases aP;rw[t]at a3;exact a3
       obtain⟨bW,bo⟩:=Vt M.f;refine(Aov i.alts a6 a3 (λx a4=>?_) O1 o O1 (s:=flat q++q.now.s.take (L q.now.s-1)) (r:=y) ?_ az).mono λY U a=>Ij z B a ?_
       ·have:=bo x a4;omega
       ·rw[ai,ah,AH,<-ab,<-Ol q.now.s O1]
       ·rw[e];exact Anw D p i.alts (by show 0<L q.now.s;omega)
      ·have e:Cl i (BD q)={BD q with now:={(BD q).now with at_:=i.a}}:=by unfold Cl;rw[b];rfl
       obtain⟨a9,aC,aB,aR,aQ,aD,aS,aj,aE⟩:=o;refine⟨⟨_,aj.m.at 5 rfl⟩,aj.m.fz 5,{Cn (BR c) with fr:={(Cn (BR c)).fr with at_:=i.a}},by rw[e];exact Aiv D p i.a,rfl,z.set ?_ _,a5,⟨a9,aC,aB,aR,aQ,aD,aS,aj.cO (i:=5) rfl O1 rfl rfl rfl rfl aj.cd,aE⟩,B⟩;exact B am (by rw[aE];exact Aqu ..)
      ·have e:Cl i (BD q)=BE 4 (BD q):=by unfold Cl;rw[b];rfl
       exact(IF 4 o).mono λY U a=>Ij z B a (by rw[e];exact NB D p 4)
     ·obtain⟨rfl,ac,av,a7⟩:=a;exact⟨ac,av,a7⟩
theorem J5(b:Int)(a:Br):(BE b a).cells=a.cells:=by unfold BE;split<;>rfl
theorem YH(b:Int)(a:Br):(Cp b a).cells=a.cells:=by
 exact Fl (P:=λc=>c.cells=a.cells) rfl (J5 _ _)
theorem Ug(b:Cg)(a:Br):(L a.cells)<=(E3 b a).cells.length:=by
 show _<=(a.cells++[b]).length;simp
theorem Xr:∀b a,L a.cells<=(F4 b a).cells.length
 |0,_=>Ac _
 |b+1,a=>Aw (Xr b a) (Ug _ _)
theorem Ahw(b:Int)(a:Br):(I7 b a).cells=a.cells:=by
 exact Fl (P:=λc=>c.cells=a.cells) (J5 _ _) rfl
theorem An1(c:List B0)(b:Br):(HY c b).cells=b.cells:=by
 apply Fl (P:=λd=>d.cells=b.cells) (J5 _ _);cases c.find? _ with
 |none=>exact J5 _ _
 |some a=>rfl
theorem Ajo(c:Cg)(b a:Br)(d:a.cells=b.cells):(L b.cells)<=(E3 c a).cells.length:=d▸Ug c a
theorem Amn(d:Bx)(b:Br):(L b.cells)<=(Cl d b).cells.length:=by
 unfold Cl JB;have a:∀{c:Br},c.cells=b.cells->L b.cells<=L c.cells:=λe=>by grind
 repeat' (first|exact a (J5 _ _)|exact a (Ahw _ _)|exact a (An1 _ _)|exact Ajo _ _ _ (YH _ _)|exact Aw (a (YH _ _)) (Xr _ _)|refine Fl (P:=λc=>L b.cells<=L c.cells) ?_ ?_|exact a rfl|(show _<=(List.set _ _ _).length;simp))
theorem Ww(b:Int)(a:Br):(Fm b a).1.cells=a.cells:=by unfold Fm;split<;>rfl
theorem Ab4(b:Int)(a:Br):(Il d b a).cells=a.cells:=by
 exact Fl (P:=λc=>c.cells=a.cells) rfl (J5 _ _)
theorem Tk(a:Br):(CP a).cells=a.cells:=by
 exact Fl (P:=λb=>b.cells=a.cells) (J5 _ _) (Fl (P:=λb=>b.cells=a.cells) rfl rfl)
theorem N5{c:List Bt}:∀b a,(EP c b a).1.cells=a.cells
 |0,a=>Tk a
 |b+1,a=>by
  rw[EP];simp only;split
  ·split
   ·exact N5 b _
   ·split
    ·exact N5 b _
    ·split
     ·exact J5 _ _
     ·split
      ·split
       ·exact Ab4 _ _
       ·exact Ww _ _
      ·split
       ·exact J5 _ _
       ·exact Ww _ _
  ·exact Tk a
theorem Agt(a:Br):(L a.cells)<=(CQ d a).1.cells.length:=by
 unfold CQ;split
 ·simp only;split
  ·exact Aso (congrArg List.length (N5 _ (BD a)).symm)
  ·split
   ·exact Aso (congrArg List.length (N5 _ (HL (BD a))).symm)
   ·exact Amn _ (BD a)
 ·exact Aso (congrArg List.length (Tk a).symm)
theorem YP{c:List Bt}:∀a b,L b.1.cells<=(El c a b).1.cells.length
 |0,_=>Ac _
 |a+1,(st,N)=>by
  rw[El];split
  ·omega
  ·exact Aw (Agt st) (YP a _)
 |a+1,(st,I v)=>Ac _
theorem Ahp{gs:List Bt}(b:Int)(a:Br):(L a.cells)<=(Cm gs b a).1.cells.length:=Aw (Aso (congrArg List.length (N5 _ (Gg b a)).symm)) (YP _ _)
abbrev TD:=List UInt8×Int
def Jh(a:Cg):List UInt8:=if a.kind=1 then Lib.itoa a.n else if a.kind=3 then 40::Lib.itoa a.n else [102,117,110]
def HQ(b:List Int):List TD:=b.flatMap λa=>[([32],-1),([],a)]
def GI(a:Cg):List TD:=if a.kind=3 then HQ a.fields.reverse++[([41],-1)] else []
abbrev Em:=Br×Option (List UInt8)
def DF(a:List UInt8)(c:Br)(b:List UInt8)(d:List UInt8->Em):Em:=if L b+L a<=2000 then d (b++a) else (BE 8 c,N)
def CZ(d:List Bt)(c:Int)(b:Br):Br×Option Cg:=
 let a:=Cm d c b
 if Ce a.1 then ({a.1 with steps:=a.1.steps+1},I (Co a.1 (a.2.getD 0))) else (CP a.1,N)
def FK(b:List Bt):Nat->List TD->Br->List UInt8->Em
 |_,[],a,t=>(a,I t)
 |0,_::_,a,_=>(a,N)
 |n+1,(s,c)::L,a,t=>
  if 0<=c then match CZ b c a with
   |(a1,I x)=>DF (Jh x) a1 t λd=>FK b n (GI x++L) a1 d
   |(a1,N)=>(a1,N)
  else DF s a t λd=>FK b n L a d
def tM(L:List TD)(a:Br):Nat:=1000*Cz a+L.length
def GU(a:List TD)(b:Br):Prop:=∀c∈a,c.2<(L b.cells:Int)
theorem Xi:∀a:List Int,(HQ a).length=2*L a
 |[]=>rfl
 |b::a=>by
  have:=Xi a;show(_::_::HQ a).length=2*(b::a).length;grind
theorem OC(a:Fu w s sb):(GI sb).length<=511:=by
 have:=a.fl;unfold GI;split
 ·rw[Ay,Xi,Ass];simp;omega
 ·simp
theorem Aom(d:Fu w s sb):∀b∈GI sb,b.2<(s:Int):=by
 intro b a;have e:(-1:Int)<s:=O1;unfold GI at a;split at a
 ·rcases Ag.1 a with a|a
  ·let ⟨c,f,a⟩:=AP.1 a
   simp[AW,Asc,or_false]at a;rcases a with rfl|rfl
   ·exact e
   ·exact(d.f c (List.mem_reverse.1 f)).2
  grind
 ·cases a
theorem Di.step(a:Di d q)(hb:Ce q=true):Di d {q with steps:=q.steps+1}:=by
 have b:=a.steps;have c:=(JG a).2 hb;exact⟨a.cells,a.nc,⟨by grind,by grind⟩,a.fuel,a.used,a.spare,a.live⟩
theorem Mc{gs:List Bt}(h:CC gs wo)(g:Di gs q){a:Int}(j:0<=a/\a<(L q.cells:Int)):
 (∃f b,Cm gs a q=({(CZ gs a q).1 with steps:=(CZ gs a q).1.steps-1},I b)/\Ce (Cm gs a q).1=true/\0<=b/\b<((Cm gs a q).1.cells.length:Int)/\f=Co (Cm gs a q).1 b/\CZ gs a q=((CZ gs a q).1,I f)/\Di gs (CZ gs a q).1/\L q.cells<=(CZ gs a q).1.cells.length/\Cz (CZ gs a q).1+1<=Cz q/\Fu (L gs) (CZ gs a q).1.cells.length f)\/
 (CZ gs a q=(CP (Cm gs a q).1,N)/\Ce (Cm gs a q).1=false/\(CP (Cm gs a q).1).ended=true):=by
 obtain⟨-,i,p⟩:=LM h g j;have k:=Ahp (gs:=gs) a q;unfold CZ;generalize Cm gs a q=r at*;let ⟨c,l⟩:=r
 simp only at*;cases hb:Ce c with
 |false=>
  right
  refine⟨rfl,rfl,?_⟩;unfold Ce at hb;unfold CP BE;grind
 |true=>
  left
  have s:c.ended=false:=by
   unfold Ce at hb;grind
  cases l with
  |none=>
   grind
  |some b=>
   let ⟨⟨m,n,o⟩,e,d⟩:=i
   have t:=(JG e).2 hb;refine⟨Co c b,b,?_,rfl,d.1,d.2,rfl,rfl,e.step hb,k,?_,?_⟩
   ·simp
   ·show(c.fuel-(c.steps+1)).toNat+1<=(q.fuel-q.steps).toNat;grind
   ·apply e.cells _;have v:=d.2;have u:b.toNat<L c.cells:=by grind
    unfold Co;grind
variable{yj:TD}{v3:List TD}
theorem GU.more(c:GU (yj::v3) q)(e:Fu (L d) (L nr.cells) sb)(f:(L q.cells)<=L nr.cells):GU (GI sb++v3) nr:=by
 intro b a;rcases Ag.1 a with a|a
 ·exact Aom e b a
 ·have:=c b (Be _ a);omega
theorem GU.tail(a:GU (yj::v3) q):GU v3 q:=λc b=>a c (Be _ b)
variable{xw yt:List UInt8->Em}
theorem Pu(a:xw (vs++K)=yt (vs++K)):DF K q vs xw=DF K q vs yt:=by unfold DF;rw[a]
theorem Q5{g:List Bt}{k:Nat->Nat->Int}(i:CC g k):∀e d {b:List TD} {a:Br} {f:List UInt8},Di g a->GU b a->tM b a<=e->tM b a<=d->FK g e b a f=FK g d b a f
 |e,d,[],a,f,_,_,_,_=>by cases e<;>cases d<;>rfl
 |0,_,p::b,a,f,_,_,hn,_=>by unfold tM at hn;simp at hn
 |_+1,0,p::b,a,f,_,_,_,hk=>by unfold tM at hk;simp at hk
 |e+1,d+1,(s,c)::b,a,f,hW,hT,hn,hk=>by
  rw[FK,FK];unfold tM at hn hk;rw[AM]at hn hk;split
  ·rename_i l
   rcases Mc i hW ⟨l,hT _ (Aqu ..)⟩ with⟨r,q,-,-,-,-,-,h,m,n,o,j⟩|⟨h,-,-⟩
   ·rw[h];have:=OC j;refine Pu (Q5 i e d m (hT.more j n) ?_ ?_)<;>(unfold tM;rw[Ay];omega)
   ·rw[h]
  ·exact Pu (Q5 i e d hW hT.tail (by unfold tM;omega) (by unfold tM;omega))
def CA(c:List Bt)(a:List TD)(b:Br)(d:List UInt8):Em:=FK c (tM a b) a b d
theorem Mf(a:Br)(b:List UInt8):CA d [] a b=(a,I b):=by unfold CA;cases tM [] a<;>rfl
theorem MV(h:CC d wo){k:List UInt8}{c:Int}{b:List TD}{a:Br}{l:List UInt8}(m:Di d a)(i:GU ((k,c)::b) a)(g:0<=c):CA d ((k,c)::b) a l=match CZ d c a with
 |(a1,I f)=>DF (Jh f) a1 l λp=>CA d (GI f++b) a1 p
 |(a1,N)=>(a1,N):=by
 rw[CA,tM,AM,show 1000*Cz a+(L b+1)=(1000*Cz a+L b)+1 from rfl,FK,if_pos g];rcases Mc h m ⟨g,i _ (Aqu ..)⟩ with⟨f,r,-,-,-,-,-,e,n,o,q,j⟩|⟨e,-,-⟩
 ·rw[e];have:=OC j;exact Pu (Q5 h _ _ n (i.more j o) (by unfold tM;grind) .refl)
 ·rw[e]
theorem LX(a:¬0<=o):CA d ((K,o)::v3) q vs=DF K q vs λb=>CA d v3 q b:=by
 rw[CA,tM,AM,show 1000*Cz q+(L v3+1)=(1000*Cz q+L v3)+1 from rfl,FK,if_neg a];rfl
theorem Oh{d:List Bt}{o:Nat->Nat->Int}(f:CC d o):∀i {X L:List TD} {a:Br} {t:List UInt8},Di d a->GU X a->GU L a->tM X a<=i->
 (∃b k,CA d X a t=(b,I k)/\CA d (X++L) a t=CA d L b k/\Di d b/\a.cells.length<=b.cells.length/\b.fuel=a.fuel/\b.spare=a.spare)\/(∃b,CA d X a t=(b,N)/\CA d (X++L) a t=(b,N)/\b.ended=true)
 |_,[],L,a,t,hW,_,_,_=>Ba ⟨a,t,Mf a t,rfl,hW,Ac _,rfl,rfl⟩
 |0,_::_,_,_,_,_,_,_,hn=>by unfold tM at hn;simp at hn
 |i+1,(s,c)::X,L,a,t,hW,hT,hL,hn=>by
  unfold tM at hn;rw[AM]at hn;have v:GU ((s,c)::(X++L)) a:=λg j=>(Ag.1 (show g∈((s,c)::X)++L from j)).elim (hT g) (hL g);by_cases e:0<=c
  ·rw[MV f hW hT e,Bf,MV f hW v e];rcases Mc f hW ⟨e,hT _ (Aqu ..)⟩ with⟨y,M,m,-,-,-,-,l,w,x,H,n⟩|⟨l,-,E⟩
   ·obtain⟨-,h,-⟩:=LM f hW ⟨e,hT _ (Aqu ..)⟩;have G:(CZ d c a).1.fuel=a.fuel:=by rw[m]at h;exact h.1.1
    have K:(CZ d c a).1.spare=a.spare:=by rw[m]at h;exact h.1.2.1
    rw[l];have:=OC n;simp only;unfold DF;split
    ·rcases Oh f i (t:=t++Jh y) w (hT.more n x) (λg j=>by have:=hL g j;omega) (by unfold tM;grind) with⟨p,k,q,r,u,z,B,D⟩|⟨p,q,r,u⟩
     ·grind
     grind
    ·exact Aq5 ⟨_,rfl,rfl,by unfold BE;grind⟩
   grind
  ·rw[LX e,Bf,LX e];unfold DF;split
   ·exact Oh f i hW hT.tail hL (by unfold tM;omega)
   ·exact Aq5 ⟨_,rfl,rfl,by unfold BE;rw[hW.live];rfl⟩
structure H8 (c:List UInt8) (b:Br) (a:Bq):Prop where
 cells:a.cells=b.cells
 su:a.su=b.steps
 sm:a.sm=b.fuel
 mu:a.mu=b.used
 mm:a.mm=b.spare
 kind:a.kind=b.kind
 text:a.text=c
theorem H8.begin(a:H8 K q c)(b:Int):G6 d K (Gg b q) (Q4 b c):=⟨a.cells,rfl,rfl,rfl,a.su,a.sm,a.mu,a.mm,rfl,a.kind,a.text⟩
theorem CG.state{c:Bq}{d:List Bt}{e:List UInt8}{b:AR}(a:CG d e b c):(b.2=N/\b.1.ended=false/\c.state=0/\Cd d e b.1 c)\/(c.state≠0/\(b.2≠N\/b.1.ended=true)):=by
 let ⟨g,f⟩:=b
 unfold CG at a;cases f with
 |some v=>exact Aq5 ⟨by rw[a.state];decide,Ba nofun⟩
 |none=>
  simp at a;cases he:g.ended with
  |true=>rw[he]at a;exact Aq5 ⟨by rw[a.state];decide,Aq5 rfl⟩
  |false=>rw[he]at a;exact Ba ⟨rfl,rfl,a.state,a⟩
theorem CG.fw(a:CG d K vm c):c.su=vm.1.steps/\c.sm=vm.1.fuel:=by
 let ⟨e,b⟩:=vm
 unfold CG at a;cases b with
 |some v=>exact⟨a.su,a.sm⟩
 |none=>
  simp at a;cases he:e.ended with
  |true=>rw[he]at a;exact⟨a.su,a.sm⟩
  |false=>rw[he]at a;exact⟨a.su,a.sm⟩
theorem Agn(a:c.state=0)(e:yk.sm=c.sm)(b:c.su<c.sm)(d:c.su+1<=yk.su):JZ yk<JZ c:=by
 unfold JZ;grind
def EvI(a:List Bt)(c:Nat->Nat->Int)(g:List UInt8)(e:Br)(d:AR)(f:Bq):Prop:=∃b,CG a g b f/\Ia a b=d/\EO a c e b
theorem Aex(g:CC d wo)(H:Hl w n m d G j n0)(aj:MM w n s m c y)(al:H8 K q c)(ab:Di d q){b:Int}(M:0<=b/\b<(L q.cells:Int)):
 Av Aa 49 #[J (I ⟨s,0,N⟩),V .i32 b] n λp u=>∃h,CG d K (Cm d b q) h/\h.state≠0/\BL w s m y n h (HR h) p u:=by
 let ⟨ag,aq,ar⟩:=LM g ab M
 have ac:E5 d wo (Gg b q):=PR ab M;refine(Anp b (EvI d wo K q (Cm d b q)) aj (λu af B hb=>?_) (λu h af D o B hb=>?_) (λh D o x=>?_)).mono λp u i=>?_
 ·apply (Tp g (H.low hb) B (al.begin b) ac).mono;rintro p ao ⟨t,k,i⟩;exact⟨t,⟨_,k,ag.symm,EO.after (Jk g _ ac rfl) rfl rfl (Arq _)⟩,i⟩
 ·let ⟨ae,a,O,r⟩:=D
  rcases a.state with⟨U,Y,-,e⟩|⟨au,-⟩
  ·let ⟨f,ad⟩:=ae
   simp at U Y e;subst U;have l:FD d wo f:=by
    have:=r.2;grind
   apply (Al7 g (H.low hb) B e l).mono;rintro p ao ⟨t,k,i⟩;have aa:=MX g l;refine⟨t,⟨_,k,?_,aa.after r.1.1 r.1.2.1 r.1.2.2⟩,?_,i⟩
   ·rw[<-QT g l];omega
   ·let ⟨am,an⟩:=k.fw
    cases hbb:Ce f with
    |true=>
     have E:=Qa g l hbb;have x:=(JG l.b).2 hbb;exact Agn o (by rw[an,aa.1.1,e.sm]) (by rw[e.su,e.sm];exact x) (by rw[am,e.su];exact E)
    |false=>
     have ah:CQ d f=(BE 1 f,N):=by unfold CQ;rw[hbb,(G4 l.b).2 hbb];rfl
     have ai:BE 1 f={f with ended:=true,kind:=1}:=by unfold BE;rw[Y];rfl
     rw[ah,ai]at k;have z:Rx K {f with ended:=true,kind:=1} t:=k;unfold JZ;rw[z.su,z.sm,z.state,o,e.su,e.sm];simp
  omega
 ·obtain⟨⟨ap,ad⟩,a,-,-⟩:=D;unfold CG at a;cases ad with
  |some v=>rw[a.stack];simp
  |none=>
   simp at a;cases he:ap.ended with
   |true=>rw[he]at a;exact absurd a.state x
   |false=>rw[he]at a;exact absurd a.state o
 ·obtain⟨h,⟨ae,a,O,-⟩,o,i⟩:=i;rcases a.state with⟨-,-,E,-⟩|⟨-,ak⟩
  ·omega
  ·rw[NN ak]at O;grind
def Zi(a:Em)(b:Bq):Prop:=match a.2 with
 |some t1=>H8 t1 a.1 b
 |none=>b.kind=a.1.kind/\b.su=a.1.steps/\b.mu=a.1.used
def DB(g d e:Nat)(c:List Nat)(h:Q)(b:Em)(f:Ending)(i:Q):Prop:=∃a,Zi b a/\BL g d e c h a (A b.2.isSome) f i
structure KI (b f:Nat) (a:List Bt) (d:Nat->Nat->Int) (i:Option Addr) (h:Nat) (e:Nat->Int×Option Addr×Nat×Nat) (c:Q):Prop where
 g:CC a d
 im:Hl b c f a i h e
 Oa:Lib.TabBelow Aa b c "internal/strconv.uint64pow10" .u64 Lib.pow10Tab
theorem KI.low{b:Nat}{j:Q}{e:Nat}{i:List Bt}{c:Nat->Nat->Int}{h:Option Addr}{f:Nat}{d:Nat->Int×Option Addr×Nat×Nat}{k:Q}(a:KI b e i c h f d j)(hb:Below b j k):KI b e i c h f d k:=⟨a.g,a.im.low hb,a.Oa.on hb⟩
theorem DB.of{lo:Nat}{b:Q}{M Pb:Nat}{a:List Nat}{c:List Nat}{g w':Q}{r:Em}{e:Ending}(i:AF a b g)(j:∀d∈c,d∈a\/b.heap.size<=d)(h:DB lo M Pb c g r e w'):DB lo M Pb a b r e w':=by
 let ⟨l,k,f⟩:=h
 exact⟨l,k,f.of i j f.1⟩
variable{vt:Em}
theorem DB.ret(a:DB w s m y n vt nh p):nh=F (A vt.2.isSome):=by
 obtain⟨c,-,b,-⟩:=a;exact b
theorem Ads(a:Int):0<(Lib.itoa a).length:=by
 unfold Lib.itoa;split
 ·simp
 ·rw[Lib.decDigits];split<;>simp
theorem S2(k:MM w n s m c y)(a:H8 K q c)(l:q.ended=false)(b:ByteArray)(g:0<b.size/\b.size<=1000000)(o:(L K)<=2000):
 Av Aa 51 #[J (I ⟨s,0,N⟩),S b] n λf h=>DB w s m y n (DF b.data.toList q K λp=>(q,I p)) f h:=by
 refine(Aqg b k g.1 g.2 (by rw[a.text];exact o)).mono λf h d=>?_;have i:(L b.data.toList)=b.size:=rfl;unfold Qp N2 at d;rw[a.text]at d;unfold DF;rw[i];by_cases e:(L K)+b.size<=2000
 ·rw[if_pos e];rw[decide_eq_true e,if_pos rfl]at d;exact⟨{c with text:=K++b.data.toList},⟨a.cells,a.su,a.sm,a.mu,a.mm,a.kind,rfl⟩,d⟩
 ·rw[if_neg e];rw[decide_eq_false e,if_neg nofun]at d;have j:BE 8 q={q with ended:=true,kind:=8}:=by unfold BE;rw[l];rfl
  rw[j];exact⟨CJ 8 c,⟨rfl,a.su,a.mu⟩,d⟩
theorem Vj{l:List Bt}:∀e {j:List TD} {g f:Br} {b d:List UInt8},FK l e j g b=(f,I d)->L b<=L d/\(L b<=2000->L d<=2000)
 |e,[],g,f,b,d,a=>by
  have:(g,I b)=(f,I d):=by cases e<;>exact a
  grind
 |0,_::_,_,_,_,_,a=>by cases a
 |e+1,(i,c)::j,g,f,b,d,a=>by
  have n:∀i h k,DF i h b (λm=>FK l e k h m)=(f,I d)->L b<=L d/\(L b<=2000->L d<=2000):=λi h k a=>by
   unfold DF at a;split at a
   ·have:=Vj e a;grind
   ·cases a
  rw[FK]at a;grind
theorem Ag0(a:CA d v3 q K=(nr,I vs)):(L K)<=L vs/\(L K<=2000->L vs<=2000):=Vj _ a
theorem Ag4{t:List UInt8}(b:CC d wo)(e:Di d q){a:Int}(c:0<=a/\a<(L q.cells:Int)):CA d [([],a)] q t=match CZ d a q with
 |(a1,I x)=>DF (Jh x) a1 t λf=>CA d (GI x) a1 f
 |(a1,N)=>(a1,N):=by
 rw[MV b e (λh g=>by grind) c.1];grind
def Vx(e h i:Nat)(d:List Bt)(o:Nat->Nat->Int)(s:Option Addr)(r:Nat)(p:Nat->Int×Option Addr×Nat×Nat)(t:Nat):Prop:=∀(c:Q) (m:Bq) (g:List Nat) (f:List UInt8) (b:Br) (a:Cg) (n:Option Addr) (l k:Nat),2000<=L f+t->L f<=2000->KI e i d o s r p c->MM e c h i m g->H8 f b m->Di d b->Fu (L d) (L b.cells) a->a.kind=3->EC (λj=>e<=j/\j∉g) c (W n l k) a.fields->
 Av Aa 53 #[J (I ⟨h,0,N⟩),T #[V .u8 3,V C a.n,V .i32 a.left,V .i32 a.right,W n l k]] c λq v=>DB e h i g c (DF (Jh a) b f λu=>CA d (GI a) b u) q v
def PD(h e f:Nat)(g:List Bt)(k:Nat->Nat->Int)(o:Option Addr)(n:Nat)(l:Nat->Int×Option Addr×Nat×Nat)(p:Nat):Prop:=∀(d:Q) (j:Bq) (i:List Nat) (c:List UInt8) (a:Br) (b:Int),2000<=L c+p->L c<=2000->KI h f g k o n l d->MM h d e f j i->H8 c a j->Di g a->0<=b/\b<(L a.cells:Int)->
 Av Aa 26 #[J (I ⟨e,0,N⟩),V .i32 b] d λm q=>DB h e f i d (CA g [([],b)] a c) m q
theorem CG.ended(a:CG d K vm c)(b:vm.1.ended=true)(e:vm.2=N):Rx K vm.1 c:=by
 let ⟨g,f⟩:=vm
 simp at b e;unfold CG at a;grind
theorem CG.val(a:CG d K (q,I o) c):VW K o q c:=a
theorem MM.cellOf(d:MM w n s m c y){a:Nat}(h:a<L c.cells):∃b i j fp f e,a<i/\n.cell? ⟨s,1,N⟩=I (W (I ⟨b,0,N⟩) i j)/\(n.cell? ⟨b,a*5,N⟩=I (.int .u8 c.cells[a].kind)/\n.cell? ⟨b,a*5+1,N⟩=I (.int C c.cells[a].n)/\n.cell? ⟨b,a*5+2,N⟩=I (.int .i32 c.cells[a].left)/\n.cell? ⟨b,a*5+3,N⟩=I (.int .i32 c.cells[a].right)/\n.cell? ⟨b,a*5+4,N⟩=I (W fp f e))/\EC (λg=>w<=g/\g∉y) n (W fp f e) c.cells[a].fields:=by
 let ⟨o,q,p,G,x,r,H,d,u⟩:=d
 obtain⟨cg,cc,fp,f,e,k,z,B,D,E,l,-⟩:=d.cellAt h;have v:=d.eB h k l;have t:=d.m.at 1 rfl;grind
theorem Ajz(aE:Vx w s m d wo G j n0 D):PD w s m d wo G j n0 D:=by
 intro O bT ak t c b aR av q ar aJ y H;have v:=Ag4 (t:=t) q.g y H;obtain⟨a0,aD⟩:∃a0,CA d [([],b)] c t=a0:=⟨_,rfl⟩;rw[aD]at v ⊢;have aH:=ar.dx;have aa:=O0 (Aex q.g q.im ar aJ y H);obtain⟨-,ae,aB⟩:=LM q.g y H;rcases Mc q.g y H with⟨aV,n,ad,ag,bJ,aT,ai,ac,aP,bC,bH,bs⟩|⟨ac,ag,bt⟩
 ·rw[ac]at v;simp only at v;obtain⟨r,rfl⟩:∃r:Nat,n=(r:Int):=⟨n.toNat,O1⟩;generalize (CZ d b c).1=a2 at*;have a6:(Cm d b c).1={a2 with steps:=a2.steps-1}:=by rw[ad]
  have K:r<L a2.cells:=by rw[a6]at aT;simp only at aT;omega
  have l:0<=(Cm d b c).1.steps:=Atz y.steps.1 ae.1.2.2;rw[a6]at l;simp only at l;have a7:=aP.steps;have bc:O9 (∀aw,H8 t a2 aw->∃f:r<L aw.cells,aw.cells[r]=aV):=λaw bw=>by
   have au:r<L aw.cells:=by rw[bw.cells];exact K
   refine⟨au,?_⟩;rw[ai];unfold Co;rw[a6,A9];simp only[bw.cells];rw[AA K];rfl
  have bf:=O0 q;have ab:=O0 aP;have bb:=O0 bs;have bh:=O0 aH;have b7:=O0 aE;have B:=O0 v;have be:=O0 ad;clear ar aJ y q aH aB ae bJ aT ai ac aP bC bH bs v aD a6 K H aE ad ag;go_enter Tryz.func26,Tryz.ntmps26;go_upto_region 4 with(first
   |(go_at_call 49;refine aa.o.mono ?_;rintro e z ⟨h,x,-,rfl,a8,b2,aC,a9⟩;rw[be.o]at x;have a:=x.val;have bI:=a.su;rw[show HR h=R #[V .i32 (r:Int),A true] by unfold HR;rw[if_neg (by rw[a.state];decide),a.stack];rfl];have ah:DC h=true:=(by unfold DC;rw[a.su,a.sm];simp only[decide_eq_true_eq];omega);have aS:=MH aC ⟨by rw[a.su,a.sm];simp only;omega,by rw[a.sm];exact ab.o.fuel,by rw[a.mu,a.mm];exact ab.o.used,by rw[a.mm];exact ab.o.spare⟩;rw[ah,D3 ah]at aS;have bl:=O0 aS;have az:O9 (H8 t a2 {h with su:=h.su+1}):=⟨a.cells,by show h.su+1=a2.steps;rw[a.su];simp,a.sm,a.mu,a.mm,a.kind,a.text⟩;have aY:=O0 a8;have aZ:=O0 a9;clear aa be x a bI ah aS a8 aC a9)
   |(go_at_call 50;refine bl.o.mono ?_;rintro e k ⟨rfl,bp,aW,br,bq⟩;have am:=O0 br;have aX:=O0 (aY.o.trans bp aZ.o);have b5:=O0 λap hb=>(bq ap hb).elim (aZ.o ap) λi=>.inr (Aw aY.o.size i);clear bl bp br bq))
  obtain⟨au,b0⟩:=bc.o _ az.o;obtain⟨bR,bM,bQ,fp,aO,aN,bv,bL,⟨a1,a3,a4,a5,bo⟩,aQ⟩:=am.o.cellOf au;have bz:h.cells[r]'au=aV:=b0;rw[bz]at a1 a3 a4 a5 aQ;have b6:=O0 aQ;have bv:(r:Int)<(bM:Int):=O1;have ba:=O0 (aX.o.low bh.o.2 bh.o.1);have bi:=O0 am.o.dx.1;have aM:O9 (∀{bn:Q} {e:Ending} {ax:Q},Below k.heap.size k bn->DB w s m aW bn a0 e ax->DB w s m ak O a0 e ax):=λbB f=>f.of (aX.o.then bB) b5.o;obtain⟨aj,g,U,Y,ay⟩:=aV;clear bz b0 au aQ bc;simp only at a1 a3 a4 a5;go_cut [7] (λbO u=>∃E:Nat,bO=J (I ⟨E,0,N⟩)/\(u.cell? ⟨E,0,N⟩=I (V .u8 aj)/\u.cell? ⟨E,1,N⟩=I (V C g)/\u.cell? ⟨E,2,N⟩=I (V .i32 U)/\u.cell? ⟨E,3,N⟩=I (V .i32 Y)/\u.cell? ⟨E,4,N⟩=I (W fp aO aN))/\O9 (Below k.heap.size k u))
  case first=>
   have an:=O0 (BN.dC k (V .u8 aj) (V C g) (V .i32 U) (V .i32 Y) (W fp aO aN) 153);go_wp2;go_meet
   exact⟨_,rfl,⟨an.o.at 0 rfl,an.o.at 1 rfl,an.o.at 2 rfl,an.o.at 3 rfl,an.o.at 4 rfl⟩,bA⟩
  case rest=>
   clear a1 a3 a4 a5 bo bL bv;rename Q=>u
   obtain⟨E,rfl,⟨a1,a3,a4,a5,bo⟩,p⟩:=hcut;by_cases i:aj=1
   ·subst i;have aK:=bb.o.n;have bS:=Lib.itoa_length_le g aK.1 aK.2;go_wp2_with (first
     |(go_at_call 52;refine(Qz g aK.1 aK.2 u ((bf.o.low (ba.o.trans (p.o.mono bi.o))).Oa.here)).mono ?_;rintro e bP ⟨rfl,bK,bN,bx⟩;have bm:O9 (Below k.heap.size k bP):=(by show Below _ _ _;rw[bx];exact p.o.trans (Lib.below_grow _ _ p.o.size bK bN));clear bx)
     |(go_at_call 51;refine(S2 (am.o.bE bm.o) az.o ab.o.live ⟨(Lib.itoa g).toArray⟩ (by have:=Ads g;show 0<(Lib.itoa g).toArray.size/\(Lib.itoa g).toArray.size<=_;rw[Arx];omega) av).mono ?_;intro e ax f;obtain rfl:=f.ret;have ao:=O0 f;clear f))
    go_ret;refine aM.o bm.o ?_;rw[B.o,show Jh ⟨1,g,U,Y,ay⟩=Lib.itoa g from if_pos rfl,show GI ⟨1,g,U,Y,ay⟩=[] from if_neg O2];simp only[Mf];exact ao.o
   ·by_cases a7:aj=3
    ·subst a7;have bg:=O0 (b7.o u _ aW t a2 ⟨3,g,U,Y,ay⟩ fp aO aN aR av (bf.o.low (ba.o.trans (p.o.mono bi.o))) (am.o.bE p.o) az.o ab.o bb.o rfl (b6.o.fr λap i l=>⟨i,p.o.block ap l⟩));go_wp2_with (first
      |(go_at_call 53;refine bg.o.mono ?_;intro e ax f;obtain rfl:=f.ret;have ao:=O0 f;clear bg f))
     go_ret;refine aM.o p.o ?_;rw[B.o];exact ao.o
    ·have bj:O9 (Jh ⟨aj,g,U,Y,ay⟩=[102,117,110]/\GI ⟨aj,g,U,Y,ay⟩=[]):=by
      show _/\_;unfold Jh GI;exact⟨by rw[if_neg i,if_neg a7],if_neg a7⟩
     go_wp2_with (first
      |(go_at_call 51;refine(S2 (am.o.bE p.o) az.o ab.o.live ⟨#[102,117,110]⟩ O4 av).mono ?_;intro e ax f;obtain rfl:=f.ret;have ao:=O0 f;clear f))
     go_ret;refine aM.o p.o ?_;rw[B.o,bj.o.1,bj.o.2];simp only[Mf];exact ao.o
 ·rw[ac]at v;simp only at v;subst v;have bu:(CP (Cm d b c).1,(N:Option (List UInt8))).2.isSome=false:=rfl;have aG:∀{e:Ending} {b1:Q} {aL:Bq},BL w s m ak O aL (A false) e b1->(aL.kind=(CP (Cm d b c).1).kind/\aL.su=(CP (Cm d b c).1).steps/\aL.mu=(CP (Cm d b c).1).used)->DB w s m ak O (CP (Cm d b c).1,N) e b1:=λf bE=>⟨_,bE,f⟩;cases hae:(Cm d b c).1.ended with
  |true=>
   have af:(Cm d b c).2=none:=by
    cases ai:(Cm d b c).2 with
    |none=>rfl
    |some n=>
     have l:=ae.2;rw[ai]at l;have:=l.1.live;rw[hae]at this;cases this
   have aq:CP (Cm d b c).1=(Cm d b c).1:=by
    unfold CP BE;rw[hae];split<;>rfl
   have al:O9 (Av Aa 49 #[J (I ⟨s,0,N⟩),V .i32 b] O λe z=>e=F (R #[V .i32 0,A false])/\O9 (DB w s m ak O (CP (Cm d b c).1,N) (F (A false)) z)):=by
    refine aa.o.mono λe z f=>?_;obtain⟨h,x,b9,aI⟩:=f;have a:=x.ended hae af;have bD:HR h=R #[V .i32 0,A false]:=by unfold HR;rw[if_pos a.state]
    have aF:=aI.1;rw[bD]at aF;exact⟨aF,aG (aI.of AF.refl (λap hb=>Ba hb) rfl) (by rw[aq];exact⟨a.kind,a.su,a.mu⟩)⟩
   clear ar aJ y q aH aa aB ae ac ag bt H aR av aE aG af aq hae bu aD;go_enter Tryz.func26,Tryz.ntmps26;go_wp2_with (first
    |(go_at_call 49;refine al.o.mono ?_;rintro e z ⟨rfl,B⟩;clear al))
   go_ret;exact B.o
  |false=>
   obtain⟨n,af⟩:∃n,(Cm d b c).2=I n:=by
    cases ai:(Cm d b c).2 with
    |none=>
     rcases aB with i|i
     ·exact absurd ai i
     ·rw[hae]at i;cases i
    |some n=>exact⟨n,rfl⟩
   have M:Di d (Cm d b c).1:=by
    have l:=ae.2;rw[af]at l;exact l.1
   have aq:CP (Cm d b c).1={(Cm d b c).1 with ended:=true,kind:=1}:=by
    rw[(G4 M).2 ag];unfold BE;rw[hae];rfl
   have ad:Cm d b c=((Cm d b c).1,I n):=by rw[<-af]
   have al:O9 (Av Aa 49 #[J (I ⟨s,0,N⟩),V .i32 b] O λe z=>e=F (R #[V .i32 n,A true])/\O9 (Av Aa 50 #[J (I ⟨s,0,N⟩)] z λe k=>e=F (A false)/\O9 (DB w s m ak O (CP (Cm d b c).1,N) (F (A false)) k))):=by
    refine aa.o.mono λe z f=>?_;obtain⟨h,x,b9,aI⟩:=f;rw[ad]at x;have a:=x.val;obtain⟨rfl,a8,b2,aC,a9⟩:=aI;refine⟨by unfold HR;rw[if_neg (by rw[a.state];decide),a.stack];rfl,?_⟩;have bG:EV h:=⟨by rw[a.su,a.sm];exact M.steps,by rw[a.sm];exact M.fuel,by rw[a.mu,a.mm];exact M.used,by rw[a.mm];exact M.spare⟩;have ah:DC h=false:=by rw[Om M a.su a.sm];exact ag
    have b8:BR h=CJ 1 h:=by unfold BR;rw[ah];rfl
    refine(MH aC bG).mono λe k K=>?_;rw[ah,b8]at K;have aF:=K.1;exact⟨aF,aG (K.of a8 a9 rfl) (by rw[aq];exact⟨rfl,a.su,a.mu⟩)⟩
   clear ar aJ y q aH aa aB ae ac ag bt H aR av aE aG af aq hae bu aD M ad;go_enter Tryz.func26,Tryz.ntmps26;go_wp2_with (first
    |(go_at_call 49;refine al.o.mono ?_;rintro e z ⟨rfl,bk⟩;clear al)
    |(go_at_call 50;refine bk.o.mono ?_;rintro e k ⟨rfl,B⟩;clear bk))
   go_ret;exact B.o
end Go.Proofs.YtcacpmkdfnmhaaaGreatDoor
