import Derived.Test.YtcacpmkdfnmhaaaGreatDoorAs3J
import Derived.Shelf.Pu.Clone
import Derived.Test.YtcacpmkdfnmhaaaGreatDoorPy9J
import Derived.Deep.CutBlock
import Derived.Laws.IdiomStrings
import Derived.Test.YtcacpmkdfnmhaaaGreatDoorPckJ
set_option linter.unusedSimpArgs false
set_option maxRecDepth 100000
set_option maxHeartbeats 16000000
open And renaming intro->Aq4
open Except renaming error->P
open Go renaming Calls->Av,TypeId->AX,Value->X,World->Q,run_callFunc_extern->Bj
open Go.Act renaming eval->A4
open Go.Ending renaming returned->F
open Go.IntKind renaming i64->C
open Go.Proofs.Tryz renaming prog->Aa,underlying9->Bg
open Go.RowKit renaming wrap64->Bc
open Go.Value renaming agg->T,bool->A,iface->Z,int->V,pointer->J,slice->W,string->S,tuple->R
open List renaming length->L
open Option renaming none->N,some->I
open Or renaming inl->Ba
namespace Go.Proofs.YtcacpmkdfnmhaaaGreatDoor
open Go.RowKit Go.Sort
variable{v nl:ByteArray}{w s m j:Nat}{xg:Unit}{nn:ByteArray×Nat}{o wm:Int}{s9:Nat×Nat}{g:Bm}{wk:Ex}{xl:IntKind}{wz:List B0}{ya:B0}{n p H:World}{b i r:Value}{wl:Type}{n1:List Dd}{y nk:List Nat}{vy:Option Nat}{wj:TypeId}{f:Nat->Addr}
def ww(a:ByteArray):Nat:=a.size-1+2
def nW(b:Bm):Nat:=(b.map λa=>ww a.1).sum
def wt:Nat->Ex->Nat
 |0,_=>2
 |d+1,e=>match e with
  |.num _=>2
  |.name _ t _=>ww t
  |.call ps=>(ps.map (wt d)).sum
  |.lets _ ns es a=>4+nW ns+(es.map (wt d)).sum+wt d a
  |.CS _ fs=>6+(fs.map (wt d)).sum
  |.case x bs=>5+wt d x+(bs.map λa=>2+nW a.2.1+wt d a.2.2).sum
  |.op _ l r=>2+wt d l+wt d r
def Xy:Ex->Prop
 |.num n=>-9223372036854775808<=n/\n<9223372036854775808
 |.name _ _ _=>True
 |.op k _ _=>k<6
 |.CS t fs=>t<256/\L fs<=20
 |.lets _ ns es _=>L es=L ns/\0<L ns
 |.case _ bs=>0<L bs/\(∀a∈bs,a.1<256)/\(bs.map (·.1)).Nodup
 |.call ps=>2<=L ps
def XF:Nat->Ex->Prop
 |0,_=>False
 |d+1,e=>Xy e/\(∀b∈Bv e,XF d b)/\∀a∈Cf e,XF d a.2.2
theorem Qc:∀a c,XF a c->XF (a+1) c
 |0,_,h=>h.elim
 |a+1,_,h=>⟨h.1,λd e=>Qc a d (h.2.1 d e),λb hb=>Qc a b.2.2 (h.2.2 b hb)⟩
def Cr(c:ByteArray)(b a:Nat):Prop:=a<=1/\(a=1->Dt c b=b)
theorem Cr.z(c:ByteArray)(b:Nat):Cr c b 0:=⟨O1,λa=>by cases a⟩
theorem ZY(b:ByteArray):∀d a,b.size-a<=d->Dt b (Dt b a)=Dt b a
 |0,a,h=>by rw[Im (show b.size<=a by omega),Im O1]
 |d+1,a,h=>by
  by_cases c:a<b.size
  ·by_cases e:DN b[a].toNat=true\/Ee b[a].toNat=true
   ·rw[Km c e,Km c e]
   ·rw[Lc c O6 O6];exact ZY b d (a+1) O1
  ·rw[Im (show b.size<=a by omega),Im O1]
theorem WN(e:Dt v (BI v w)=BI v w)(b:BI v w<v.size):Bp v w=Ct\/Bp v w=BJ:=by
 have hb:Ee v[BI v w].toNat=true:=by
  cases hx:Ee v[BI v w].toNat with
  |true=>rfl
  |false=>
   have:=Lc b ((Nc v _ w (Ac _)).2.2 b) hx;have d:=Qm v (BI v w+1);omega
 have c:Bp v w=⟨#[v[BI v w]]⟩:=by
  unfold Bp BG Hh BP;rw[if_pos ⟨e,b⟩];apply Asa;apply Array.ext
  ·simp;omega
  ·intro f g d;obtain rfl:f=0:=by simpa using d
   simp;rfl
 have a:v[BI v w].toNat=40\/v[BI v w].toNat=41:=by simpa[Ee]using hb
 rcases a with a|a
 ·left;rw[c,show v[BI v w]=40 from At2.1 a];rfl
 ·right;rw[c,show v[BI v w]=41 from At2.1 a];rfl
theorem Cr.word(c:Cr v w s)(f:w<=v.size)(i:0<(Bp v w).size)(d:Bp v w≠Ct)(e:Bp v w≠BJ):Cr v (BG v w) 1/\w+s+((Bp v w).size+1)<=BG v w+1:=by
 have k:=L7 f;have j:=Ei v w;have g:BI v w<v.size:=by
  have:=Dq f;have b:BP v w=BI v w:=rfl;omega
 have h:BG v w=Dt v (BI v w):=by
  unfold BG Hh;rw[if_neg λa=>(WN a.1 a.2).elim d e]
 refine⟨⟨Ac _,λ_=>by rw[h];exact ZY v _ _ .refl⟩,?_⟩;have:w+s<=BI v w:=by
  rcases Asb w (BI v w) with a|a
  ·have:=c.1;omega
  ·have b:BI v w=w:=O1;have:s=0:=by
    rcases Asb s 1 with a|a
    ·omega
    ·exact absurd (WN (by rw[b];exact c.2 (by have:=c.1;omega)) g) (λa=>a.elim d e)
   omega
 have b:BP v w=BI v w:=rfl;omega
theorem Cr.BI{b:ByteArray}{a c:Nat}(f:Cr b a c):∃d,Cr b (BI b a) d/\a+c<=BI b a+d:=by
 have g:=Ei b a;rcases Asb a (Go.Proofs.YtcacpmkdfnmhaaaGreatDoor.BI b a) with e|e
 ·exact⟨0,Cr.z _ _,by have:=f.1;omega⟩
 grind
theorem Cr.want(d:nl≠⟨#[]⟩)(b:Cr v w m)(c:w<=v.size)(a:BS v nl w=.ok (xg,s)):w+m<=s:=by
 have:=(B2 d w c xg s a).1;have:=b.1;omega
theorem T7(a:CE v=true):v≠Ct/\v≠BJ/\0<v.size:=by
 refine⟨λb=>?_,λb=>?_,?_⟩
 ·rw[b,show CE Ct=false by kernel_rfl]at a;cases a
 ·rw[b,show CE BJ=false by kernel_rfl]at a;cases a
 ·simp[CE,decide_eq_true_eq]at a;omega
theorem Cr.name(f:Cr v w m)(g:w<=v.size)(a:FE v w=.ok (nn,s)):Cr v s 1/\w+m+ww nn.1<=s+1/\CE nn.1=true:=by
 unfold FE at a;split at a
 ·rename_i b
  cases a;let ⟨d,e,c⟩:=T7 b
  have:=f.word g c d e;exact⟨this.1,by have:=this.2;show w+m+((Bp v w).size-1+2)<=_;omega,b⟩
 ·cases a
theorem YG(a:D7 v=I o):v≠Ct/\v≠BJ/\0<v.size/\-9223372036854775808<=o/\o<9223372036854775808:=by
 refine⟨λb=>?_,λb=>?_,?_,?_⟩
 ·rw[b,show D7 Ct=N by kernel_rfl]at a;cases a
 ·rw[b,show D7 BJ=N by kernel_rfl]at a;cases a
 ·rcases At3 v.size with c|c
  ·have b:v=⟨#[]⟩:=by apply Asa;simp_all
   rw[b,show D7 ⟨#[]⟩=N by rfl]at a;cases a
  omega
 ·unfold D7 at a;grind
theorem Cr.tag(e:Cr v w m)(f:w<=v.size)(a:Es v j w=.ok (s9,s)):Cr v s 1/\w+m+2<=s+1/\s9.1<=j:=by
 unfold Es at a;split at a
 ·rename_i h g
  split at a
  ·obtain⟨c,d,b,-⟩:=YG g;have:=e.word f b c d;grind
  ·cases a
 ·cases a
theorem Cr.eb{f:ByteArray}:∀h i b d c g,b<=f.size->Cr f b g->EQ f h i b=.ok (d,c)->∃e,d=i++e/\c<=f.size/\b+g+nW e<=c
 |0,_,_,_,_,_,_,_,a=>by cases a
 |h+1,i,b,d,c,g,hp,hc,a=>by
  rw[EQ]at a;split at a
  ·rename_i p
   cases a;have:=GY hp (by rw[p];decide);exact⟨[],O2,this.2,by have:=hc.1;simp[nW];omega⟩
  ·let ⟨m,k,j,a⟩:=Bk a
   have l:=hc.name hp j;split at a
   ·cases a
   ·obtain⟨e,rfl,n,o⟩:=Cr.eb h _ k d c 1 (Ha b hp m k j).2 l.1 a;exact⟨m::e,O2,n,by have:=l.2.1;simp[nW]at o ⊢;omega⟩
theorem Cr.names(e:Cr v w m)(f:w<=v.size)(a:Ge v w=.ok (g,s)):s<=v.size/\w+m+nW g<=s:=by
 let ⟨i,b,c,a⟩:=Bk a
 have h:=B2 O4 w f i b c;obtain⟨k,rfl,d,j⟩:=Cr.eb _ [] b g s 0 h.2 (Cr.z _ _) a;exact⟨d,by have:=e.1;omega⟩
def EW(c:ByteArray)(g:Nat)(h:Nat->Pr Ex):Prop:=∀a d b e,a<=c.size->Cr c a e->h a=.ok (d,b)->XF g d/\b<=c.size/\∃f,Cr c b f/\a+e+wt g d<=b+f
section
variable {s:ByteArray} {d:Nat} {E:Nat->Pr Ex} (hE:EW s d E)
include hE
theorem X9:∀j k c h e g,c<=s.size->Cr s c g->EB s E j k c=.ok (h,e)->∃f,h=k++f/\(∀i∈f,XF d i)/\e<=s.size/\∃b,Cr s e b/\c+g+(f.map (wt d)).sum<=e+b
 |0,_,_,_,_,_,_,_,a=>by cases a
 |j+1,k,c,h,e,g,hp,hc,a=>by
  rw[EB]at a;split at a
  ·cases a;let ⟨b,l,m⟩:=hc.BI
   exact⟨[],O2,(λ_ a=>by cases a),Hu hp,b,l,by simpa using m⟩
  ·let ⟨i,n,l,a⟩:=Bk a
   let ⟨u,v,o,w,z⟩:=hE c i n g hp hc l
   obtain⟨f,rfl,m,q,b,r,y⟩:=X9 j _ n h e o v w a;exact⟨i::f,O2,(λx t=>(AW.1 t).elim (λp=>p▸u) (m x)),q,b,r,by grind⟩
theorem Y6:∀k i c f e h,c<=s.size->Cr s c h->L i<=20->Fj s E k i c=.ok (f,e)->∃g,f=i++g/\L f<=20/\(∀j∈g,XF d j)/\e<=s.size/\∃b,Cr s e b/\c+h+(g.map (wt d)).sum<=e+b
 |0,_,_,_,_,_,_,_,_,a=>by cases a
 |k+1,i,c,f,e,h,hp,hc,hl,a=>by
  rw[Fj]at a;split at a
  ·cases a;let ⟨b,l,m⟩:=hc.BI
   exact⟨[],O2,hl,(λ_ a=>by cases a),Hu hp,b,l,by simpa using m⟩
  ·split at a
   ·cases a
   ·let ⟨j,n,l,a⟩:=Bk a
    let ⟨v,w,o,x,B⟩:=hE c j n h hp hc l
    obtain⟨g,rfl,q,m,r,b,t,z⟩:=Y6 k _ n f e o w x O5 a;exact⟨j::g,O2,q,(λy u=>(AW.1 u).elim (λp=>p▸v) (m y)),r,b,t,by grind⟩
theorem Yy:∀(j:Nat) (l:Bm) (i:List Ex) (f:Nat) (b:Bm×List Ex) (g h:Nat),f<=s.size->Cr s f h->FW s E j l i f=.ok (b,g)->∃e c,b.1=l++e/\b.2=i++c/\L c=L e/\0<L e/\(∀b∈c,XF d b)/\g<=s.size/\f+h+nW e+(c.map (wt d)).sum<=g
 |0,_,_,_,_,_,_,_,_,a=>by rw[FW]at a;cases a
 |j+1,l,i,f,b,g,h,hp,hc,a=>by
  rw[FW]at a;let ⟨ac,m,q,a⟩:=Bk a
  have u:=B2 O4 f hp ac m q;have ah:=hc.want O4 hp q;let ⟨o,w,r,a⟩:=Bk a
  have ab:=(Cr.z s m).name u.2 r;split at a
  ·cases a
  ·let ⟨p,x,aa,a⟩:=Bk a
   let ⟨B,D,af,ae,aj⟩:=hE w p x 1 (Ha m u.2 o w r).2 ab.1 aa
   let ⟨ad,n,t,a⟩:=Bk a
   have v:=B2 O4 x D ad n t;have ai:=ae.want O4 D t;have ag:=Ei s n;split at a
   ·cases a;exact⟨[o],[p],rfl,rfl,rfl,.refl,(λy k=>Aq.1 k▸B),Hu v.2,by simp only[nW,Aqv,Ars,Ar9,List.sum_nil];omega⟩
   ·obtain⟨e,c,H,K,M,-,O,U,Y⟩:=Yy j _ _ n b g 0 v.2 (Cr.z _ _) a;exact⟨o::e,p::c,by simp[H],by simp[K],by simp[M],O2,(λy k=>(AW.1 k).elim (λG=>G▸B) (O y)),U,by simp only[nW,Aqv,Ar9]at Y ⊢;omega⟩
theorem Uk:∀l f e g h k,e<=s.size->Cr s e k->(f.map (·.1)).Nodup->FX s E l f e=.ok (g,h)->∃c,g=f++c/\0<L c/\(∀b∈c,b.1<256/\XF d b.2.2)/\(g.map (·.1)).Nodup/\h<=s.size/\e+k+(c.map λb=>2+nW b.2.1+wt d b.2.2).sum<=h
 |0,_,_,_,_,_,_,_,_,a=>by rw[FX]at a;cases a
 |l+1,f,e,g,h,k,hp,hc,hn,a=>by
  rw[FX]at a;let ⟨ad,m,p,a⟩:=Bk a
  have v:=B2 O4 e hp ad m p;have al:=hc.want O4 hp p;let ⟨i,Y,q,a⟩:=Bk a
  have U:=Hg m v.2 i Y q;have ab:=(Cr.z s m).tag v.2 q;split at a
  ·cases a
  ·rename_i aj
   let ⟨o,aa,M,a⟩:=Bk a
   have ac:=ab.1.names U.2 M;let ⟨j,x,O,a⟩:=Bk a
   let ⟨af,y,ah,ag,am⟩:=hE aa j x 0 ac.1 (Cr.z _ _) O
   let ⟨ae,n,r,a⟩:=Bk a
   have w:=B2 O4 x y ae n r;have w5:=ag.want O4 y r;have ak:=Ei s n;have u:((f++[(i.1,o,j)]).map (·.1)).Nodup:=by
    grind
   have t:i.1<256/\XF d j:=⟨O1,af⟩;split at a
   ·cases a;exact⟨[(i.1,o,j)],rfl,O2,(λb hb=>Aq.1 hb▸t),u,Hu w.2,by simp;omega⟩
   ·obtain⟨c,D,-,G,H,K,ai⟩:=Uk l _ n g h 0 w.2 (Cr.z _ _) u a;exact⟨(i.1,o,j)::c,by rw[D];simp,O2,(λb hb=>(AW.1 hb).elim (λB=>B▸t) (G b)),H,K,by simp;omega⟩
omit hE in
omit hE in
theorem Ab5(c:I2 v=I w):w<6/\v≠Ct/\v≠BJ/\0<v.size:=by
 obtain⟨f,e,-⟩:=Atf.1 c;have g:w<6:=f;have h:=of_decide_eq_true e;have:∀a (b:a<6),Oc[a]'b≠Ct/\Oc[a]'b≠BJ/\0<(Oc[a]'b:ByteArray).size:=O4;grind
theorem Ab9{p:Nat}(D:w<=s.size)(O:Cr s w m)(a:Dx s E w=.ok (wk,p)):XF (d+1) wk/\p<=s.size/\∃l,Cr s p l/\w+m+wt (d+1) wk<=p+l:=by
 have B:=Dq D;have ai:∀G,3<=(Bp s w).size->Bp s w≠Ct->Bp s w≠BJ->Fy s E G (BG s w)=.ok (wk,p)->XF (d+1) wk/\p<=s.size/\∃l,Cr s p l/\w+m+wt (d+1) wk<=p+l:=λG y f h a=>by
  have t:=O.word D O1 f h;obtain⟨e,g,f,a⟩:=Bk a;have ad:=B2 O4 _ B e g f;have af:=t.1.want O4 B f;obtain⟨c,i,h,a⟩:=Bk a;obtain⟨a1,a0,o,M,q,r,x,Y,ay⟩:=Yy hE _ [] [] g c i 0 ad.2 (Cr.z _ _) h;obtain⟨U,ab,y,a⟩:=Bk a;have ar:=B2 O4 i Y U ab y;obtain⟨ag,au,ao,a⟩:=Bk a;obtain⟨H,u,aj,v,ah⟩:=hE ab ag au 0 ar.2 (Cr.z _ _) ao;cases a;rw[A7]at o M;refine⟨⟨⟨by grind,by rw[o];exact r⟩,λk n=>?_,λj hb=>by cases hb⟩,u,aj,v,?_⟩
  ·rcases Ag.1 n with ap|ap
   ·grind
   grind
  ·show w+m+(4+nW c.1+(c.2.map (wt d)).sum+wt d ag)<=_;grind
 unfold Dx at a;split at a
 ·rename_i az aq
  obtain⟨ak,al,am,an⟩:=Ab5 aq;have t:=O.word D an al am;obtain⟨ae,g,f,a⟩:=Bk a;obtain⟨e,c,K,U,ag⟩:=hE _ ae g 1 B t.1 f;obtain⟨G,i,h,a⟩:=Bk a;obtain⟨H,u,ac,v,ah⟩:=hE _ G i K c U h;cases a;refine⟨⟨ak,λk n=>?_,λj hb=>by cases hb⟩,u,ac,v,?_⟩
  ·rcases(by simpa[Bv]using n:k=ae\/k=G) with rfl|rfl
   ·exact e
   exact H
  ·show w+m+(2+wt d ae+wt d G)<=_;omega
 ·split at a
  ·rename_i b
   exact ai _ (by rw[b];decide) (by rw[b];decide) (by rw[b];decide) a
  ·split at a
   ·rename_i b
    exact ai _ (by rw[b];decide) (by rw[b];decide) (by rw[b];decide) a
   ·split at a
    ·rename_i b
     have t:=O.word D (by rw[b];decide) (by rw[b];decide) (by rw[b];decide);have y:(Bp s w).size=3:=by rw[b];rfl
     obtain⟨e,g,f,a⟩:=Bk a;have ad:=Hg _ B e g f;have af:=t.1.tag B f;obtain⟨c,i,h,a⟩:=Bk a;obtain⟨aa,o,M,q,r,l,x,Y⟩:=Y6 hE _ [] g c i 1 ad.2 af.1 O2 h;cases a;rw[A7]at o;subst o;exact⟨⟨⟨by have:=af.2.2;omega,M⟩,q,λj hb=>by cases hb⟩,r,l,x,by show w+m+(6+(c.map (wt d)).sum)<=_;omega⟩
    ·split at a
     ·rename_i b
      have t:=O.word D (by rw[b];decide) (by rw[b];decide) (by rw[b];decide);have y:(Bp s w).size=4:=by rw[b];rfl
      obtain⟨e,g,f,a⟩:=Bk a;obtain⟨H,u,K,v,ah⟩:=hE _ e g 1 B t.1 f;obtain⟨c,i,h,a⟩:=Bk a;obtain⟨aa,o,M,q,r,x,Y⟩:=Uk hE _ [] g c i K u v O2 h;cases a;rw[A7]at o;subst o;exact⟨⟨⟨M,λj hb=>(q j hb).1,r⟩,λk n=>(by simpa[Bv]using n:k=e)▸H,λj hb=>(q j hb).2⟩,x,0,Cr.z _ _,by show w+m+(5+wt d e+(c.map λj=>2+nW j.2.1+wt d j.2.2).sum)<=_;omega⟩
     ·obtain⟨e,g,f,a⟩:=Bk a;obtain⟨H,u,K,v,ah⟩:=hE w e g m D O f;obtain⟨c,i,h,a⟩:=Bk a;obtain⟨av,aw,ac,ax,a2⟩:=hE _ c i K u v h;obtain⟨U,ab,y,a⟩:=Bk a;obtain⟨aa,rfl,q,r,l,x,Y⟩:=X9 hE _ [e,c] i U ab ac aw ax y;cases a;refine⟨⟨by simp[Xy],λk n=>?_,λj hb=>by cases hb⟩,r,l,x,?_⟩
      ·rcases(by simpa[Bv]using n:k=e\/k=c\/k∈aa) with rfl|rfl|n
       ·exact H
       ·exact av
       ·exact q k n
      ·show w+m+(([e,c]++aa).map (wt d)).sum<=_;simp only[AJ,Aqv,Ars,Atr,Ar9,List.sum_nil];omega
end
theorem X6(e:s<=v.size)(i:Cr v s j)(a:Ec v s=.ok (wk,m)):XF (w+1) wk/\m<=v.size/\∃h,Cr v m h/\s+j+wt (w+1) wk<=m+h:=by
 have k:=Dq e;unfold Ec at a;split at a
 ·rename_i f
  cases a;let ⟨c,d,b⟩:=T7 f
  have:=i.word e b c d;exact⟨⟨trivial,λo g=>by simp[Bv]at g,λl hb=>by cases hb⟩,k,1,this.1,by have:=this.2;show s+j+((Bp v s).size-1+2)<=_;omega⟩
 ·split at a
  ·rename_i p f
   cases a;let ⟨c,d,b,n⟩:=YG f
   have:=i.word e b c d;exact⟨⟨n,λo g=>by simp[Bv]at g,λl hb=>by cases hb⟩,k,1,this.1,by have:=this.2;show s+j+2<=_;omega⟩
  ·cases a
theorem TP(d:ByteArray):∀b,EW d (b+1) (pE d b)
 |0,p,e,q,c,hp,hc,a=>by
  rw[pE]at a;split at a
  ·cases a
  ·exact X6 hp hc a
 |b+1,p,e,q,c,hp,hc,a=>by
  rw[pE]at a;split at a
  ·rename_i j
   let ⟨u,l,h,a⟩:=Bk a
   let ⟨n,m,f,a⟩:=Bk a
   have i:=GY hp (by rw[j];decide);let ⟨o,g,s,r,v⟩:=Ab9 (TP d b) i.2 (Cr.z d _) h
   have k:=B2 O4 l g n m f;have t:=r.want O4 g f;cases a;exact⟨o,k.2,0,Cr.z _ _,by have:=hc.1;omega⟩
  ·exact X6 hp hc a
theorem Abi(a b:ByteArray)(c:Q):(callFunc 179 #[S a,S b]).run Aa c=.ok (.value (V C (Ca a b))) c:=by
 have d:=@Bj Aa 179 _ Extern.BytealgCompare.compare Tryz.func179 rfl rfl rfl rfl;rw[d,Lib.run_compareString];rfl
theorem TE(a b:ByteArray)(c:Q):Av Aa 69 #[S a,S b] c λd e=>d=F (V C (Ca a b))/\e=c:=by
 have f:=Abi;go_wp2;go_ret;simp
theorem Wn(b c:ByteArray)(f:Int)(a:Q):Av Aa 205 #[T #[S b,V C f],S c] a λd e=>d=F (V C (Ca b c))/\Below a.heap.size a e:=by
 go_enter Tryz.func205,Tryz.ntmps205;go_wp2_with (first|(apply (TE _ _ _).mono;rintro d e ⟨rfl,rfl⟩))
 go_ret;exact⟨rfl,bA⟩
theorem int_eq(a:o=wm):Value.int xl o=V xl wm:=by rw[a]
theorem Aec(c:List Dd)(u:X)(e:ByteArray)(d:Q)(r:En d u c)(t:HA c):
 Av Aa 204 #[u,S e,.func (.func 205) #[] #[]] d λl f=>(∃D:Int,l=F (R #[V C D,A (Fs c e)]))/\Below d.heap.size d f:=by
 obtain⟨G,K,rfl,aa,s⟩:=r.open;have p:O9 (∀f,Below d.heap.size d f->NG f G c):=s;have k:O9 (HA c):=t;clear s r t;go_enter Tryz.func204,Tryz.ntmps204;go_wp2;go_loopw [9,10] (λn o wr=>∃a b:Nat,a<=b/\b<=L c/\n=V C a/\o=V C b/\O9 (Ii c e a b)/\Below d.heap.size d wr) (λn o _=>(intOf o).toNat-(intOf n).toNat)
 case atStart=>exact⟨0,L c,Ak _,Ac _,rfl,rfl,⟨λ_ _ y=>absurd y nofun,λH z O=>absurd z O1⟩,Ae _ _⟩
 case round=>
  obtain⟨a,b,U,B,rfl,rfl,i,hb⟩:=hrel;by_cases Y:a<b
  ·obtain⟨v,E,rfl,w,x,_⟩:=p.o _ hb ((a+b) / 2) O1;have M:(((a:Int)+(b:Int)) / 2).toNat=(a+b) / 2:=rfl;have g:(a+b) / 2<L c:=O1;generalize hnm:(c[(a+b) / 2]'g).name=nm at*;generalize har:(c[(a+b) / 2]'g).arity=ar at*;have q:O9 ((c[(a+b) / 2]'g).name=nm):=hnm;clear hnm har;go_wp2_with (first|(go_at_call 205;refine(Wn _ _ _ _).mono ?_;rintro l f ⟨rfl,h⟩))
   case roundEnd=>exact⟨⟨(a+b) / 2+1,b,O1,B,int_eq rfl,rfl,i.o.left k.o g (by rw[q.o];omega),hb.trans (h.mono hb.size)⟩,by simp[intOf];omega⟩
   case roundEnd=>exact⟨⟨a,(a+b) / 2,O1,O1,rfl,int_eq rfl,i.o.right k.o g (by rw[q.o];omega),hb.trans (h.mono hb.size)⟩,by simp[intOf];omega⟩
  ·obtain rfl:a=b:=O1;by_cases m:a<L c
   ·obtain⟨v,E,rfl,w,x,_⟩:=p.o _ hb a m;have j:O9 (Fs c e=(Ca c[a].name e==0)):=i.o.found k.o m;go_wp2_with (first|(go_at_call 205;refine(Wn _ _ _ _).mono ?_;rintro l f ⟨rfl,h⟩))
    go_ret2
    exact⟨⟨_,by rw[j.o];rfl⟩,hb.trans (h.mono hb.size)⟩
   ·have j:O9 (Fs c e=false):=i.o.none m;go_wp2;go_ret2
    exact⟨⟨_,by rw[j.o];rfl⟩,hb⟩
theorem Rn(a:List Dd)(c:X)(e:ByteArray)(b:Q)(i:En b c a)(j:HA a):
 Av Aa 131 #[c,S e] b λd f=>d=F (A (Fs a e))/\Below b.heap.size b f:=by
 have g:O9 (En b c a):=i;have h:O9 (HA a):=j;go_enter Tryz.func131,Tryz.ntmps131;go_wp2_with (first|(apply (Aec a _ _ _ g.o h.o).mono;rintro d f ⟨⟨l,rfl⟩,k⟩))
 go_ret;simp_all
def H5(a:B0):Bool:=decide (0<=a.tag) && decide (a.tag<=255) && decide (0<=a.tgt) && decide (a.tgt<=65535)
def LL(b:List B0)(d:Nat):Prop:=(∀a (e:a<L b),a<d->H5 b[a]=true)/\∀c a (f:c<L b) (g:a<L b),c<a->a<d->b[c].tag≠b[a].tag
theorem Ak5(b:List B0)(a:Nat)(l:a<L b)(g:LL b a)(k:H5 b[a]=true)(m:∀d h,d<a->b[d].tag≠b[a].tag):LL b (a+1):=by
 refine⟨λc e j=>?_,λd c h e i j=>?_⟩
 ·by_cases f:c=a
  ·subst f;exact k
  ·exact g.1 c e O1
 ·by_cases f:c=a
  ·grind
  ·exact g.2 d c h e i O1
theorem Aeq(b:List B0):LL b 0:=⟨λ_ _ a=>absurd a nofun,λ_ _ _ _ _ a=>absurd a nofun⟩
def Ny:List B0->Bool
 |[]=>true
 |a::r=>r.all (λb=>a.tag !=b.tag) && Ny r
def Jf(a:List B0):Bool:=a.all H5 && Ny a
theorem Xj(a:List B0):Ny a=true↔a.Pairwise (λb c=>b.tag≠c.tag):=by
 induction a with
 |nil=>simp[Ny]
 |cons b r ih=>simp[Ny,ih]
theorem Rr(c:List B0):Jf c=true↔LL c (L c):=by
 unfold Jf LL;rw[Aqx,Xj,Ase,Ark];constructor
 ·grind
 ·rintro⟨e,f⟩;refine⟨λj h=>?_,λb i a d g=>f b i a d g d⟩;obtain⟨b,a,rfl⟩:=Aty.1 h;exact e b a a
theorem WO(a:List B0)(b:Nat)(c:b<L a)(e:H5 a[b]=false):Jf a=false:=by
 rw[Bool.eq_false_iff];intro d;have:=((Rr a).1 d).1 b c c;grind
theorem Adt(a:List B0)(c:Nat)(e:c<L a)(g:∃b,∃d,b<c/\a[b].tag=a[c].tag):Jf a=false:=by
 rw[Bool.eq_false_iff];intro h;let ⟨b,d,i,f⟩:=g
 exact((Rr a).1 h).2 b c d e i e f
theorem Akp{c:w<L wz}(a:wz[w].tgt=o)(b:o<0\/65535<o):H5 wz[w]=false:=by
 simp only[H5,a,Ate,decide_eq_false_iff_not];omega
theorem Ad3(a:ya.tag<0\/255<ya.tag):H5 ya=false:=by
 simp only[H5,Ate,decide_eq_false_iff_not];omega
theorem zeroCells:Tryz.zeroCells412=Array.replicate 256 (A false):=O3
def Marks(d:Q)(b:Nat)(e:List B0)(g:Nat):Prop:=
 b<d.heap.size/\∀a:Nat,a<256->d.frozen? ⟨b,a,N⟩=false/\∃f:Bool,d.cell? ⟨b,a,N⟩=I (A f)/\(f=true↔∃c,∃(h:c<L e),c<g/\e[c].tag=a)
theorem Marks.zero(a:Q)(c:List B0):Marks (a.alloc (.cells Tryz.zeroCells412 412)) a.heap.size c 0:=by
 refine⟨O2,λd b=>⟨O2,false,?_,?_⟩⟩
 ·rw[zeroCells];simp[b]
 simp
theorem Marks.next{k:Nat}(q:k<L wz)(f:Marks n w wz k)(a:Nat)(r:a<256)(m:wz[k].tag=a)(d:Obj):Marks ((n.setCell ⟨w,a,N⟩ (A true)).alloc d) w wz (k+1):=by
 let ⟨o,g⟩:=f
 refine⟨by simp[World.setCell];omega,λe i=>?_⟩;let ⟨h,l,c,p⟩:=g e i
 have hb:Below (n.setCell ⟨w,a,N⟩ (A true)).heap.size (n.setCell ⟨w,a,N⟩ (A true)) ((n.setCell ⟨w,a,N⟩ (A true)).alloc d):=bA;have b:w<(n.setCell ⟨w,a,N⟩ (A true)).heap.size:=by simp_all
 refine⟨by rw[hb.frozen b];simpa using h,?_⟩;by_cases j:e=a
 ·subst j;refine⟨true,?_,?_⟩
  ·rw[hb.cell b];exact Am _ _ _ c
  grind
 ·refine⟨l,?_,?_⟩
  ·rw[hb.cell b,Af _ _ _ _ O2];exact c
  grind
theorem Z9(a:List B0)(t:X)(d:Q)(n:Ez d t a)(E:0<L a)(G:(L a)<=256):
 Av Aa 245 #[t] d λv g=>v=F (A (Jf a))/\Below d.heap.size d g:=by
 obtain⟨p,B,rfl,M,q⟩:=n.open;have u:O9 (∀g,Below d.heap.size d g->Mn g p a):=q;clear q n;have hb:((L a:Int)==0)=false:=by grind
 go_enter Tryz.func245,Tryz.ntmps245;go_wp2;go_loopw [16] (λc wr=>∃b:Nat,b<=L a/\c=V C b/\O9 (LL a b)/\O9 (Marks wr d.heap.size a b)/\Below d.heap.size d wr) (λc _=>L a-(intOf c).toNat)
 case atStart=>exact⟨0,Ak _,rfl,Aeq a,Marks.zero d a,bA⟩
 case round=>
  obtain⟨b,K,rfl,o,k,hb⟩:=hrel;by_cases e:b<L a
  ·obtain⟨x,ab,rfl,y,z⟩:=u.o _ hb b e;have aa:=k.o.1;by_cases w:0<=a[b].tag/\a[b].tag<=255
   ·obtain⟨U,Y⟩:=w;obtain⟨H,s,O,r⟩:=k.o.2 a[b].tag.toNat O1;have l:O9 (s=true↔∃c,∃(D:c<L a),c<b/\a[c].tag=(a[b].tag.toNat:Int)):=r;clear r;generalize hto:a[b].tgt=tto at*;generalize htg:a[b].tag=tg at*;have m:O9 (a[b].tgt=tto):=hto;have f:O9 (a[b].tag=tg):=htg;clear hto htg;cases s
    ·go_wp2;any_goals
      go_ret;exact⟨DM (WO a b e (Akp m.o O1)).symm,hb.alloc hb.size _⟩
     all_goals
      refine⟨⟨b+1,O1,rfl,Ak5 a b e o.o ?_ ?_,Marks.next e k.o tg.toNat O1 (by rw[f.o];omega) _,?_⟩,by simp[intOf];omega⟩
      ·simp only[H5,m.o,f.o];simp;omega
      ·intro c i j h;have:=l.o.2 ⟨c,i,j,by rw[h,f.o];omega⟩;cases this
      ·exact(hb.setCell (p:=⟨d.heap.size,tg.toNat,N⟩) (Ac _) _).alloc (by have:=hb.size;simp_all) _
    ·go_wp2;all_goals
      go_ret;refine⟨DM (Adt a b e ?_).symm,hb.alloc hb.size _⟩;obtain⟨c,i,j,h⟩:=l.o.1 (by trivial);exact⟨c,i,j,by rw[h,f.o];omega⟩
   ·go_wp2;all_goals
     go_ret;exact⟨DM (WO a b e (Ad3 O1)).symm,hb.alloc hb.size _⟩
  ·go_wp2;go_ret;exact⟨DM (((Rr a).2 (by have:=o.o;grind))).symm,hb⟩
def Gh(a:List B0):Bool:=decide (0<L a) && decide (L a<=256) && Jf a
theorem Ail(a:List B0)(h:X)(c:Q)(g:Ez c h a):
 Av Aa 245 #[h] c λb l=>b=F (A (Gh a))/\Below c.heap.size c l:=by
 by_cases e:0<L a
 ·by_cases f:(L a)<=256
  ·have b:Gh a=Jf a:=by simp[Gh,e,f]
   rw[b];exact Z9 a h c g e f
  ·have b:Gh a=false:=by simp[Gh,f]
   have d:O9 (Gh a=false):=b;obtain⟨k,i,rfl,j,-⟩:=g.open;have hb:((L a:Int)==0)=false:=by grind
   go_wp2;go_ret;exact⟨DM d.o.symm,Ae _ _⟩
 ·have b:Gh a=false:=by simp[Gh,e]
  have d:O9 (Gh a=false):=b;obtain⟨k,i,rfl,j,-⟩:=g.open;have hb:((L a:Int)==0)=true:=by grind
  go_wp2;go_ret;exact⟨DM d.o.symm,Ae _ _⟩
def DE(a b:Int)(c:List B0):Bool:=
 if 0<=a/\a<21 then
  if BC a.toNat 0=1 then (L c:Int)==0
  else if BC a.toNat 0=2 then ((L c:Int)==0) && decide (BC a.toNat 1<=b) && decide (b<=BC a.toNat 2)
  else if BC a.toNat 0=3 then (b==0) && Gh c
  else (b==0) && ((L c:Int)==0)
 else false
theorem Aio(d c:Int)(b:List B0)(u:X)(f:Q)(m:Ez f u b)(k:Cu f):
 Av Aa 206 #[T #[V C d,V C c,u]] f λe g=>e=F (A (DE d c b))/\Below f.heap.size f g:=by
 obtain⟨l,j,rfl,w,-⟩:=id m;have G:=w.le;clear w;have q:O9 (Ez f (W l (L b) j) b):=m;clear m;by_cases p:0<=d/\d<21
 ·obtain⟨a,rfl⟩:=AZ p.1;have h:a<21:=O1;have i:O9 (DE a c b=if BC a 0=1 then (L b:Int)==0 else if BC a 0=2 then ((L b:Int)==0) && decide (BC a 1<=c) && decide (c<=BC a 2) else if BC a 0=3 then (c==0) && Gh b else (c==0) && ((L b:Int)==0)):=by
   show _=_;simp only[DE];grind
  have x:=Bn ((Ae _ _).alloc (Ac _) (.cells #[V C a,V C c,W l (L b) j] 138)) (k.row a 0 h O1);have y:=Bn ((Ae _ _).alloc (Ac _) (.cells #[V C a,V C c,W l (L b) j] 138)) (k.row a 1 h O1);have z:=Bn ((Ae _ _).alloc (Ac _) (.cells #[V C a,V C c,W l (L b) j] 138)) (k.row a 2 h O1);have r:O9 _:=x;have s:O9 _:=y;have t:O9 _:=z;clear x y z k;have v:(decide ((0:Int)<=(a:Int)) && decide ((a:Int)<21))=true:=by simp;omega
  generalize BC a 0=r0 at*;generalize BC a 1=r1 at*;generalize BC a 2=r2 at*;clear p;have E:decide ((a:Int)<21)=true:=by simp;omega
  generalize hn:(L b)=n at*;have B:O9 (L b=n):=hn;clear hn v;go_enter Tryz.func206,Tryz.ntmps206;go_wp2_with (first|(go_at_call 243;refine(U0 _ _).mono ?_;rintro e g ⟨rfl,rfl⟩)|(go_at_call 207;refine(JP a r0 _ h r.o).mono ?_;rintro e g ⟨rfl,rfl⟩)|(go_at_call 244;refine(UA a r1 r2 _ h s.o t.o).mono ?_;rintro e g ⟨rfl,H,rfl⟩)|(go_at_call 245;refine(Ail b _ _ ?_).mono ?_;exact q.o.bE bA;rintro e g ⟨rfl,D⟩))
  all_goals
   go_ret;refine⟨DM ?_,?_⟩
   ·rw[i.o];clear q r s t B i;first|(simp_all;done)|(simp_all;omega)
   ·first|exact bA|exact below_drewN bA _|exact bA.trans (D.mono O2)
 ·have i:O9 (DE d c b=false):=by show _=_;simp only[DE];rw[if_neg p]
  have v:(decide ((0:Int)<=d) && decide (d<21))=false:=by simp;omega
  go_enter Tryz.func206,Tryz.ntmps206;go_wp2_with (first|(go_at_call 243;refine(U0 _ _).mono ?_;rintro e g ⟨rfl,rfl⟩))
  all_goals
   go_ret;exact⟨DM i.o.symm,bA⟩
theorem Aj0(a:b=i):Ending.returned b=F i:=by rw[a]
def Ie(c:List Bx):Bool:=decide (L c<=65535) && c.all λb=>DE b.op b.a b.alts
theorem all_false(c:wl->Bool)(a:List wl)(b:Nat)(e:b<L a)(d:c a[b]=false):a.all c=false:=by
 grind
theorem all_true(c:wl->Bool)(a:List wl)(d:∀b (h:b<L a),c a[b]=true):a.all c=true:=by
 rw[Ark];intro i f;obtain⟨g,e,rfl⟩:=Aty.1 f;exact d g e
theorem Ap3(b:List Bx)(s:X)(e:Q)(m:D9 e s b)(n:Cu e):
 Av Aa 132 #[s] e λj h=>j=F (A (Ie b))/\Below e.heap.size e h:=by
 obtain⟨G,U,rfl,ab,q⟩:=m.open;have u:O9 (∀h,Below e.heap.size e h->LZ h G b):=q;have x:O9 (Cu e):=n;clear q m n;by_cases r:(L b)<=65535
 ·have i:O9 (Ie b=b.all λg=>DE g.op g.a g.alts):=by show _=_;simp[Ie,r]
  go_enter Tryz.func132,Tryz.ntmps132;go_wp2;go_loopw [10] (λk wr=>∃c:Nat,c<=L b/\k=V C c/\O9 (∀d (f:d<L b),d<c->DE b[d].op b[d].a b[d].alts=true)/\Below e.heap.size e wr) (λk _=>L b-(intOf k).toNat)
  case atStart=>exact⟨0,Ak _,rfl,λ_ _ f=>absurd f nofun,Ae _ _⟩
  case round=>
   obtain⟨c,aa,rfl,o,hb⟩:=hrel;by_cases E:c<L b
   ·obtain⟨H,ac,B,z,y,rfl,K,M,O,l⟩:=u.o _ hb c E;have t:O9 (Ez wr (W B z y) b[c].alts):=l;have v:O9 (DE b[c].op b[c].a b[c].alts=false->(b.all λg=>DE g.op g.a g.alts)=false):=by grind
    have w:O9 (DE b[c].op b[c].a b[c].alts=true->∀d (f:d<L b),d<c+1->DE b[d].op b[d].a b[d].alts=true):=by
     intro D d f Y;by_cases j:d=c
     ·subst j;exact D
     ·exact o.o d f O1
    clear l;generalize b[c].op=op at*;generalize b[c].a=a at*;generalize b[c].alts=alts at*;go_wp2_with (first|(go_at_call 206;refine(Aio op a alts _ _ ?_ ?_).mono ?_;exact(t.o).bE bA;exact x.o.bE (hb.alloc hb.size _);rintro j h ⟨rfl,p⟩))
    any_goals
     go_ret;exact⟨DM (by rw[i.o,v.o (by simp_all)]),(hb.alloc hb.size _).trans (p.mono (by have:=hb.size;simp;omega))⟩
    all_goals exact⟨⟨c+1,O1,rfl,w.o (by simp_all),(hb.alloc hb.size _).trans (p.mono (by have:=hb.size;simp;omega))⟩,by simp[intOf];omega⟩
   ·go_wp2;go_ret;exact⟨DM (by rw[i.o,all_true _ _ (λd f=>o.o d f O1)]),hb⟩
 ·have i:O9 (Ie b=false):=by show _=_;simp[Ie,r]
  go_enter Tryz.func132,Tryz.ntmps132;go_wp2;go_ret;exact⟨DM i.o.symm,Ae _ _⟩
def Fq:ByteArray->List Dd->Bool
 |_,[]=>true
 |last,x::r=>Cx x.name && D8 x.name last && Jl x.arity && Fq x.name r
theorem Vm(c:ByteArray)(b:List Dd)(a:Nat)(d:a<L b):Fq c (b.drop a)=(Cx b[a].name && D8 b[a].name c && Jl b[a].arity && Fq b[a].name (b.drop (a+1))):=by
 rw[A3 d];rfl
theorem Zp(a:List Dd)(p:X)(d:Q)(j:En d p a):
 Av Aa 80 #[p] d λf e=>f=F (A (Fq ⟨#[]⟩ a))/\Below d.heap.size d e:=by
 obtain⟨r,w,rfl,y,l⟩:=j.open;have q:O9 (∀e,Below d.heap.size d e->NG e r a):=l;clear l j;go_enter Tryz.func80,Tryz.ntmps80;go_wp2;go_loopw [3,8] (λs i wr=>∃(b:Nat) (c:ByteArray),b<=L a/\s=S c/\i=V C b/\O9 (Fq ⟨#[]⟩ a=Fq c (a.drop b))/\Below d.heap.size d wr) (λ_ i _=>L a-(intOf i).toNat)
 case atStart=>exact⟨0,⟨#[]⟩,Ak _,rfl,rfl,rfl,Ae _ _⟩
 case round=>
  obtain⟨b,c,x,rfl,rfl,k,hb⟩:=hrel;by_cases n:b<L a
  ·obtain⟨t,z,rfl,u,v,o⟩:=q.o _ hb b n;have h:O9 (Fq ⟨#[]⟩ a=(Cx a[b].name && D8 a[b].name c && Jl a[b].arity && Fq a[b].name (a.drop (b+1)))):=by
    show _=_;rw[k.o,Vm c a b n]
   generalize a[b].name=nm at*;generalize a[b].arity=ar at*;have m:=le_eq nm c;cases hg:D8 nm c
   ·rw[hg]at m;have g:O9 (D8 nm c=false):=hg;clear hg;go_wp2_with (first|(go_at_call 79;refine(J6 _ _ o).mono ?_;rintro f e ⟨rfl,rfl⟩)|(go_at_call 130;refine(SC _ _).mono ?_;rintro f e ⟨rfl,rfl⟩))
    all_goals
     go_ret;exact⟨DM (by rw[h.o,g.o];simp),hb.alloc hb.size _⟩
   ·rw[hg]at m;have g:O9 (D8 nm c=true):=hg;clear hg;go_wp2_with (first|(go_at_call 79;refine(J6 _ _ o).mono ?_;rintro f e ⟨rfl,rfl⟩)|(go_at_call 130;refine(SC _ _).mono ?_;rintro f e ⟨rfl,rfl⟩))
    any_goals
     go_ret;exact⟨DM (by rw[h.o,g.o];simp_all),hb.alloc hb.size _⟩
    all_goals exact⟨⟨b+1,nm,O1,rfl,by go_num,by show _=_;rw[h.o,g.o];simp_all,hb.alloc hb.size _⟩,by simp[intOf];omega⟩
  ·go_wp2;go_ret;exact⟨DM (by rw[k.o,Arz O1];rfl),hb⟩
theorem Ac2:∀b f,Fq f b=true->HA b/\∀a (c:a<L b),Ca f b[a].name<0:=by
 intro b;induction b with
 |nil=>intro f _;exact⟨λa e d=>absurd d nofun,λa c=>absurd c nofun⟩
 |cons x r ih=>
  intro f c;simp[Fq,Aqx]at c;let ⟨⟨⟨_,j⟩,_⟩,l⟩:=c
  let ⟨h,i⟩:=ih x.name l
  have g:=(OS _ _).1 j;refine⟨λa e d k m=>?_,λa d=>?_⟩
  ·cases a with
   |zero=>
    grind
   |succ a=>
    cases e with
    |zero=>omega
    |succ e=>exact h a e (by simpa using d) (by simpa using k) O1
  ·cases a with
   |zero=>exact g
   |succ a=>exact Ln g (i a (by simpa using d))
def FO(a:List Dd):ByteArray->List Bt->Bool
 |_,[]=>true
 |last,x::r=>Cx x.name && D8 x.name last && !Fs a x.name && Jl x.arity && Ie x.code && FO a x.name r
theorem Vw(c:List Dd)(d:ByteArray)(b:List Bt)(a:Nat)(e:a<L b):FO c d (b.drop a)=(Cx b[a].name && D8 b[a].name d && !Fs c b[a].name && Jl b[a].arity && Ie b[a].code && FO c b[a].name (b.drop (a+1))):=by
 rw[A3 e];rfl
theorem Aot(a:List Bt)(c:List Dd)(x m:X)(d:Q)(o:HD d x a)(p:En d m c)(v:HA c)(q:Cu d):
 Av Aa 81 #[x,m] d λh g=>h=F (A (FO c ⟨#[]⟩ a))/\Below d.heap.size d g:=by
 obtain⟨K,ad,rfl,ag,s⟩:=o.open;have y:O9 (∀g,Below d.heap.size d g->OQ g K a):=s;have B:O9 (En d m c):=p;have D:O9 (HA c):=v;have E:O9 (Cu d):=q;clear s p o v q;go_enter Tryz.func81,Tryz.ntmps81;go_wp2;go_loopw [5,10] (λM l wr=>∃(b:Nat) (e:ByteArray),b<=L a/\M=S e/\l=V C b/\O9 (FO c ⟨#[]⟩ a=FO c e (a.drop b))/\Below d.heap.size d wr) (λ_ l _=>L a-(intOf l).toNat)
 case atStart=>exact⟨0,⟨#[]⟩,Ak _,rfl,rfl,rfl,Ae _ _⟩
 case round=>
  obtain⟨b,e,af,rfl,rfl,r,hb⟩:=hrel;by_cases u:b<L a
  ·obtain⟨U,ai,H,G,cc,rfl,Y,aa,ab,ac,n,w⟩:=y.o _ hb b u;have z:O9 (D9 wr (W H G cc) a[b].code):=n;have j:O9 (FO c ⟨#[]⟩ a=(Cx a[b].name && D8 a[b].name e && !Fs c a[b].name && Jl a[b].arity && Ie a[b].code && FO c a[b].name (a.drop (b+1)))):=by
    show _=_;rw[r.o,Vw c e a b u]
   clear n;generalize a[b].name=nm at*;generalize a[b].arity=ar at*;generalize a[b].exp=ex at*;generalize a[b].code=code at*;have t:=le_eq nm e;have ae:=hb.size;cases hg:D8 nm e
   ·rw[hg]at t;have i:O9 (D8 nm e=false):=hg;clear hg;go_wp2_with (first|(go_at_call 79;refine(J6 _ _ w).mono ?_;rintro h g ⟨rfl,rfl⟩))
    all_goals
     go_ret;exact⟨DM (by rw[j.o,i.o];simp),hb.alloc hb.size _⟩
   ·rw[hg]at t;have i:O9 (D8 nm e=true):=hg;clear hg;go_wp2_with (first|(go_at_call 79;refine(J6 _ _ w).mono ?_;rintro h g ⟨rfl,rfl⟩)|(go_at_call 131;refine(Rn c _ _ _ ?_ D.o).mono ?_;exact B.o.bE (hb.alloc hb.size _);rintro h O ⟨rfl,f⟩;obtain⟨ak,al⟩:=Ea f;have ah:wr.heap.size<O.heap.size:=(by have:=f.size;simp at this;omega))|(go_at_call 130;refine(SC _ _).mono ?_;rintro h g ⟨rfl,rfl⟩)|(go_at_call 132;refine(Ap3 code _ _ ?_ ?_).mono ?_;exact z.o.bE (bA.trans (f.mono O2));exact E.o.bE ((hb.alloc hb.size _).trans (f.mono O5));rintro h aj ⟨rfl,k⟩;obtain⟨am,an⟩:=Ea k))
    any_goals
     go_ret;refine⟨DM (by rw[j.o,i.o];simp_all),?_⟩;first
      |exact hb.alloc hb.size _
      |exact(hb.alloc hb.size _).trans (f.mono O5)
      |exact((hb.alloc hb.size _).trans (f.mono O5)).trans (k.mono O1)
    all_goals exact⟨⟨b+1,nm,O1,rfl,by go_num,by show _=_;rw[j.o,i.o];simp_all,((hb.alloc hb.size _).trans (f.mono O5)).trans (k.mono O1)⟩,by simp[intOf];omega⟩
  ·go_wp2;go_ret;exact⟨DM (by rw[r.o,Arz O1];rfl),hb⟩
def MD(a:BA):Bool:=Cx a.name && Fq ⟨#[]⟩ a.Bu && FO a.Bu ⟨#[]⟩ a.Bs
def Mh(a:Bool)(b:X):X:=if a then .nilIface else b
theorem UH(a:BA)(s k:X)(b:Q)(E:EK b s a)(p:Cu b)(e:b.cell? ⟨19,0,N⟩=I k)(G:∃r u,k=Z r u):
 Av Aa 39 #[s] b λd h=>d=F (Mh (MD a) k)/\Below b.heap.size b h:=by
 obtain⟨r,u,rfl⟩:=G;obtain⟨ag,aa,rfl,q,m,l⟩:=E;obtain⟨K,H,rfl,-,-⟩:=id m;obtain⟨z,y,rfl,-,-⟩:=id l;have j:O9 (En b (W K (L a.Bu) H) a.Bu):=m;have v:O9 (HD b (W z (L a.Bs) y) a.Bs):=l;have x:O9 (Cu b):=p;have o:O9 (MD a=(Cx a.name && Fq ⟨#[]⟩ a.Bu && FO a.Bu ⟨#[]⟩ a.Bs)):=rfl;have w:O9 (Fq ⟨#[]⟩ a.Bu=true->HA a.Bu):=λB=>(Ac2 _ _ B).1;clear m l p;generalize a.name=nm at*;generalize hil:(L a.Bu)=il at*;generalize hgl:(L a.Bs)=gl at*;clear hil hgl;generalize hb0:MD a=vb at*;have Y:=o;clear hb0 o;have ab:=Nat.lt_of_le_of_lt (Ak _) (AG e);have ad:=λM=>Bn ((Ae b.heap.size b).alloc (Ac _) M) e;cases h1:Fq ⟨#[]⟩ a.Bu
 ·have g:O9 (Fq ⟨#[]⟩ a.Bu=false):=h1;have i:O9 (vb=false):=by grind
  clear h1;obtain rfl:vb=false:=i.o;go_enter Tryz.func39,Tryz.ntmps39;go_wp2_with (first|(go_at_call 79;refine(J6 _ _ q).mono ?_;rintro d h ⟨rfl,rfl⟩)|(go_at_call 80;refine(Zp a.Bu _ _ ?_).mono ?_;exact j.o.bE bA;rintro d h ⟨f,c⟩;rw[g.o]at f;subst f;have D:=Bn (((Ae b.heap.size b).alloc (Ac _) _).trans (c.mono O2)) e;obtain⟨O,U⟩:=Ea c))
  all_goals
   go_ret;refine⟨rfl,?_⟩;first
    |exact bA
    |exact bA.trans (c.mono O2)
 ·have g:O9 (Fq ⟨#[]⟩ a.Bu=true):=h1;have i:O9 (vb=(Cx nm && FO a.Bu ⟨#[]⟩ a.Bs)):=by grind
  clear h1;go_enter Tryz.func39,Tryz.ntmps39;go_wp2_with (first|(go_at_call 79;refine(J6 _ _ q).mono ?_;rintro d h ⟨rfl,rfl⟩)|(go_at_call 80;refine(Zp a.Bu _ _ ?_).mono ?_;exact j.o.bE bA;rintro d t ⟨f,c⟩;rw[g.o]at f;subst f;have D:=Bn (((Ae b.heap.size b).alloc (Ac _) _).trans (c.mono O2)) e;obtain⟨O,U⟩:=Ea c;have af:b.heap.size<t.heap.size:=(by have:=c.size;simp at this;omega);have ac:0<t.heap.size:=O1)|(go_at_call 81;refine(Aot a.Bs a.Bu _ _ _ ?_ ?_ (w.o g.o) ?_).mono ?_;exact v.o.bE (bA.trans (c.mono O2));exact j.o.bE (bA.trans (c.mono O2));exact x.o.bE (bA.trans (c.mono O2));rintro d ah ⟨rfl,n⟩;have ae:=Bn ((((Ae b.heap.size b).alloc (Ac _) _).trans (c.mono O2)).trans (n.mono O1)) e;obtain⟨ai,aj⟩:=Ea n))
  all_goals
   go_ret;refine⟨Aj0 ?_,?_⟩
   ·rw[i.o];simp_all[Mh]
   ·first
     |exact bA
     |exact(bA.trans (c.mono O2)).trans (n.mono O1)
def D5(a:Nat)(b:Int):Int:=
 if a=0\/a=1 then 0 else if a=2 then b+1 else if a=4 then b+1 else if a=5 then b+2 else if a=6 then b else if a=7 then 0 else if a=8\/a=17\/a=19 then 1 else if a=15 then b % 256 else if a=16 then 1 else if a=18\/a=20 then 0 else 2
def CN(a:Nat)(b:Int):Int:=
 if a=0\/a=1 then 1 else if a=2 then 1 else if a=4 then -b else if a=5 then -1 else if a=6 then -b else if a=7 then b else if a=8\/a=17\/a=19 then 0 else if a=15 then 1-b % 256 else if a=16 then b-1 else if a=18\/a=20 then 0 else -1
theorem L3(a:Nat)(b:a<21):a=0\/a=1\/a=2\/a=3\/a=4\/a=5\/a=6\/a=7\/a=8\/a=9\/a=10\/a=11\/a=12\/a=13\/a=14\/a=15\/a=16\/a=17\/a=18\/a=19\/a=20:=O1
def Agb(c:Nat)(f:X):Prop:=∀b e d,f=W b e d->∀a,b=I a->a.block≠c
theorem EF.cell{a:Nat}{d e:Q}(f:EF a d e){b j:Nat}{u:X}(c:d.cell? ⟨b,j,N⟩=I u)(hb:b≠a):e.cell? ⟨b,j,N⟩=I u:=by
 rw[<-c];exact Ai (f.block b (AG c) hb)
theorem En.ef{c:Nat}{w:Q}{a:X}(h:En w a n1)(f:EF c w n)(l:Agb c a):En n a n1:=by
 let ⟨s,g,d,p,m⟩:=h
 refine⟨s,g,d,p,λq o=>?_⟩;let ⟨b,r,e,i,j,k⟩:=m q o
 have hb:=l _ _ _ d _ e;exact⟨b,r,e,f.cell i hb,f.cell j hb,k⟩
def nx{a:Type}(c:Except (Nat×Nat) Nat)(b:Nat->Rd a):Rd a:=
 match c with
 |.ok p=>b p
 |P e=>P e
def bd{b c:Type}(f:Rd b)(d:b->Nat->Rd c):Rd c:=
 match f with
 |.ok (a,q)=>d a q
 |P e=>P e
def M8(a:Nat):Int:=if a % 2=0 then ((a / 2:Nat):Int) else -((a / 2:Nat):Int)-1
theorem Lb(a:Nat)(b:a<21):0<=BC a 1/\BC a 1<=1/\0<=BC a 2/\BC a 2<=65535/\(BC a 0=1↔a=0)/\(BC a 0=3↔a=17)/\0<=BC a 0/\BC a 0<=3:=by
 rcases L3 a b with rfl|rfl|rfl|rfl|rfl|rfl|rfl|rfl|rfl|rfl|rfl|rfl|rfl|rfl|rfl|rfl|rfl|rfl|rfl|rfl|rfl;all_goals decide
structure Cq (c:List Nat) (a b:Q):Prop where
 os:b.os=a.os
 tape:b.tape=a.tape
 output:b.output=a.output
 size:a.heap.size<=b.heap.size
 block:∀k,k<a.heap.size->k∉c->b.heap[k]?=a.heap[k]?
theorem Cq.refl(b:List Nat)(a:Q):Cq b a a:=⟨rfl,rfl,rfl,Ac _,λ_ _ _=>rfl⟩
theorem Cq.trans{d:List Nat}{f g h:Q}(a:Cq d f g)(c:Cq d g h):Cq d f h:=
 ⟨c.os.trans a.os,c.tape.trans a.tape,c.output.trans a.output,Aw a.size c.size,λb hb e=>(c.block b (Aj hb a.size) e).trans (a.block b hb e)⟩
theorem Cq.bG(a:Below n.heap.size n p):Cq y n p:=⟨a.os,a.tape,a.output,a.size,λc b _=>a.block c b⟩
theorem Cq.alloc(a:Cq y n p)(o:Obj):Cq y n (p.alloc o):=a.trans (Cq.bG bA)
theorem Cq.drewN(a:Cq y n p)(b:Nat):Cq y n (p.drewN b):=a.trans (Cq.bG (below_drewN (Ae _ _) _))
theorem Cq.set(a:Cq y n p){b d:Nat}(hb:b∈y\/n.heap.size<=b)(u:X):Cq y n (p.setCell ⟨b,d,N⟩ u):=by
 refine⟨a.os,a.tape,a.output,by simpa using a.size,λc e f=>?_⟩;rw[heap_setCell_other p ⟨b,d,N⟩ c u O6];exact a.block c e f
theorem Cq.cE(a:EF w n p)(d:w∈y):Cq y n p:=⟨a.os,a.tape,a.output,a.size,λc b e=>a.block c b O6⟩
theorem Cq.ef{c:Nat}{w:Q}(a:Cq y w n)(f:∀b∈y,b=c\/w.heap.size<=b):EF c w n:=
 ⟨a.os,a.tape,a.output,a.size,λe d g=>a.block e d O6⟩
theorem Cq.more(a:Cq y n p)(f:∀b∈y,b∈nk\/n.heap.size<=b):Cq nk n p:=
 ⟨a.os,a.tape,a.output,a.size,λd c e=>a.block d c O6⟩
theorem Cq.grown(a:Cq y n p)(b:p.grownBy H vy)(g:∀c,vy=I c->c∈y\/n.heap.size<=c):Cq y n H:=by
 refine⟨b.os.trans a.os,b.tape.trans a.tape,b.output.trans a.output,Aw a.size b.size,λe d f=>?_⟩;rw[b.block e (Aj d a.size) O6];exact a.block e d f
theorem Cq.below(a:Cq y n p)(hb:∀b∈y,n.heap.size<=b):Below n.heap.size n p:=
 (Ae _ n).grown (row:=none) ⟨a.os,a.tape,a.output,a.size,λe d _=>a.block e d O6⟩ .refl (λ_ c=>by cases c)
theorem BU.off{j:wl->List X}{b:wl->List Nat}{e:Q->wl->Prop}(m:F8 b e){g l:Q}{d:Nat}{f:X}{h:List wl}(c:BU j b e wj w g d f h){i:List Nat}(k:Cq i g l)(n:∀a∈i,a<d\/g.heap.size<=a\/a∉CR b f h):BU j b e wj w l d f h:=
 c.fr m k.size λa hb=>k.block a (c.rg a hb).2 (by have:=c.rg a hb;grind)
structure CB (b:Q) (a:Nat) (c d e:X):Prop where
 c0:b.cell? ⟨a,0,N⟩=I c
 c1:b.cell? ⟨a,1,N⟩=I d
 c2:b.cell? ⟨a,2,N⟩=I e
 f0:b.frozen? ⟨a,0,N⟩=false
 f1:b.frozen? ⟨a,1,N⟩=false
 f2:b.frozen? ⟨a,2,N⟩=false
theorem CB.new(a:Q)(b c d:X)(e:AX):CB (a.alloc (.cells #[b,c,d] e)) a.heap.size b c d:=⟨O2,O2,O2,O2,O2,O2⟩
theorem CB.lt(a:CB n w b i r):w<n.heap.size:=AG a.c0
theorem CB.bX{w':Q}(c:CB n w b i r)(a:w'.heap[w]?=n.heap[w]?):CB w' w b i r:=by
 refine⟨?_,?_,?_,?_,?_,?_⟩
 ·rw[Ai a];exact c.c0
 ·rw[Ai a];exact c.c1
 ·rw[Ai a];exact c.c2
 ·rw[AD a];exact c.f0
 ·rw[AD a];exact c.f1
 ·rw[AD a];exact c.f2
theorem CB.off(a:CB n w b i r)(d:Cq y n p)(c:w∉y):CB p w b i r:=a.bX (d.block w a.lt c)
theorem CB.ef{a:Nat}{w:Q}{b:Nat}{x y d:X}(c:CB w b x y d)(e:EF a w n)(f:b≠a):CB n b x y d:=c.bX (e.block b c.lt f)
theorem CB.bE{w:Q}{a:Nat}(c:CB w a b i r)(hb:Below w.heap.size w n):CB n a b i r:=c.bX (hb.block a c.lt)
theorem CB.dY(a:CB n w b i r)(c:X):CB (n.setCell ⟨w,0,N⟩ c) w c i r:=
 ⟨Am _ _ _ a.c0,by rw[Af _ _ _ _ (B4 O1)];exact a.c1,by rw[Af _ _ _ _ (B4 O1)];exact a.c2,by rw[An];exact a.f0,by rw[An];exact a.f1,by rw[An];exact a.f2⟩
theorem CB.cJ(a:CB n w b i r)(c:X):CB (n.setCell ⟨w,1,N⟩ c) w b c r:=
 ⟨by rw[Af _ _ _ _ (B4 O1)];exact a.c0,Am _ _ _ a.c1,by rw[Af _ _ _ _ (B4 O1)];exact a.c2,by rw[An];exact a.f0,by rw[An];exact a.f1,by rw[An];exact a.f2⟩
theorem CB.cF(a:CB n w b i r)(c:X):CB (n.setCell ⟨w,2,N⟩ c) w b i c:=
 ⟨by rw[Af _ _ _ _ (B4 O1)];exact a.c0,by rw[Af _ _ _ _ (B4 O1)];exact a.c1,Am _ _ _ a.c2,by rw[An];exact a.f0,by rw[An];exact a.f1,by rw[An];exact a.f2⟩
theorem CB.put(e:CB n w b i r)(a c d:X):CB (((n.setCell ⟨w,0,N⟩ a).setCell ⟨w,1,N⟩ c).setCell ⟨w,2,N⟩ d) w a c d:=((e.dY a).cJ c).cF d
def Hi(a:Nat):Nat:=[19,11,12,13,0,3,5,6,7,8,9,10,1,2,4,14,15,16,17].getD a 0
def HG(a:Nat):Int:=[(15:Int),12,13,14,1,4,6,7,8,9,10,11,2,3,5,16,17,18,19].getD a 0
def CX(a:Addr):X:=Z 444 (J (I a))
def Gv(a:Addr)(b c:Int):X:=Z 109 (T #[Z 444 (J (I a)),V C b,V C c])
structure DP (b:Q) (a:Nat->Addr):Prop where
 c:∀i,(0<=i/\i<19)->b.cell? ⟨Hi i,0,N⟩=I (CX (a i))
 o:∀i,(0<=i/\i<19)->∃c t,b.heap[(a i).block]?=I (.cells c t (0,0))
 ne:∀i j,(0<=i/\i<19)->(0<=j/\j<19)->i≠j->a i≠a j
 et:b.cell? ⟨18,0,N⟩=I (Z 241 (T #[J (I ⟨27,63,N⟩)]))
theorem DP.bE{w:Q}(a:DP w f)(hb:Below w.heap.size w n):DP n f:=by
 refine⟨λi b=>Bn hb (a.c i b),λi b=>?_,a.ne,Bn hb a.et⟩;let ⟨c,t,d⟩:=a.o i b
 refine⟨c,t,?_⟩;rw[hb.block]
 ·exact d
 grind
theorem Afk(d:DP n f)(a b:Nat)(h:0<=a/\a<19)(i:0<=b/\b<19)(e g:Int):
 Av Aa 31 #[Gv (f a) e g,CX (f b)] n λc r=>c=F (A (decide (a=b)))/\Below n.heap.size n r:=by
 by_cases c:a=b
 ·subst c;refine(Aez (f a) e g n).mono ?_;simp
 ·let ⟨j,p,l⟩:=d.o a h
  let ⟨k,q,m⟩:=d.o b i
  refine(Ai3 (f a) (f b) j k p q e g n (d.ne a b h i c) l m).mono ?_;grind
theorem Aib(d:DP n f)(a b:Nat)(g:0<=a/\a<19)(h:0<=b/\b<19):
 Av Aa 31 #[CX (f a),CX (f b)] n λc e=>c=F (A (decide (a=b)))/\Below n.heap.size n e:=by
 by_cases c:a=b
 ·subst c;apply (Aa3 (f a) n).mono;rintro c e ⟨rfl,rfl⟩;exact⟨O2,Ae _ _⟩
 ·let ⟨i,m,k⟩:=d.o a g
  let ⟨j,p,l⟩:=d.o b h
  apply (Adr (f a) (f b) i j m p n (d.ne a b g h c) k l).mono;rintro c e ⟨rfl,rfl⟩;exact⟨by simp[c],Ae _ _⟩
theorem Ams(a:w=0):(15:Int)=HG w:=by rw[a];rfl
theorem Aem(a:o=wm):Ending.returned (V C o)=F (V C wm):=by rw[a]
def OX(b:Q)(a:Nat->Addr):Prop:=
 b.cell? ⟨0,0,N⟩=I (Z 444 (J (I (a 4))))/\b.cell? ⟨3,0,N⟩=I (Z 444 (J (I (a 5))))/\b.cell? ⟨5,0,N⟩=I (Z 444 (J (I (a 6))))/\b.cell? ⟨6,0,N⟩=I (Z 444 (J (I (a 7))))/\b.cell? ⟨7,0,N⟩=I (Z 444 (J (I (a 8))))/\b.cell? ⟨8,0,N⟩=I (Z 444 (J (I (a 9))))/\b.cell? ⟨9,0,N⟩=I (Z 444 (J (I (a 10))))/\b.cell? ⟨10,0,N⟩=I (Z 444 (J (I (a 11))))/\b.cell? ⟨11,0,N⟩=I (Z 444 (J (I (a 1))))/\b.cell? ⟨12,0,N⟩=I (Z 444 (J (I (a 2))))/\b.cell? ⟨13,0,N⟩=I (Z 444 (J (I (a 3))))/\b.cell? ⟨1,0,N⟩=I (Z 444 (J (I (a 12))))/\b.cell? ⟨2,0,N⟩=I (Z 444 (J (I (a 13))))/\b.cell? ⟨4,0,N⟩=I (Z 444 (J (I (a 14))))/\b.cell? ⟨14,0,N⟩=I (Z 444 (J (I (a 15))))/\b.cell? ⟨15,0,N⟩=I (Z 444 (J (I (a 16))))/\b.cell? ⟨16,0,N⟩=I (Z 444 (J (I (a 17))))/\b.cell? ⟨17,0,N⟩=I (Z 444 (J (I (a 18))))
theorem DP.cells(a:DP n f):OX n f:=
 ⟨a.c 4 O1,a.c 5 O1,a.c 6 O1,a.c 7 O1,a.c 8 O1,a.c 9 O1,a.c 10 O1,a.c 11 O1,a.c 1 O1,a.c 2 O1,a.c 3 O1,a.c 12 O1,a.c 13 O1,a.c 14 O1,a.c 15 O1,a.c 16 O1,a.c 17 O1,a.c 18 O1⟩
def Z0(b:Q)(d:Nat->Addr)(g:AX)(i:X)(f:Nat):Prop:=∀c,Below b.heap.size b c->∀a,(0<=a/\a<19)->Av Aa 31 #[Z g i,Z 444 (J (I (d a)))] c λe h=>e=F (A (decide (f=a)))/\Below b.heap.size b h
theorem Ah6(a:Q)(f:Nat->Addr)(M:∀b,Below a.heap.size a b->OX b f)(D:AX)(E:X)(c:Nat)(B:0<=c/\c<19)(K:Z0 a f D E c):
 Av Aa 17 #[Z D E] a λg b=>g=F (V C (HG c))/\Below a.heap.size a b:=by
 have H:O9 (∀b,Below a.heap.size a b->∀d,(0<=d/\d<19)->Av Aa 31 #[Z D E,Z 444 (J (I (f d)))] b λg O=>g=F (A (decide (c=d)))/\Below a.heap.size a O/\OX O f):=by
  intro b hb d U;refine(K b hb d U).mono ?_;grind
 obtain⟨u,v,w,x,y,z,i,j,h,s,t,k,l,m,n,p,q,r⟩:=M a (Ae _ _);have e:=Ae a.heap.size a;have G:O9 ((0<=c/\c<19)):=B;clear M K B;go_enter Tryz.func17,Tryz.ntmps17;go_wp2_with (first|(go_at_call 31;refine(H.o _ e _ O1).mono ?_;clear e u v w x y z i j h s t k l m n p q r;rintro g Y ⟨rfl,e,u,v,w,x,y,z,i,j,h,s,t,k,l,m,n,p,q,r⟩))
 all_goals
  go_ret;refine⟨Aem ?_,e⟩;have B:=G.o;clear H G u v w x y z i j h s t k l m n p q r e;first
   |(subst_vars;rfl)
   |(exact Ams O1)
theorem Wt(a:Q)(c:Nat->Addr)(h:DP a c)(d:AX)(e:X)(b:Nat)(i:0<=b/\b<19)(g:Z0 a c d e b):
 Av Aa 17 #[Z d e] a λf j=>f=F (V C (HG b))/\Below a.heap.size a j:=
 Ah6 a c (λ_ hb=>(h.bE hb).cells) d e b i g
theorem Q9(b:DP n f)(a:Nat)(c:0<=a/\a<19)(d e:Int):
 Av Aa 17 #[Gv (f a) d e] n λg l=>g=F (V C (HG a))/\Below n.heap.size n l:=
 Wt n f b _ _ a c λ_ hb k j=>(Afk (b.bE hb) a k c j d e).mono λ_ _ ⟨h,i⟩=>⟨h,hb.trans (i.mono hb.size)⟩
theorem Aof(b:DP n f)(a:Nat)(c:0<=a/\a<19):
 Av Aa 17 #[CX (f a)] n λd j=>d=F (V C (HG a))/\Below n.heap.size n j:=
 Wt n f b _ _ a c λ_ hb i h=>(Aib (b.bE hb) a i c h).mono λ_ _ ⟨e,g⟩=>⟨e,hb.trans (g.mono hb.size)⟩
theorem Re(a:Q):Av Aa 17 #[.nilIface] a λb c=>b=F (V C 0)/\c=a:=by
 go_wp2;go_ret;simp
structure RS (b:Q) (a:Nat) (d:ByteArray) (c:Nat):Prop where
 c0:b.cell? ⟨a,0,N⟩=I (S d)
 c1:b.cell? ⟨a,1,N⟩=I (V C (c:Int))
 f1:b.frozen? ⟨a,1,N⟩=false
theorem RS.lt(a:RS n w v s):w<n.heap.size:=AG a.c0
theorem RS.bX{w':Q}(b:RS n w v s)(a:w'.heap[w]?=n.heap[w]?):RS w' w v s:=
 ⟨by rw[Ai a];exact b.c0,by rw[Ai a];exact b.c1,by rw[AD a];exact b.f1⟩
theorem RS.bE{w:Q}{a:Nat}(b:RS w a v s)(hb:Below w.heap.size w n):RS n a v s:=b.bX (hb.block a b.lt)
theorem RS.off(a:RS n w v s)(c:Cq y n p)(b:w∉y):RS p w v s:=a.bX (c.block w a.lt b)
theorem RS.at{w:Q}{a:Nat}(b:RS w a v s)(c:Nat):RS (w.setCell ⟨a,1,N⟩ (V C (c:Int))) a v c:=by
 refine⟨?_,Am _ _ _ b.c1,by rw[An];exact b.f1⟩;rw[Af _ _ _ _ (B4 O1)];exact b.c0
theorem bits_or_u64_nat(a b c:Nat)(g:a<2 ^ c)(hb:b*2 ^ c<18446744073709551616)(i:a<18446744073709551616):bits .or .u64 (a:Int) ((b*2 ^ c:Nat):Int)=((a+b*2 ^ c:Nat):Int):=by
 have d:(BitVec.ofInt 64 a).toNat=a:=by
  grind
 have e:(BitVec.ofInt 64 ((b*2 ^ c:Nat):Int)).toNat=b*2 ^ c:=by
  rw[BitVec.ofInt_natCast,BitVec.toNat_ofNat];omega
 show IntKind.u64.wrap ((BitVec.ofInt 64 a|||BitVec.ofInt 64 ((b*2 ^ c:Nat):Int)).toNat:Int)=_;have f:a|||b*2 ^ c=a+b*2 ^ c:=by
  have:=Nat.shiftLeft_add_eq_or_of_lt g b;rw[Nat.shiftLeft_eq]at this;grind
 have h:a|||b*2 ^ c<2 ^ 64:=Nat.or_lt_two_pow O1 O1;rw[BitVec.toNat_or,d,e,f];exact T8 _ O1
theorem Apt(a:Nat):(128:Nat) ^ a=2 ^ (7*a):=by rw[Nat.pow_mul]
theorem Aba(c b a:Nat)(e:c<128 ^ a)(hb:b % 128*128 ^ a<18446744073709551616)(f:c<18446744073709551616):bits .or .u64 (c:Int) (IntKind.u64.wrap ((b:Int) % 128*2 ^ (7*a)))=((c+b % 128*128 ^ a:Nat):Int):=by
 rw[Apt]at*;have d:b % 128*2 ^ (7*a)=((b % 128*2 ^ (7*a):Nat):Int):=rfl;rw[d,T8 _ hb];exact bits_or_u64_nat c _ _ e hb f
end Go.Proofs.YtcacpmkdfnmhaaaGreatDoor
namespace Go.Proofs.YtcacpmkdfnmhaaaGreatDoor
open Go.RowKit Go.Shelf
def Aiu:Ren:=⟨λ_=>70,λa=>if a=37 then 95 else if a=47 then 257 else if a=3 then 3 else if a=4 then 4 else if a=5 then 5 else if a=9 then 9 else 0,λa=>a⟩
theorem Afn:LaysPu.n25 Aa Aiu:=by
 constructor;all_goals first
  |kernel_rfl
  |(intro a;rfl)
theorem LP(b:ByteArray)(a:Q)(f:b.size<=100000):Av Aa 35 #[S b] a λc d=>c=F (S b)/\Below a.heap.size a d:=by
 go_enter Tryz.func35,Tryz.ntmps35;go_wp2_with (first
  |(apply ((O0 (λa=>AnyPu.stringslite_Clone Afn b a O1)).o _).mono;rintro c g ⟨rfl,e⟩))
 go_ret;simp_all
end Go.Proofs.YtcacpmkdfnmhaaaGreatDoor
namespace Go.Proofs.YtcacpmkdfnmhaaaGreatDoor
open Go.RowKit Go.Sort
variable{o wm:Int}{wz:List B0}{n:World}{w:Nat}{f:Nat->Addr}{wl:Type}
def FQ(b:Nat)(c a:Int):Bool:=decide (a<D5 b c)||((b==19) && (a !=1))||decide (1000<a+CN b c)
theorem Aps(a:Nat)(b:Int)(g:a<21)(d:a≠0->0<=b/\b<=65535):-65536<=CN a b/\CN a b<=65536:=by
 by_cases c:a=0
 ·subst c;simp[CN]
 ·let ⟨e,f⟩:=d c
  unfold CN;omega
theorem Sa(a:Nat)(g:a<21)(c:Int)(d:List B0)(b:DE a c d=true):(a≠0->0<=c/\c<=65535)/\((a=2\/a=4\/a=5\/a=6\/a=7)->c<=1000)/\(a=7->1<=c)/\(a=16->c<=255)/\(a≠17->d=[])/\(a=17->Gh d=true):=by
 simp only[DE]at b;rw[if_pos O1]at b;have h:((a:Int)).toNat=a:=rfl;rw[h]at b;rcases L3 a g with rfl|rfl|rfl|rfl|rfl|rfl|rfl|rfl|rfl|rfl|rfl|rfl|rfl|rfl|rfl|rfl|rfl|rfl|rfl|rfl|rfl;all_goals
  simp[BC,F5]at b;first
   |(simp[b];done)
   |(let ⟨e,f⟩:=b;simp[e,f];done)
   |(let ⟨⟨e,f⟩,i⟩:=b;refine⟨λ_=>⟨O1,O1⟩,O1,O1,O1,λ_=>e,O1⟩)
theorem Anc(a:Nat)(d:a<21)(b c:Int)(g:List B0)(h:DE a b g=true)(o:0<=c)(p:c<=100000):
 Kf a b c=!FQ a b c/\(FQ a b c=false->Hv a b c=c+CN a b/\0<=c+CN a b/\c+CN a b<=1000):=by
 obtain⟨f,k,l,m,-,-⟩:=Sa a d b g h;clear h;by_cases e:a=0
 ·subst e;refine⟨?_,?_⟩
  ·rw[Asu];simp[Kf,ND,Hv,FQ,D5,CN,BC,F5,Gj,Bc];omega
  ·simp[Hv,FQ,D5,CN,BC,F5,Gj,Bc];omega
 ·let ⟨j,n⟩:=f e
  clear f;have i:b.tmod 256=b % 256:=Int.tmod_eq_emod_of_nonneg j;rcases L3 a d with rfl|rfl|rfl|rfl|rfl|rfl|rfl|rfl|rfl|rfl|rfl|rfl|rfl|rfl|rfl|rfl|rfl|rfl|rfl|rfl|rfl
  ·omega
  all_goals
   clear d e;refine⟨?_,?_⟩
   ·rw[Asu];simp[Kf,ND,Hv,FQ,D5,CN,BC,F5,Gj,Bc];try(first|omega|(rw[i];omega))
   ·simp[Hv,FQ,D5,CN,BC,F5,Gj,Bc];try(first|omega|(rw[i];omega))
theorem Apr(a:DE o wm wz=true):0<=o/\o<21:=by
 unfold DE at a;grind
theorem Alh(a:DE o wm wz=true)(e:o≠0):0<=wm:=by
 have b:=Apr a;let ⟨d,c⟩:=AZ b.1
 rw[c]at a;refine((Sa d ?_ _ _ a).1 ?_).1<;>omega
def P2(b:Q)(a:Nat):Prop:=b.cell? ⟨a,0,N⟩=I (V C 0)/\b.cell? ⟨a,1,N⟩=I (V C 0)/\b.frozen? ⟨a,0,N⟩=false/\b.frozen? ⟨a,1,N⟩=false
theorem P2.bE{w:Q}{b:Nat}(a:P2 w b)(hb:Below w.heap.size w n):P2 n b:=by
 have c:=AG a.1;exact⟨Bn hb a.1,Bn hb a.2.1,by rw[(Ea hb).2 _ _ c];exact a.2.2.1,by rw[(Ea hb).2 _ _ c];exact a.2.2.2⟩
theorem P2.put(b:P2 n w)(a c:X):(n.setCell ⟨w,0,N⟩ a).cell? ⟨w,0,N⟩=I a/\((n.setCell ⟨w,0,N⟩ a).setCell ⟨w,1,N⟩ c).cell? ⟨w,1,N⟩=I c:=by
 refine⟨Am _ _ _ b.1,Am _ _ _ (u:=V C 0) ?_⟩;rw[Af _ _ _ _ (by intro d;have:=congrArg Addr.off d;simp at this)];exact b.2.1
theorem V0(a:Q):Av Aa 18 #[.nilIface] a λb c=>b=F (T #[V C 0,V C 0])/\Below a.heap.size a c:=by
 go_enter Tryz.func18,Tryz.ntmps18;go_wp2_with (first|(refine(Acp _ _).mono ?_;rintro b d ⟨rfl,rfl⟩))
 refine AV (v:=T #[V C 0,V C 0]) (by simp[results,Tryz.results18,go_sem]) rfl ?_;exact⟨rfl,bA.alloc O2 _⟩
theorem Anr(p:DP n f)(c:Addr):Av Aa 18 #[CX c] n λd s=>d=F (T #[V C 0,V C 0])/\Below n.heap.size n s:=by
 have b:O9 (∀h a,Below n.heap.size n ((n.alloc h).alloc a)):=λh a=>bA.alloc O2 _;have l:O9 (∀a,P2 ((n.alloc (.cells #[V C 0,V C 0] 47)).alloc a) n.heap.size):=λa=>⟨O2,O2,O2,O2⟩;have k:O9 (n.cell? ⟨18,0,N⟩=I (Z 241 (T #[J (I ⟨27,63,N⟩)]))):=p.et;go_enter Tryz.func18,Tryz.ntmps18;go_wp2_with (first|(apply (Aoh c _ _ (Bn (b.o _ _) k.o)).mono;rintro d i ⟨rfl,e⟩;have g:=(l.o _).bE e;let ⟨t,u,w,x⟩:=id g;have m:O9 (P2 i n.heap.size):=g;have j:O9 (Below n.heap.size n i):=(b.o _ _).trans (e.mono O5)))
 let ⟨q,r⟩:=m.o.put (V C 0) (V C 0)
 apply AV (v:=T #[V C 0,V C 0]) (by simp[results,Tryz.results18,go_sem,q,r]) rfl;exact⟨rfl,(j.o.setCell .refl _).setCell .refl _⟩
structure Hit (a c:Q) (tb:Nat) (d e:Int):Prop where
 c1:c.cell? ⟨tb,1,N⟩=I (V C d)
 c2:c.cell? ⟨tb,2,N⟩=I (V C e)
 old:∀b o,b<a.heap.size->b≠tb->c.cell? ⟨b,o,N⟩=a.cell? ⟨b,o,N⟩/\c.frozen? ⟨b,o,N⟩=a.frozen? ⟨b,o,N⟩
 below:∀B,B<=tb->B<=a.heap.size->Below B a c
theorem Acj(j:X)(g h:Int)(tb:Nat)(o p q:X)(a:Q)(z:a.cell? ⟨18,0,N⟩=I (Z 241 (T #[J (I ⟨27,63,N⟩)])))(D:a.cell? ⟨tb,0,N⟩=I o)(r:a.cell? ⟨tb,1,N⟩=I p)(s:a.cell? ⟨tb,2,N⟩=I q)(v:a.frozen? ⟨tb,0,N⟩=false)(w:a.frozen? ⟨tb,1,N⟩=false)(x:a.frozen? ⟨tb,2,N⟩=false)(B:j.oneCell'=true):
 Av Aa 32 #[Z 109 (T #[j,V C g,V C h]),Z 111 (J (I ⟨tb,0,N⟩))] a λu t=>u=F (A true)/\Hit a t tb g h:=by
 refine(Ad0 j g h tb o p q a z D r s v w x B).mono ?_;rintro f t ⟨rfl,rfl⟩;refine⟨rfl,?_⟩;have n:Below a.heap.size a (G5 a ⟨tb,0,N⟩):=(bA.alloc O2 _).alloc O5 _;have d:Below a.heap.size a ((G5 a ⟨tb,0,N⟩).alloc (.cells #[j,V C g,V C h] 109)):=n.alloc n.size _;have i:∀{b c e:Nat},c≠e->(⟨b,c,N⟩:Addr)≠⟨b,e,N⟩:=λk f=>k (congrArg Addr.off f);have nb:∀{b c e:Nat},b≠tb->(⟨tb,e,N⟩:Addr)≠⟨b,c,N⟩:=λk f=>k (congrArg Addr.block f).symm;refine⟨?_,?_,λb c hb m=>⟨?_,?_⟩,λE l y=>?_⟩
 ·rw[Af _ _ _ _ (i O4)];exact Am _ _ _ (by rw[Af _ _ _ _ (i O4)];exact Bn d r)
 ·exact Am _ _ _ (by rw[Af _ _ _ _ (i O4),Af _ _ _ _ (i O4)];exact Bn d s)
 ·rw[Af _ _ _ _ (nb m),Af _ _ _ _ (nb m),Af _ _ _ _ (nb m)];exact(Ea d).1 b c hb
 ·simp;exact(Ea d).2 b c hb
 ·exact(((d.mono y).setCell l _).setCell l _).setCell l _
theorem RM(j:DP n f)(q:Addr)(b c:Int):Av Aa 18 #[Gv q b c] n λi t=>i=F (T #[V C b,V C c])/\Below n.heap.size n t:=by
 have h:O9 (∀k d,Below n.heap.size n ((n.alloc k).alloc d)):=λk d=>bA.alloc O2 _;have u:O9 (∀d,P2 ((n.alloc (.cells #[V C 0,V C 0] 47)).alloc d) n.heap.size):=λd=>⟨O2,O2,O2,O2⟩;have m:O9 (n.cell? ⟨18,0,N⟩=I (Z 241 (T #[J (I ⟨27,63,N⟩)]))):=j.et;clear j;unfold Gv;go_enter Tryz.func18,Tryz.ntmps18;go_wp2_with (first|(go_at_call 32;refine(Acj _ b c _ .nilIface (V C 0) (V C 0) _ (Bn (h.o _ _) m.o) O2 O2 O2 O2 O2 O2 rfl).mono ?_;rintro i g ⟨rfl,a⟩;have w:=a.c1;have x:=a.c2;have e:P2 g n.heap.size:=⟨by rw[(a.old _ 0 O5 O1).1];simp,by rw[(a.old _ 1 O5 O1).1];simp,by rw[(a.old _ 0 O5 O1).2];simp,by rw[(a.old _ 1 O5 O1).2];simp⟩;let ⟨y,z,B,D⟩:=id e;have p:O9 (P2 g n.heap.size):=e;have l:O9 (Below n.heap.size n g):=(h.o _ _).trans (a.below _ O1 O5);clear e a))
 let ⟨r,s⟩:=p.o.put (V C b) (V C c)
 refine AV (v:=T #[V C b,V C c]) (by simp[results,Tryz.results18,go_sem,r,s]) rfl ?_;exact⟨rfl,(l.o.setCell .refl _).setCell .refl _⟩
structure Sg (b:List Bx) (d:Int) (c:List Int):Prop where
 p:0<L b
 m:(L b)<=65535
 a:0<=d/\d<=20
 s:c.getD 0 0=d+1
 i:∀k (hk:k<L b),∃m:Nat,b[k].op=m/\m<21/\(m≠0->0<=b[k].a/\b[k].a<=65535)/\b[k].alts.length<=256/\0<=c.getD k 0/\c.getD k 0<=1000/\FQ m b[k].a (c.getD k 0)=false/\(EX m b[k].a b[k].alts k).length<=256/\∀s∈EX m b[k].a b[k].alts k,∃t:Nat,s=t/\t<L b/\c.getD t 0=c.getD k 0+CN m b[k].a/\-70000<=CN m b[k].a/\CN m b[k].a<=70000
def Jm(a:Nat):Int:=if a=7 then 1 else if BC a 0=2 then 0 else 1
def IY(a:Nat):Int:=if BC a 0=2 then BC a 2 else 0
structure Fg (e:Bx) (d:Nat):Prop where
 o:e.op=d
 l:d<21
 n:d≠17->e.alts=[]
 a:(L e.alts)<=256
 b:Jm d<=e.a/\e.a<=IY d\/IY d<Jm d/\(d=0\/d≠0/\e.a=0/\(d=17->0<L e.alts))
 t:e.alts.Pairwise λa b=>a.tag≠b.tag
 c:∀b∈e.alts,0<=b.tag/\b.tag<=255/\0<=b.tgt/\b.tgt<=65535
def HZ(b:List ByteArray)(a:Nat):ByteArray:=(⟨#[]⟩::b).getD a ⟨#[]⟩
theorem Mt{f:wl->ByteArray}{a:List wl}(b:w<L a):f a[w]=HZ (a.map f) (w+1):=by simp[HZ,b]
structure Gd (b:BA):Prop where
 n:Cx b.name=true
 i:∀x∈b.Bu,Cx x.name=true/\0<=x.arity/\x.arity<=20
 il:∀k (h:k<L b.Bu),D8 b.Bu[k].name (HZ (b.Bu.map (·.name)) k)=true
 g:∀x∈b.Bs,Cx x.name=true/\0<=x.arity/\x.arity<=20/\(∀y∈b.Bu,y.name≠x.name)/\(∀i∈x.code,∃m,Fg i m)/\(∃d,Sg x.code x.arity d)/\∀i∈x.code,i.op=1->i.a<(L b.Bu:Int)+(L b.Bs:Int)
 gl:∀k (h:k<L b.Bs),D8 b.Bs[k].name (HZ (b.Bs.map (·.name)) k)=true
abbrev cu(b:List UInt8):List X:=b.map λa=>Value.int .u8 (a.toNat:Int)
theorem Tryz.b1:(Aa.info? 5).map (λa=>(a.zero,a.size,a.bytes))=I (I (V .u8 0),1,1):=rfl
theorem UN:ET 95 5 1 1:=.of Tryz.underlying95 Tryz.b1 rfl .refl O1
theorem Se(a b:List UInt8):cu (a++b)=cu a++cu b:=AJ
theorem WL{x:Int}(a:0<=x)(b:x<256):[Value.int .u8 x]=cu [UInt8.ofNat x.toNat]:=by
 simp;omega
def bRw(d:X)(c:Nat):As:=⟨vB d,λh=>∃a:List UInt8,L a=c/\h.ownsRow 0 5 1 d c (cu a),λ⟨_,_,b⟩ _ g=>.ca b g,λ⟨a,e,b⟩ _ f=>⟨a,e,FC b f⟩⟩
end Go.Proofs.YtcacpmkdfnmhaaaGreatDoor
namespace Go.Proofs.YtcacpmkdfnmhaaaGreatDoor
open Go.RowKit Go.Sort Go.Lib
variable{w s:Nat}{n p H:World}{wa w0:List As}{b i:Value}{wx:Program}{vp s6:As}{v:ByteArray}
theorem Bo.pb(e:Bo w n wa p (bRw b s::w0)){d:Nat}{a:List UInt8}(f:(L a)=d)(c:Df p 5 1 b i d (cu a) H):Bo w n wa H (bRw i d::w0):=Bo.cI (L1:=[]) e c.af ⟨a,f,c.own⟩ (Gf _) c.nb
theorem Avh(c:Q)(m:Nat)(i j p d:AX)(e:TypeInfo)(s:wx.underlying i=I (.slice d))(t:wx.underlying j=I .string)(q:wx.info? d=I e)(x:e.zero=I (V .u8 0))(w:e.size=1)(v:e.bytes=1)(f a h:Nat)(l:List X)(r:c.ownsRow m d 1 (W (I ⟨f,0,N⟩) a h) a l)(b:ByteArray)(G:0<a+b.size)(E:a+b.size<=140737488355328)(B:m<=c.heap.size):
 ∃g n k,(Builtin.append_ #[i,j] p #[W (I ⟨f,0,N⟩) a h,S b]).run wx c=.ok (W (I ⟨g,0,N⟩) (a+b.size) n) k/\k.ownsRow m d 1 (W (I ⟨g,0,N⟩) (a+b.size) n) (a+b.size) (l++strCells b)/\
  c.grownBy k (I f)/\(g=f\/g=c.heap.size):=by
 obtain⟨af,k,H,u,z,-⟩:=run_append_own_string c m i j p d e s t q x w v _ a l r b O8 E B;obtain⟨g,n,rfl,-,-⟩:=u.form G;refine⟨g,n,k,H,u,z,?_⟩;rcases r.2 with⟨o,-⟩|⟨U,O,y,o,Y,D,ac,aa,ab,ad⟩
 ·cases o
 ·simp[Value.slice.injEq,Addr.mk.injEq,and_true,true_and]at o;obtain⟨rfl,rfl⟩:=o;by_cases M:a+b.size<=h
  ·have K:=run_append_room_string c i j p d e s t q w f a h y D b M O1;grind
  ·have ae:(L l)=a:=by grind
   have K:=run_append_grow_string c i j p d e (V .u8 0) s t q x ⟨f,0,N⟩ a h l O6 (r.cells rfl) b O1 O1 (by rw[v];exact growslice_fits O1 O1);grind
def iz(b:Bx)(a:Nat):Nat:=if a=0 then 11 else if a=17 then 3+5*L b.alts else if Jm a<=IY a then 4 else 1
theorem Bo.none(b:Q):Bo b.heap.size b [] b []:=Sp.b2 ⟨Ac _,λ_ a=>(by cases a),by simp[fp],λ_ a=>by cases a⟩
theorem Bo.snd(a:Bo w p w0 n (vp::s6::wa)):s6.h n:=a.mem (Be _ (Aqu ..))
theorem RF(a:Cx v=true):v.size<=16:=by
 simp[Cx,decide_eq_true_eq]at a;omega
def zz(a:Bx):Nat:=iz a a.op.toNat
def gz(g:Bt):Nat:=22+(g.code.map zz).sum
def fz(a:BA):Nat:=25+18*L a.Bu+(a.Bs.map gz).sum
end Go.Proofs.YtcacpmkdfnmhaaaGreatDoor
namespace Go.Proofs.YtcacpmkdfnmhaaaGreatDoor
open Go.RowKit Go.Sort
variable{n p:World}{f:Nat->Addr}{v nl x2:ByteArray}{w s m:Nat}{K vs:List UInt8}{yq:UInt8}{wa w0 xi:List As}{b i r M wu:Value}{y:List Nat}{wz:List B0}{o:Int}{vp s6:As}{wq:Bx}{wh:List Bx}{U:List (ByteArray×Int)}{nt:Bt}{d:List Bt}
structure Told (a:Q) (b:X) (c d f:Int):Prop where
 kind:∀w',Below a.heap.size a w'->Av Aa 17 #[b] w' λe w''=>e=F (V C c)/\Below w'.heap.size w' w''
 place:∀w',Below a.heap.size a w'->Av Aa 18 #[b] w' λe w''=>e=F (T #[V C d,V C f])/\Below w'.heap.size w' w''
theorem Ak4(b:DP n f)(a:Nat)(c:0<=a/\a<19):Told n (CX (f a)) (HG a) 0 0:=⟨λ_ hb=>Aof (b.bE hb) a c,λ_ hb=>Anr (b.bE hb) (f a)⟩
theorem Ahi(d:DP n f)(a:Nat)(e:0<=a/\a<19)(b c:Int):Told n (Gv (f a) b c) (HG a) b c:=⟨λ_ hb=>Q9 (d.bE hb) a e b c,λ_ hb=>RM (d.bE hb) (f a) b c⟩
structure Jc (b:Q) (a:Nat->Addr):Prop where
 c:∀i,(0<=i/\i<19)->b.cell? ⟨Hi i,0,N⟩=I (CX (a i))
 o:∀i,(0<=i/\i<19)->∃c t,b.heap[(a i).block]?=I (.cells c t (0,0))
 ne:∀i j,(0<=i/\i<19)->(0<=j/\j<19)->i≠j->a i≠a j
theorem Jc.bE{w:Q}(a:Jc w f)(hb:Below w.heap.size w n):Jc n f:=by
 refine⟨λi b=>Bn hb (a.c i b),λi b=>?_,a.ne⟩;let ⟨c,t,d⟩:=a.o i b
 refine⟨c,t,?_⟩;rw[hb.block]
 ·exact d
 grind
theorem Jc.cells(a:Jc n f):OX n f:=
 ⟨a.c 4 O1,a.c 5 O1,a.c 6 O1,a.c 7 O1,a.c 8 O1,a.c 9 O1,a.c 10 O1,a.c 11 O1,a.c 1 O1,a.c 2 O1,a.c 3 O1,a.c 12 O1,a.c 13 O1,a.c 14 O1,a.c 15 O1,a.c 16 O1,a.c 17 O1,a.c 18 O1⟩
theorem Sj(b:AX)(d:X)(a:Int)(c:Q):Av Aa 27 #[Z b d,V C a] c λe f=>e=F (Z 109 (T #[Z b d,V C 0,V C a]))/\f=c:=by
 go_wp2;go_ret;simp
def vu:Nat->Nat->List UInt8
 |0,n=>[UInt8.ofNat n]
 |k+1,n=>if n<128 then [UInt8.ofNat n] else UInt8.ofNat (n % 128+128)::vu k (n / 128)
abbrev vn(a:Nat):List UInt8:=vu 9 a
theorem UF:∀c a b,b<128 ^ (a+1)->(vu c b).length<=a+1
 |0,_,_,_=>by simp[vu]
 |c+1,a,b,h=>by
  rw[vu];split
  ·simp
  ·match a,h with
   |0,h=>omega
   |a+1,h=>
    have:=UF c a (b / 128) O1;grind
def Tl(b:ByteArray)(a:Nat)(c:List UInt8):Prop:=a<=b.size/\b.data.toList.drop a=c
theorem Tl.cons(a:Tl v w (yq::K)):∃c,v[w]=yq/\Tl v (w+1) K:=by
 let ⟨d,b⟩:=a
 have c:w<L v.data.toList:=by
  rcases Asb w (L v.data.toList) with a|a
  ·exact a
  ·rw[Arz a]at b;cases b
 rw[A3 c]at b;injection b with h3 h4;exact⟨by simpa using c,by rw[<-h3];rfl,Nat.succ_le_of_lt (by simpa using c),h4⟩
theorem Tl.nil(a:Tl v w []):w=v.size:=by
 have:=List.drop_eq_nil_iff.1 a.2;simp[Ar6]at this;exact Nat.le_antisymm a.1 this
theorem Tl.cC{r:List UInt8}(b:Tl v w (K++r)):w+L K<=v.size/\v.extract w (w+L K)=⟨K.toArray⟩/\Tl v (w+L K) r:=by
 let ⟨c,a⟩:=b
 have hl:v.size-w=L K+L r:=by
  have:=congrArg List.length a;simpa using this
 refine⟨O1,?_,O1,?_⟩
 ·apply Asa;apply Array.ext';simp_all
 ·rw[<-List.drop_drop,a,List.drop_left]
abbrev eA(c:Nat)(d:ByteArray)(h:List UInt8):As:=⟨[c],λi=>∃a:Nat,Tl d a h/\RS i c d a,λ⟨_,_,b⟩ _ f=>Aq.1 f▸cells_of_cell b.c0,λ⟨a,b,g⟩ _ e=>⟨a,b,g.bX (e _ O2)⟩⟩
theorem Bo.sp(a:Bo w n wa p [eA s v K]):Sp w p [eA s v K]:=a.s
theorem Bo.goto(a:Bo w n wa p [eA s v K])(c:Tl v m vs):Bo w n wa (p.setCell ⟨s,1,N⟩ (V C m)) [eA s v vs]:=
 a.set (L1:=[]) rfl rfl (by
  let ⟨e,d,b⟩:=a.mem (A:=eA s v K) O2
  exact⟨m,c,b.at m⟩)
theorem OY(a:s<128):vu w s=[UInt8.ofNat s]:=by
 cases w with
 |zero=>rfl
 |succ w=>rw[vu,if_pos a]
theorem UJ(a:¬s<128):vu (w+1) s=UInt8.ofNat (s % 128+128)::vu w (s / 128):=by rw[vu,if_neg a]
theorem Uh(a:w<256):(UInt8.ofNat w).toNat=w:=by simp_all
theorem J4(a:Cx v=true):0<v.size/\v.size<=16:=by
 simp[Cx,Aqx,decide_eq_true_eq]at a;omega
theorem M1(ay:v.size<=100000)(p:Sp w n [eA s v (vn m++K)])(ax:m<18446744073709551616):Av Aa 135 #[J (I ⟨s,0,N⟩)] n λf ag=>f=F (R #[V .u64 m,.nilIface])/\Bo w n [eA s v (vn m++K)] ag [eA s v K]:=by
 have aj:=O0 p.b2;obtain⟨az,af,z⟩:=p.mem (A:=eA s v (vn m++K)) O2;have ak:=z.c0;have al:=z.c1;clear p z af;go_enter Tryz.func135,Tryz.ntmps135;go_wp2;go_loopw [5,12] (λai E wr=>∃(a k:Nat),E=V C (a:Int)/\ai=V .u64 (k:Int)/\a<=9/\O9 (k=m % 128 ^ a/\(a=0\/m / 128 ^ a≠0))/\O9 (Bo w n [eA s v (vn m++K)] wr [eA s v (vu (9-a) (m / 128 ^ a)++K)])) (λ_ E _=>10-(intOf E).toNat)
 case atStart=>exact⟨0,0,rfl,rfl,O1,⟨O1,.inl rfl⟩,by grind⟩
 case round=>
  obtain⟨a,k,rfl,rfl,au,e,M⟩:=hrel;rename Q=>wr
  obtain⟨b,g,j⟩:=M.o.mem (A:=eA s v _) (Aq.2 rfl);have av:(a:Int)<10:=O1;have H:O9 (∀D G,Tl v (b+1) G->Bo w n [eA s v (vn m++K)] ((wr.drewN D).setCell ⟨s,1,N⟩ (V C ((b:Int)+1))) [eA s v G]):=λD G ac=>(M.o.bE (below_drewN (Ae _ _) D)).goto ac;have l:O9 (∀d:Nat,d % 128=m / 128 ^ a % 128->bits .or .u64 (k:Int) (IntKind.u64.wrap ((d:Int) % 128*2 ^ (7*a)))=((m % 128 ^ (a+1):Nat):Int)):=λd hb=>by
   have B:=Nat.mod_lt m (show 0<128 ^ a from Nat.pow_pos O1);have aq:m / 128 ^ a % 128*128 ^ a<=m:=Aw (Art _ (Nat.mod_le _ _)) (Nat.div_mul_le_self _ _);have ar:=Nat.mod_le m (128 ^ a);rw[Aba k d a (e.o.1▸B) (by rw[hb];omega) (by rw[e.o.1];omega),hb,e.o.1,At5,Nat.mod_mul,Nat.mul_comm]
  have am:=j.c0;have an:=j.c1;have ao:=j.f1;have u:=e.o;by_cases c:m / 128 ^ a<128
  ·rw[OY c]at g;obtain⟨ae,hb,h⟩:=g.cons;have i:v[b].toNat=m / 128 ^ a:=by rw[hb,Uh O1]
   have q:a=9->m / 128 ^ a<=1:=λf=>by subst f;omega
   have r:=u.2;have U:O9 (m % 128 ^ (a+1)=m):=Nat.mod_eq_of_lt (by rw[At5];exact(Nat.div_lt_iff_lt_mul (Nat.pow_pos O1)).1 c|>λp=>O1);have y:=O0 h;have x:=l.o v[b].toNat (by rw[i]);rw[U.o]at x;have ad:((b:Int)==(v.size:Int))=false:=by grind
   have aa:(0:Int)<=(b:Int):=O1;have B:(b:Int)<(v.size:Int):=O1;have t:=O0 x;rw[<-i]at c q r;have Y:=O0 (Aq4 c (Aq4 q r));clear hb g h u j e l x i c q r;go_wp2;go_quiet (fail);go_wp2;go_quiet (fail);obtain⟨c,q,r⟩:=Y.o;generalize v[b].toNat=d at*;have ab:¬(128:Int)<=(d:Int):=O1;go_wp2;all_goals first
    |(exfalso;omega)
    |(exfalso;simp only[beq_iff_eq]at*;omega)
    |(go_ret2;exact⟨congrArg (λah=>Ending.returned (R #[V .u64 ah,.nilIface])) t.o,H.o _ _ y.o⟩)
  ·have aw:a<=8:=by
    grind
   rw[show 9-a=(8-a)+1 by omega,UJ c]at g;obtain⟨ae,hb,h⟩:=g.cons;have i:v[b].toNat=m / 128 ^ a % 128+128:=by rw[hb,Uh O1]
   have ad:((b:Int)==(v.size:Int))=false:=by grind
   have aa:(0:Int)<=(b:Int):=O1;have B:(b:Int)<(v.size:Int):=O1;have t:=O0 (l.o v[b].toNat O1);have O:=O0 c;have f:m / 128 ^ a / 128=m / 128 ^ (a+1):=by rw[At9,At5]
   rw[f,show 8-a=9-(a+1) by omega]at h;have y:=O0 h;have ap:128<=v[b].toNat:=O1;clear hb g h u j e l c i f;go_wp2;go_quiet (fail);go_wp2;go_quiet (fail);generalize v[b].toNat=d at*;have ab:(128:Int)<=(d:Int):=O1;go_wp2;refine⟨⟨a+1,m % 128 ^ (a+1),rfl,congrArg _ t.o,O1,⟨rfl,.inr ?_⟩,H.o _ _ y.o⟩,by simp[intOf];omega⟩;have:=O.o;rw[At5,<-At9];omega
theorem J2{n:Nat}{a:Q}{lw hi:Nat}(h:v.size<=100000)(c:Sp w a [eA s v (vn n++K)])(k:lw<=n)(l:n<=hi)(m:hi<=100000):Av Aa 138 #[J (I ⟨s,0,N⟩),V C lw,V C hi] a λb i=>b=F (R #[V C n,.nilIface])/\Bo w a [eA s v (vn n++K)] i [eA s v K]:=by
 have e:=O0 (M1 h c O1);let ⟨p,q,g⟩:=c.mem (A:=eA s v (vn n++K)) O2
 have j:=g.c1;go_enter Tryz.func138,Tryz.ntmps138;go_wp2_with (first|(go_at_call 135;apply e.o.mono;rintro b r ⟨rfl,d⟩;have f:=O0 d;clear d))
 all_goals first
  |(exfalso;omega)
  |(go_ret2;exact⟨rfl,f.o⟩)
theorem Yh(y:v.size<=100000)(f:Sp w n [eA s v (vn nl.size++(nl.data.toList++K))])(h:Cx nl=true):Av Aa 88 #[J (I ⟨s,0,N⟩)] n λd l=>d=F (R #[S nl,.nilIface])/\Bo w n [eA s v (vn nl.size++(nl.data.toList++K))] l [eA s v K]:=by
 have z:=J4 h;have p:=O0 (M1 y f O1);obtain⟨M,B,e⟩:=f.mem (A:=eA s v _) (Aq.2 rfl);have u:=e.c0;have x:=e.c1;have G:((nl.size:Int)==0)=false:=by rw[beq_eq_false_iff_ne];omega
 have t:=O0 h;clear f e B h;obtain⟨Y,aa⟩:=z;have m:O9 (∀a,Tl v a (nl.data.toList++K)->a+nl.size<=v.size/\v.extract a (a+nl.size)=nl/\Tl v (a+nl.size) K):=λa c=>by
  have:=c.cC;rw[Ar6]at this;exact this
 go_enter Tryz.func88,Tryz.ntmps88;go_wp2_with (first
  |(go_at_call 135;refine p.o.mono ?_;rintro d U ⟨rfl,g⟩;obtain⟨a,c,b⟩:=g.mem (A:=eA s v _) (Aq.2 rfl);obtain⟨O,j,k⟩:=m.o a c;have D:=b.c0;have E:=b.c1;have H:=b.f1;have q:=O0 k;have r:=O0 g;have i:=O0 j;clear g c b j k u x))
 all_goals first
  |(exfalso;omega)
  |skip
 go_quiet (fail);go_wp2;all_goals first
  |(exfalso;omega)
  |(exfalso;simp only[beq_iff_eq]at*;omega)
  |skip
 go_quiet (fail);go_wp2_with (first
  |(go_at_call 79;refine(J6 _ _ (by rw[i.o];unfold maxLen;omega)).mono ?_;rintro d l ⟨rfl,rfl⟩;rw[i.o,t.o]))
 go_ret2
 refine⟨rfl,?_⟩;exact(r.o.bE (below_drewN (Ae _ _) _)).goto q.o
theorem Wo{iv:X}(q:v.size<=100000)(d:Sp w n [eA s v (vn nl.size++(nl.data.toList++K))])(h:Cx nl=true)(g:D8 nl x2=true)(f:∀a,AF [s] n a->Av Aa 131 #[iv,S nl] a λb i=>b=F (A false)/\Below a.heap.size a i):Av Aa 137 #[J (I ⟨s,0,N⟩),S x2,iv] n λb a=>b=F (R #[S nl,.nilIface])/\Bo w n [eA s v (vn nl.size++(nl.data.toList++K))] a [eA s v K]:=by
 have m:=O0 (Yh q d h);have y:(Op.bytesLess nl.toList x2.toList||nl.toList==x2.toList)=false:=by rw[le_eq,g];rfl
 have l:=O0 f;let ⟨z,r,c⟩:=d.mem (Aq.2 rfl)
 have u:=c.c0;have x:=c.c1;clear d c r h g f;go_enter Tryz.func137,Tryz.ntmps137;go_wp2_with (first
  |(go_at_call 88;apply m.o.mono;rintro b t ⟨rfl,e⟩;have p:=O0 e;have k:=O0 (l.o t (by have:=e.af;simpa[fp]using this));clear e)
  |(go_at_call 131;apply k.o.mono;rintro b i ⟨rfl,hb⟩;have j:=O0 hb;clear hb))
 go_ret2
 exact⟨rfl,p.o.bE j.o⟩
structure Fx (b:Q) (a:Nat) (c d:X):Prop where
 c0:b.cell? ⟨a,0,N⟩=I c
 c1:b.cell? ⟨a,1,N⟩=I d
 f0:b.frozen? ⟨a,0,N⟩=false
 f1:b.frozen? ⟨a,1,N⟩=false
theorem Fx.new(a:Q)(b c:X)(d:AX):Fx (a.alloc (.cells #[b,c] d)) a.heap.size b c:=⟨O2,O2,O2,O2⟩
theorem Fx.lt(a:Fx n w b i):w<n.heap.size:=AG a.c0
theorem Fx.bX{w':Q}(c:Fx n w b i)(a:w'.heap[w]?=n.heap[w]?):Fx w' w b i:=by
 refine⟨?_,?_,?_,?_⟩
 ·rw[Ai a];exact c.c0
 ·rw[Ai a];exact c.c1
 ·rw[AD a];exact c.f0
 ·rw[AD a];exact c.f1
theorem Fx.off(a:Fx n w b i)(d:Cq y n p)(c:w∉y):Fx p w b i:=a.bX (d.block w a.lt c)
theorem Fx.cJ(a:Fx n w b i)(c:X):Fx (n.setCell ⟨w,1,N⟩ c) w b c:=
 ⟨by rw[Af _ _ _ _ (B4 O1)];exact a.c0,Am _ _ _ a.c1,by rw[An];exact a.f0,by rw[An];exact a.f1⟩
theorem Cq.cC(c:n.grownBy p b.ownBlock):Cq (vB b) n p:=(Cq.refl _ _).grown c λ_ a=>Ba (BM.2 a)
structure C0 (b:Q) (a:Nat) (d e f c:X):Prop where
 c0:b.cell? ⟨a,0,N⟩=I d
 c1:b.cell? ⟨a,1,N⟩=I e
 c2:b.cell? ⟨a,2,N⟩=I f
 c3:b.cell? ⟨a,3,N⟩=I c
 f0:b.frozen? ⟨a,0,N⟩=false
 f1:b.frozen? ⟨a,1,N⟩=false
 f2:b.frozen? ⟨a,2,N⟩=false
 f3:b.frozen? ⟨a,3,N⟩=false
theorem C0.new(b:Q)(c d e a:X)(f:AX):C0 (b.alloc (.cells #[c,d,e,a] f)) b.heap.size c d e a:=⟨O2,O2,O2,O2,O2,O2,O2,O2⟩
theorem C0.lt(a:C0 n w b i r M):w<n.heap.size:=AG a.c0
theorem C0.bX{w':Q}(c:C0 n w b i r M)(a:w'.heap[w]?=n.heap[w]?):C0 w' w b i r M:=by
 refine⟨?_,?_,?_,?_,?_,?_,?_,?_⟩
 ·rw[Ai a];exact c.c0
 ·rw[Ai a];exact c.c1
 ·rw[Ai a];exact c.c2
 ·rw[Ai a];exact c.c3
 ·rw[AD a];exact c.f0
 ·rw[AD a];exact c.f1
 ·rw[AD a];exact c.f2
 ·rw[AD a];exact c.f3
theorem C0.off(a:C0 n w b i r M)(d:Cq y n p)(c:w∉y):C0 p w b i r M:=a.bX (d.block w a.lt c)
theorem C0.ef{a:Nat}{w:Q}{b:Nat}{x y d:X}(c:C0 w b x y d i)(e:EF a w n)(f:b≠a):C0 n b x y d i:=c.bX (e.block b c.lt f)
theorem C0.bE{w:Q}{a:Nat}{u:X}(c:C0 w a b i r u)(hb:Below w.heap.size w n):C0 n a b i r u:=c.bX (hb.block a c.lt)
theorem C0.cJ(a:C0 n w b i r M)(c:X):C0 (n.setCell ⟨w,1,N⟩ c) w b c r M:=
 ⟨by rw[Af _ _ _ _ (B4 O1)];exact a.c0,Am _ _ _ a.c1,by rw[Af _ _ _ _ (B4 O1)];exact a.c2,by rw[Af _ _ _ _ (B4 O1)];exact a.c3,by rw[An];exact a.f0,by rw[An];exact a.f1,by rw[An];exact a.f2,by rw[An];exact a.f3⟩
theorem C0.cF(a:C0 n w b i r M)(v:X):C0 (n.setCell ⟨w,2,N⟩ v) w b i v M:=
 ⟨by rw[Af _ _ _ _ (B4 O1)];exact a.c0,by rw[Af _ _ _ _ (B4 O1)];exact a.c1,Am _ _ _ a.c2,by rw[Af _ _ _ _ (B4 O1)];exact a.c3,by rw[An];exact a.f0,by rw[An];exact a.f1,by rw[An];exact a.f2,by rw[An];exact a.f3⟩
theorem C0.JT(a:C0 n w b i r M)(c:X):C0 (n.setCell ⟨w,3,N⟩ c) w b i r c:=
 ⟨by rw[Af _ _ _ _ (B4 O1)];exact a.c0,by rw[Af _ _ _ _ (B4 O1)];exact a.c1,by rw[Af _ _ _ _ (B4 O1)];exact a.c2,Am _ _ _ a.c3,by rw[An];exact a.f0,by rw[An];exact a.f1,by rw[An];exact a.f2,by rw[An];exact a.f3⟩
theorem Aea(a:Nat)(c:Q)(i:a<18446744073709551616):Av Aa 284 #[V .u64 (a:Int)] c λe f=>e=F (V C (M8 a))/\f=c:=by
 have d:O9 (∀b:Int,(a % 2=0->b=a / 2)->(a % 2≠0->b=-(a / 2)-1)->b=M8 a):=by
  intro b g h;unfold M8;omega
 go_wp2;all_goals simp[beq_iff_eq,beq_eq_false_iff_ne,ne_eq]at*
 all_goals go_ret
 all_goals refine⟨Aks (d.o _ ?_ ?_),rfl⟩<;>omega
structure Seen (b:Q) (a:Nat) (d:List B0):Prop where
 lt:a<b.heap.size
 f:∀t,t<256->b.frozen? ⟨a,t,N⟩=false
 c:∀t,t<256->b.cell? ⟨a,t,N⟩=I (A (d.any λx=>x.tag==(t:Int)))
theorem Seen.zero(a:Q):Seen (a.alloc (.cells Tryz.zeroCells412 412)) a.heap.size []:=⟨O2,λc _=>O2,λc b=>by rw[zeroCells];simp[b]⟩
theorem Seen.bX{w':Q}(b:Seen n w wz)(a:w'.heap[w]?=n.heap[w]?):Seen w' w wz:=by
 refine⟨?_,λe d=>by rw[AD a];exact b.f e d,λe d=>by rw[Ai a];exact b.c e d⟩;have g:=b.c 0 O1;rw[<-Ai a]at g;exact AG g
theorem Seen.next(a:Seen n w wz)(d g:Nat)(h:d<256):Seen (n.setCell ⟨w,d,N⟩ (A true)) w (wz++[⟨d,g⟩]):=by
 refine⟨by simpa using a.lt,λk b=>by rw[An];exact a.f k b,λk b=>?_⟩;by_cases e:k=d
 ·subst e;rw[Am _ _ _ (a.c k b)];simp
 ·rw[Af _ _ _ _ (B4 O1),a.c k b,List.any_append];grind
def fo(a:Int):Nat:=if 0<=a then (2*a).toNat else (-2*a-1).toNat
theorem Rt(a:-9223372036854775808<=o)(b:o<=9223372036854775807):M8 (fo o)=o/\fo o<18446744073709551616:=by
 unfold M8 fo;grind
abbrev aU(a:B0):List UInt8:=vn a.tag.toNat++vn a.tgt.toNat
structure Al (d:List B0):Prop where
 n:0<L d/\L d<=256
 t:d.Pairwise λa b=>a.tag≠b.tag
 c:∀b∈d,0<=b.tag/\b.tag<=255/\0<=b.tgt/\b.tgt<=65535
abbrev sA(b:Nat)(f:List B0):As:=⟨[b],λg=>Seen g b f,λa _ e=>Aq.1 e▸cells_of_cell (a.c 0 O1),λa _ d=>a.bX (d _ O2)⟩
theorem Al.new(c:Al wz){a:Nat}(e:a<L wz):((wz.take a).any λb=>b.tag==wz[a].tag)=false:=by
 rw[Asq];intro b f;obtain⟨g,d,rfl⟩:=Ari f;rw[Aqw]at d;simp[List.getElem_take,beq_iff_eq];refine Ase.1 c.t g a ?_ e ?_<;>omega
theorem Jv{e size:Nat}(a:Bo w n wa p w0):Bo w n wa p (pA e size (W N 0 0) 0 []::w0):=by
 have c:∀b:List As,fp (pA e size (W N 0 0) 0 []::b)=fp b:=λb=>rfl;exact⟨a.af,⟨a.s.z,λA d=>(AW.1 d).elim (λd=>d▸Aq7 ..) (a.s.h A),(c _).symm▸a.s.nd,(c _).symm▸a.s.rg⟩,(c _).symm▸a.nb⟩
theorem Bo.eM(a:Bo w n wa p (vp::s6::w0)):Bo w n wa p (vp::w0):=by
 have c:∀b∈fp (vp::w0),b∈fp (vp::s6::w0):=λb hb=>by
  simp[fp,AC,Ag]at hb ⊢;grind
 refine⟨a.af,⟨a.s.z,λe g=>a.s.h e ((AW.1 g).elim (λf=>f▸.head _) λa=>.tail _ (.tail _ a)),?_,λd h=>a.s.rg d (c d h)⟩,λb hb=>a.nb b (c b hb)⟩;have:=a.s.nd;simp[fp,AC,A8,Ag]at this ⊢;grind
theorem Bo.perm(a:Bo w n wa p w0)(c:xi.Perm w0):Bo w n wa p xi:=by
 have b:(fp xi).Perm (fp w0):=c.flatMap_right _;exact⟨a.af,⟨a.s.z,λd f=>a.s.h d (c.mem_iff.1 f),b.nodup_iff.2 a.s.nd,λh g=>a.s.rg h (b.mem_iff.1 g)⟩,λe hb=>a.nb e (b.mem_iff.1 hb)⟩
theorem Bo.re{L2:List As}(a:Bo w n wa p w0)(b:fp L2=fp w0)(d:∀c∈L2,c.h p):Bo w n wa p L2:=⟨a.af,⟨a.s.z,d,b▸a.s.nd,b▸a.s.rg⟩,b▸a.nb⟩
theorem Ao8{a:Int}(k:v.size<=100000)(g:Sp w n [eA s v (vn (fo a)++K)])(h:-9223372036854775808<=a)(i:a<=9223372036854775807):Av Aa 265 #[J (I ⟨s,0,N⟩)] n λb l=>b=F (R #[V C a,.nilIface])/\Bo w n [eA s v (vn (fo a)++K)] l [eA s v K]:=by
 let ⟨m,c⟩:=Rt h i
 have d:=O0 (M1 k g c);have f:=O0 λn=>Aea (fo a) n c;go_enter Tryz.func265,Tryz.ntmps265;go_wp2_with (first
  |(apply d.o.mono;rintro b p ⟨rfl,j⟩;have e:=O0 j)
  |(apply (f.o _).mono;rintro b q ⟨rfl,rfl⟩))
 go_ret2
 exact⟨rfl,e.o⟩
theorem Afq{h:Nat}{s:ByteArray}{v:Q}(O:s.size<=100000)(r:Sp w v [eA h s (vn (L wz)++(wz.flatMap aU++K))])(l:Al wz):Av Aa 266 #[J (I ⟨h,0,N⟩)] v λe a5=>∃j,e=F (R #[j,.nilIface])/\Bo w v [eA h s (vn (L wz)++(wz.flatMap aU++K))] a5 [pA 140 2 j (L wz) (wz.flatMap FI),eA h s K]:=by
 have ab:=O0 (J2 (lw:=1) (hi:=256) O r (by have:=l.n;omega) (by have:=l.n;omega) O1);have aD:=l.n;have aa:=O0 l;clear r l;go_enter Tryz.func266,Tryz.ntmps266;go_wp2_with (first
  |(go_at_call 138;refine ab.o.mono ?_;rintro e d ⟨rfl,ah⟩;have av:=O0 ah;clear ah ab))
 go_loopw [6,21] (λa3 U wr=>∃(a:Nat) (j:X),U=V C a/\a3=j/\a<=L wz/\O9 (Bo w v [eA h s (vn (L wz)++(wz.flatMap aU++K))] wr [pA 140 2 j a ((wz.take a).flatMap FI),sA d.heap.size (wz.take a),eA h s ((wz.drop a).flatMap aU++K)])) (λ_ U _=>L wz-(intOf U).toNat)
 case atStart=>
  have ay:=av.o.box (A:=sA d.heap.size []) (.cells Tryz.zeroCells412 412) rfl (Seen.zero d);refine⟨0,_,rfl,rfl,Ak _,?_⟩;have k:=Jv (e:=140) (size:=2) ay;exact k
 case round=>
  obtain⟨a,j,rfl,rfl,a9,B⟩:=hrel;rename Q=>wr
  by_cases t:a<L wz
  ·have a0:(a:Int)<(L wz:Int):=O1;obtain⟨am,an,ao,ap⟩:=aa.o.c _ (Ao t);have z:=O0 (aa.o.new t);have D:O9 (wz.take (a+1)=wz.take a++[wz[a]]):=Au t;have q:O9 ((wz.drop a).flatMap aU=vn wz[a].tag.toNat++(vn wz[a].tgt.toNat++(wz.drop (a+1)).flatMap aU)):=by
    show _=_;rw[A3 t,AC,AH]
   obtain⟨g,p⟩:=AZ am;obtain⟨Y,i⟩:=AZ ao;obtain⟨x,al⟩:∃x,x=wz[a]:=⟨_,rfl⟩;obtain⟨aF,aG⟩:=x;rw[<-al]at p i an ap z D q;simp only at p i an ap z q;subst p i;rw[A9,A9]at q;have b:=B.o;rw[q.o,AH,AH]at b;have ae:=O0 b;obtain⟨aE,p,H⟩:=b.mem (.tail _ (.tail _ (.head _)));have aw:=H.c0;have ax:=H.c1;have a2:=b.mem (.tail _ (.head _));have a1:O9 (∀y,Seen y d.heap.size (wz.take a)->Seen (y.setCell ⟨d.heap.size,g,N⟩ (.bool true)) d.heap.size (wz.take (a+1))):=λy r=>by
    have:=r.next g Y O1;rw[D.o];exact this
   have af:=O0 (J2 (lw:=0) (hi:=255) O (Sp.right (M:=[_,_]) b.s) O1 O1 O1);clear b p H al am ao a2;have aC:(g:Int)<256:=O1;have aB:(0:Int)<=(g:Int):=O1;go_wp2_with (first
    |(go_at_call 138;first
     |(refine af.o.mono ?_;rintro e y ⟨rfl,ai⟩;have k:=ae.o.trans (ai.frame (M:=[_,_]) ae.o.s);have u:=k.mem (.tail _ (.head _));have aq:=u.c g O1;have a4:=u.f g O1;rw[z.o]at aq;have G:=k.set (L1:=[_]) (A:=sA d.heap.size (wz.take a)) (A':=sA d.heap.size (wz.take (a+1))) rfl rfl (a1.o _ u);have ac:=O0 G;have ag:=O0 (J2 (lw:=0) (hi:=65535) O (Sp.right (M:=[_,_]) G.s) O1 O1 O1);clear ai k u aw ax af G)
     |(refine ag.o.mono ?_;rintro e a6 ⟨rfl,aj⟩;have ad:=O0 (ac.o.trans (aj.frame (M:=[_,_]) ac.o.s));have au:=O0 (ad.o.mem (.head _));clear aj ag aq a4))
    |(at_builtin;refine HT TJ (au.o.alloc _) (AL a6 _) (m:=1) (c:=1) (s:=.tmp 51) (x:=.tmp 55) (by simp[A4];done) (by simp[A4];done) rfl rfl rfl (by intro Y i;simp at i;rcases i with rfl|rfl<;>rfl) O1 O1 ?_;intro a8 a7 w5 ak;have ar:=O0 ak;clear ak))
   refine⟨⟨a+1,_,by go_num,rfl,O1,?_⟩,by simp[intOf];omega⟩;have az:=(ad.o.bE bA).cP (L1:=[]) ar.o;have e:(wz.take (a+1)).flatMap FI=(wz.take a).flatMap FI++[V C g,V C Y]:=by rw[D.o,AE];simp[FI]
   rw[e];exact az
  ·obtain rfl:a=L wz:=O1;have E:=B.o;rw[AQ,At0]at E;have b:=O0 E;have a0:¬(L wz:Int)<(L wz:Int):=O1;clear B E;go_wp2;go_ret2
   exact⟨_,rfl,b.o.eM⟩
abbrev b3(b:Nat)(f g h:X):As:=⟨[b],λe=>CB e b f g h,λa _ d=>Aq.1 d▸cells_of_cell a.c0,λa _ c=>a.bX (c _ O2)⟩
structure Fi (c:Bx):Prop where
 o:0<=c.op/\c.op<21
 i:-9223372036854775808<=c.a/\c.a<=9223372036854775807
 w:BC c.op.toNat 0≠3->c.alts=[]
 b:BC c.op.toNat 0=2->BC c.op.toNat 1<=c.a/\c.a<=BC c.op.toNat 2
 f:BC c.op.toNat 0=3->Al c.alts
 z:BC c.op.toNat 0=3\/BC c.op.toNat 0=0->c.a=0
def sV(b:Bx):List UInt8:=if BC b.op.toNat 0=1 then vn (fo b.a) else if BC b.op.toNat 0=2 then vn b.a.toNat else if BC b.op.toNat 0=3 then vn (L b.alts)++b.alts.flatMap aU else []
abbrev sU(a:Bx):List UInt8:=vn a.op.toNat++sV a
theorem Bo.lw(c:Bo w n wa p w0)(a:Sp w n wa):Below w n p:=c.af.low (λb hb=>(a.rg b hb).1) a.z
theorem Cu.low(a:Cu n)(hb:Below w n p)(b:21<w):Cu p:=λd c=>by rw[Ai (hb.block _ b)];exact a d c
theorem Bo.cV{L1:List As}{a:Nat}(c:Bo w n wa p (L1++b3 a b i r::w0))(e f g:X):Bo w n wa (((p.setCell ⟨a,0,N⟩ e).setCell ⟨a,1,N⟩ f).setCell ⟨a,2,N⟩ g) (L1++b3 a e f g::w0):=
 c.cI (((AF.refl.set (.inl O2) _).set (.inl O2) _).set (.inl O2) _) ((c.mem (A:=b3 a b i r) O2).put _ _ _) O2 λh d=>⟨.inl d,by have:=c.s.rg h (HU (A:=b3 a b i r) O2 d);simp_all⟩
theorem Ag9{D:ByteArray}(ad:D.size<=100000)(az:Cu n)(a0:21<w)(ac:Sp w n [eA s D (sU wq++K)])(aK:Fi wq):Av Aa 246 #[J (I ⟨s,0,N⟩)] n λd aN=>∃ai,d=F (R #[T #[V C wq.op,V C wq.a,ai],.nilIface])/\Bo w n [eA s D (sU wq++K)] aN [pA 140 2 ai (L wq.alts) (wq.alts.flatMap FI),eA s D K]:=by
 rw[AH]at ac ⊢;obtain⟨⟨a7,aM⟩,hi,B,O,U,E⟩:=aK;obtain⟨aQ,p,k⟩:=wq;obtain⟨a,rfl⟩:=AZ a7;simp only[A9]at*;have u:a<21:=O1;obtain⟨aj,aI,ax,aJ,-,-,aO,aP⟩:=Lb a u;have aC:=O0 ac;have aD:=O0 λaG (hb:Below w n aG)=>az.low hb a0;have l:=O0 (ac.b2.box (A:=b3 n.heap.size (V C 0) (V C 0) (W N 0 0)) (.cells #[V C 0,V C 0,W N 0 0] 138) rfl (CB.new n _ _ _ _));have r:=O0 (J2 (lw:=0) (hi:=20) ad (Sp.right (M:=[_]) l.o.s) O1 O1 O1);have Y:O9 (∀c ah,Bo w n [eA s D (vn a++(sV ⟨a,p,k⟩++K))] c (b3 n.heap.size (V C 0) (V C 0) (W N 0 0)::ah)->n.heap.size<c.heap.size/\CB c n.heap.size (V C 0) (V C 0) (W N 0 0)/\(∀H,H<7->(c.alloc (.cells #[V C a,V C 0,W N 0 0] 138)).cell? ⟨21,a*7+H,N⟩=I (V C (BC a H)))/\Bo w n [eA s D (vn a++(sV ⟨a,p,k⟩++K))] (c.alloc (.cells #[V C a,V C 0,W N 0 0] 138)) (b3 c.heap.size (V C a) (V C 0) (W N 0 0)::b3 n.heap.size (V C 0) (V C 0) (W N 0 0)::ah)):=λc ah ak=>by
  have g:=ak.box (A:=b3 c.heap.size (V C a) (V C 0) (W N 0 0)) (.cells #[V C a,V C 0,W N 0 0] 138) rfl (CB.new c _ _ _ _);exact⟨(ak.mem (.head _)).lt,ak.mem (.head _),λH b=>(aD.o _ (g.lw aC.o)).row a H u b,g⟩
 generalize hsv:sV ⟨a,p,k⟩=sv at*;clear ac az a0 a7 aM;have b:BC a 0=0\/BC a 0=1\/BC a 0=2\/BC a 0=3:=O1;rcases b with b|b|b|b
 ·have d:sv=[]:=by rw[<-hsv];simp[sV,b]
  obtain rfl:=E (.inr b);obtain rfl:=B O1;subst d;have t:=O0 b;clear O U E B b hsv;go_enter Tryz.func246,Tryz.ntmps246;go_wp2_with (first
   |(go_at_call 138;refine r.o.mono ?_;rintro d c ⟨rfl,e⟩;have j:=O0 (l.o.trans (e.frame (M:=[_]) l.o.s));obtain⟨an,⟨aq,ar,au,k0,ao,ap⟩,i,-⟩:=Y.o c _ j.o;have m:=O0 (i 0 O1);clear e i r)
   |(go_at_call 207;refine(JP a 0 _ u (by have:=m.o;rw[t.o]at this;exact this)).mono ?_;rintro d af ⟨rfl,rfl⟩))
  have h:=(j.o.cV (L1:=[]) (V C a) (V C 0) (W N 0 0)).bE ((Ae _ _).alloc (Ac _) (.cells #[V C a,V C 0,W N 0 0] 138));obtain⟨x,y,z,-,-,-⟩:=h.mem (.head _);refine AV (v:=R #[T #[V C a,V C 0,W N 0 0],.nilIface]) (by simp[results,Tryz.results246,go_sem,x,y,z]) rfl ?_;exact⟨_,rfl,Jv h.tail⟩
 ·have d:sv=vn (fo p):=by rw[<-hsv];simp[sV,b]
  obtain rfl:=B O1;subst d;have t:=O0 b;have av:=O0 hi;clear O U E B b hsv hi;go_enter Tryz.func246,Tryz.ntmps246;go_wp2_with (first
   |(go_at_call 138;refine r.o.mono ?_;rintro d c ⟨rfl,e⟩;obtain⟨an,-,i,g⟩:=Y.o c _ (l.o.trans (e.frame (M:=[_]) l.o.s));have j:=O0 g;have m:=O0 (i 0 O1);have G:=O0 (Ao8 ad (Sp.right (M:=[_,_]) g.s) av.o.1 av.o.2);clear e g i r)
   |(go_at_call 207;refine(JP a 1 _ u (by have:=m.o;rw[t.o]at this;exact this)).mono ?_;rintro d af ⟨rfl,rfl⟩)
   |(go_at_call 265;refine G.o.mono ?_;rintro d a9 ⟨rfl,e⟩;have f:=j.o.trans (e.frame (M:=[_,_]) j.o.s);obtain⟨a1,a2,a3,a4,a5,a6⟩:=f.mem (.head _);obtain⟨aq,ar,au,k0,ao,ap⟩:=f.mem (.tail _ (.head _));have q:=O0 f;clear e f))
  have h:=(q.o.set (L1:=[]) (A:=b3 c.heap.size _ _ _) (A':=b3 c.heap.size (V C a) (V C p) (W N 0 0)) rfl rfl ((q.o.mem (.head _)).cJ (V C p))).cV (L1:=[_]) (V C a) (V C p) (W N 0 0);obtain⟨x,y,z,-,-,-⟩:=h.mem (.tail _ (.head _));refine AV (v:=R #[T #[V C a,V C p,W N 0 0],.nilIface]) (by simp[results,Tryz.results246,go_sem,x,y,z]) rfl ?_;exact⟨_,rfl,Jv h.tail.tail⟩
 ·have d:sv=vn p.toNat:=by rw[<-hsv];simp[sV,b]
  obtain rfl:=B O1;obtain⟨aw,aH⟩:=O b;obtain⟨a8,al⟩:=AZ aj;obtain⟨v,am⟩:=AZ ax;obtain⟨ae,rfl⟩:=AZ (Atz aj aw);rw[al]at aw aI;rw[am]at aH aJ;rw[A9]at d;subst d;have t:=O0 b;have aE:=O0 al;have aF:=O0 am;clear O U E B b hsv hi al am aj ax;go_enter Tryz.func246,Tryz.ntmps246;go_wp2_with (first
   |(go_at_call 138;first
    |(refine r.o.mono ?_;rintro d c ⟨rfl,e⟩;obtain⟨an,-,i,g⟩:=Y.o c _ (l.o.trans (e.frame (M:=[_]) l.o.s));have j:=O0 g;have m:=O0 i;clear e g i r)
    |(refine G.o.mono ?_;rintro d a9 ⟨rfl,e⟩;have f:=ag.o.trans (e.frame (M:=[_,_]) ag.o.s);obtain⟨a1,a2,a3,a4,a5,a6⟩:=f.mem (.head _);obtain⟨aq,ar,au,k0,ao,ap⟩:=f.mem (.tail _ (.head _));have q:=O0 f;clear e f))
   |(go_at_call 207;refine(JP a 2 _ u (by have:=m.o 0 O1;rw[t.o]at this;exact this)).mono ?_;rintro d af ⟨rfl,rfl⟩)
   |(go_at_call 244;refine(UA a a8 v _ u (by have:=m.o 1 O1;rw[aE.o]at this;exact this) (by have:=m.o 2 O1;rw[aF.o]at this;exact this)).mono ?_;rintro d af ⟨rfl,aL,rfl⟩;have ag:=O0 (j.o.bE (below_drewN (Ae _ _) aL));have G:=O0 (J2 (lw:=a8) (hi:=v) ad (Sp.right (M:=[_,_]) ag.o.s) O1 O1 O1)))
  have h:=(q.o.set (L1:=[]) (A:=b3 c.heap.size _ _ _) (A':=b3 c.heap.size (V C a) (V C ae) (W N 0 0)) rfl rfl ((q.o.mem (.head _)).cJ (V C ae))).cV (L1:=[_]) (V C a) (V C ae) (W N 0 0);obtain⟨x,y,z,-,-,-⟩:=h.mem (.tail _ (.head _));refine AV (v:=R #[T #[V C a,V C ae,W N 0 0],.nilIface]) (by simp[results,Tryz.results246,go_sem,x,y,z]) rfl ?_;exact⟨_,rfl,Jv h.tail.tail⟩
 ·have d:sv=vn (L k)++k.flatMap aU:=by rw[<-hsv];simp[sV,b]
  obtain rfl:=E (.inl b);have ay:=U b;subst d;have t:=O0 b;have aB:=O0 ay;clear O U E B b hsv hi ay;go_enter Tryz.func246,Tryz.ntmps246;go_wp2_with (first
   |(go_at_call 138;refine r.o.mono ?_;rintro d c ⟨rfl,e⟩;obtain⟨an,-,i,g⟩:=Y.o c _ (l.o.trans (e.frame (M:=[_]) l.o.s));have m:=O0 (i 0 O1);rw[AH]at g;have j:=O0 g;have G:=O0 (Afq ad (Sp.right (M:=[_,_]) g.s) aB.o);clear e g i r)
   |(go_at_call 207;refine(JP a 3 _ u (by have:=m.o;rw[t.o]at this;exact this)).mono ?_;rintro d af ⟨rfl,rfl⟩)
   |(go_at_call 266;refine G.o.mono ?_;rintro d a9 ⟨ai,rfl,e⟩;have f:=j.o.trans (e.frame (M:=[_,_]) j.o.s);obtain⟨a1,a2,a3,a4,a5,a6⟩:=f.mem (.head _);obtain⟨aq,ar,au,k0,ao,ap⟩:=f.mem (.tail _ (.head _));have q:=O0 f;obtain⟨ab,aa,rfl⟩:=BW (f.mem (.tail _ (.tail _ (.head _))));clear e f))
  have h:=(q.o.set (L1:=[]) (A:=b3 c.heap.size _ _ _) (A':=b3 c.heap.size (V C a) (V C 0) (W ab (L k) aa)) rfl rfl ((q.o.mem (.head _)).cF (W ab (L k) aa))).cV (L1:=[_]) (V C a) (V C 0) (W ab (L k) aa);obtain⟨x,y,z,-,-,-⟩:=h.mem (.tail _ (.head _));refine AV (v:=R #[T #[V C a,V C 0,W ab (L k) aa],.nilIface]) (by simp[results,Tryz.results246,go_sem,x,y,z]) rfl ?_;rw[AH (vn (L k))];exact⟨_,rfl,h.tail.tail⟩
theorem Aly{f:Nat}{s:ByteArray}(U:s.size<=100000)(G:Cu n)(H:21<w)(t:Sp w n [eA f s (vn (L wh)++(wh.flatMap sU++K))])(ay:(L wh)<=65535)(r:∀x∈wh,Fi x):Av Aa 209 #[J (I ⟨f,0,N⟩)] n λe ar=>∃(g:X) (b:Gc),e=F (R #[g,.nilIface])/\b.map (·.1)=wh/\Bo w n [eA f s (vn (L wh)++(wh.flatMap sU++K))] ar [cA g b,aA b,eA f s K]:=by
 have ah:=O0 λak (hb:Below w n ak)=>G.low hb H;have af:=O0 t;have D:=O0 (J2 (lw:=0) (hi:=65535) U t O1 O1 O1);have aj:=O0 r;clear t G r;go_enter Tryz.func209,Tryz.ntmps209;go_wp2_with (first
  |(go_at_call 138;refine D.o.mono ?_;rintro e a1 ⟨rfl,k⟩;have h:=O0 k;clear k D))
 go_loopw [6,18] (λap z wr=>∃(a:Nat) (g:X) (b:Gc),z=V C a/\ap=g/\a<=L wh/\L b=a/\O9 (b.map (·.1)=wh.take a/\Bo w n [eA f s (vn (L wh)++(wh.flatMap sU++K))] wr [cA g b,aA b,eA f s ((wh.drop a).flatMap sU++K)])) (λ_ z _=>L wh-(intOf z).toNat)
 case atStart=>
  refine⟨0,_,[],rfl,rfl,Ak _,rfl,O2,?_⟩;have u:=Jv (e:=138) (size:=3) h.o;refine u.re (L2:=[cA _ [],aA [],eA f s (wh.flatMap sU++K)]) (by simp[fp]) λaa j=>?_;simp only[AW,Asc,or_false]at j;rcases j with rfl|rfl|rfl
  ·exact u.mem (.head _)
  ·exact λx r=>by cases r
  ·exact u.mem (.tail _ (.head _))
 case round=>
  obtain⟨a,g,b,rfl,rfl,az,v,p⟩:=hrel;rename Q=>wr
  clear h;by_cases y:a<L wh
  ·have ao:(a:Int)<(L wh:Int):=O1;have ab:O9 ((wh.drop a).flatMap sU++K=sU wh[a]++((wh.drop (a+1)).flatMap sU++K)):=by
    show _=_;rw[A3 y,AC,AH]
   have ai:O9 (wh.take (a+1)=wh.take a++[wh[a]]):=Au y;have d:=p.o.2;rw[ab.o]at d;have h:=O0 d;have B:=O0 (Ag9 U (ah.o _ (d.lw af.o)) H (Sp.right (M:=[_,_]) d.s) (aj.o _ (Ao y)));generalize wh[a]=x at*;obtain⟨aq,al,E⟩:=x;clear d;go_wp2_with (first
    |(go_at_call 246;refine B.o.mono ?_;rintro e a2 ⟨av,rfl,k⟩;have q:=h.o.trans (k.frame (M:=[_,_]) h.o.s);have ag:=O0 q;have ae:=O0 (q.mem (.head _));obtain⟨an,am,rfl⟩:=BW (q.mem (.tail _ (.tail _ (.head _))));clear k q B)
    |(at_builtin;refine HT Vp ((ae.o.alloc _).alloc _) (AL _ _) (m:=1) (c:=1) (s:=.tmp 28) (x:=.tmp 30) (by simp[A4];done) (by simp[A4];done) rfl rfl rfl (by intro a0 Y;simp at Y;rcases Y with rfl|rfl|rfl<;>rfl) O1 O1 ?_;intro ax aw w5 O;have ad:=O0 O;clear O))
   have i:=((ag.o.bE bA).bE bA).cP (L1:=[]) ad.o;refine⟨⟨a+1,_,b++[(⟨aq,al,E⟩,W an (L E) am)],by go_num,rfl,O1,by simp[v],by rw[ai.o,AJ,p.o.1];rfl,?_⟩,by simp[intOf];omega⟩;refine i.re (by simp[fp,v]) λaa j=>?_;simp only[AW,Asc,or_false]at j;rcases j with rfl|rfl|rfl
   ·have:=i.mem (.head _);simpa[FH,v]using this
   ·intro au l;rcases Ag.1 l with l|l
    ·exact i.mem (.tail _ (.head _)) au l
    ·obtain rfl:=Aq.1 l;exact i.mem (.tail _ (.tail _ (.head _)))
   ·exact i.mem (.tail _ (.tail _ (.tail _ (.head _))))
  ·obtain rfl:a=L wh:=O1;have ao:¬(L wh:Int)<(L wh:Int):=O1;have d:=p.o;rw[AQ,At0]at d;have ac:=O0 d;clear p d;go_wp2;go_ret2
   exact⟨_,rfl,b,ac.o⟩
abbrev iU(a:ByteArray×Int):List UInt8:=vn a.1.size++(a.1.data.toList++vn a.2.toNat)
def Gl(b:List ByteArray):Prop:=∀a (c:a<L b),Cx b[a]=true/\D8 b[a] (HZ b a)=true
theorem Aev{g:Nat}{s:ByteArray}(r:s.size<=100000)(G:Sp w n [eA g s (vn (L U)++(U.flatMap iU++K))])(a1:(L U)<=10000)(O:Gl (U.map (·.1)))(H:∀x∈U,0<=x.2/\x.2<=20):Av Aa 89 #[J (I ⟨g,0,N⟩)] n λe v=>∃i,e=F (R #[i,.nilIface])/\Bo w n [eA g s (vn (L U)++(U.flatMap iU++K))] v [pA 74 2 i (L U) (U.flatMap Dr),eA g s K]:=by
 have z:=O0 (M1 r G O1);have ah:=O0 O;have ad:=O0 H;have aj:O9 (∀(n:Q) h,Av Aa 131 #[W N 0 0,S h] n λe ac=>e=F (A false)/\Below n.heap.size n ac):=λn h=>Rn [] _ h n ⟨N,0,rfl,(show(0:Nat)<_ by omega),λar hi=>absurd hi O2⟩ λar a hi=>absurd hi O2;clear G O H;go_enter Tryz.func89,Tryz.ntmps89;go_wp2_with (first
  |(go_at_call 135;refine z.o.mono ?_;rintro e a4 ⟨rfl,d⟩;have j:=O0 d;clear d z))
 go_loopw [6,7,20] (λau av t wr=>∃(a:Nat) (i:X),t=V .u64 a/\au=i/\av=S (HZ (U.map (·.1)) a)/\a<=L U/\O9 (Bo w n [eA g s (vn (L U)++(U.flatMap iU++K))] wr [pA 74 2 i a ((U.take a).flatMap Dr),eA g s ((U.drop a).flatMap iU++K)])) (λ_ _ t _=>L U-(intOf t).toNat)
 case atStart=>exact⟨0,_,rfl,rfl,rfl,Ak _,Jv j.o⟩
 case round=>
  obtain⟨a,i,rfl,rfl,rfl,a0,p⟩:=hrel;rename Q=>wr
  clear j;by_cases k:a<L U
  ·have aq:(a:Int)<(L U:Int):=O1;have af:O9 ((U.drop a).flatMap iU++K=vn U[a].1.size++(U[a].1.data.toList++(vn U[a].2.toNat++((U.drop (a+1)).flatMap iU++K)))):=by
    show _=_;rw[A3 k,AC];simp
   have an:O9 (U.take (a+1)=U.take a++[U[a]]):=Au k;have ai:O9 (HZ (U.map (·.1)) (a+1)=U[a].1):=(Mt (f:=Prod.fst) k).symm;obtain⟨l,u⟩:=ah.o a (by simpa using k);obtain⟨ao,ax⟩:=ad.o _ (Ao k);rw[AN]at l u;have b:=p.o;rw[af.o]at b;have j:=O0 b;have y:=O0 (Wo r (Sp.right (M:=[_]) b.s) l u λv _=>aj.o v _);have a2:=(J4 l).2;have ae:=O0 λn=>LP U[a].1 n O1;generalize U[a]=x at*;obtain⟨h,aw⟩:=x;obtain⟨ab,rfl⟩:=AZ ao;simp only[A9]at*;clear b l u;go_wp2_with (first
    |(go_at_call 137;refine y.o.mono ?_;rintro e ac ⟨rfl,d⟩;have q:=j.o.trans (d.frame (M:=[_]) j.o.s);have B:=O0 q;have E:=O0 (J2 (lw:=0) (hi:=20) r (Sp.right (M:=[_]) q.s) O1 O1 O1);clear d q y)
    |(go_at_call 138;refine E.o.mono ?_;rintro e a5 ⟨rfl,d⟩;have am:=O0 (B.o.trans (d.frame (M:=[_]) B.o.s));clear d E)
    |(go_at_call 35;refine(ae.o _).mono ?_;rintro e a6 ⟨rfl,hb⟩;have D:=O0 (am.o.bE hb);have al:=O0 (D.o.mem (.head _));clear hb)
    |(at_builtin;refine HT Yq (al.o.alloc _) (AL _ _) (m:=1) (c:=1) (s:=.tmp 39) (x:=.tmp 44) (by simp[A4];done) (by simp[A4];done) rfl rfl rfl (by intro a3 aa;simp at aa;rcases aa with rfl|rfl<;>rfl) O1 O1 ?_;intro az ay w5 Y;have ak:=O0 Y;clear Y))
   have ap:=(D.o.bE bA).cP (L1:=[]) ak.o;refine⟨⟨a+1,_,by go_num,rfl,by rw[ai.o],O1,?_⟩,by simp[intOf];omega⟩;rw[an.o,AE,show [(h,(ab:Int))].flatMap Dr=[S h,V C ab] by simp[Dr]];exact ap
  ·obtain rfl:a=L U:=O1;have aq:¬(L U:Int)<(L U:Int):=O1;have b:=p.o;rw[AQ,At0]at b;have ag:=O0 b;clear p b;go_wp2;go_ret2
   exact⟨_,rfl,ag.o⟩
theorem C0.put(a:C0 n w b i r M)(c e f d:X):C0 ((((n.setCell ⟨w,0,N⟩ c).setCell ⟨w,1,N⟩ e).setCell ⟨w,2,N⟩ f).setCell ⟨w,3,N⟩ d) w c e f d:=by
 have g:C0 (n.setCell ⟨w,0,N⟩ c) w c i r M:=⟨Am _ _ _ a.c0,by rw[Af _ _ _ _ (B4 O1)];exact a.c1,by rw[Af _ _ _ _ (B4 O1)];exact a.c2,by rw[Af _ _ _ _ (B4 O1)];exact a.c3,by rw[An];exact a.f0,by rw[An];exact a.f1,by rw[An];exact a.f2,by rw[An];exact a.f3⟩;exact((g.cJ e).cF f).JT d
def gV(a:Bt):List UInt8:=vn a.arity.toNat++(vn (if a.exp then 1 else 0)++(vn (L a.code)++a.code.flatMap sU))
abbrev gU(a:Bt):List UInt8:=vn a.name.size++(a.name.data.toList++gV a)
structure Gi (b:Bt):Prop where
 n:Cx b.name=true
 a:0<=b.arity/\b.arity<=20
 c:(L b.code)<=65535
 i:∀x∈b.code,Fi x
abbrev b4(b:Nat)(g h i e:X):As:=⟨[b],λf=>C0 f b g h i e,λa _ d=>Aq.1 d▸cells_of_cell a.c0,λa _ c=>a.bX (c _ O2)⟩
theorem Bo.fI{L1:List As}{a:Nat}(c:Bo w n wa p (L1++b4 a b i r M::w0))(f g h e:X):Bo w n wa ((((p.setCell ⟨a,0,N⟩ f).setCell ⟨a,1,N⟩ g).setCell ⟨a,2,N⟩ h).setCell ⟨a,3,N⟩ e) (L1++b4 a f g h e::w0):=
 c.cI ((((AF.refl.set (.inl O2) _).set (.inl O2) _).set (.inl O2) _).set (.inl O2) _) ((c.mem (A:=b4 a b i r M) O2).put _ _ _ _) O2 λj d=>⟨.inl d,by have:=c.s.rg j (HU (A:=b4 a b i r M) O2 d);simp_all⟩
theorem Agu{i:ByteArray}{b:Q}(t:i.size<=100000)(G:Cu b)(O:21<w)(g:Sp w b [eA s i (gV nt++K)])(aj:Gi nt):Av Aa 139 #[J (I ⟨s,0,N⟩),S nt.name] b λc ao=>∃e:GG,c=F (R #[T #[S nt.name,V C nt.arity,.bool nt.exp,e.cv],.nilIface])/\Cj e=nt/\Bo w b [eA s i (gV nt++K)] ao [cA e.cv e.cs,aA e.cs,eA s i K]:=by
 have ae:=O0 λag (hb:Below w b ag)=>G.low hb O;obtain⟨U,⟨D,aq⟩,ah,hi⟩:=aj;obtain⟨f,ap,a,k⟩:=nt;obtain⟨n,rfl⟩:=AZ D;simp only at*;have c:gV ⟨f,n,a,k⟩++K=vn n++(vn (if a then 1 else 0)++(vn (L k)++(k.flatMap sU++K))):=by simp[gV]
 rw[c]at g ⊢;have ab:=O0 g;have au:=(J4 U).2;have Y:=O0 λb=>LP f b O1;have j:=O0 (g.b2.box (A:=b4 b.heap.size (S ⟨#[]⟩) (V C 0) (.bool false) (W N 0 0)) (.cells #[S ⟨#[]⟩,V C 0,.bool false,W N 0 0] 77) rfl (C0.new b _ _ _ _ _));have x:=O0 (J2 (n:=n) (lw:=0) (hi:=20) t (Sp.right (M:=[_]) j.o.s) O1 O1 O1);have af:=O0 hi;have ai:(if a then 1 else 0)<=1:=by cases a<;>simp
 have ar:(((if a then 1 else 0:Nat):Int)==1)=a:=by cases a<;>rfl
 generalize (if a then 1 else 0:Nat)=eb at*;clear g G hi U D c;go_enter Tryz.func139,Tryz.ntmps139;go_wp2_with (first
  |(go_at_call 138;first
   |(refine x.o.mono ?_;rintro c a2 ⟨rfl,d⟩;have p:=j.o.trans (d.frame (M:=[_]) j.o.s);have y:=O0 p;have B:=O0 (J2 (lw:=0) (hi:=1) t (Sp.right (M:=[_]) p.s) O1 ai O1);clear d p x)
   |(refine B.o.mono ?_;rintro c a3 ⟨rfl,d⟩;have h:=y.o.trans (d.frame (M:=[_]) y.o.s);have z:=O0 h;have u:=O0 (Aly t (ae.o _ (h.lw ab.o)) O (Sp.right (M:=[_]) h.s) ah af.o);clear d h B))
  |(go_at_call 209;refine u.o.mono ?_;rintro c a4 ⟨v,m,rfl,H,d⟩;have q:=z.o.trans (d.frame (M:=[_]) z.o.s);have ac:=O0 q;obtain⟨l,cc,rfl⟩:=BW (q.mem (.tail _ (.head _)));have aa:=O0 H;clear d q u H)
  |(go_at_call 35;refine(Y.o _).mono ?_;rintro c a5 ⟨rfl,hb⟩;have r:=ac.o.bE hb;obtain⟨ay,az,a0,a1,k0,av,aw,ax⟩:=r.mem (.head _);have ad:=O0 r;clear hb r))
 have E:=ad.o.fI (L1:=[]) (S f) (V C n) (.bool a) (W l (L m) cc);obtain⟨ak,al,am,an,-⟩:=E.mem (.head _);refine AV (v:=R #[T #[S f,V C n,.bool a,W l (L m) cc],.nilIface]) (by simp[results,Tryz.results139,go_sem,ak,al,am,an]) rfl ?_;exact⟨⟨f,n,a,l,cc,m⟩,rfl,by simp[Cj,aa.o],E.tail⟩
theorem Ahv{h:Nat}{s:ByteArray}{iv:X}(B:s.size<=100000)(ad:Cu n)(ae:21<w)(y:Sp w n [eA h s (vn (L d)++(d.flatMap gU++K))])(aB:(L d)<=10000)(ag:Gl (d.map (·.name)))(aj:∀x∈d,Gi x)(ac:∀x∈d,∀j,AF [h] n j->Av Aa 131 #[iv,S x.name] j λk ak=>k=F (A false)/\Below j.heap.size j ak):Av Aa 90 #[J (I ⟨h,0,N⟩),iv] n λk j=>∃(q:X) (b:List GG),k=F (R #[q,.nilIface])/\b.map Cj=d/\Bo w n [eA h s (vn (L d)++(d.flatMap gU++K))] j (gA q b::(gL b++[eA h s K])):=by
 have O:=O0 (M1 B y O1);have ax:=O0 λa0 (hb:Below w n a0)=>ad.low hb ae;have aw:=O0 y;have ap:=O0 ag;have az:=O0 aj;have ar:=O0 ac;clear y ag aj ac ad;go_enter Tryz.func90,Tryz.ntmps90;go_wp2_with (first
  |(go_at_call 135;refine O.o.mono ?_;rintro k aD ⟨rfl,i⟩;have r:=O0 i;clear i O))
 go_loopw [8,9,22] (λa3 a4 iv wr=>∃(a:Nat) (q:X) (b:List GG),iv=V .u64 a/\a3=q/\a4=S (HZ (d.map (·.name)) a)/\a<=L d/\L b=a/\O9 (b.map Cj=d.take a/\Bo w n [eA h s (vn (L d)++(d.flatMap gU++K))] wr (gA q b::(gL b++[eA h s ((d.drop a).flatMap gU++K)])))) (λ_ _ iv _=>L d-(intOf iv).toNat)
 case atStart=>exact⟨0,_,[],rfl,rfl,rfl,Ak _,rfl,rfl,Jv r.o⟩
 case round=>
  obtain⟨a,q,b,rfl,rfl,rfl,a9,z,t⟩:=hrel;rename Q=>wr
  clear r;by_cases p:a<L d
  ·have a1:(a:Int)<(L d:Int):=O1;have am:O9 ((d.drop a).flatMap gU++K=vn d[a].name.size++(d[a].name.data.toList++(gV d[a]++((d.drop (a+1)).flatMap gU++K)))):=by
    show _=_;rw[A3 p,AC];simp only[gU,AH]
   have ay:O9 (d.take (a+1)=d.take a++[d[a]]):=Au p;have aq:O9 (HZ (d.map (·.name)) (a+1)=d[a].name):=(Mt (f:=Bt.name) p).symm;obtain⟨D,E⟩:=ap.o a (by simpa using p);rw[AN]at D E;have e:=t.o.2;rw[am.o]at e;have r:=O0 e;have H:=O0 (Wo (iv:=iv) B (Sp.right (M:=gA _ b::gL b) e.s) D E λj a2=>ar.o _ (Ao p) j ((show AF [h] n wr by simpa[fp]using e.af).trans a2 λa6 hb=>.inl hb));have ao:=O0 (az.o _ (Ao p));generalize d[a]=g at*;clear e D E;go_wp2_with (first
    |(go_at_call 137;refine H.o.mono ?_;rintro k ak ⟨rfl,i⟩;have u:=r.o.trans (i.frame (M:=gA _ b::gL b) r.o.s);have U:=O0 u;have aa:=O0 (Agu B (ax.o _ (u.lw aw.o)) ae (Sp.right (M:=gA _ b::gL b) u.s) ao.o);clear i u H)
    |(go_at_call 139;refine aa.o.mono ?_;rintro k aE ⟨al,rfl,ab,i⟩;have Y:=O0 (U.o.trans (i.frame (M:=gA _ b::gL b) U.o.s));have av:=O0 (Y.o.mem (.head _));have G:=O0 ab;clear i aa ab)
    |(at_builtin;refine HT Ys ((av.o.alloc _).alloc _) (AL _ _) (m:=1) (c:=1) (s:=.tmp 43) (x:=.tmp 45) (by simp[A4];done) (by simp[A4];done) rfl rfl rfl (by intro aC ai;simp at ai;rcases ai with rfl|rfl|rfl|rfl<;>rfl) O1 O1 ?_;intro a8 a7 w5 ah;have au:=O0 ah;clear ah))
   have l:=((Y.o.bE bA).bE bA).cP (L1:=[]) au.o;refine⟨⟨a+1,_,b++[al],by go_num,rfl,by rw[aq.o],O1,by simp[z],by rw[ay.o,AJ,t.o.1,<-G.o];rfl,?_⟩,by simp[intOf];omega⟩;refine l.re (by simp[fp,gL,z]) λa5 v=>?_;simp only[gL,AE,AW,Ag,AC,Arj,A2,Asc,or_false,AH]at v;rcases v with rfl|v|(rfl|rfl)|rfl
   ·have:=l.mem (.head _);simpa[Ih,z,<-G.o,Cj]using this
   ·exact l.mem (.tail _ (Ag.2 (.inl v)))
   ·exact l.mem (.tail _ (Ag.2 (.inr (.head _))))
   ·exact l.mem (.tail _ (Ag.2 (.inr (.tail _ (.head _)))))
   ·exact l.mem (.tail _ (Ag.2 (.inr (.tail _ (.tail _ (.head _))))))
  ·obtain rfl:a=L d:=O1;have a1:¬(L d:Int)<(L d:Int):=O1;have e:=t.o;rw[AQ,At0]at e;have an:=O0 e;clear t e;go_wp2;go_ret2
   exact⟨_,rfl,b,an.o⟩
def oU(c:ByteArray)(b:List (ByteArray×Int))(a:List Bt):List UInt8:=[84,65,82,78]++(vn c.size++(c.data.toList++(vn (L b)++(b.flatMap iU++(vn (L a)++(a.flatMap gU++[]))))))
structure Oi (e:ByteArray) (c:List (ByteArray×Int)) (b:List Bt):Prop where
 n:Cx e=true
 z:(L c)<=10000/\L b<=10000
 i:Gl (c.map (·.1))
 a:∀x∈c,0<=x.2/\x.2<=20
 g:Gl (b.map (·.name))
 x:∀x∈b,Gi x
 d:∀x∈c,∀g∈b,x.1≠g.name
theorem Am6(e:Gl (U.map (·.1))):HA (BK U):=by
 intro d f j b g;have h:(BK U).length=L U:=by simp[BK]
 have c:=λi c=>by
  have:=(e (i+1) (by simpa using c)).2;rw[OS,<-Mt O1,AN]at this;omega
 obtain⟨a,rfl⟩:∃a,f=d+a+1:=⟨f-d-1,O1⟩;simp[BK,AN];clear g e h;revert b;induction a with
 |zero=>grind
 |succ a ih=>intro b;simp[BK,Ax]at b ih;refine Ln (ih ?_ ?_) (c (d+a+1) ?_)<;>omega
theorem Ad8(c:n.ownsRow 0 74 2 b (L U) (U.flatMap Dr))(p:(L U)<=10000)(l:∀a∈U,a.1.size<=16):En n b (BK U):=by
 rcases At3 (L U) with h|h
 ·obtain⟨m,d,rfl⟩:=BW c;exact⟨m,d,by simp[BK],by unfold short;simp[BK];omega,λf e=>absurd e (by simp[BK];omega)⟩
 ·obtain⟨g,d,rfl,-,-⟩:=World.ownsRow.form c h;refine⟨I ⟨g,0,N⟩,d,by simp[BK],by unfold short;simp[BK];omega,λf e=>?_⟩;have i:f<L U:=by simpa[BK]using e
  have o:=l _ (Ao i);refine⟨g,0,rfl,?_⟩;let ⟨j,k⟩:=Ju (λa:ByteArray×Int=>Value.string a.1) (λa=>Value.int C a.2) U f i
  rw[Aqy,c.cellAt _ O1,c.cellAt _ O1];simp[BK,AN];exact⟨j,k,by unfold maxLen;omega⟩
theorem Tl.pos(a:Tl v w K):w+L K=v.size:=by
 have:=congrArg List.length a.2;simp only[List.length_drop,Ar6]at this;show w+L K=v.data.size;have b:w<=v.data.size:=a.1;omega
theorem Aqj{r:List UInt8}(ae:4+L r=v.size)(f:Sp w n [eA s v ([84,65,82,78]++r)]):Av Aa 87 #[J (I ⟨s,0,N⟩)] n λG e=>G=F .nilIface/\Bo w n [eA s v ([84,65,82,78]++r)] e [eA s v r]:=by
 have z:=O0 f.b2;clear f;have j:O9 (∀e a u,Tl v a u->RS e s v a->4-(intOf ((e.cell? ⟨s,1,N⟩).getD (V C 0))).toNat=4-a):=λe a u _ f=>by rw[f.c1];rfl
 go_enter Tryz.func87,Tryz.ntmps87;go_wp2;go_loopw [] (λwr=>∃c:Nat,c<=4/\O9 (Bo w n [eA s v ([84,65,82,78]++r)] wr [eA s v (([84,65,82,78]:List UInt8).drop c++r)])) (λwr=>4-(intOf ((wr.cell? ⟨s,1,N⟩).getD (V C 0))).toNat)
 case atStart=>exact⟨0,O1,z.o⟩
 case round=>
  obtain⟨c,ac,i⟩:=hrel;rename Q=>wr
  obtain⟨a,d,b⟩:=i.o.mem (.head _);have q:=d.pos;have l:(([84,65,82,78]:List UInt8).drop c++r).length=4-c+L r:=O2;obtain rfl:a=c:=O1;have M:=b.c0;have O:=b.c1;have U:=b.f1;have h:=O0 b;have D:=O0 d;by_cases ab:a<4
  ·have ad:a<v.size:=O1;obtain⟨g,t⟩:v[a].toNat=(⟨#[84,65,82,78]⟩:ByteArray)[a].toNat/\Tl v (a+1) (([84,65,82,78]:List UInt8).drop (a+1)++r):=by
    rcases(show a=0\/a=1\/a=2\/a=3 by omega) with rfl|rfl|rfl|rfl;all_goals
     obtain⟨_,hb,H⟩:=d.cons;exact⟨by rw[hb];rfl,H⟩
   have k:=O0 t;have Y:(0:Int)<=(a:Int):=O1;have aa:(a:Int)<(v.size:Int):=O1;have K:(a:Int)<4:=O1;have E:=O0 g;clear d b q l t g;go_wp2;go_quiet (fail);have g:=E.o;generalize v[a].toNat=x at*;generalize (⟨#[84,65,82,78]⟩:ByteArray)[a].toNat=y at*;subst g;have hb:((x:Int) !=(x:Int))=false:=O2;go_wp2;have m:=(i.o.bE (below_drewN (Ae _ _) nq)).goto k.o;have p:=(h.o.bE (below_drewN (Ae _ _) nq)).at (a+1);rw[show(((a+1:Nat)):Int)=(a:Int)+1 by omega]at m p;refine⟨⟨a+1,O1,m⟩,?_⟩;have af:=j.o _ _ _ k.o p;have ag:=j.o _ _ _ D.o h.o;omega
  ·obtain rfl:a=4:=O1;have K:¬(4:Int)<4:=nofun;have B:=O0 i.o;clear d b q l h;go_wp2;go_ret;exact⟨rfl,B.o⟩
theorem Adx(e:Sp w n [b3 m b i r,pA 74 2 M (L U) (U.flatMap Dr),eA s v K])(g:Gl (U.map (·.1)))(q:(L U)<=10000)(k:∀b∈U,∀c∈d,b.1≠c.name):∀b∈d,∀a,AF [s] n a->Av Aa 131 #[M,S b.name] a λh y=>h=F (.bool false)/\Below a.heap.size a y:=λc o a t=>by
 have j:=FC (e.mem (A:=pA 74 2 M (L U) (U.flatMap Dr)) O2) λm hb=>t.block m (e.rg m (by simp[fp,hb])).2 λl=>by
  obtain rfl:=Aq.1 l;have:=e.nd;simp[fp,AC,Arj,A2,A8]at this;grind
 have z:=Rn (BK U) M c.name a (Ad8 j q λb f=>by
  obtain⟨x,p,rfl⟩:=Ari f;have:=(g x (by simpa using p)).1;rw[AN]at this;exact(J4 this).2) (Am6 g)
 have B:Fs (BK U) c.name=false:=by
  unfold Fs BK;rw[Asq];intro i u;obtain⟨b,f,rfl⟩:=AK.1 u;simpa[Kb]using k b f c o
 grind
theorem Aae{lo E:Nat}{s:ByteArray}{w:Q}{nm:ByteArray}{l:List (ByteArray×Int)}{gl:List Bt}(z:s.size<=100000)(ag:(oU nm l gl).length=s.size)(ac:Cu w)(ad:21<lo)(q:Sp lo w [eA E s (oU nm l gl)])(av:Oi nm l gl):Av Aa 42 #[J (I ⟨E,0,N⟩)] w λe a0=>∃(G p:X) (c:List GG),e=F (R #[T #[S nm,G,p],.nilIface])/\c.map Cj=gl/\Bo lo w [eA E s (oU nm l gl)] a0 (gA p c::(gL c++[pA 74 2 G (L l) (l.flatMap Dr),eA E s []])):=by
 have ar:=O0 λau (hb:Below lo w au)=>ac.low hb ad;have ap:=O0 q;obtain⟨H,⟨ah,aw⟩,ai,aj,ak,al,am⟩:=av;have h:=O0 ((q.b2.box (A:=b3 w.heap.size (S ⟨#[]⟩) (W N 0 0) (W N 0 0)) (.cells #[S ⟨#[]⟩,W N 0 0,W N 0 0] 41) rfl (CB.new w _ _ _ _)).bE ((Ae _ _).alloc (Ac _) (.cells #[S ⟨#[]⟩,W N 0 0,W N 0 0] 41)));have U:=O0 (Aqj (r:=vn nm.size++(nm.data.toList++(vn (L l)++(l.flatMap iU++(vn (L gl)++(gl.flatMap gU++[])))))) (by rw[<-ag];simp[oU];omega) (Sp.right (M:=[_]) h.o.s));have a4:=(J4 H).2;have an:=O0 λw=>LP nm w O1;have d:=O0 (Aq4 H (Aq4 ai (Aq4 aj (Aq4 ak (Aq4 al am)))));clear q ac ag H ai aj ak al am;go_enter Tryz.func42,Tryz.ntmps42;go_upto_region 14 with(first
  |(go_at_call 87;refine U.o.mono ?_;rintro e aC ⟨rfl,b⟩;have t:=h.o.trans (b.frame (M:=[_]) h.o.s);have i:=O0 t;have Y:=O0 (Yh z (Sp.right (M:=[_]) t.s) d.o.1);clear b t U)
  |(go_at_call 88;refine Y.o.mono ?_;rintro e aD ⟨rfl,b⟩;have u:=i.o.trans (b.frame (M:=[_]) i.o.s);have j:=O0 u;have O:=O0 (Aev z (Sp.right (M:=[_]) u.s) ah d.o.2.1 d.o.2.2.1);clear b u Y i)
  |(go_at_call 89;refine O.o.mono ?_;rintro e aE ⟨G,rfl,b⟩;have f:=j.o.trans (b.frame (M:=[_]) j.o.s);have k:=O0 f;have K:=O0 (Ahv z (ar.o _ (f.lw ap.o)) ad (Sp.right (M:=[_,_]) f.s) aw d.o.2.2.2.1 d.o.2.2.2.2.1 (Adx f.s d.o.2.1 ah d.o.2.2.2.2.2));clear b f O j)
  |(go_at_call 90;refine K.o.mono ?_;rintro e aF ⟨p,c,rfl,ae,b⟩;have aa:=k.o.trans (b.frame (M:=[_,_]) k.o.s);have g:=O0 aa;have ao:=O0 ae;clear b aa K k ae))
 obtain⟨a7,af,y⟩:=g.o.mem (.tail _ (.tail _ (.tail _ (Ag.2 (.inr (.head _))))));obtain rfl:=af.nil;have a1:=y.c0;have a2:=y.c1;obtain⟨D,B,rfl⟩:=BW (g.o.mem (.tail _ (.head _)));obtain⟨n,m,rfl⟩:=BW (g.o.mem (.tail _ (.tail _ (.head _))));have a3:¬(s.size:Int)<(s.size:Int):=O1;clear af y;go_quiet (fail);go_wp2_with (first
  |(go_at_call 35;refine(an.o _).mono ?_;rintro e w5 ⟨rfl,hb⟩;have x:=(g.o.bE (below_drewN (Ae _ _) nq)).bE hb;obtain⟨a8,a9,aB,k0,a5,a6⟩:=x.mem (.head _);have aq:=O0 x;clear hb x))
 have ab:=aq.o.cV (L1:=[]) (S nm) (W D (L l) B) (W n (L c) m);obtain⟨ax,ay,az,-⟩:=ab.mem (.head _);refine AV (v:=R #[T #[S nm,W D (L l) B,W n (L c) m],.nilIface]) (by simp[results,Tryz.results42,go_sem,ax,ay,az]) rfl ?_;refine⟨_,_,c,rfl,ao.o,ab.tail.perm ?_⟩;have:=(List.perm_middle (a:=pA 74 2 (W D (L l) B) (L l) (l.flatMap Dr)) (l₁:=gA (W n (L c) m) c::gL c) (l₂:=[eA E s []]));exact this
def Jr(a:Nat):List UInt8:=[UInt8.ofNat (a % 256),UInt8.ofNat (a / 256 % 256),UInt8.ofNat (a / 65536 % 256),UInt8.ofNat (a / 16777216)]
def JJ(a:ByteArray):ByteArray:=⟨(Jr (Kg a.data.toList)).toArray⟩
theorem Yi(c:ByteArray)(b:Q)(s:c.size<=100020):
 Av Aa 41 #[S c] b λf p=>f=F (S (JJ c))/\Below b.heap.size b p:=by
 have h:=O0 (λb=>Ao3 c b O1);have q:=Ak1 c.data.toList;have i:O9 (JJ c=⟨(Jr (Kg c.data.toList)).toArray⟩):=rfl;generalize Kg c.data.toList=a at*;have r:∀b:Q,(convert 95 9 (W (I ⟨b.heap.size,0,N⟩) 4 4)).run Aa (b.alloc (.cells #[V .u8 ((a:Int) % 256),V .u8 ((a:Int) / 256 % 256),V .u8 ((a:Int) / 65536 % 256),V .u8 ((a:Int) / 16777216)] 5))=.ok (S (JJ c)) (b.alloc (.cells #[V .u8 ((a:Int) % 256),V .u8 ((a:Int) / 256 % 256),V .u8 ((a:Int) / 65536 % 256),V .u8 ((a:Int) / 16777216)] 5)):=by
  intro b;have j:=run_convert_bytes_back (P:=Aa) (b.alloc (.cells #[V .u8 ((a:Int) % 256),V .u8 ((a:Int) / 256 % 256),V .u8 ((a:Int) / 65536 % 256),V .u8 ((a:Int) / 16777216)] 5)) 95 9 5 ⟨b.heap.size,0,N⟩ 4 (Jr a) Tryz.underlying95 Tryz.underlying5 Bg (λd n=>by
   have k:a % 256 % 256=a % 256:=O1;have l:a / 256 % 256 % 256=a / 256 % 256:=O1;have m:a / 16777216 % 256=a / 16777216:=O1;simp only[Jr,AM,Bb]at n;rcases(show d=0\/d=1\/d=2\/d=3 by omega) with rfl|rfl|rfl|rfl;all_goals simp[Jr,Addr.add,k,l,O1,m])
  rw[i.o];exact j
 go_enter Tryz.func41,Tryz.ntmps41;go_wp2_with (first
  |(go_at_call 86;refine(h.o _).mono ?_;rintro f t ⟨rfl,g⟩;have e:=O0 g;clear g))
 go_ret;exact⟨rfl,e.o.trans (bA|>.mono e.o.size)⟩
def Ic(e:Q)(a b:Nat)(f g h c d:X):Q:=((((e.setCell ⟨a,0,N⟩ f).setCell ⟨a,1,N⟩ g).setCell ⟨a,2,N⟩ h).setCell ⟨b,0,N⟩ c).setCell ⟨b,1,N⟩ d
theorem Aal(q:CB n w b i r)(p:Fx n s M wu)(l:w≠s)(a c d e f:X):(Ic n w s a c d e f).cell? ⟨w,0,N⟩=I a/\(Ic n w s a c d e f).cell? ⟨w,1,N⟩=I c/\(Ic n w s a c d e f).cell? ⟨w,2,N⟩=I d/\(Ic n w s a c d e f).cell? ⟨s,0,N⟩=I e/\(Ic n w s a c d e f).cell? ⟨s,1,N⟩=I f:=by
 have m:Cq [w] n (((n.setCell ⟨w,0,N⟩ a).setCell ⟨w,1,N⟩ c).setCell ⟨w,2,N⟩ d):=(((Cq.refl _ _).set (Ba O2) _).set (Ba O2) _).set (Ba O2) _;have g:=p.off m O6;have o:Cq [s] (((n.setCell ⟨w,0,N⟩ a).setCell ⟨w,1,N⟩ c).setCell ⟨w,2,N⟩ d) (Ic n w s a c d e f):=((Cq.refl _ _).set (Ba O2) _).set (Ba O2) _;have h:=(q.put a c d).off o (by simpa using l);have k:Fx ((((n.setCell ⟨w,0,N⟩ a).setCell ⟨w,1,N⟩ c).setCell ⟨w,2,N⟩ d).setCell ⟨s,0,N⟩ e) s e wu:=⟨Am _ _ _ g.c0,by rw[Af _ _ _ _ (B4 O1)];exact g.c1,by rw[An];exact g.f0,by rw[An];exact g.f1⟩;have j:=k.cJ f;exact⟨h.c0,h.c1,h.c2,j.c0,j.c1⟩
theorem Abd(e:Below n.heap.size n p)(a:n.heap.size<=w)(b:n.heap.size<=s)(f g h c d:X):Below n.heap.size n (Ic p w s f g h c d):=((((e.setCell a _).setCell a _).setCell a _).setCell b _).setCell b _
def fA(a:Int):Nat:=if 0<=a then (2*a).toNat else (-2*a-1).toNat
def Aml(b:List B0):List Nat:=b.flatMap λa=>vb a.tag.toNat++vb a.tgt.toNat
def wb(b:Bx):List Nat:=b.op.toNat::(if b.op=0 then vb (fA b.a) else if b.op=17 then vb (L b.alts)++Aml b.alts else if BC b.op.toNat 0=2 then vb b.a.toNat else [])
def ib(a:Dd):List Nat:=nb a.name++vb a.arity.toNat
def gb(a:Bt):List Nat:=nb a.name++vb a.arity.toNat++[if a.exp then 1 else 0]++vb (L a.code)++a.code.flatMap wb
def hdB(a:BA):List Nat:=[84,65,82,78]++nb a.name++vb (L a.Bu)
def hb(a:BA):List Nat:=hdB a++a.Bu.flatMap ib++vb (L a.Bs)++a.Bs.flatMap gb
end Go.Proofs.YtcacpmkdfnmhaaaGreatDoor
