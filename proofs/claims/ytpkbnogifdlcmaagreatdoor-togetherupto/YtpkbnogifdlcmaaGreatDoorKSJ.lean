import Derived.Test.YtpkbnogifdlcmaaGreatDoorVkJ
import Derived.Deep.Slices
import Derived.Maps.OwnSet
import Derived.Maps.Views
import Derived.Deep.CutBlock
import Derived.Laws.IdiomStrings
set_option linter.unusedSimpArgs false
set_option maxRecDepth 100000
set_option maxHeartbeats 8000000
open And renaming intro->Aw6
open Go renaming Calls->Az,TypeId->A0,Value->X,World->Q,getD_set_ne->A3,undef->Aw7
open Go.ByteArray renaming toList_eq->Axe
open Go.Ending renaming returned->F
open Go.IntKind renaming i64->C
open Go.Obj renaming cells->AW
open Go.Proofs.Tryz renaming prog->Aa,underlying9->Awz
open Go.Region renaming ready->Ba
open Go.RowKit renaming wrap64->Bf
open Go.Value renaming agg->T,bool->A,iface->Z,int->V,ownBlock->Awu,pointer->J,slice->W,string->S,tuple->R
open Go.World renaming news_of_block->A5
open List renaming length->L,range->AV
open Option renaming none->N,some->I
open Or renaming inl->Be
namespace Go.Proofs.YtpkbnogifdlcmaaGreatDoor
open Go.RowKit Go.Sort Go.Proofs.Tryz
variable{m w0 v1:Oy}{w s b j wf n1 ns v7 xi:Nat}{vg:Nat->Pr Ex}{n q Y n4 sn:World}{M:Nat->Addr}{p y e G wz:Value}{wk:Array Oper}{w9:Region.Mode}{t:List Nat}{vf:Array Bool}{w6:Program}{nh:Exit->Act->World->Prop}{sf:World->Prop}{ws:Act}{nl y4 y5 y6:Oper}{v6:Act->World->Prop}{n0:Oy×Nat}{w4:Bool}{h:Bs}{w7:List PT}{xn:Operand->Value}{wp:TypeId}{wo:Ex}{vo:PT}{f:List Oy}{w1:BD}{wa:Type}{H:List BD}{wj vy:List Value}{x9:Nat->Value}{wu:List (List Value)}{na:List Co}{wi:List Int}{wl:List BJ}{D nf:Int}{zh:List MemPlace}{s0 zx:Oy->Option (Nat×Int)}{i:List Bx}{U:Option Addr}{y7:DataW Unit}{v8 ya:Nat->Prop}{ve:Bx}{yb:List (Bx×Value)}{wv:BJ}{o va:List UInt8}{vk:UInt8}{wg ng yk:List As}{sh yn:As}{O:List (Oy×Int)}{vp:Nat->Int}{vs:List Dv}
theorem Aca:Ny.toList=[108,101,116]:=by rw[Axe];rfl
theorem YT:MJ.toList=[108,101,116,114,101,99]:=by rw[Axe];rfl
theorem X3:M0.toList=[99,111,110]:=by rw[Axe];rfl
theorem XN:Nq.toList=[99,97,115,101]:=by rw[Axe];rfl
theorem Ajv(b:G9 m=I w):m≠⟨#[]⟩:=λa=>by
 have:G9 ⟨#[]⟩=none:=rfl;grind
theorem Ao3(a:G9 (Bq m w)=I s):Dw m vg w=PC vg s (BC m w):=by unfold Dw;rw[a];rfl
theorem Alm{E:Nat->Pr Ex}(a:G9 (Bq m w)=N):Dw m E w=if Bq m w=Ny then EN m E false (BC m w)
 else if Bq m w=MJ then EN m E true (BC m w)
 else if Bq m w=M0 then Gy m E (BC m w)
 else if Bq m w=Nq then G3 m E (BC m w)
 else Hg m E w:=by unfold Dw;rw[a]
theorem Aj3(Y:m.size<=2000)(v:Ho n w s M m p b j)(ac:Qo n w s M m p b j):Mc 231 n w s M m p b j (Dw m (pE m b)) #[]:=by
 intro d c ab O B;have af:=Hn O B;have r:=O0 ab;have ah:=O0 O;have z:=Dr B;have aj:=Iz;have K:O9 (QE (Bq m c)=match G9 (Bq m c) with|some D=>R #[V C (9+(D:Int)),A true]|none=>R #[V C 0,A false]):=rfl;clear ab O;show Az _ _ #[J (I ⟨w,0,N⟩)] _ _;cases hk:G9 (Bq m c);case' some D=>
  have y:=O0 (Ajv hk);rw[hk]at K;have t:O9 (∀a,EF w d a->PS a w s m (BC m c) p j->Az Aa 261 #[J (I ⟨w,0,N⟩),V C (9+(D:Int))] a λf h=>Cw (Dw m (pE m b) c) w d M (XV (b+2) m w s p j d) f h):=λa e i=>by
   rw[Ao3 hk];exact(Aom D v a _ (r.o.ef e) i z).mono λ_ _ g=>g.cC e
 case' none=>
  have x:=Alm (E:=pE m b) hk;rw[hk]at K;by_cases k:Bq m c=Ny;case' pos=>
   have y:O9 (Bq m c≠⟨#[]⟩):=by show _≠_;rw[k];decide
   have ai:=IU Aca k;have aa:((Bq m c).toList==[108,101,116,114,101,99])=false:=O6;have t:O9 (∀a,EF w d a->PS a w s m (BC m c) p j->Az Aa 262 #[J (I ⟨w,0,N⟩),A false] a λf h=>Cw (Dw m (pE m b) c) w d M (XV (b+2) m w s p j d) f h):=λa e i=>by
    rw[x,if_pos k];exact(WD false v ac a _ (r.o.ef e) i z).mono λ_ _ g=>g.cC e
  case' neg=>
   have ai:=IA Aca k;by_cases l:Bq m c=MJ;case' pos=>
    have y:O9 (Bq m c≠⟨#[]⟩):=by show _≠_;rw[l];decide
    have aa:=IU YT l;have t:O9 (∀a,EF w d a->PS a w s m (BC m c) p j->Az Aa 262 #[J (I ⟨w,0,N⟩),A true] a λf h=>Cw (Dw m (pE m b) c) w d M (XV (b+2) m w s p j d) f h):=λa e i=>by
     rw[x,if_neg k,if_pos l];exact(WD true v ac a _ (r.o.ef e) i z).mono λ_ _ g=>g.cC e
   case' neg=>
    have aa:=IA YT l;by_cases q:Bq m c=M0;case' pos=>
     have y:O9 (Bq m c≠⟨#[]⟩):=by show _≠_;rw[q];decide
     have b3:=IU X3 q;have t:O9 (∀a,EF w d a->PS a w s m (BC m c) p j->Az Aa 263 #[J (I ⟨w,0,N⟩)] a λf h=>Cw (Dw m (pE m b) c) w d M (XV (b+2) m w s p j d) f h):=λa e i=>by
      rw[x,if_neg k,if_neg l,if_pos q];exact(Avm Y v a _ (r.o.ef e) i z).mono λ_ _ g=>g.cC e
    case' neg=>
     have b3:=IA X3 q;by_cases u:Bq m c=Nq;case' pos=>
      have y:O9 (Bq m c≠⟨#[]⟩):=by show _≠_;rw[u];decide
      have b4:=IU XN u;have t:O9 (∀a,EF w d a->PS a w s m (BC m c) p j->Az Aa 264 #[J (I ⟨w,0,N⟩)] a λf h=>Cw (Dw m (pE m b) c) w d M (XV (b+2) m w s p j d) f h):=λa e i=>by
       rw[x,if_neg k,if_neg l,if_neg q,if_pos u];exact(Ae6 Y v a _ (r.o.ef e) i z).mono λ_ _ g=>g.cC e
     case' neg=>
      have b4:=IA XN u;have t:O9 (∀a,EF w d a->PS a w s m c p j->Az Aa 265 #[J (I ⟨w,0,N⟩)] a λf h=>Cw (Dw m (pE m b) c) w d M (XV (b+2) m w s p j d) f h):=λa e i=>by
       rw[x,if_neg k,if_neg l,if_neg q,if_neg u];exact(As5 Y v a _ (r.o.ef e) i B).mono λ_ _ g=>g.cC e
 all_goals
  clear hk;try clear x
  try clear k
  try clear l
  try clear q
  try clear u
  go_enter func231,ntmps231;go_wp2_with (first
   |(go_at_call 46;refine af.mono ?_;rintro f a ⟨rfl,U⟩;have G:O9 (EF w d a):=EF.bW U;have H:=O0 (ah.o.below U);clear U)
   |(go_at_call 260;refine(Akh _ _).mono ?_;rintro f h ⟨rfl,rfl⟩;rw[K.o])
   |(go_at_call 47;refine(JF H.o B).mono ?_;rintro f am ⟨rfl,ad,ae⟩;replace G:=O0 (G.o.trans ad);replace H:=O0 (ae y.o);clear ad ae)
   |((first|go_at_call 261|go_at_call 262|go_at_call 263|go_at_call 264|go_at_call 265);refine(t.o _ G.o H.o).mono ?_;intro f an g;have ag:=O0 g;obtain⟨ak,al,rfl⟩:=g.two;clear g))
  go_ret2
  exact ag.o
theorem Wx{e:Q}{f g:Nat}{h:Nat->Addr}{d:Oy}{i:X}(c:d.size<=2000)(j:∀b a,Ho e f g h d i b a->Qo e f g h d i b a):∀b a,a+b=30->Ho e f g h d i b a
 |0,a,hn=>by
  obtain rfl:a=30:=O1;exact Yp c Amv
 |b+1,a,hn=>by
  have k:=Wx c j b (a+1) O1;exact Yp c (Afe O1 (Aj3 c k (j b (a+1) k)))
def UT(e:Region.Mode)(f:Array Oper)(d:List Nat)(c:Nat):Bool:=(AV c).all λa=>d.contains a||(AV (c+1)).any λb=>decide (a<b) && Region.waitsFor e f b a
theorem Ai9(x:UT w9 wk t w=true)(r:Region.chainB w9 wk w=true)(M:w<wk.size)(k:HeadInv w9 wk w vf)(H:∀c∈t,vf.getD c true=true):
 ∀f c,w<=c+f->c<w->vf.getD c true=false->∀a,w<=a->a∉Ba w9 wk vf:=by
 have K:∀a,w<a->a∉Ba w9 wk vf:=by
  intro a y d;obtain⟨-,p,j,m⟩:=mem_ready.1 d;have z:=(A9.1 j).1;have b:=Axk.1 r a (Ayo.2 z);simp[Bab,decide_eq_true_eq]at b;rcases b with b|b
  ·omega
  ·let ⟨B,u,g,i,hb,o⟩:=Region.waitsFor_spec b
   obtain rfl:B=p:=Axi (u.symm.trans j);have h:=m g i hb;rw[o,getD_both (k.tail (a-1) O1 O1)]at h;cases h
 intro f;induction f with
 |zero=>omega
 |succ f ih=>
  intro c G s O a y d;rcases Aw8 w a with q|q
  ·grind
  obtain rfl:a=w:=O1;obtain⟨-,p,j,m⟩:=mem_ready.1 d;have b:=Axk.1 x c (Ayo.2 s);rw[Bab]at b;rcases b with b|b
  ·grind
  let ⟨e,E,n⟩:=List.any_eq_true.1 b
  simp[decide_eq_true_eq]at n;let ⟨D,v,g,i,hb,o⟩:=Region.waitsFor_spec n.2
  rcases Aw8 e a with l|l
  ·cases hx:vf.getD e false with
   |true=>
    have h:=k.closed e D v hx g i hb;grind
   |false=>exact ih e O1 l (getD_in (by rw[k.size];omega) hx) a .refl d
  grind
theorem Ark(E:w+(s+1)=wk.size)(m:Ke w9 wk=true)(M:UT w9 wk t w=true)(p:Region.chainB w9 wk w=true):∀e a d f,HeadInv w9 wk w a->(∀b∈t,a.getD b true=true)->
 wpAnyH w6 w9 wk (K5 w6 wk nh w (s+1)) sf e (EP a w (s+1)) d f->wpAny w6 w9 wk nh (e+(s+1)) a d f:=by
 have v:∀e a d f,HeadInv w9 wk w a->(∀b,b<w->a.getD b true=true)->K5 w6 wk nh w (s+1) .normal d f->wpAny w6 w9 wk nh (e+(s+1)) a d f:=
  λe a d f c g y=>Z5 m (s+1) w a d f E p c.size g c.tail y _ O1
 have H:∀a,HeadInv w9 wk w a->(∀b,b<w->a.getD b true=true)->Ba w9 wk (EP a w (s+1))=[]:=by
  intro a c g;cases hr:Ba w9 wk (EP a w (s+1)) with
  |nil=>rfl
  |cons h t=>
   have o:h∈Ba w9 wk (EP a w (s+1)):=by rw[hr];simp
   obtain⟨k,ac,K,-⟩:=mem_ready.1 o;have ab:=(A9.1 K).1;by_cases r:h<w
   ·rw[NH _ _ _ _ _ r,g h r]at k;cases k
   ·rw[Tb _ _ _ _ _ O1 O1 (by rw[c.size];omega)]at k;cases k
 have O:∀a,HeadInv w9 wk w a->Ba w9 wk a≠[]:=λa c=>M8 m c.size w O1 (c.tail w .refl O1);intro e;induction e with
 |zero=>
  intro a d f c _ i;refine v 0 a d f c (λb j=>?_) i.2;cases hx:a.getD b true with
  |true=>rfl
  |false=>exact absurd i.1 (M8 m (by rw[RM];exact c.size) b O1 (by rwa[NH _ _ _ _ _ j]))
 |succ e ih=>
  intro a d f c u i;by_cases g:∀b,b<w->a.getD b true=true
  ·exact v (e+1) a d f c g (i.1 (H a c g))
  ·have G:∃b,b<w/\a.getD b true=false:=by
    grind
   let ⟨Y,D,U⟩:=G
   rw[show e+1+(s+1)=(e+(s+1))+1 by omega];refine⟨λB=>absurd B (O a c),λb j=>?_⟩;have n:b<w:=by
    rcases Aw8 b w with l|l
    ·exact l
    ·refine absurd j (Ai9 M p ?_ c u w Y ?_ D U b l)<;>omega
   refine ZL (wpOp_mono (λx aa z=>?_) (i.2 b (Acm n j)));refine ih _ x aa (c.set j n) (λh o=>?_) ?_
   ·by_cases q:b=h
    ·subst q;rw[Aw9,Aya (by rw[c.size];omega)];rfl
    ·rw[A3 true q];exact u h o
   ·rw[<-U5 _ _ _ _ n];exact z.2
theorem Aoj{Q:Exit->Act->World->Prop}{S:World->Prop}{t:Nat}{w:World}(a c b d:Nat){e:Oper}{v:X}(o:w6.follows .mixedOrders=true)(p:a+(c+1)=wk.size)(n:b<a)(k:Ke .any wk=true)(r:UT .any wk [b] a=true)(j:Region.chainB .any wk a=true)(m:wk[b]?=I e)(B:e.dst=I d)(q:Region.noSelect wk=true)(l:Region.free .any wk (Array.replicate wk.size false) b=true)(g:(Ba .any wk (Array.replicate wk.size false)).contains b=true)(z:∀f ws w,Q (.panic f) (ws.put (I d) v) w->Q (.panic f) ws w)(s:Yields w6 wk e v ws)(i:S w.drew)(h:S w.drew->wpAnyH w6 .any wk (K5 w6 wk Q a (c+1)) S (a-1) (EP ((Array.replicate wk.size false).setIfInBounds b true) a (c+1)) (ws.put (I d) v) w.drew):(Code.region t wk true).wp w6 Q ws w:=by
 apply wp_region_any o;have x:=Ark p k r j (a-1) ((Array.replicate wk.size false).setIfInBounds b true) (ws.put (I d) v) w.drew ((VH a).set (by simpa using g) n) (λE D=>by
  simp_all) (h i)
 have u:wk.size=(a-1+(c+1))+1:=O1;have y:=wpAny_take (Q:=Q) (fuel:=a-1+(c+1)) (w:=w.drew) m q l g O6 s O6;simp_all
theorem LI(c:wk[w]?=I nl)(b:nl.guard=N)(a:nl.dst=I s)(d:(execOp ws.eval nl).run w6 n=.ok (.value p) q)(e:v6 (ws.put (I s) p) q):wpOp w6 wk nh w v6 ws n:=by
 unfold wpOp;simp[c];rw[if_pos (by simp[Region.wanted,b])];refine .inl ?_;unfold Oper.wp;rw[d];show v6 (ws.put nl.dst p) q;rwa[a]
def GQ(a:Nat):X:=W (I ⟨a,0,N⟩) 1 1
theorem Agp{i1 j1 i2 j2 x1 y1 x2 y2:Nat}(ah:wk[i1]?=I nl)(an:wk[j1]?=I y4)(D:wk[i2]?=I y5)(a9:wk[j2]?=I y6)(af:nl.guard=N)(ag:y4.guard=N)(B:y5.guard=N)(ay:y6.guard=N)(ad:nl.dst=I x1)(ae:y4.dst=I y1)(z:y5.dst=I x2)(au:y6.dst=I y2){j:Array Bool}(aC:Ba w9 wk j=[i1,i2])(aD:Ba w9 wk (j.setIfInBounds i1 true)=[j1,i2])(aI:Ba w9 wk (j.setIfInBounds i2 true)=[i1])(aE:Ba w9 wk ((j.setIfInBounds i1 true).setIfInBounds j1 true)=[i2])(aG:Ba w9 wk ((j.setIfInBounds i1 true).setIfInBounds i2 true)=[j1])(aJ:Ba w9 wk ((j.setIfInBounds i2 true).setIfInBounds i1 true)=[j1])(aF:Ba w9 wk (((j.setIfInBounds i1 true).setIfInBounds j1 true).setIfInBounds i2 true)=[j2])(aH:Ba w9 wk (((j.setIfInBounds i1 true).setIfInBounds i2 true).setIfInBounds j1 true)=[j2])(aK:Ba w9 wk (((j.setIfInBounds i2 true).setIfInBounds i1 true).setIfInBounds j1 true)=[j2])(av:Ba w9 wk ((((j.setIfInBounds i1 true).setIfInBounds j1 true).setIfInBounds i2 true).setIfInBounds j2 true)=[])(aw:Ba w9 wk ((((j.setIfInBounds i1 true).setIfInBounds i2 true).setIfInBounds j1 true).setIfInBounds j2 true)=[])(ax:Ba w9 wk ((((j.setIfInBounds i2 true).setIfInBounds i1 true).setIfInBounds j1 true).setIfInBounds j2 true)=[]){c:Act}{w0:Q}(aa:x1<c.tmps.size)(a7:y1<c.tmps.size)(ab:x2<c.tmps.size)(a8:y2<c.tmps.size)(am:[x1,y1,x2,y2].Nodup){c1 c2:Obj}{M:X->Q->Prop}{F:X->X->Q->Prop}(aj:∀b a,DV [x1,y1,x2,y2] c b->(execOp b.eval nl).run w6 a=.ok (.value (GQ a.heap.size)) (a.alloc c1))(E:∀b a,DV [x1,y1,x2,y2] c b->(execOp b.eval y5).run w6 a=.ok (.value (GQ a.heap.size)) (a.alloc c2))(ai:∀b a h,DV [x1,y1,x2,y2] c b->b.eval (.tmp x1)=GQ h->Ow w0 a->a.heap[h]?=I c1->∃f g,(execOp b.eval y4).run w6 a=.ok (.value f) g/\M f g/\a.heap.size<=g.heap.size/\∀x,w0.heap.size<=x->x<a.heap.size->g.heap[x]?=a.heap[x]?)(az:∀b o a i h,DV [x1,y1,x2,y2] c b->M i o->Ow o a->b.eval (.tmp x2)=GQ h->a.heap[h]?=I c2->∃f g,(execOp b.eval y6).run w6 a=.ok (.value f) g/\F i f g)(w:∀a,Ow w0 a->sf a)(G:∀i o a,M i o->Ow o a->sf a)(a0:∀i y a,F i y a->sf a)(a2:∀b a i y,DV [x1,y1,x2,y2] c b->b.eval (.tmp y1)=i->b.eval (.tmp y2)=y->F i y a->nh .normal b a)(fuel:Nat):wpAnyH w6 w9 wk nh sf (fuel+4) j c w0:=by
 have k:∀{a:Q} ar,Ow w0 a->Ow w0 (a.alloc ar):=λar v=>v.alloc v.size _;simp only[Axj,AX,Axw,or_false,not_or]at am;obtain⟨⟨aO,ap,aP⟩,⟨aq,aB⟩,aQ,-,-⟩:=am;have m:∀{b:Act} {d:Nat} f,d∈[x1,y1,x2,y2]->DV [x1,y1,x2,y2] c b->DV [x1,y1,x2,y2] c (b.put (I d) f):=λf a1 v=>v.put a1 f;have ao:∀r n b o a i h,Ba w9 wk n=[j2]->Ba w9 wk (n.setIfInBounds j2 true)=[]->DV [x1,y1,x2,y2] c b->b.eval (.tmp y1)=i->M i o->Ow o a->b.eval (.tmp x2)=GQ h->a.heap[h]?=I c2->wpAnyH w6 w9 wk nh sf (r+1) n b a:=by
  intro r n b o a i h U K e aM p hb Y H;refine wpAnyH_all U O2 λs l=>?_;obtain rfl:s=j2:=by simpa using l
  let ⟨f,g,u,ak⟩:=az b o a i h e p hb Y H
  refine LI a9 ay au u ⟨a0 _ _ _ ak,wpAnyH_done K ?_ r⟩;refine a2 _ _ i f (m _ O2 e) ?_ ?_ ak
  ·rwa[F0 (Aym aB)]
  ·exact IE (e.size▸a8) f
 have ac:∀r n b a h q,Ba w9 wk n=[j1]->Ba w9 wk (n.setIfInBounds j1 true)=[j2]->Ba w9 wk ((n.setIfInBounds j1 true).setIfInBounds j2 true)=[]->DV [x1,y1,x2,y2] c b->Ow w0 a->b.eval (.tmp x1)=GQ h->a.heap[h]?=I c1->b.eval (.tmp x2)=GQ q->a.heap[q]?=I c2->w0.heap.size<=q->q<a.heap.size->wpAnyH w6 w9 wk nh sf (r+2) n b a:=by
  intro r n b a h q U a5 K e hb Y H aN aL a3 a4;refine wpAnyH_all U O2 λs l=>?_;obtain rfl:s=j1:=by simpa using l
  let ⟨f,g,u,p,a6,al⟩:=ai b a h e Y hb H
  refine LI an ag ae u ⟨G _ _ _ p (Ae _ _),?_⟩;refine ao r _ _ g g f q a5 K (m _ O2 e) (IE (e.size▸a7) f) p (Ae _ _) ?_ ?_
  ·rwa[F0 aq]
  ·rwa[al q a3 a4]
 refine wpAnyH_all aC O2 λs l=>?_;have O:s=i1\/s=i2:=by simpa using l
 rcases O with rfl|rfl
 ·refine LI ah af ad (aj _ _ (DV.refl _ _)) ⟨w _ (k _ (Ae _ _)),?_⟩;refine wpAnyH_all aD O2 λt l=>?_;have O:t=j1\/t=i2:=by simpa using l
  rcases O with rfl|rfl
  ·let ⟨f,g,u,p,a6,al⟩:=ai (c.put (I x1) (GQ w0.heap.size)) (w0.alloc c1) w0.heap.size (m _ O2 (DV.refl _ _)) (IE aa _) (k _ (Ae _ _)) (AM w0 c1)
   refine LI an ag ae u ⟨G _ _ _ p (Ae _ _),?_⟩;refine wpAnyH_all aE O2 λt l=>?_;obtain rfl:t=i2:=by simpa using l
   have e:=m f (d:=y1) O2 (m (GQ w0.heap.size) (d:=x1) O2 (DV.refl [x1,y1,x2,y2] c));refine LI D B z (E _ _ e) ⟨G _ _ _ p bA,?_⟩;refine ao fuel _ _ g (g.alloc c2) f g.heap.size aF av (m _ O2 e) ?_ p bA (IE (e.size▸ab) _) (AM g c2);rw[F0 (Aym aq)];exact IE (by show y1<(c.tmps.setIfInBounds _ _).size;rwa[Azv]) f
  ·have e:=m (GQ w0.heap.size) (d:=x1) O2 (DV.refl [x1,y1,x2,y2] c);refine LI D B z (E _ _ e) ⟨w _ (k _ (k _ (Ae _ _))),?_⟩;refine ac (fuel) _ _ ((w0.alloc c1).alloc c2) w0.heap.size (w0.alloc c1).heap.size aG aH aw (m _ O2 e) (k _ (k _ (Ae _ _))) ?_ ?_ (IE (e.size▸ab) _) (AM _ c2) O2 O2
   ·rw[F0 (Aym ap)];exact IE aa _
   ·rw[Axo _ _ O2];exact AM w0 c1
 ·refine LI D B z (E _ _ (DV.refl _ _)) ⟨w _ (k _ (Ae _ _)),?_⟩;refine wpAnyH_all aI O2 λt l=>?_;obtain rfl:t=i1:=by simpa using l
  have e:=m (GQ w0.heap.size) (d:=x2) O2 (DV.refl [x1,y1,x2,y2] c);refine LI ah af ad (aj _ _ e) ⟨w _ (k _ (k _ (Ae _ _))),?_⟩;refine ac (fuel) _ _ ((w0.alloc c2).alloc c1) (w0.alloc c2).heap.size w0.heap.size aJ aK ax (m _ O2 e) (k _ (k _ (Ae _ _))) (IE (e.size▸aa) _) (AM _ c1) ?_ ?_ .refl O5
  ·rw[F0 ap];exact IE ab _
  ·rw[Axo _ _ O2];exact AM w0 c2
theorem Afs(a:wpOp w6 wk nh w (wpOp w6 wk nh (w+1) (wpOp w6 wk nh (w+2) (wpOp w6 wk nh (w+3) (wpOp w6 wk nh (w+4) (wpOp w6 wk nh (w+5) (nh .normal)))))) ws n):K5 w6 wk nh w (5+1) .normal ws n:=by
 show wpOps w6 wk nh [w,w+1,w+1+1,w+1+1+1,w+1+1+1+1,w+1+1+1+1+1] ws n;refine wpOp_mono (λws n a=>?_) a;refine wpOp_mono (λws n a=>?_) a;refine wpOp_mono (λws n a=>?_) a;refine wpOp_mono (λws n a=>?_) a;refine wpOp_mono (λws n a=>?_) a;exact wpOp_mono (λws n a=>a) a
def Rz(e f:Nat)(j:Q)(d:Nat)(g:X)(c:Bs)(k:Oy×Nat)(h:X)(i:Q):Prop:=∃b a,h=W (I ⟨b,0,N⟩) (L c+1) a/\NN e f j i d g c k b a
def Ki(a:Nat)(c:Oy×Nat)(b:Q):Prop:=b.cell? ⟨a,0,N⟩=I (S c.1)/\b.cell? ⟨a,1,N⟩=I (V C (c.2:Int))
theorem Ki.bX{w':Q}(b:Ki w n0 n)(a:w'.heap[w]?=n.heap[w]?):Ki w n0 w':=
 ⟨by rw[Ak a];exact b.1,by rw[Ak a];exact b.2⟩
def QB(b c:Nat)(e d:X)(f:Oy×Nat)(a:Q):Prop:=a.cell? ⟨b,1,N⟩=I e/\a.cell? ⟨b,2,N⟩=I d/\Ki c f a
def QW(h i:Nat)(q:Oy)(l:X)(m j:Nat)(s:Q)(a:Nat)(c:Bool)(n:Bs)(t:List PT)(p g:Nat)(o k:X)(f:Oy×Nat)(r:PT)(d e:X)(b:Q):Prop:=
 Dk h i q l m j s ((b.setCell ⟨a,1,N⟩ d).setCell ⟨a,2,N⟩ e) a c (n++[f]) (t++[r]) p d e/\V4 b a (A c) o k .nilIface/\Ki g f b
theorem Dk.s1(a:Dk w s m p b j n q wf w4 h w7 n1 y e)(g:w<n.heap.size)(f:EF w q Y)(c:Ki ns n0 Y)(hb:Ow Y n4):QB wf ns y e n0 n4:=by
 have d:=(a.v.ef f (by have:=a.hL;omega)).bG hb;exact⟨d.c1,d.c2,c.bX (hb.block ns (AL c.1))⟩
theorem Dk.s2{i:Q}(c:Dk w s m p b j i q wf w4 h w7 n1 y e)(o:w<i.heap.size)(l:EF w q Y)(d:Ki ns n0 Y)(u:q.heap.size<=ns)(a:Rz w s Y wf y h n0 G n4)(hb:Ow n4 sn):QB wf ns y e n0 sn:=by
 obtain⟨t,r,rfl,a⟩:=a;have g:=(c.v4 o l a).bG hb;refine⟨g.c1,g.c2,d.bX ?_⟩;have f:=AL d.1;rw[hb.block ns (Am f a.size)];exact a.block ns f λk=>by have:=(c.n.rg ns (Ad _ (Ca.2 k))).2;omega
theorem Dk.a1{o:Q}{i1 i2:Operand}(a:Dk w s m p b j o q wf w4 h w7 n1 y e)(ag:m.size<=2000)(B:w<o.heap.size)(f:EF w q Y)(U:nl.op=.call {callee:=.builtin .append,args:=#[i1,i2],argTypes:=#[78,78]})(u:xn i1=y)(v:xn i2=GQ ns)(hb:Ow Y n4)(E:n4.heap[ns]?=I (.cells #[S n0.1,V C (n0.2:Int)] 131)):
 ∃l d,(execOp xn nl).run Aa n4=.ok (.value l) d/\Rz w s Y wf y h n0 l d/\n4.heap.size<=d.heap.size/\∀c,Y.heap.size<=c->c<n4.heap.size->d.heap[c]?=n4.heap[c]?:=by
 let ⟨ac,O,i⟩:=AB.1 L4
 simp at i;let ⟨H,K,M⟩:=i
 have af:(L h)<=2000:=by have:=a.len;have:=a.hq;rw[a.same];omega
 obtain⟨x,r,d,ab,aa,g,D,G⟩:=run_append_lies n4 78 nl.type 0 131 ac _ 2 24 underlying78 O H K M rfl O1 y (L h) (h.flatMap wC) (((a.n.ef EK f (by have:=a.hL;omega)).bG EK hb).own) ⟨ns,0,N⟩ 1 1 [S n0.1,V C n0.2] rfl (by
  have:=A5 E;grind) (by intro ah k;simp at k;rcases k with rfl|rfl<;>rfl) .refl O8 O1 (Ai _) _ rfl
 refine⟨_,d,YD _ _ _ U u v ab,⟨x,r,rfl,a.first B f hb g D G aa⟩,g.size,λc ad z=>g.block c z λt=>?_⟩;have ae:=(a.n.rg c (Ad _ (Ca.2 t.symm))).2;have:=f.size;omega
theorem Dk.a2{i1 i2:Operand}(a:Dk w s m p b j n q wf w4 h w7 n1 y e)(an:m.size<=2000)(f:w<n.heap.size)(D:s<n.heap.size)(d:EF w q Y)(x:Ki xi n0 Y)(z:q.heap.size<=xi)(B:PS Y w s m v7 p b)(aa:n1+1<=v7/\v7<=m.size)(ac:PX (j+1) Y (Z wp G,wo,t))(M:DG q.heap.size Y t)(O:nl.op=.call {callee:=.builtin .append,args:=#[i1,i2],argTypes:=#[288,288]})(u:xn i1=e)(v:xn i2=GQ ns)(c:Rz w s Y wf y h n0 wz n4)(hb:Ow n4 sn)(H:sn.heap[ns]?=I (.cells #[Z wp G] 142)):
 ∃o w5,(execOp xn nl).run Aa sn=.ok (.value o) w5/\QW w s m p b j n wf w4 h w7 v7 xi y e n0 (Z wp G,wo,t) wz o w5:=by
 let ⟨ah,ag,l⟩:=AB.1 OA
 simp at l;let ⟨ad,ae,af⟩:=l
 have i:=a.s2 f d x z c hb;obtain⟨al,ai,rfl,c⟩:=c;have am:(L w7)<=2000:=by have:=a.len;omega
 obtain⟨ak,aj,w5,ab,U,g,E,K⟩:=run_append_lies sn 288 nl.type 0 142 ah _ 1 16 underlying288 ag ad ae af rfl .refl e (L w7) (w7.flatMap Is) (((a.eH f d c).bG (Dp _) hb).own) ⟨ns,0,N⟩ 1 1 [Z wp G] rfl (by
  have:=A5 H;grind) (by intro ao k;simp at k;subst k;rfl) .refl O8 O1 (Ai _) _ rfl
 refine⟨_,w5,YD _ _ _ O u v ab,a.d9 f D d c hb B aa ac M g E K U,a.v5 f d c hb g,?_⟩;refine i.2.2.bX (g.block xi (AL i.2.2.1) λr=>?_);have:=(a.e.rg xi (Ad _ (Ca.2 r.symm))).2;omega
theorem QW.s3(a:QW w s m p b j n wf w4 h w7 n1 ns y e n0 vo G wz q):QB wf ns y e n0 q:=⟨a.2.1.c1,a.2.1.c2,a.2.2⟩
theorem Afm:Ey m (Dg m f) 1:=by
 intro d b j i c;let ⟨g,e,a,h⟩:=Bp c
 have:=HY d b g e a;grind
theorem Avr(h:s<=m.size)(d:BS m B8 s=.ok ((),b))(e:Dg m f b=.ok (n0,j))(g:pE m w j=.ok (wo,wf)):s+1<=wf/\wf<=m.size:=by
 have a:=Cl O4 s h () b d;have c:=Afm b a.2 n0 j e;have i:=I9 m w j c.2 wo wf g;omega
theorem Ut(a:Below w n q):Below w n q.drew:=⟨a.os,a.tape,a.output,a.size,a.block⟩
theorem Dk.next{i wr:Q}{d:X}(a:Dk w s m p b j i wr wf w4 h w7 n1 y d)(f:w<wf+1)(c:EF w wr Y)(k:PS Y w s m ns p b)(g:n1<=ns/\ns<=m.size)(l:wf≠w:=by omega):Dk w s m p b j i Y wf w4 h w7 ns y d:=
 ⟨g.2,k,a.v.ef c l,a.n.ef EK c f,a.e.ef (Dp _) c f,a.nd,a.ef.trans c,a.hL,Ay a.len g.1,a.same⟩
theorem Amy{az:Q}{g:Nat}{aa:Nat->Addr}{z:Nat}(ak:m.size<=2000)(aR:Ho az g s aa m p z j){w0 w:Q}{f:Nat}{au:Bool}{e:Bs}{E:List PT}{aq:Nat}{bo aQ:X}(ad:PB az w0 g aa)(r:g<w0.heap.size)(bc:s<w0.heap.size)(a:Dk g s m p j z w0 w f au e E aq bo aQ):
 Az Aa 281 #[J (I ⟨g,0,N⟩),J (I ⟨f,0,N⟩)] w λG D=>MY g s m p j z aa w0 f au e E (IF m (pE m z) e aq) G D:=by
 have aF:=a.hq;have b8:=a.len;have be:(L e)<=2000:=by rw[a.same];omega
 have ah:g<f:=Am r a.hL;have a8:f≠g:=Aws ah;have Y:=O0 ad;have a0:=KY B8 (ad.ef a.ef) a.ps aF O4;obtain⟨ap,ao,rfl⟩:=a.n.slice;obtain⟨a7,a6,rfl⟩:=a.e.slice;obtain⟨bX,bD,aE⟩:=AB.1 L4;simp only[Aw0]at aE;obtain⟨b9,bB,bC⟩:=aE;obtain⟨ca,bJ,aH⟩:=AB.1 OA;simp only[Aw0]at aH;obtain⟨bG,bH,bI⟩:=aH;clear ad;go_enter func281,ntmps281;go_upto_region 10 with(first
  |(go_at_call 44;refine a0.mono ?_;intro G bY c;clear a0;rcases h1:BS m B8 aq with⟨ab,al⟩|⟨⟨⟩,bp⟩;(·obtain⟨rfl,q⟩:=c.bY h1;clear c;go_wp2;go_ret;exact⟨a.ef.trans q,by rw[IF,h1];rfl⟩);obtain⟨rfl,q,bf,aC⟩:=c.isOk h1;obtain⟨k0,bK,bM,bN,am⟩:=a.v.ef q a8;have bO:=am 1;have bP:=am 2;have l:=O0 (Tp e ak (Ay be O1) (Y.o.ef (a.ef.trans q)) aC bf (Dy.nm (a.n.ef EK q (Azr ah))));clear c aC am)
  |(go_at_call 45;refine l.o.mono ?_;intro G ay c;clear l;rcases h2:Dg m (e.map (·.1)) bp with⟨ab,al⟩|⟨x,aK⟩;(·obtain⟨rfl,H⟩:=c.bY h2;have k:=O0 (q.trans H);clear c H;go_wp2;go_ret;exact⟨(a.ef.trans k.o).trans (EF.bW bA),by rw[IF,h1,BQ,h2];rfl⟩);obtain⟨v,rfl,H,rfl,bh,aZ⟩:=c.isOk h2;have k:=O0 (q.trans H);clear c H)
  |(go_at_call 137;refine(aR _ aK (Y.o.ef ((a.ef.trans k.o).trans (EF.bW bA))) (aZ.below bA) bh).mono ?_;intro G U c;rcases h3:pE m z aK with⟨ab,al⟩|⟨y,ar⟩;(·obtain⟨v,rfl,K,-⟩:=c.bY h3;have aL:=(k.o.trans (EF.bW bA)).trans K;clear c K;go_wp2;go_ret;exact⟨a.ef.trans aL,by rw[IF,h1,BQ,h2,BQ,h3];rfl⟩);have bg:=Avr aF h1 h2 h3;obtain⟨v,rfl,K,bi,ba,a3,aG,bd⟩:=c.isOk h3;obtain⟨av,aw,rfl⟩:=aG.ch;have t:O9 (EF g w U):=(k.o.trans (EF.bW bA)).trans K;obtain⟨aI,aJ,bk,bl⟩:=V2.ef (w:=ay.alloc (.cells #[.string x.1,V C (x.2:Int)] 131)) (b:=ay.heap.size) (x:=Value.string x.1) (y:=Value.int C (x.2:Int)) ⟨O2,O2,O2,O2⟩ K (Aws (Am (Am r a.ef.size) k.o.size));obtain⟨bQ,bS,bT,bU,an⟩:=a.v.ef t.o a8;have bV:=an 1;have bW:=an 2;clear c an))
 have aM:O9 (DG w.heap.size U a3):=bd.low (Ay k.o.size O2);obtain⟨u,a9⟩:∃u,ay.heap.size=u:=⟨_,rfl⟩;have aB:w.heap.size<=u:=by rw[<-a9];exact k.o.size
 rw[a9]at aI aJ bk bl ⊢;have l:O9 (Ki u x U):=⟨aI,aJ⟩;refine Aoj (S:=QB f u (W ap (L e) ao) (W a7 (L E) a6) x) 16 5 1 36 (v:=J (I ⟨f,0,N⟩)) O3 (by rfl) O4 O3 O3 O3 rfl rfl O3 O3 O3 (λ_ _ _ a=>a) (Be ⟨by rfl,λw=>by go_simp<;>with_reducible rfl⟩) (a.s1 r t.o l.o (Ut (Ae _ _))) (λaf=>?_);iterate 11
  refine Ld (v:=?_) [0,2,3,4,5,6,9,10,11,12,13] rfl rfl rfl O3 O3 O3 (λ_ _ _ a=>a) (Be ⟨by rfl,?_⟩) O7 ?_;rotate_left
  ·intro w ⟨hs1,hs2,hs3,hs4⟩;(go_simp<;>with_reducible rfl)
  simp only[Act.put,Axh,Axp,Axn]
 refine Agp (i1:=7) (j1:=8) (i2:=14) (j2:=15) (x1:=42) (y1:=43) (x2:=49) (y2:=50) (w0:=U.drew) (fuel:=0) (c1:=AW #[.string x.1,V C (x.2:Int)] 131) (c2:=AW #[Z av aw] 142) (M:=Rz g s U f (W ap (L e) ao) e x) (F:=QW g s m p j z w0 f au e E ar u (W ap (L e) ao) (W a7 (L E) a6) x (Z av aw,y,a3)) rfl rfl rfl rfl rfl rfl rfl rfl rfl rfl rfl rfl O3 O3 O3 O3 O3 O3 O3 O3 O3 O3 O3 O3 O2 O2 O2 O2 O4 ?_ ?_ ?_ ?_ ?_ ?_ ?_ ?_
 ·intro h w d;have b6:h.tmps[41]?.getD Aw7=T #[.string x.1,V C (x.2:Int)]:=by rw[d.it 41 O4];rfl
  show Sem.run Aa (execOp h.eval ⟨I 42,.buildSlice 78 1 #[(0,.tmp 41)],78,_,_,N⟩) w=_;clear d af;go_simp;rfl
 ·intro h w d;have b7:h.tmps[48]?.getD Aw7=Z av aw:=by rw[d.it 48 O4];rfl
  show Sem.run Aa (execOp h.eval ⟨I 49,.buildSlice 288 1 #[(0,.tmp 48)],288,_,_,N⟩) w=_;clear d af;go_simp;rfl
 ·intro h D b d aj hb ai;exact a.a1 (i1:=.tmp 40) (i2:=.tmp 42) ak r t.o rfl (by rw[d.eval O4];rfl) aj ((Ut (Ae _ _)).trans hb) ai
 ·intro h bs D ax b d ag hb aj ai;exact a.a2 (i1:=.tmp 47) (i2:=.tmp 49) ak r bc t.o l.o aB ba bg aG aM.o rfl (by rw[d.eval O4];rfl) aj ag hb ai
 ·intro D hb;exact a.s1 r t.o l.o ((Ut (Ae _ _)).trans hb)
 ·intro ax bs D ag hb;exact a.s2 r t.o l.o aB ag hb
 ·intro ax br D O;exact O.s3
 ·intro h w5 ax br d a4 a5 O;have B:=UV d;simp only[Baa,List.foldl_nil]at B;rw[a4,a5]at B;generalize h.eval (.tmp 42)=z42 at B;generalize h.eval (.tmp 49)=z49 at B;simp only[Act.put,Axh,Axp,Axn]at B;clear d a4 a5;subst B;clear af;obtain⟨c0,c1,c2,b1,ac⟩:=id O.2.1;have b2:=ac 1;have b5:=ac 2;have i:=O0 O.1;clear O ac;obtain⟨bn,bm,rfl⟩:=i.o.n.slice;obtain⟨aP,aO,rfl⟩:=i.o.e.slice;refine Afs ?_;refine wpOp_step (o:=⟨I 51,.nilCheck (.tmp 35),0,_,_,N⟩) rfl (λbt aS=>?_);go_simp;refine aS _ _ ?_;refine wpOp_step (o:=⟨I 52,.fieldAddr _ (.tmp 51) 1,0,_,_,N⟩) rfl (λbu aT=>?_);go_simp;refine aT _ _ ?_;refine wpOp_step (o:=⟨N,.store _ (.tmp 52) (.tmp 43),0,_,_,N⟩) rfl (λbw aV=>?_);go_simp;refine aV _ _ ?_;refine wpOp_step (o:=⟨I 53,.nilCheck (.tmp 36),0,_,_,N⟩) rfl (λbx aW=>?_);go_simp;refine aW _ _ ?_;refine wpOp_step (o:=⟨I 54,.fieldAddr _ (.tmp 53) 2,0,_,_,N⟩) rfl (λbz aX=>?_);go_simp;refine aX _ _ ?_;refine wpOp_step (o:=⟨N,.store _ (.tmp 54) (.tmp 50),0,_,_,N⟩) rfl (λb0 aY=>?_);go_simp;refine aY _ _ ?_;simp only[Aw,AO,Bc]at i;generalize (w5.setCell ⟨f,1,N⟩ (W bn (L e+1) bm)).setCell ⟨f,2,N⟩ (W aP (L E+1) aO)=w6 at i ⊢;have aN:=KY BO (Y.o.ef i.o.ef) i.o.ps i.o.hq O4;go_wp2_with (first
   |(go_at_call 44;refine aN.mono ?_;intro G bZ c;rcases h4:BS m BO ar with⟨ab,al⟩|⟨⟨⟩,bq⟩;(·obtain⟨rfl,ae⟩:=c.bY h4;clear c;go_wp2;go_ret;exact⟨i.o.ef.trans ae,by rw[IF,h1,BQ,h2,BQ,h3,BQ,h4];rfl⟩);have bj:=Cl O4 ar bi () bq h4;obtain⟨rfl,ae,bE,bb⟩:=c.isOk h4;clear c))
  go_ret;have aD:=i.o.next (Azr ah) ae bb ⟨O1,bj.2⟩;exact⟨aD.ef,by rw[IF,h1,BQ,h2,BQ,h3,BQ,h4];exact⟨rfl,_,_,_,_,aD⟩⟩
theorem Apo(g:m.size<=2000)(d:Ho n w s M m p b j):Qo n w s M m p b j:=
 λ_ _ _ _ _ _ _ _ _ c e f a=>Amy g d c e f a
theorem TE(b:m.size<=2000):∀a c,c+a=30->Ho n w s M m p a c:=Wx b λ_ _ d=>Apo b d
def Jo(e:Q)(j:Option Addr)(b:List BD):Prop:=
 ∀a (k:a<L b),∃c d i h g f,j=I ⟨c,d,N⟩/\e.cell? ⟨c,d+a*3,N⟩=I (.string b[a].Bo)/\e.cell? ⟨c,d+a*3+1,N⟩=I (.slice i b[a].BG.length h)/\e.cell? ⟨c,d+a*3+2,N⟩=I (.slice g b[a].Bv.length f)/\Fv e (T #[.string b[a].Bo,.slice i b[a].BG.length h,.slice g b[a].Bv.length f]) b[a]
def IW(e:Q)(d:X)(a:List BD):Prop:=∃b c,d=W b (L a) c/\short (L a)/\Jo e b a
theorem Jo.bG{w c:Q}{b:Option Addr}{a:List BD}(h:Jo w b a)(hb:Ow w c):Jo c b a:=λi n=>by
 let ⟨d,o,q,p,g,f,e,j,k,l,m⟩:=h i n
 exact⟨d,o,q,p,g,f,e,Bu hb j,Bu hb k,Bu hb l,m.bG hb⟩
theorem IW.bG{w d:Q}{c:X}{b:List BD}(a:IW w c b)(hb:Ow w d):IW d c b:=by
 let ⟨h,e,f,g,a⟩:=a
 exact⟨h,e,f,g,a.bG hb⟩
theorem Fv.Bv(a:Fv n (T #[S m,p,y]) w1):GX n p w1.BG/\JA n y w1.Bv:=by
 obtain⟨ia,c,b,-,d,e⟩:=a;grind
def B4{b:Type}(a:Nat->b->Bool):List b->Nat->Option Nat
 |[],_=>N
 |x::r,k=>if a k x then I k else B4 a r (k+1)
theorem NG(c:Nat->wa->Bool)(b:List wa){a:Nat}(d:a<L b):B4 c (b.drop a) a=if c a b[a] then I a else B4 c (b.drop (a+1)) (a+1):=by
 rw[A2 d,B4]
theorem Nf(d:Nat->wa->Bool)(b:List wa){a:Nat}(c:(L b)<=a):B4 d (b.drop a) a=none:=by
 rw[Ax0 c,B4]
theorem Td{f:Type}{e:Nat->f->Bool}:∀{d:List f} {b:Nat},B4 e d b=N->∀a c,e (b+a) d[a]=false
 |x::r,b,h,a,c=>by
  rw[B4]at h;split at h
  ·cases h
  ·rename_i g
   cases a with
   |zero=>simpa using g
   |succ j=>
    have:=Td h j (by simpa using c);grind
def GL(a:Oy):List Bx->Nat->Option (Nat×Int)
 |[],_=>N
 |g::r,n=>if g.exp && decide (g.Bo=a) then I (n,g.BH) else GL a r (n+1)
def FQ(b:Oy):List BD->Nat->Nat->Option (Nat×Nat×Int)
 |[],_,_=>N
 |O::r,k,n=>match GL b O.Bv n with
  |some (m,a)=>I (m,k,a)
  |none=>FQ b r (k+1) (n+L O.Bv)
def Gj(a:List BD)(b:Oy):Option (Nat×Nat×Int):=FQ b a 0 0
def Cg(b:List BD)(c:Nat):Nat:=((b.take c).map λa=>L a.Bv).sum
theorem Ra(a:w<L H):Cg H (w+1)=Cg H w+H[w].Bv.length:=by
 unfold Cg;rw[Av a,AC,Ayv];simp
def G8(b:List BD)(a:BD):Bool:=a.BG.any λc=>(Gj b c.Bo).isNone
def JG(d:List BD)(c:BD):Bool:=c.BG.any λb=>decide ((match Gj d b.Bo with|some (_,_,a)=>a|none=>0)≠b.BH)
def Ma(a:BD):Nat:=(a.Bv.map λb=>L b.Bj).sum
def sz(a:List BD):Nat:=(a.map Ma).sum
def G2(c:List BD)(a:BD)(d:Nat)(b:Int):Int:=
 if b<(L a.BG:Int) then (match (a.BG[b.toNat]?).bind λe=>Gj c e.Bo with|some (f,_,_)=>(f:Int)|none=>-1) else (d:Int)+b-(L a.BG:Int)
def Es(d:List BD)(c:BD)(e:Nat)(b:BJ):BJ:=if b.op=1 then {b with a:=G2 d c e b.a} else b
def J4(c:List BD)(b:BD)(d:Nat)(a:Bx):Bx:={a with Bj:=a.Bj.map (Es c b d)}
def JM(a:List BD):List BD->Nat->List Bx
 |[],_=>[]
 |O::r,n=>O.Bv.map (J4 a O n)++JM a r (n+L O.Bv)
def Cj(a:List BD):List Bx:=JM a a 0
def Dx(a:List BD)(b:Oy):Int:=match Gj a b with|some (c,_,_)=>(c:Int)|none=>-1
structure Md (a:List BD):Prop where
 n:(L a)<=8
 g:∀O∈a,L O.Bv*56<=140737488351232/\L O.BG*24<=140737488351232
theorem Md.base{b:List BD}(c:Md b):∀a,a<=L b->Cg b a<=a*140737488355328
 |0,_=>by simp[Cg]
 |a+1,hk=>by
  have:=c.base a O1;have:=(c.g b[a] (Ao _)).1;rw[Ra O1];omega
theorem T1(c:n.ownsRow w wp s p b wj)(hb:Ow n q):q.ownsRow w wp s p b wj:=G5 c λa d=>hb.block a (by
 rcases c.2 with⟨f,-⟩|⟨e,g,h,rfl,-,i,-⟩
 ·subst f;simp[vB,Awu]at d
 ·obtain rfl:a=e:=by simpa[vB,Awu]using d
  grind)
theorem PN(d:n.ownsRow w wp s p b wj)(a:p.ownBlock=I j):w<=j:=by
 rcases d.2 with⟨e,-⟩|⟨c,g,h,rfl,f,-⟩
 ·subst e;cases a
 ·obtain rfl:c=j:=by simpa[Awu]using a
  exact f
theorem Jk(a:n.ownsRow w wp s p b wj):n.ownsRow 0 wp s p b wj:=⟨a.1,by
 rcases a.2 with c|⟨g,d,e,f,-,h⟩
 ·exact .inl c
 grind⟩
theorem Eu(a:q.heap[w]?=n.heap[w]?)(b:n.cell? ⟨w,s,N⟩=I p):q.cell? ⟨w,s,N⟩=I p:=by rwa[Ak a]
structure Gr (a wr:Q) (b:A0) (d:Nat) (e:X) (c:Nat) (f:List X):Prop where
 low:Ow a wr
 row:wr.ownsRow a.heap.size b d e c f
theorem Gr.next{wr w2:Q}(a:Gr n wr wp w p s wj)(hb:Ow wr Y)(e:Y.grownBy w2 p.ownBlock){c:X}{b:Nat}{d:List X}(g:w2.ownsRow n.heap.size wp w c b d):Gr n w2 wp w c b d:=by
 have:=a.low.size;have:=hb.size;refine⟨(a.low.trans (hb.mono ?_)).grown e ?_ λk f=>PN a.row f,g⟩<;>omega
theorem ofn(c:s≠b):(⟨w,s,N⟩:Addr)≠⟨w,b,N⟩:=λa=>c (congrArg Addr.off a)
theorem LX(c:List BD)(b:BD)(d:Nat)(a:BJ):(Es c b d a).op=a.op/\(Es c b d a).alts=a.alts:=by unfold Es;grind
structure FB (b:Q) (a e:Nat) (d:Nat->X):Prop where
 c:∀j,j<e->b.cell? ⟨a,j,N⟩=I (d j)
 fz:∀j,b.frozen? ⟨a,j,N⟩=false
 lt:a<b.heap.size
theorem FB.bX{w':Q}(a:FB n w s x9)(d:w'.heap[w]?=n.heap[w]?)(f:n.heap.size<=w'.heap.size):FB w' w s x9:=
 ⟨λb e=>by rw[Ak d];exact a.c b e,λb=>by rw[AJ d];exact a.fz b,Am a.lt f⟩
theorem FB.bG{w:Q}{a:Nat}(b:FB w a s x9)(hb:Ow w n):FB n a s x9:=b.bX (hb.block a b.lt) hb.size
theorem FB.set{b:Nat}(c:FB n b w x9){a j:Nat}(d:b≠a)(u:X):FB (n.setCell ⟨a,j,N⟩ u) b w x9:=c.bX (AA _ _ _ _ d) O2
def DB(b:Nat)(d:List X)(c:List (List X))(a:Nat):X:=((c[a / b]?.getD d)[a % b]?).getD .nilIface
theorem T9(a:s / w≠L wu):DB w wj (wu++[vy]) s=DB w wj wu s:=by
 unfold DB;grind
theorem N2(a:s / w<L wu):DB w wj wu s=(wu[s / w][s % w]?).getD .nilIface:=by
 unfold DB;grind
theorem JR(a:s / w=L wu):DB w wj (wu++[vy]) s=(vy[s % w]?).getD .nilIface:=by
 rw[N2 O5];simp[a]
theorem G4{w:Q}{b a:Nat}{y:X}(c:a≠s):(w.setCell ⟨b,a,N⟩ y).cell? ⟨b,s,N⟩=w.cell? ⟨b,s,N⟩:=Ah _ _ _ _ (ofn c)
theorem FB.eP{k:Nat}(a:FB n w (s*2) (DB 2 wj wu))(i:(L wu)=k)(j:k<s)(f g:X):FB ((n.setCell ⟨w,k*2,N⟩ f).setCell ⟨w,k*2+1,N⟩ g) w (s*2) (DB 2 wj (wu++[[f,g]])):=by
 subst i;refine⟨λb h=>?_,λb=>by simp[Aq];exact a.fz b,by simpa using a.lt⟩;by_cases e:b=L wu*2+1
 ·subst e;rw[Au _ _ _ (show World.cell? _ _=I (DB 2 wj wu (L wu*2+1)) by rw[G4 O1];exact(a.c (L wu*2+1) O1)),JR O1,show(L wu*2+1) % 2=1 by omega];rfl
 ·rw[G4 (Aym e)];by_cases d:b=L wu*2
  ·subst d;rw[Au _ _ _ (a.c (L wu*2) O1),JR O1,show(L wu*2) % 2=0 by omega];rfl
  ·rw[G4 (Aym d),a.c b h,T9 O1]
theorem FB.cQ(a:FB n w (s*3) (DB 3 wj wu))(l:(L wu)=b)(m:b<s)(h i j:X):FB (((n.setCell ⟨w,b*3,N⟩ h).setCell ⟨w,b*3+1,N⟩ i).setCell ⟨w,b*3+2,N⟩ j) w (s*3) (DB 3 wj (wu++[[h,i,j]])):=by
 subst l;refine⟨λd k=>?_,λd=>by simp[Aq];exact a.fz d,by simpa using a.lt⟩;by_cases g:d=L wu*3+2
 ·subst g;rw[Au _ _ _ (show World.cell? _ _=I (DB 3 wj wu (L wu*3+2)) by rw[G4 O1,G4 O1];exact(a.c (L wu*3+2) O1)),JR O1,show(L wu*3+2) % 3=2 by omega];rfl
 ·rw[G4 (Aym g)];by_cases f:d=L wu*3+1
  ·subst f;rw[Au _ _ _ (show World.cell? _ _=I (DB 3 wj wu (L wu*3+1)) by rw[G4 O1];exact(a.c (L wu*3+1) O1)),JR O1,show(L wu*3+1) % 3=1 by omega];rfl
  ·rw[G4 (Aym f)];by_cases e:d=L wu*3
   ·subst e;rw[Au _ _ _ (a.c (L wu*3) O1),JR O1,show(L wu*3) % 3=0 by omega];rfl
   ·rw[G4 (Aym e),a.c d k,T9 O1]
theorem FB.made(d:Q)(a:Array X)(c:Nat)(f:A0)(e:0<a.size):FB (d.alloc (.cells (madeCells a c) f)) d.heap.size c (DB a.size a.toList []):=by
 refine⟨λb g=>CS _ _ _ _ _ ?_,λb=>O2,O2⟩;have h:b % a.size<a.size:=Nat.mod_lt _ e;unfold DB madeCells;grind
def Oc(a:Co):List X:=[V .u8 a.tag,V .u16 a.BU]
def Vs:List X:=[V .u8 0,V .u16 0]
def MA(c:Nat)(e:Q)(d:X)(a:List Co):Prop:=∃b,c<=b/\d=W (I ⟨b,0,N⟩) (L a) (L a)/\FB e b (L a*2) (DB 2 Vs (a.map Oc))
theorem MA.bG{b:Nat}{w d:Q}{c:X}{a:List Co}(f:MA b w c a)(hb:Ow w d):MA b d c a:=by
 let ⟨e,g,h,i⟩:=f
 exact⟨e,g,h,i.bG hb⟩
theorem MA.set{a:Nat}{e:Q}{d:X}{c:List Co}(g:MA a e d c){b j:Nat}(l:b<a)(u:X):MA a (e.setCell ⟨b,j,N⟩ u) d c:=by
 let ⟨f,h,i,k⟩:=g
 exact⟨f,h,i,k.set O1 u⟩
theorem MA.low(b:MA w n p na)(f:s<=w):MA s n p na:=by
 let ⟨a,e,c,d⟩:=b
 exact⟨a,O1,c,d⟩
theorem Ato:(Aa.info? 379).map (λa=>(a.zero,a.size,a.bytes))=I (I (T #[V .u8 0,V .u16 0]),2,4):=O3
theorem Aiz(a:Nat)(i:a<=65536)(b:Q):(Instr.makeSlice 315 (V C (a:Int)) (V C (a:Int))).run Aa b=.ok (W (I ⟨b.heap.size,0,N⟩) a a) (b.alloc (.cells (madeCells #[V .u8 0,V .u16 0] (a*2)) 379)):=by
 let ⟨h,d,c⟩:=AB.1 Ato
 simp[Aw0]at c;let ⟨e,f,g⟩:=c
 rw[run_make b 315 379 h _ underlying315 d e C C a a O1 O1 (by rw[g];omega) O1,f];rfl
theorem Akp(a:List Co)(n:X)(d:Q)(j:GC d n a)(w:(L a)<=65536)(m:∀g∈a,0<=g.tag/\g.tag<256/\0<=g.BU/\g.BU<65536):
 Az Aa 167 #[n] d λt o=>Ow d o/\∃i,t=F (W (I ⟨i,0,N⟩) (L a) (L a))/\MA d.heap.size o (W (I ⟨i,0,N⟩) (L a) (L a)) a:=by
 obtain⟨ab,B,rfl,Y,u⟩:=j.open;have p:=λk (v:k<L a)=>m a[k] (Ao _);have U:=Aiz (L a) w;clear j m;go_enter func167,ntmps167;go_wp2;go_loopw [11] (λh wr=>∃k:Nat,k<=L a/\h=V C (k:Int)/\O9 (Ow d wr/\FB wr d.heap.size (L a*2) (DB 2 Vs ((a.take k).map Oc)))) (λh _=>L a-(intOf h).toNat)
 ·exact⟨0,Ai _,rfl,bA,FB.made d _ _ _ O2⟩
 ·obtain⟨k,v,rfl,b⟩:=hrel;rename Q=>wr
  by_cases f:k<L a
  ·have K:(0:Int)<=(k:Int):=O1;have M:(k:Int)<(L a:Int):=O1;obtain⟨y,aa,rfl,c0,z⟩:=u _ b.o.1 k f;obtain⟨ac,ad,ae,af⟩:=p k f;have hb:Ow wr (wr.alloc (.cells #[.int C a[k].tag,.int C a[k].BU] 184)):=bA;have e:=b.o.2.bG hb;have D:=e.c (k*2) O1;have E:=e.c (k*2+1) O1;have G:=e.fz (k*2);have H:=e.fz (k*2+1);have r:=e.eP (k:=k) O5 f (.int .u8 a[k].tag) (.int .u16 a[k].BU);have s:(a.take (k+1)).map Oc=(a.take k).map Oc++[[.int .u8 a[k].tag,.int .u16 a[k].BU]]:=by
    show _=_;rw[Av f,AC];rfl
   have x:=b.o.1.size;have q:=O0 b.o.1;have ag:IntKind.u8.wrap a[k].tag=a[k].tag:=by unfold IntKind.wrap;simp[IntKind.bits,IntKind.signed];omega
   have ah:IntKind.u16.wrap a[k].BU=a[k].BU:=by unfold IntKind.wrap;simp[IntKind.bits,IntKind.signed];omega
   clear hb e b;generalize a[k].tag=tg at*;generalize a[k].BU=tt at*;go_wp2;exact⟨⟨k+1,O1,by go_num,((q.o.alloc x _).setCell (Ac _) _).setCell (Ac _) _,by rw[s];exact r⟩,by simp[intOf];omega⟩
  ·obtain rfl:k=L a:=O1;have O:¬(L a:Int)<(L a:Int):=O1;go_wp2;go_ret;have l:=b.o.2;rw[AP]at l;exact⟨b.o.1,_,rfl,_,Ac _,rfl,l⟩
def Np(b:BJ×X):List X:=[V C b.1.op,V C b.1.a,b.2]
def TF:List X:=[V C 0,V C 0,W N 0 0]
def MC(f:Nat)(d:Q)(g:X)(b:List BJ):Prop:=∃a,∃c:List (BJ×X),f<=a/\g=W (I ⟨a,0,N⟩) (L b) (L b)/\c.map (·.1)=b/\FB d a (L b*3) (DB 3 TF (c.map Np))/\∀e∈c,MA (a+1) d e.2 e.1.alts
theorem MC.bG{b:Nat}{w d:Q}{c:X}{a:List BJ}(g:MC b w c a)(hb:Ow w d):MC b d c a:=by
 let ⟨e,f,h,i,j,k,l⟩:=g
 exact⟨e,f,h,i,j,k.bG hb,λn m=>(l n m).bG hb⟩
def PP(h:Q)(g:X)(b:List Int):Prop:=∃e f,g=W e (L b) f/\∀a (i:a<L b),∃c d,e=I ⟨c,d,N⟩/\h.cell? ⟨c,d+a,N⟩=I (.int C b[a])
theorem PP.bG{w:Q}(e:PP w p wi)(hb:Ow w n):PP n p wi:=by
 let ⟨j,b,c,g⟩:=e
 refine⟨j,b,c,λi h=>?_⟩;let ⟨a,o,d,f⟩:=g i h
 exact⟨a,o,d,Bu hb f⟩
structure N5 (c:Nat) (b:BJ):Prop where
 g:b.op=1->0<=b.a/\b.a<(c:Int)
 l:(L b.alts)<=65536
 a:∀x∈b.alts,0<=x.tag/\x.tag<256/\0<=x.BU/\x.BU<65536
def Hj(c:List Int)(b:BJ):BJ:=if b.op=1 then {b with a:=c[b.a.toNat]?.getD 0} else b
theorem Au6:(Aa.info? 318).map (λa=>(a.zero,a.size,a.bytes))=I (I (T #[V C 0,V C 0,W N 0 0]),3,40):=O3
theorem Aot(a:Nat)(i:a<=65536)(b:Q):(Instr.makeSlice 109 (V C (a:Int)) (V C (a:Int))).run Aa b=.ok (W (I ⟨b.heap.size,0,N⟩) a a) (b.alloc (.cells (madeCells #[V C 0,V C 0,W N 0 0] (a*3)) 318)):=by
 let ⟨h,d,c⟩:=AB.1 Au6
 simp[Aw0]at c;let ⟨e,f,g⟩:=c
 rw[run_make b 109 318 h _ underlying109 d e C C a a O1 O1 (by rw[g];omega) O1,f];rfl
structure Qi (b:List BJ) (d:List Int) (a wr:Q) (c:Nat):Prop where
 low:Ow a wr
 l:∃L:List (BJ×X),L.map (·.1)=(b.take c).map (Hj d)/\FB wr a.heap.size (b.length*3) (DB 3 TF (L.map Np))/\∀x∈L,MA (a.heap.size+1) wr x.2 x.1.alts
theorem Qi.next{wr w5:Q}{k:Nat}(j:Qi wl wi n wr k)(h:k<L wl)(hb:Ow wr w5){e:X}(u:MA (n.heap.size+1) w5 e wl[k].alts){op a:Int}(p:Hj wi wl[k]=⟨op,a,wl[k].alts⟩):
 (∃r s t,w5.cell? ⟨n.heap.size,k*3,N⟩=I r/\w5.cell? ⟨n.heap.size,k*3+1,N⟩=I s/\w5.cell? ⟨n.heap.size,k*3+2,N⟩=I t)/\(∀q,w5.frozen? ⟨n.heap.size,q,N⟩=false)/\Qi wl wi n (((w5.setCell ⟨n.heap.size,k*3,N⟩ (V C op)).setCell ⟨n.heap.size,k*3+1,N⟩ (V C a)).setCell ⟨n.heap.size,k*3+2,N⟩ e) (k+1):=by
 let ⟨i,f,g,l,m⟩:=j
 have o:(L f)=k:=by have:=congrArg L g;grind
 have b:=l.bG hb;refine⟨⟨_,_,_,b.c _ O1,b.c _ O1,b.c _ O1⟩,b.fz,?_⟩;refine⟨(((i.trans (hb.mono i.size)).setCell .refl _).setCell .refl _).setCell .refl _,f++[(⟨op,a,wl[k].alts⟩,e)],?_,?_,λx d=>?_⟩
 ·rw[AC,Av h,AC,g];simp[p]
 ·rw[AC];exact b.cQ (by simp[o]) h _ _ _
 ·refine((?_:MA _ w5 x.2 x.1.alts).set (Ayd _) _|>.set (Ayd _) _).set (Ayd _) _;rcases Ag.1 d with d|d
  ·exact(m x d).bG hb
  grind
theorem Age(b:List BJ)(aa:X)(e:List Int)(ai:X)(g:Q)(ad:Fy g aa b)(ae:PP g ai e)(az:(L b)<=65536)(af:∀a1∈b,N5 (L e) a1):
 Az Aa 123 #[aa,ai] g λi m=>Ow g m/\∃O,i=F (W (I ⟨O,0,N⟩) (L b) (L b))/\MC g.heap.size m (W (I ⟨O,0,N⟩) (L b) (L b)) (b.map (Hj e)):=by
 obtain⟨bb,aH,rfl,aT,av⟩:=ad.open;obtain⟨aZ,aX,rfl,s⟩:=id ae;have am:=λc (ay:c<L b)=>af b[c] (Ao _);have aS:=Aot (L b) az;clear ad af s;go_enter func123,ntmps123;go_wp2;go_loopw [13] (λM wr=>∃c:Nat,c<=L b/\M=V C (c:Int)/\O9 (Qi b e g wr c)) (λM _=>L b-(intOf M).toNat)
 ·exact⟨0,Ai _,rfl,bA,[],rfl,FB.made g _ _ _ O2,λaj t=>by cases t⟩
 ·obtain⟨c,ay,rfl,h⟩:=hrel;rename Q=>wr
  by_cases K:c<L b
  ·have aO:(0:Int)<=(c:Int):=O1;have D:(c:Int)<(L b:Int):=O1;obtain⟨aF,ba,y,ap,x,rfl,c0,z,ar,G⟩:=av _ h.o.low c K;obtain⟨B,ab,ac⟩:=am c K;have aV:=h.o.low.size;have n:=O0 (λY (hb:Ow wr Y)=>(Akp b[c].alts _ Y (G.bG hb) ab ac));have o:=O0 (λw5 (hb:Ow wr w5) (aq:X) (q:MA (g.heap.size+1) w5 aq b[c].alts) op a he=>h.o.next K hb q (op:=op) (a:=a) he);obtain⟨aE,aD,i,-,-⟩:=G.open;have H:ap=b[c].alts.length:=by injection i
   have an:=O0 h.o.low;have aw:g.heap.size+1<=wr.heap.size:=by
    obtain⟨U,-,E,-⟩:=h.o.l;have:=E.lt;omega
   clear G h i;obtain⟨⟨op,a,d⟩,t⟩:∃aj,b[c]=aj:=⟨_,rfl⟩;rw[t]at c0 z B n o H;dsimp only at c0 z B n o H;clear t ab ac;subst H;go_upto_region 4 with fail
   go_cut [7,6] (λa5 a2 f=>a5=J (I ⟨wr.heap.size,0,N⟩)/\a2=V C (c:Int)/\f=wr.alloc (.cells #[V C op,V C a,W y (L d) x] 182))
   case first=>
    go_wp2;go_meet
    exact⟨rfl,rfl,rfl⟩
   case rest=>
   obtain⟨rfl,rfl,rfl⟩:=hcut;go_step
   go_step
   go_cut [] (λf=>O9 (C3 f wr.heap.size (V C op) (V C (Hj e ⟨op,a,d⟩).a) (W y (L d) x)/\Ow wr f))
   case first=>
    by_cases ag:op=1
    ·subst ag;obtain⟨aP,aQ⟩:=B rfl;obtain⟨k,rfl⟩:∃k:Nat,a=(k:Int):=⟨a.toNat,O1⟩;have q:k<L e:=O1;obtain⟨bc,aG,i,s⟩:=ae.bG an.o;cases i;obtain⟨nb,aY,rfl,a3⟩:=s k q;have aW:=λa4=>BM wr a4 _ _ _ a3;have w:O9 ((Hj e ⟨1,(k:Int),d⟩).a=e[k]):=by
      show _=_;unfold Hj;simp[q]
     clear s;go_wp2;go_meet
     rw[w.o];exact⟨C3.new wr _ _ _ _,bA⟩
    ·have w:O9 ((Hj e ⟨op,a,d⟩).a=a):=by
      show _=_;unfold Hj;simp[ag]
     go_wp2;go_meet
     rw[w.o];exact⟨C3.new wr _ _ _ _,bA⟩
   case rest=>
    rename Q=>f
    obtain⟨a6,a7,a8,-⟩:=hcut.o.1;have v:=O0 hcut.o.2;have al:O9 (Hj e ⟨op,a,d⟩=⟨op,(Hj e ⟨op,a,d⟩).a,d⟩):=by
     show _=_;unfold Hj;split<;>rfl
    generalize (Hj e ⟨op,a,d⟩).a=a' at*;have ak:=n.o f.drew v.o.drew;have ah:=v.o.size;have a9:f.drew.cell? ⟨wr.heap.size,0,N⟩=_:=a6;have aB:f.drew.cell? ⟨wr.heap.size,1,N⟩=_:=a7;have aC:f.drew.cell? ⟨wr.heap.size,2,N⟩=_:=a8;have ao:=λw5 (j:Below f.drew.heap.size f.drew w5) (u:Nat) (r:MA f.drew.heap.size w5 (W (I ⟨u,0,N⟩) (L d) (L d)) d)=>o.o w5 (v.o.drew.trans (j.mono ah)) _ (r.low (Ay aw ah)) op a' al.o;clear hcut c0 z ar o n;go_upto_region 7 with fail
    go_region_held_law (λm=>m.cell? ⟨wr.heap.size,0,N⟩=I (V C op)/\m.cell? ⟨wr.heap.size,1,N⟩=I (V C a')/\m.cell? ⟨wr.heap.size,2,N⟩=I (W y (L d) x)) (refine⟨?_,?_,?_⟩<;>(first|assumption|(rw[World.cell?_setCell_far _ _ _ _ O5,World.cell?_setCell_far _ _ _ _ O5,World.cell?_setCell_far _ _ _ _ O5];assumption)))
     (first
      |(go_at_call 167;refine ak.mono ?_;rintro i w5 ⟨j,u,rfl,r⟩;have bd:=Bu j a9;have be:=Bu j aB;have bf:=Bu j aC;obtain⟨⟨bg,bh,bi,aI,aJ,aK⟩,p,ax⟩:=ao w5 j u r;have aL:=p (c*3);have aM:=p (c*3+1);have aN:=p (c*3+2);clear j r p))
    all_goals(try go_wp2)
    all_goals go_roundw
    all_goals first
     |exact⟨c+1,O1,by go_num,ax⟩
     |(simp[intOf];omega)
  ·obtain rfl:c=L b:=O1;have aR:¬(L b:Int)<(L b:Int):=O1;go_wp2;go_ret;obtain⟨a0,U,D,E,au⟩:=h.o;rw[AP]at D;refine⟨a0,_,rfl,_,U,Ac _,by rw[An],D,by rw[An];exact E,au⟩
def NV:X->Option (DataW Unit×List MemPlace)
 |.agg cs=>match cs.toList with
  |[.int C a,.int C b]=>I (.agg [.lit (.int C a),.lit (.int C b)],[])
  |_=>N
 |_=>N
theorem Adc(a:NV p=I (.agg [.lit (.int C D),.lit (.int C nf)],zh)):p=.agg #[.int C D,.int C nf]:=by
 unfold NV at a;split at a
 ·split at a
  ·obtain⟨⟨rfl,rfl⟩,-⟩:=a;congr 1
   grind
  ·cases a
 ·cases a
def DA:Option (Nat×Int)->Int×Int
 |some (b,a)=>((b:Int),a)
 |none=>(0,0)
def IR(a:Option (Nat×Int)):X:=T #[V C (DA a).1,V C (DA a).2]
def LO(a:Option (Nat×Int)):DataW Unit:=.agg [.lit (.int C (DA a).1),.lit (.int C (DA a).2)]
def HS(a:Oy):Lit:=.string a.data.toList
theorem Au1(a:HS m=HS w0):m=w0:=Go.WideShapes.bytes_inj (by simpa[HS]using a)
def XM(f:Q)(d e:Nat)(c:Oy->Option (Nat×Int)):Prop:=∃b,f.ownsMap Aa 9 NV d e b/\∀a:Oy,Maps.has b (HS a)=(c a).isSome/\b.atKey (HS a) (LO N)=LO (c a)
theorem UK:Aa.underlying 186=I (.map 9 191):=O3
theorem Um(a:Q):(zeroValue 191).run Aa a=.ok (IR N) a:=O3
theorem XM.new(a:Q):XM (a.alloc (.map #[] 0)) a.heap.size 0 λ_=>none:=⟨_,World.ownsMap_made a _ _ _,λ_=>⟨rfl,rfl⟩⟩
theorem XM.bG{w:Q}{a:Nat}(g:XM w a s s0)(hb:Ow w n):XM n a s s0:=by
 let ⟨c,b,h⟩:=g
 have i:=b.lt;let ⟨f,d,e,j⟩:=b
 exact⟨c,⟨f,d,by rw[hb.block a i];exact e,j⟩,h⟩
theorem XM.congr(c:XM n w s s0)(e:∀a,s0 a=zx a):XM n w s zx:=by
 let ⟨b,d,f⟩:=c
 exact⟨b,d,λa=>O6⟩
theorem XM.look(a:XM n w s s0)(t:Oy)(e:t.size<=maxLen):(Instr.lookup 186 (.map (I w)) (S t) true).run Aa n=.ok (R #[IR (s0 t),A (s0 t).isSome]) n:=by
 let ⟨g,b,c⟩:=a
 let ⟨i,h,d,f⟩:=b.look_ok (Maps.string_keyed Awz) UK (Um n) (zd:=LO N) rfl (Go.WideMaps.keyOf_string_mk Awz e)
 rw[d];have:=c t;unfold HS at this;rw[this.1,Adc (f.trans (by rw[this.2];rfl))];rfl
theorem XM.d1(b:XM n w s s0)(a:Oy)(f:a.size<=maxLen):(Instr.lookup 186 (.map (I w)) (S a) false).run Aa n=.ok (IR (s0 a)) n:=by
 let ⟨h,c,d⟩:=b
 let ⟨j,i,e,g⟩:=c.lookup (Maps.string_keyed Awz) UK (Um n) (zd:=LO N) rfl (Go.WideMaps.keyOf_string_mk Awz f)
 rw[e];have:=d a;unfold HS at this;rw[Adc (g.trans (by rw[this.2];rfl))];rfl
def D7(b:List BD)(c:Nat)(d:Oy):Option (Nat×Int):=(FQ d (b.take c) 0 0).map λa=>(a.1,a.2.2)
def FX(a:List BD)(b:Nat)(d:List Bx)(e:Nat)(c:Oy):Option (Nat×Int):=match D7 a b c with
 |some x=>I x
 |none=>GL c (d.take e) (Cg a b)
theorem Wh(d:Oy):∀a c b,GL d (a++c) b=match GL d a b with|some x=>I x|none=>GL d c (b+L a)
 |[],c,b=>rfl
 |g::a,c,b=>by
  rw[Awy,GL,GL];split
  ·rfl
  ·rw[Wh d a c,AO,show b+1+L a=b+(L a+1) by omega]
theorem Wz(e:Oy):∀a c b d,FQ e (a++c) b d=match FQ e a b d with|some x=>I x|none=>FQ e c (b+L a) (d+(a.map λf=>L f.Bv).sum)
 |[],c,b,d=>rfl
 |f::a,c,b,d=>by
  rw[Awy,FQ,FQ];split
  ·rfl
  ·rw[Wz e a c,AO,A1,Axm,show b+1+L a=b+(L a+1) by omega,Nat.add_assoc]
theorem Ac4(a:Oy)(b:s<L i):FX H w i (s+1) a=match FX H w i s a with|some x=>I x|none=>if i[s].exp && decide (i[s].Bo=a) then I (Cg H w+s,i[s].BH) else none:=by
 unfold FX;cases D7 H w a with
 |some x=>rfl
 |none=>
  rw[Av b,Wh,Awx,Ayj O1];rfl
theorem Aoa(d:w<L H)(a:Oy):FX H w H[w].Bv H[w].Bv.length a=D7 H (w+1) a:=by
 unfold FX;have c:D7 H (w+1) a=(FQ a (H.take w++[H[w]]) 0 0).map λb=>(b.1,b.2.2):=by unfold D7;simp
 rw[c,Wz];unfold D7;cases FQ a (H.take w) 0 0 with
 |some b=>rfl
 |none=>
  simp only[Option.map_none,FQ,Bg];unfold Cg;grind
theorem Re(a:List BD)(b:Oy):D7 a (L a) b=(Gj a b).map λc=>(c.1,c.2.2):=by unfold D7 Gj;simp
def Io(b:List BD)(e:Nat)(c:List Bx)(d:Nat)(a:Bx):Bool:=a.exp && (FX b e c d a.Bo).isSome
def HR(b:List BD)(c:Nat)(a:BD):Bool:=(B4 (Io b c a.Bv) a.Bv 0).isSome
structure Told (b:Q) (a:X) (c d f:Int):Prop where
 BB:∀w',Ow b w'->Az Aa 16 #[a] w' λe w''=>e=F (V C c)/\Ow w' w''
 place:∀w',Ow b w'->Az Aa 17 #[a] w' λe w''=>e=F (T #[V C d,V C f])/\Ow w' w''
theorem Aa1(b:EJ n M)(a:Nat)(c:0<=a/\a<19):Told n (Di (M a)) (IQ a) 0 0:=⟨λ_ hb=>Ahh (b.bG hb) a c,λ_ hb=>Aut (b.bG hb) (M a)⟩
theorem Avt(d:EJ n M)(a:Nat)(e:0<=a/\a<19)(b c:Int):Told n (Hv (M a) b c) (IQ a) b c:=⟨λ_ hb=>Tf (d.bG hb) a e b c,λ_ hb=>Vg (d.bG hb) (M a) b c⟩
structure LP (b:Q) (a:Nat->Addr):Prop where
 c:∀i,(0<=i/\i<19)->b.cell? ⟨HT i,0,N⟩=I (Di (a i))
 o:∀i,(0<=i/\i<19)->∃c t,b.heap[(a i).block]?=I (.cells c t (0,0))
 ne:∀i j,(0<=i/\i<19)->(0<=j/\j<19)->i≠j->a i≠a j
theorem LP.bG{w:Q}(a:LP w M)(hb:Ow w n):LP n M:=by
 refine⟨λi b=>Bu hb (a.c i b),λi b=>?_,a.ne⟩;let ⟨c,t,d⟩:=a.o i b
 refine⟨c,t,?_⟩;rw[hb.block]
 ·exact d
 grind
theorem Us(b:A0)(d:X)(a:Int)(c:Q):Az Aa 25 #[Z b d,V C a] c λe f=>e=F (Z 85 (T #[Z b d,V C 0,V C a]))/\f=c:=by
 go_wp2;go_ret;simp
def Ado(a:Nat->Addr)(b:Nat):Option Nat->X
 |some c=>Hv (a b) 0 (c:Int)
 |none=>.nilIface
theorem Jo.cells(h:Jo n U H){a:Nat}(i:a<L H):∃b c g f e d,U=I ⟨b,c,N⟩/\n.cell? ⟨b,c+a*3,N⟩=I (.string H[a].Bo)/\n.cell? ⟨b,c+a*3+1,N⟩=I (.slice g H[a].BG.length f)/\n.cell? ⟨b,c+a*3+2,N⟩=I (.slice e H[a].Bv.length d)/\Fv n (T #[.string H[a].Bo,.slice g H[a].BG.length f,.slice e H[a].Bv.length d]) H[a]:=h a i
def Kh(c:List Bx)(b:Nat):Nat:=((c.take b).map λa=>L a.Bj).sum
def K9(a:List BD)(b:Nat):Nat:=((a.take b).map Ma).sum
theorem XL(a:w<L i):Kh i (w+1)=Kh i w+i[w].Bj.length:=by
 unfold Kh;rw[Av a,AC,Ayv];simp
theorem Adk(a:w<L H):K9 H (w+1)=K9 H w+Ma H[w]:=by
 unfold K9;rw[Av a,AC,Ayv];simp
theorem WU(a:List Bx):Kh a (L a)=(a.map λb=>L b.Bj).sum:=by unfold Kh;simp
theorem Ajp(a:List BD):K9 a (L a)=sz a:=by unfold K9 sz;simp
def UC(b:List BD):Prop:=∀a∈b,∀c∈a.Bv,L c.Bj<=65536
theorem TW{b:List Bx}(c:∀d∈b,L d.Bj<=65536):∀a,a<=L b->Kh b a<=a*65536
 |0,_=>by simp[Kh]
 |a+1,hj=>by
  have:=TW c a O1;have:=c b[a] (Ao _);rw[XL O1];omega
theorem YZ{b:List BD}(d:Md b)(c:UC b):∀a,a<=L b->K9 b a<=a*200000000000000000
 |0,_=>by simp[K9]
 |a+1,hk=>by
  have f:=YZ d c a O1;have e:=TW (c b[a] (Ao _)) _ .refl;rw[WU]at e;have h:=(d.g b[a] (Ao _)).1;rw[Adk O1];unfold Ma;omega
theorem Ae2(a:List BD)(y:X)(e:Q)(E:IW e y a)(j:Md a)(u:UC a):
 Az Aa 70 #[y] e λd f=>d=F (V C (sz a:Int))/\Ow e f:=by
 obtain⟨aa,ae,rfl,U,s⟩:=E;have D:∀f,Ow e f->Jo f aa a:=λf hb=>s.bG hb;have az:=j.n;clear s U;go_enter func70,ntmps70;go_wp2;go_loopw [3,10] (λo l wr=>∃b:Nat,b<=L a/\o=V C (K9 a b:Int)/\l=V C (b:Int)/\O9 (Ow e wr)) (λ_ l _=>L a-(intOf l).toNat)
 ·exact⟨0,Ai _,rfl,rfl,Ae _ _⟩
 ·obtain⟨b,O,rfl,rfl,h⟩:=hrel;rename Q=>wr
  by_cases w:b<L a
  ·have au:(0:Int)<=(b:Int):=O1;have av:(b:Int)<(L a:Int):=O1;obtain⟨ab,a5,a2,a1,aq,an,rfl,c0,ac,ad,t⟩:=(D _ h.o).cells w;obtain⟨ar,ao,d,ax,K⟩:=t.Bv.2.open;cases d;have G:=YZ j u b O;have ay:=(j.g a[b] (Ao _)).1;have p:=O0 (Adk w);obtain⟨m,x⟩:∃m,K9 a b=m:=⟨_,rfl⟩;rw[x]at G p ⊢;have B:=O0 (u a[b] (Ao _));clear t x;go_wp2;go_loopw [3,17] (λo k z=>∃c:Nat,c<=a[b].Bv.length/\o=V C ((m+Kh a[b].Bv c:Nat):Int)/\k=V C (c:Int)/\O9 (Ow wr z)) (λ_ k _=>a[b].Bv.length-(intOf k).toNat)
   ·exact⟨0,Ai _,rfl,rfl,bA⟩
   ·obtain⟨c,M,rfl,rfl,i⟩:=hrel;rename Q=>z
    by_cases v:c<a[b].Bv.length
    ·have a3:(0:Int)<=(c:Int):=O1;have a4:(c:Int)<(a[b].Bv.length:Int):=O1;obtain⟨gb,ap,ah,ag,cc,rfl,aj,ak,al,am,r,-⟩:=K _ i.o c v;obtain⟨ai,af,d,aw,-⟩:=r.open;cases d;have a0:=TW B.o c M;have Y:=XL v;generalize Kh a[b].Bv c=q at*;generalize a[b].Bv[c].Bj.length=cl at*;generalize a[b].Bv[c].Bo=gnm at*;generalize a[b].Bv[c].BH=gar at*;generalize a[b].Bv[c].exp=gex at*;clear r;go_wp2;go_roundw
     case rel=>exact⟨c+1,O1,by rw[Y];go_num,by go_num,i.o.alloc i.o.size _⟩
     case measure=>simp[intOf];omega
    ·obtain rfl:c=a[b].Bv.length:=O1;have H:¬(a[b].Bv.length:Int)<(a[b].Bv.length:Int):=O1;go_wp2;go_roundw
     case rel=>exact⟨b+1,O1,by rw[p.o,WU];rfl,by go_num,h.o.trans (i.o.mono h.o.size)⟩
     case measure=>simp[intOf];omega
  ·obtain rfl:b=L a:=O1;have H:¬(L a:Int)<(L a:Int):=O1;go_wp2;go_ret;exact⟨Qc (by rw[Ajp];rfl),h.o⟩
theorem Afh(e:n.ownsMap Aa 9 NV w s y7)(m:∀a:Oy,Maps.has y7 (HS a)=(s0 a).isSome/\y7.atKey (HS a) (LO N)=LO (s0 a))(a:Oy)(g:Nat)(d:Int)(h:Nat)(i:Q)(l:i.ownsMap Aa 9 NV w h (y7.put (HS a) (LO (I (g,d))))):XM i w h λb=>if b=a then I (g,d) else s0 b:=by
 refine⟨_,l,λb=>?_⟩;dsimp only;by_cases c:b=a
 ·subst c;rw[if_pos rfl];exact⟨Maps.has_put_same e.isMap (k:=HS b) trivial _,Maps.atKey_put_same e.isMap (k:=HS b) trivial _ _⟩
 ·rw[if_neg c];have f:=λj=>c (Au1 j);rw[Maps.has_put_other f,Maps.atKey_put_other f];exact m b
theorem XM.mono{e:Q}{a c d:Nat}{b:Oy->Option (Nat×Int)}(g:XM e a c b)(j:c<=d):XM e a d b:=by
 let ⟨f,h,i⟩:=g
 exact⟨f,h.mono j,i⟩
theorem Ari{Os:List BD}{k:Nat}(b:w<L i)(c:i[w].exp=false\/(FX Os k i w i[w].Bo).isSome=true)(a:Oy):FX Os k i w a=FX Os k i (w+1) a:=by
 rw[Ac4 a b];grind
theorem Apl{Os:List BD}{k:Nat}(b:w<L i)(d:i[w].exp=true)(c:FX Os k i w i[w].Bo=N)(a:Oy):(if a=i[w].Bo then I (Cg Os k+w,i[w].BH) else FX Os k i w a)=FX Os k i (w+1) a:=by
 rw[Ac4 a b];grind
def Ata(e:Nat->Addr)(a:List BD)(h:Q)(c:Ending)(d:Q):Prop:=Ow h d/\match B4 (HR a) a 0 with
 |some f=>c=F (R #[.map N,Hv (e 14) 0 (f:Int)])
 |none=>∃b g,c=F (R #[.map (I b),.nilIface])/\XM d b g (D7 a (L a))
structure EoS (a:List BD) (c wr:Q) (b:Nat):Prop where
 low:Ow c wr
 m:XM wr c.heap.size (Cg a b) (D7 a b)
 f:B4 (HR a) a 0=B4 (HR a) (a.drop b) b
structure Yb (b:List BD) (e wr:Q) (d:Nat) (a:List Bx) (c:Nat):Prop where
 low:Ow e wr
 m:XM wr e.heap.size (Cg b d+c) (FX b d a c)
 f:B4 (Io b d a) a 0=B4 (Io b d a) (a.drop c) c
theorem Ao4(Os:List BD)(an:X)(b:Q)(Y:Nat->Addr)(ax:IW b an Os)(B:Md Os)(az:EJ b Y):
 Az Aa 68 #[an] b λp o=>Ata Y Os b p o:=by
 obtain⟨a9,aG,rfl,a6,ae⟩:=ax;have av:∀o,Ow b o->Jo o a9 Os:=λo hb=>ae.bG hb;have aZ:=B.n;have aD:=O0 (Um);have aY:=@run_makeMap Aa;clear ae a6;go_enter func68,ntmps68;go_wp2;go_loopw [5,15] (λG E wr=>∃k:Nat,k<=L Os/\G=V C (Cg Os k:Int)/\E=V C (k:Int)/\O9 (EoS Os b wr k)) (λ_ E _=>L Os-(intOf E).toNat)
 ·exact⟨0,Ai _,rfl,rfl,bA,(XM.new b).congr λ_=>rfl,rfl⟩
 ·obtain⟨k,aX,rfl,rfl,e⟩:=hrel;rename Q=>wr
  by_cases t:k<L Os
  ·have aQ:(0:Int)<=(k:Int):=O1;have aR:(k:Int)<(L Os:Int):=O1;obtain⟨aF,bc,al,ak,ad,ac,rfl,c0,aa,ab,af⟩:=(av _ (Ae _ _)).cells t;replace c0:=Bu e.o.low c0
   replace aa:=Bu e.o.low aa
   replace ab:=Bu e.o.low ab
   obtain⟨aP,aN,p,aT,a2⟩:=af.Bv.2.open;cases p;have a0:=B.base k O1;have aV:=(B.g Os[k] (Ao _)).1;obtain⟨h,u⟩:∃h,Cg Os k=h:=⟨_,rfl⟩;have K:=e.o.f.trans (NG (HR Os) Os t);have O:=Ra t;have au:=O0 (Aoa t);rw[u]at a0 ⊢;clear af;have H:Yb Os b (wr.alloc (.cells #[.string Os[k].Bo,.slice al Os[k].BG.length ak,.slice ad Os[k].Bv.length ac] 58)) k Os[k].Bv 0:=by
    have hb:Ow wr (wr.alloc (.cells #[.string Os[k].Bo,.slice al Os[k].BG.length ak,.slice ad Os[k].Bv.length ac] 58)):=bA;refine⟨e.o.low.trans (hb.mono e.o.low.size),(e.o.m.bG hb).congr λaC=>?_,rfl⟩;unfold FX;cases D7 Os k aC<;>rfl
   generalize hgl2:Os[k].Bv=gl at*;generalize Os[k].Bo=El at*;generalize Os[k].BG=oim at*;have M:=O0 hgl2;clear hgl2;go_wp2;go_loopw [5,23] (λG D l=>∃a:Nat,a<=L gl/\G=V C ((h+a:Nat):Int)/\D=V C (a:Int)/\O9 (Yb Os b l k gl a)) (λ_ D _=>L gl-(intOf D).toNat)
   ·exact⟨0,Ai _,rfl,rfl,H⟩
   ·clear H;obtain⟨a,aW,rfl,rfl,d⟩:=hrel;rename Q=>l
    by_cases q:a<L gl
    ·have ba:(0:Int)<=(a:Int):=O1;have bb:(a:Int)<(L gl:Int):=O1;obtain⟨gb,aO,aI,aH,cc,rfl,aJ,aK,aL,aM,-,ai⟩:=a2 _ d.o.low a q;have s:=λa8=>(d.o.m.bG ((Ae _ _).alloc (Ac _) a8)).look gl[a].Bo ai;have i:=O0 (d.o.f.trans (NG (Io Os k gl) gl q));have v:=d.o.low.size;have y:=O0 (Ari (Os:=Os) (k:=k) q);have x:=O0 (Apl (Os:=Os) (k:=k) q);have a4:=Go.WideMaps.keyOf_string_mk (P:=Aa) Awz ai;obtain⟨ao,z,ay⟩:=id d.o.m;rw[u]at z x;have m:=O0 d.o.low;have U:=O0 d.o.m;unfold Io at i;clear d;have aq:B4 (Io Os k gl) gl 0=I a->B4 (HR Os) Os 0=I k:=λa3=>by
      rw[K];unfold HR;rw[M.o,a3];rfl
     generalize hnm:gl[a].Bo=nm at*;generalize gl[a].BH=ar at*;generalize gl[a].exp=ex at*;cases hf:FX Os k gl a nm with
     |some r=>
      obtain⟨aB,aE⟩:=r;rw[hf]at s i y;simp only[IR,DA,Ay2]at s;cases ex with
      |true=>
       have j:=O0 (aq (by rw[show B4 (Io Os k gl) gl 0=_ from i.o];rfl));have ag:=(az.bG m.o).c 14 O1;simp only[Di,HT,Ax4,Ax3]at ag;have aS:=λam a7=>BM (l.alloc am) a7 _ _ _ (BM l am _ _ _ ag);go_wp2_with (first
        |(go_at_call 25;refine(Us _ _ _ _).mono ?_;rintro p be ⟨rfl,rfl⟩))
       go_ret2
       refine⟨(m.o.alloc v _).alloc O5 _,?_⟩;rw[j.o];rfl
      |false=>
       have j:B4 (Io Os k gl) gl 0=B4 (Io Os k gl) (gl.drop (a+1)) (a+1):=i.o;have w:XM l b.heap.size (Cg Os k+(a+1)) (FX Os k gl (a+1)):=(U.o.congr (y.o (Be rfl))).mono O1;go_wp2;go_roundw
       case rel=>exact⟨a+1,O1,by go_num,by go_num,(m.o.alloc v _).alloc O5 _,(w.bG bA).bG bA,j⟩
       case measure=>simp[intOf];omega
     |none=>
      rw[hf]at s i x;simp only[IR,DA,Ay3]at s;have j:B4 (Io Os k gl) gl 0=B4 (Io Os k gl) (gl.drop (a+1)) (a+1):=by
       show _=_;rw[show B4 (Io Os k gl) gl 0=_ from i.o];simp only[Ay3,Bool.and_false];rfl
      cases ex with
      |true=>
       go_wp2_with (first
        |(at_mapUpdate;refine wpList_mapUpdate_own _ rfl (.tmp 44) (.tmp 46) (.tmp 50) 186 rfl 9 191 (Maps.string_keyed Awz) UK NV b.heap.size (h+a) ao rfl ((z.alloc _).alloc _) O8 (S nm) (T #[V C ((h+a:Nat):Int),V C ar]) (HS nm) rfl rfl a4 (LO (I (h+a,ar))) [] rfl ?_;intro bd aj ah;have aw:=O0 (Afh z ay nm (h+a) ar _ _ aj);have ap:=((m.o.alloc v _).alloc O5 _).grown ah O5 (λaB a5=>by cases a5;exact Ac _);clear aj ah))
       go_roundw
       case rel=>exact⟨a+1,O1,by go_num,by go_num,ap,by rw[u];exact aw.o.congr (x.o rfl rfl),j⟩
       case measure=>simp[intOf];omega
      |false=>
       have w:XM l b.heap.size (Cg Os k+(a+1)) (FX Os k gl (a+1)):=(U.o.congr (y.o (Be rfl))).mono O1;go_wp2;go_roundw
       case rel=>exact⟨a+1,O1,by go_num,by go_num,(m.o.alloc v _).alloc O5 _,(w.bG bA).bG bA,j⟩
       case measure=>simp[intOf];omega
    ·obtain rfl:a=L gl:=O1;have a1:¬(L gl:Int)<(L gl:Int):=O1;go_wp2;go_roundw
     case rel=>
      refine⟨k+1,O1,by rw[O,u],by go_num,d.o.low,?_,?_⟩
      ·rw[O];exact d.o.m.congr au.o
      ·rw[K];unfold HR;rw[M.o,d.o.f,Nf _ _ (Ac _)];rfl
     case measure=>simp[intOf];omega
  ·obtain rfl:k=L Os:=O1;have a1:¬(L Os:Int)<(L Os:Int):=O1;go_wp2;go_ret2
   refine⟨e.o.low,?_⟩;rw[e.o.f,Nf _ _ (Ac _)];exact⟨_,_,rfl,e.o.m⟩
def HM(b:Oy->Option (Nat×Int))(a:BD):Bool:=(B4 (λ_ c=>(b c.Bo).isNone) a.BG 0).isSome
def HZ(c:Oy->Option (Nat×Int))(b:BD):Bool:=(B4 (λ_ a=>decide ((DA (c a.Bo)).2≠a.BH)) b.BG 0).isSome
theorem Ake(b c:X)(a:Q):Sem.run Aa (Instr.field 191 (T #[b,c]) 0) a=.ok b a:=O3
theorem Au5(c b:X)(a:Q):Sem.run Aa (Instr.field 191 (T #[c,b]) 1) a=.ok b a:=O3
def MT(b:Nat->Addr)(c:Oy->Option (Nat×Int))(a:List BD):X:=match B4 (λ_=>HM c) a 0 with
 |some d=>Hv (b 15) 0 (d:Int)
 |none=>Ado b 16 (B4 (λ_=>HZ c) a 0)
theorem Ah0(a:List BD)(ak:X)(k:Q)(ae:Nat->Addr)(af aB:Nat)(e:Oy->Option (Nat×Int))(au:IW k ak a)(ah:XM k af aB e)(ai:EJ k ae):
 Az Aa 69 #[ak,.map (I af)] k λo s=>o=F (MT ae e a)/\Ow k s:=by
 obtain⟨aE,aI,rfl,a0,ag⟩:=au;have Y:∀s,Ow k s->Jo s aE a:=λs hb=>ag.bG hb;have aa:=λs (hb:Ow k s)=>ah.bG hb;have ac:=O0 ai;unfold short at a0;clear ag ah ai;go_enter func69,ntmps69;go_wp2;go_loopw [17] (λq wr=>∃b:Nat,b<=L a/\q=V C (b:Int)/\O9 (B4 (λ_=>HM e) a 0=B4 (λ_=>HM e) (a.drop b) b/\Ow k wr)) (λq _=>L a-(intOf q).toNat)
 ·exact⟨0,Ai _,rfl,rfl,Ae _ _⟩
 ·obtain⟨b,aj,rfl,g⟩:=hrel;rename Q=>wr
  by_cases z:b<L a
  ·have av:(0:Int)<=(b:Int):=O1;have aw:(b:Int)<(L a:Int):=O1;obtain⟨am,aC,a6,a3,aq,ap,rfl,c0,an,ao,v⟩:=(Y _ g.o.2).cells z;obtain⟨a7,a4,o,ay,x⟩:=v.Bv.1.open;cases o;have G:=O0 x;have n:=O0 (g.o.1.trans (NG (λ_=>HM e) a z));have u:=O0 g.o.2;have B:=g.o.2.size;unfold HM at n;clear x v g;generalize a[b].Bv=gl at*;generalize a[b].Bo=El at*;generalize a[b].BG=im at*;go_wp2;go_loopw [25] (λp l=>∃d:Nat,d<=L im/\p=V C (d:Int)/\O9 (B4 (λ_ f=>(e f.Bo).isNone) im 0=B4 (λ_ (f:Dv)=>(e f.Bo).isNone) (im.drop d) d/\Ow wr l)) (λp _=>L im-(intOf p).toNat)
   ·exact⟨0,Ai _,rfl,rfl,bA⟩
   ·obtain⟨d,az,rfl,h⟩:=hrel;rename Q=>l
    by_cases y:d<L im
    ·have a8:(0:Int)<=(d:Int):=O1;have a9:(d:Int)<(L im:Int):=O1;obtain⟨ib,a5,rfl,a1,a2,M⟩:=G.o _ h.o.2 d y;have i:=u.o.trans (h.o.2.mono B);have D:=i.size;have O:=h.o.2.size;have t:=λU=>(aa _ (i.alloc D U)).look im[d].Bo M;have m:=O0 (h.o.1.trans (NG (λ_ (f:Dv)=>(e f.Bo).isNone) im y));generalize im[d].Bo=nm at*;generalize im[d].BH=ar at*;cases hf:e nm with
     |some r=>
      obtain⟨aF,ad⟩:=r;rw[hf]at t m;simp only[IR,DA,Ay2]at t;go_wp2;go_roundw
      case rel=>exact⟨d+1,O1,by go_num,m.o,(h.o.2.alloc O _).alloc O5 _⟩
      case measure=>simp[intOf];omega
     |none=>
      rw[hf]at t m;simp only[IR,DA,Ay3]at t;have j:B4 (λ_=>HM e) a 0=I b:=by
       show _=_;rw[show B4 (λ_=>HM e) a 0=_ from n.o,m.o];rfl
      have w:=(ac.o.bG i).c 15 O1;simp only[Di,HT,Ax4,Ax3]at w;have ax:=λE aD=>BM (l.alloc E) aD _ _ _ (BM l E _ _ _ w);go_wp2_with (first
       |(go_at_call 25;refine(Us _ _ _ _).mono ?_;rintro o aG ⟨rfl,rfl⟩))
      go_ret;exact⟨Qc (by unfold MT;rw[j];rfl),(i.alloc D _).alloc O5 _⟩
    ·obtain rfl:d=L im:=O1;have K:¬(L im:Int)<(L im:Int):=O1;have j:B4 (λ_=>HM e) a 0=B4 (λ_=>HM e) (a.drop (b+1)) (b+1):=by
      show _=_;rw[show B4 (λ_=>HM e) a 0=_ from n.o,h.o.1,Nf _ _ (Ac _)];rfl
     go_wp2;go_roundw
     case rel=>exact⟨b+1,O1,by go_num,j,u.o.trans (h.o.2.mono B)⟩
     case measure=>simp[intOf];omega
  ·obtain rfl:b=L a:=O1;have K:¬(L a:Int)<(L a:Int):=O1;have ab:B4 (λ_=>HM e) a 0=none:=by
    show _=_;rw[g.o.1,Nf _ _ (Ac _)]
   have al:=O0 g.o.2;clear g aj;rename Q=>wy
   have aH:=Au5;go_wp2;go_loopw [45] (λq wr=>∃b:Nat,b<=L a/\q=V C (b:Int)/\O9 (B4 (λ_=>HZ e) a 0=B4 (λ_=>HZ e) (a.drop b) b/\Ow k wr)) (λq _=>L a-(intOf q).toNat)
   ·exact⟨0,Ai _,rfl,rfl,al.o⟩
   ·obtain⟨b,aj,rfl,g⟩:=hrel;rename Q=>wr
    by_cases z:b<L a
    ·have av:(0:Int)<=(b:Int):=O1;have aw:(b:Int)<(L a:Int):=O1;obtain⟨am,aC,a6,a3,aq,ap,rfl,c0,an,ao,v⟩:=(Y _ g.o.2).cells z;obtain⟨a7,a4,o,ay,x⟩:=v.Bv.1.open;cases o;have G:=O0 x;have n:=O0 (g.o.1.trans (NG (λ_=>HZ e) a z));have u:=O0 g.o.2;have B:=g.o.2.size;unfold HZ at n;clear x v g;generalize a[b].Bv=gl at*;generalize a[b].Bo=El at*;generalize a[b].BG=im at*;go_wp2;go_loopw [53] (λp l=>∃d:Nat,d<=L im/\p=V C (d:Int)/\O9 (B4 (λ_ f=>decide ((DA (e f.Bo)).2≠f.BH)) im 0=B4 (λ_ (f:Dv)=>decide ((DA (e f.Bo)).2≠f.BH)) (im.drop d) d/\Ow wr l)) (λp _=>L im-(intOf p).toNat)
     ·exact⟨0,Ai _,rfl,rfl,bA⟩
     ·obtain⟨d,az,rfl,h⟩:=hrel;rename Q=>l
      by_cases y:d<L im
      ·have a8:(0:Int)<=(d:Int):=O1;have a9:(d:Int)<(L im:Int):=O1;obtain⟨ib,a5,rfl,a1,a2,M⟩:=G.o _ h.o.2 d y;have i:=u.o.trans (h.o.2.mono B);have D:=i.size;have O:=h.o.2.size;have t:=λU=>(aa _ (i.alloc D U)).d1 im[d].Bo M;have m:=h.o.1.trans (NG (λ_ (f:Dv)=>decide ((DA (e f.Bo)).2≠f.BH)) im y);generalize im[d].Bo=nm at*;generalize im[d].BH=ar at*;generalize e nm=fo at*;unfold IR at t;generalize (DA fo).1=aF at*;generalize (DA fo).2=ad at*;by_cases H:ad=ar
       ·have j:B4 (λ_ (f:Dv)=>decide ((DA (e f.Bo)).2≠f.BH)) im 0=B4 (λ_ (f:Dv)=>decide ((DA (e f.Bo)).2≠f.BH)) (im.drop (d+1)) (d+1):=by
         show _=_;rw[m,if_neg (by simp[H])]
        subst H;go_wp2;go_roundw
        case rel=>exact⟨d+1,O1,by go_num,j,h.o.2.alloc O _⟩
        case measure=>simp[intOf];omega
       ·have j:B4 (λ_=>HZ e) a 0=I b:=by
         show _=_;rw[show B4 (λ_=>HZ e) a 0=_ from n.o,m];simp[H]
        have w:=(ac.o.bG i).c 16 O1;simp only[Di,HT,Ax4,Ax3]at w;have ax:=λE=>BM l E _ _ _ w;go_wp2_with (first
         |(go_at_call 25;refine(Us _ _ _ _).mono ?_;rintro o aG ⟨rfl,rfl⟩))
        go_ret;exact⟨Qc (by unfold MT;rw[ab,j];rfl),i.alloc D _⟩
      ·obtain rfl:d=L im:=O1;have K:¬(L im:Int)<(L im:Int):=O1;have j:B4 (λ_=>HZ e) a 0=B4 (λ_=>HZ e) (a.drop (b+1)) (b+1):=by
        show _=_;rw[show B4 (λ_=>HZ e) a 0=_ from n.o,h.o.1,Nf _ _ (Ac _)];rfl
       go_wp2;go_roundw
       case rel=>exact⟨b+1,O1,by go_num,j,u.o.trans (h.o.2.mono B)⟩
       case measure=>simp[intOf];omega
    ·obtain rfl:b=L a:=O1;have K:¬(L a:Int)<(L a:Int):=O1;go_wp2;go_ret;exact⟨Qc (by unfold MT;rw[ab,g.o.1,Nf _ _ (Ac _)];rfl),g.o.2⟩
def iC(a:List Int):List X:=a.map λb=>V C b
def Lg(f:Nat->Prop)(i:Q)(h:X)(c:List Int):Prop:=∃e g,h=W e (L c) g/\∀b (j:b<L c),∃a d,f a/\e=I ⟨a,d,N⟩/\i.cell? ⟨a,d+b,N⟩=I (.int C c[b])
theorem Lg.at{w:Q}(b:Lg v8 w p wi):PP w p wi:=by
 let ⟨c,a,e,d⟩:=b
 refine⟨c,a,e,λi f=>?_⟩;grind
theorem Lg.fr(e:Lg v8 n p wi)(f:∀a,v8 a->a<n.heap.size->ya a/\q.heap[a]?=n.heap[a]?):Lg ya q p wi:=by
 let ⟨l,cap,c,g⟩:=e
 refine⟨l,cap,c,λj h=>?_⟩;let ⟨a,k,i,d,b⟩:=g j h
 have:=f a i (AL b);exact⟨a,k,this.1,d,by rw[Ak this.2];exact b⟩
theorem Ajk{ns:List Int}(d:n.ownsRow w 3 1 p (L ns) (iC ns)):Lg (λa=>w<=a) n p ns:=by
 have i:=λa (g:p.ownBlock=I a)=>PN d g;rcases U6 (Jk d) with⟨rfl,j⟩|⟨c,f,rfl,-,h⟩
 ·obtain rfl:ns=[]:=Axy j;exact⟨N,0,rfl,λe b=>absurd b nofun⟩
 ·refine⟨_,f,rfl,λe b=>⟨c,0,i c rfl,rfl,?_⟩⟩;rw[Bg,h e O1];simp[iC,b]
def IG(b:Oy->Option (Nat×Int))(a:BD)(c:Nat):List Int:=a.BG.map (λd=>(DA (b d.Bo)).1)++(AV (L a.Bv)).map λe=>((c+e:Nat):Int)
theorem SX(b:Oy->Option (Nat×Int))(a:BD)(c:Nat):(IG b a c).length=L a.BG+L a.Bv:=by simp[IG]
theorem Ac1(a:List Int)(b:Int):iC (a++[b])=iC a++[V C b]:=by simp[iC]
theorem Atc(b:BD)(ao:X)(e M a7:Nat)(c:Oy->Option (Nat×Int))(g:Q)(az:Fv g ao b)(ad:XM g M a7 c)(aM:(L b.BG)*24<=140737488351232)(aI:(L b.Bv)<=200000)(aH:e<=200000):
 Az Aa 122 #[ao,V C (e:Int),.map (I M)] g λaw v=>Ow g v/\∃ap an O,aw=F (W ap an O)/\Lg (λK=>g.heap.size<=K) v (W ap an O) (IG c b e):=by
 obtain⟨al,ah,ai⟩:=AB.1 Aiw;simp only[Aw0]at ai;obtain⟨ae,af,ag⟩:=ai;obtain⟨aV,aF,rfl,aP,ac,ab⟩:=az;obtain⟨a6,a5,rfl,aN,a0⟩:=ac.open;obtain⟨Y,U,rfl,aL,-⟩:=ab.open;have au:=λv (hb:Ow g v)=>ad.bG hb;have aE:=Ake;clear ad ac ab;obtain⟨f,n⟩:∃f,f=g.alloc (.cells #[S b.Bo,W a6 (L b.BG) a5,W Y (L b.Bv) U] 58):=⟨_,rfl⟩;have t:O9 (Ow g f):=by show Below _ _ _;rw[n];exact bA
 have aq:f.cell? ⟨g.heap.size,2,N⟩=I (W Y (L b.Bv) U):=by show _=_;rw[n];simp
 have aQ:f.heap.size=g.heap.size+1:=by rw[n];simp
 go_enter func122,ntmps122;go_wp2;rw[<-n];clear n;go_loopw [7,14] (λD l wr=>∃(a:Nat) (j:Option Addr) (i:Nat),a<=L b.BG/\D=W j a i/\l=V C (a:Int)/\O9 (Gr f wr 3 1 (W j a i) a (iC ((b.BG.take a).map λd=>(DA (c d.Bo)).1)))) (λ_ l _=>L b.BG-(intOf l).toNat)
 ·exact⟨0,N,0,Ai _,rfl,rfl,Ae _ _,Axc _ _ _ _⟩
 ·obtain⟨a,j,i,u,rfl,rfl,k⟩:=hrel;rename Q=>wr
  by_cases ak:a<L b.BG
  ·have aG:(0:Int)<=(a:Int):=O1;have aa:(a:Int)<(L b.BG:Int):=O1;have x:=t.o.trans (k.o.low.mono t.o.size);obtain⟨ib,aT,rfl,aR,aS,a2⟩:=a0 _ x a ak;have a4:=x.size;have a3:=k.o.low.size;have a1:=λa8=>(au _ (x.alloc a4 a8)).d1 b.BG[a].Bo a2;have B:iC ((b.BG.take (a+1)).map λd=>(DA (c d.Bo)).1)=iC ((b.BG.take a).map λd=>(DA (c d.Bo)).1)++[V C (DA (c b.BG[a].Bo)).1]:=by
    show _=_;rw[Av ak,AC,A1,Axs,Ac1]
   unfold IR at a1;generalize (DA (c b.BG[a].Bo)).1=q at*;generalize (DA (c b.BG[a].Bo)).2=q2 at*;generalize b.BG[a].Bo=nm at*;generalize b.BG[a].BH=ar at*;have z:=O0 k.o.row;generalize iC ((b.BG.take a).map λd=>(DA (c d.Bo)).1)=XS at*;go_wp2_with (first
    |(at_builtin;refine wpList_append_lies _ rfl (.tmp 18) (.tmp 24) 263 rfl f.heap.size 3 al _ 1 8 underlying263 ah ae af ag rfl O1 (W j a i) a XS rfl ((z.o.alloc _).alloc _) ⟨wr.heap.size+1,0,N⟩ 1 1 [V C q] rfl rfl (by have:=A5 (AM (wr.alloc (AW #[S nm,V C ar] 94)) (AW #[V C q] 3));simpa using this) (by intro a9 s;simp at s;rcases s with rfl;rfl) O1 O8 O1 O5 _ rfl ?_;intro ay am aD r p E G;have y:=k.o.next (bA.alloc O2 _) p r;clear r p E G))
   exact⟨⟨a+1,_,_,O1,rfl,by go_num,by rw[B];exact y⟩,by simp[intOf];omega⟩
  ·obtain rfl:a=L b.BG:=O1;have aJ:¬(L b.BG:Int)<(L b.BG:Int):=O1;have ax:=Bu k.o.low aq;have H:Gr f wr 3 1 (W j (L b.BG) i) (L b.BG) (iC (b.BG.map λd=>(DA (c d.Bo)).1)):=by
    have:=k.o;rw[AP]at this;exact this
   clear k u;have aj:(b.BG.map λd=>(DA (c d.Bo)).1).length=L b.BG:=O2;have av:∀a,a<=L b.Bv->b.BG.map (λd=>(DA (c d.Bo)).1)++(AV a).map (λh=>((e+h:Nat):Int))=(IG c b e).take (L b.BG+a):=λa u=>by
    unfold IG;rw[Azg,aj,Aw5 (by rw[aj];omega),show L b.BG+a-L b.BG=a by omega,<-Ay5,List.take_range,Ayj u]
   generalize b.BG.map (λd=>(DA (c d.Bo)).1)=NS at*;go_wp2;go_loopw [7,30] (λD l w=>∃(a:Nat) (j:Option Addr) (i:Nat),a<=L b.Bv/\D=W j (L b.BG+a) i/\l=V C (a:Int)/\O9 (Gr f w 3 1 (W j (L b.BG+a) i) (L b.BG+a) (iC (NS++(AV a).map λh=>((e+h:Nat):Int))))) (λ_ l _=>L b.Bv-(intOf l).toNat)
   ·exact⟨0,j,i,Ai _,rfl,rfl,by show Gr _ _ _ _ _ _ _;simpa using H⟩
   ·clear H ax;obtain⟨a,aC,aB,u,rfl,rfl,m⟩:=hrel;rename Q=>w
    by_cases aO:a<L b.Bv
    ·have k0:(0:Int)<=(a:Int):=O1;have am:(a:Int)<(L b.Bv:Int):=O1;have a3:=m.o.low.size;have B:iC (NS++(AV (a+1)).map λh=>((e+h:Nat):Int))=iC (NS++(AV a).map λh=>((e+h:Nat):Int))++[V C ((e+a:Nat):Int)]:=by
      show _=_;rw[Az0,AC,A1,Axs,<-AG,Ac1]
     have z:=O0 m.o.row;generalize iC (NS++(AV a).map λh=>((e+h:Nat):Int))=XS at*;go_wp2_with (first
      |(at_builtin;refine wpList_append_lies _ rfl (.tmp 33) (.tmp 37) 263 rfl f.heap.size 3 al _ 1 8 underlying263 ah ae af ag rfl O1 (W aC (L b.BG+a) aB) (L b.BG+a) XS rfl (z.o.alloc _) ⟨w.heap.size,0,N⟩ 1 1 [V C ((e:Int)+(a:Int))] rfl rfl (by simpa using A5 (AM w (AW #[V C ((e:Int)+(a:Int))] 3))) (by intro a9 s;simp at s;rcases s with rfl;rfl) O1 O8 O1 O5 _ rfl ?_;intro ay am aD r p E G;have y:=m.o.next bA p r;clear r p E G))
     exact⟨⟨a+1,_,_,O1,rfl,by go_num,by rw[B];exact y⟩,by simp[intOf];omega⟩
    ·obtain rfl:a=L b.Bv:=O1;have aK:¬(L b.Bv:Int)<(L b.Bv:Int):=O1;go_wp2;go_ret;refine⟨t.o.trans (m.o.low.mono t.o.size),_,_,_,rfl,?_⟩;have aa:=m.o.row;rw[av _ (Ac _),Aw5 (by rw[SX];omega)]at aa;have:=Ajk (ns:=IG c b e) (by rwa[SX]);exact this.fr λK hb _=>⟨O1,rfl⟩
def FD(f:Nat->Prop)(g:Q)(h:X)(b:List BJ):Prop:=∃c,∃e:List (BJ×X),f c/\h=W (I ⟨c,0,N⟩) (L b) (L b)/\e.map (·.1)=b/\FB g c (L b*3) (DB 3 TF (e.map Np))/\∀a∈e,∃d,f d/\a.2=W (I ⟨d,0,N⟩) (L a.1.alts) (L a.1.alts)/\FB g d (L a.1.alts*2) (DB 2 Vs (a.1.alts.map Oc))
theorem MC.x{v:X}{l:List BJ}(h:MC w n v l):FD (λb=>w<=b/\b<n.heap.size) n v l:=by
 let ⟨d,f,i,j,k,c,m⟩:=h
 refine⟨d,f,⟨i,c.lt⟩,j,k,c,λx o=>?_⟩;let ⟨e,p,g,a⟩:=m x o
 exact⟨e,⟨O1,a.lt⟩,g,a⟩
theorem FD.mono(d:FD v8 n p wl)(i:∀a,v8 a->ya a):FD ya n p wl:=by
 let ⟨b,c,e,f,g,h,j⟩:=d
 refine⟨b,c,i _ e,f,g,h,λl k=>?_⟩;grind
theorem FD.fr(l:FD v8 n p wl)(g:n.heap.size<=q.heap.size)(f:∀a,v8 a->a<n.heap.size->q.heap[a]?=n.heap[a]?):FD v8 q p wl:=by
 let ⟨h,j,d,m,o,e,r⟩:=l
 refine⟨h,j,d,m,o,e.bX (f _ d e.lt) g,λt s=>?_⟩;let ⟨i,b,k,c⟩:=r t s
 exact⟨i,b,k,c.bX (f _ b c.lt) g⟩
theorem FD.bG{w:Q}(b:FD v8 w p wl)(hb:Ow w n):FD v8 n p wl:=b.fr hb.size λa _ c=>hb.block a c
def PD(a:Bx×X):List X:=[V C a.1.BH,a.2]
structure I8 (a wr:Q) (c:X) (d:List Bx):Prop where
 low:Ow a wr
 l:∃L:List (Bx×X),L.map (·.1)=d/\wr.ownsRow a.heap.size 267 2 c L.length (L.flatMap PD)/\∀x∈L,FD (λb=>a.heap.size<=b/\b<wr.heap.size/\c.ownBlock≠I b) wr x.2 x.1.Bj
theorem I8.bG{w wr d:Q}{c:X}{a:List Bx}(i:I8 w wr c a)(hb:Ow wr d):I8 w d c a:=by
 let ⟨b,e,j,k,l⟩:=i
 exact⟨b.trans (hb.mono b.size),e,j,T1 k hb,λn m=>((l n m).bG hb).mono λo ⟨f,g,h⟩=>⟨f,Am g hb.size,h⟩⟩
theorem I8.next{wr w2:Q}(o:Ow n wr)(l:yb.map (·.1)=i)(m:wr.ownsRow n.heap.size 267 2 (W U w s) (L yb) (yb.flatMap PD))(q:∀x∈yb,FD (λa=>n.heap.size<=a/\a<wr.heap.size/\(W U w s).ownBlock≠I a) wr x.2 x.1.Bj)(hb:Ow wr Y)(r:FD (λa=>wr.heap.size<=a/\a<Y.heap.size) Y p ve.Bj)(g:Y.grownBy w2 (W U w s).ownBlock){d c:Nat}(D:(W U w s).ownBlock=I d\/d=Y.heap.size)(v:w=L yb)(G:w2.ownsRow n.heap.size 267 2 (W (I ⟨d,0,N⟩) (w+1) c) (w+1) (yb.flatMap PD++[V C ve.BH,p])):I8 n w2 (W (I ⟨d,0,N⟩) (w+1) c) (i++[ve]):=by
 have M:=hb.size;have u:=o.size;have t:=g.size;have H:∀a,(W U w s).ownBlock=I a->a<wr.heap.size:=λa b=>by
  rcases m.2 with⟨l,-⟩|⟨ve,z,B,y,-,E,-⟩
  ·rw[l]at b;cases b
  ·rw[y]at b;obtain rfl:ve=a:=by simpa[Awu]using b
   grind
 have K:(W (I ⟨d,0,N⟩) (w+1) c).ownBlock=I d:=rfl;refine⟨(o.trans (hb.mono u)).grown g O1 (λa (b:(W U w s).ownBlock=I a)=>PN m b),yb++[(ve,p)],O6,?_,λx e=>?_⟩
 ·rwa[Aw,AO,Bc,<-v,AH]
 ·rcases Ag.1 e with e|e
  ·refine((q x e).fr O1 λa ⟨f,h,k⟩ j=>?_).mono λa ⟨f,h,k⟩=>⟨f,O1,λb=>?_⟩
   ·rw[g.block a O1 (λb=>k b.symm)];exact hb.block a j
   grind
  ·obtain rfl:=Ax.1 e;refine(r.fr t λa ⟨f,h⟩ j=>?_).mono λa ⟨f,h⟩=>⟨O1,O1,λb=>?_⟩
   ·exact g.block a j (λb=>O6)
   grind
def E2(g:Nat)(e:Q)(j:X)(c:List Bx):Prop:=∃h i,j=W h (L c) i/\∀b (k:b<L c),∃a d f,g<=a/\h=I ⟨a,d,N⟩/\e.cell? ⟨a,d+b*2,N⟩=I (.int C c[b].BH)/\e.cell? ⟨a,d+b*2+1,N⟩=I f/\FD (λa=>g<=a) e f c[b].Bj
theorem E2.fr{c:Nat}{b d:Q}{j:X}{f:List Bx}(m:E2 c b j f)(s:b.heap.size<=d.heap.size)(i:∀a,c<=a->a<b.heap.size->d.heap[a]?=b.heap[a]?):E2 c d j f:=by
 let ⟨v,cap,l,q⟩:=m
 refine⟨v,cap,l,λt r=>?_⟩;let ⟨a,u,k,g,n,h,o,p⟩:=q t r
 have e:=i a g (AL h);exact⟨a,u,k,g,n,by rw[Ak e];exact h,by rw[Ak e];exact o,p.fr s i⟩
theorem E2.bG{a:Nat}{w:Q}(c:E2 a w p i)(hb:Ow w n):E2 a n p i:=c.fr hb.size λb _ d=>hb.block b d
theorem E2.set(c:E2 w n p i){a j:Nat}(d:a<w)(u:X):E2 w (n.setCell ⟨a,j,N⟩ u) p i:=c.fr O2 λb hb _=>AA _ _ _ _ O6
theorem E2.low(e:E2 w n p i)(t:s<=w):E2 s n p i:=by
 let ⟨q,b,d,k⟩:=e
 refine⟨q,b,d,λm l=>?_⟩;let ⟨a,o,c,r,f,g,h,j⟩:=k m l
 exact⟨a,o,c,O1,f,g,h,j.mono λa hb=>O1⟩
theorem I8.at{w wr:Q}{f:List Bx}(n:I8 w wr p f):E2 w.heap.size wr p f:=by
 let ⟨v,a,o,g,q⟩:=n
 subst o;have s:=λj (e:p.ownBlock=I j)=>PN g e;rcases U6 (Jk g) with⟨rfl,t⟩|⟨d,k,rfl,-,h⟩
 ·obtain rfl:a=[]:=Axy t;exact⟨N,0,rfl,λi b=>absurd b nofun⟩
 ·refine⟨_,k,by rw[An],λi b=>?_⟩;have r:i<L a:=by simpa using b
  let ⟨l,m⟩:=K2 (λc:Bx×X=>Value.int C c.1.BH) (λc=>c.2) a i r
  refine⟨d,0,a[i].2,s d rfl,rfl,?_⟩;rw[Bg,h _ O1,h _ O1,AN];exact⟨l,m,(q _ (Ao _)).mono λ_ u=>u.1⟩
theorem Afa:(Aa.info? 267).map (λa=>(a.zero,a.size,a.bytes))=I (I (T #[V C 0,W N 0 0]),2,32):=O3
def Jm(b:List Int)(a:Bx):Bx:={a with Bj:=a.Bj.map (Hj b)}
def FF(a:Oy->Option (Nat×Int)):List BD->Nat->List Bx
 |[],_=>[]
 |O::r,n=>O.Bv.map (Jm (IG a O n))++FF a r (n+L O.Bv)
theorem Sl(d:Oy->Option (Nat×Int)):∀a b c,FF d (a++b) c=FF d a c++FF d b (c+(a.map λe=>L e.Bv).sum)
 |[],b,c=>rfl
 |e::a,b,c=>by rw[Awy,FF,FF,Sl d a b,AG,A1,Axm,Nat.add_assoc]
theorem Ahr{f:Oy->Option (Nat×Int)}(a:w<L H):FF f (H.take (w+1)) 0=FF f (H.take w) 0++H[w].Bv.map (Jm (IG f H[w] (Cg H w))):=by
 rw[Av a,Sl];simp[FF,Cg]
theorem Rv(c:Oy->Option (Nat×Int)):∀b d,(FF c b d).length=(b.map λa=>L a.Bv).sum
 |[],_=>rfl
 |a::r,d=>by rw[FF,Aw,An,Rv c r,A1,Axm]
structure Qx (d a:Q) (c g:X) (f:List Int) (e:List Bx):Prop where
 go:I8 d a c e
 nu:Lg (λb=>d.heap.size<=b/\b<a.heap.size/\c.ownBlock≠I b) a g f
theorem UY(d:n.ownsRow w wp s p b wj)(a:p.ownBlock=I j):j<n.heap.size:=by
 rcases d.2 with⟨e,-⟩|⟨c,g,h,f,-,i,-⟩
 ·rw[e]at a;cases a
 ·rw[f]at a;obtain rfl:c=j:=by simpa[Awu]using a
  grind
theorem Ahn(c:N5 w wv){a:Nat}(b:w=a):N5 a wv:=b▸c
theorem Ak6(c:List BD)(aS:X)(an aR:Nat)(f:Oy->Option (Nat×Int))(h:Q)(w:IW h aS c)(aH:XM h an aR f)(aq:Md c)(bt:UC c)(aL:Cg c (L c)<=200000)(aE:∀D∈c,∀bm∈D.Bv,∀ax∈bm.Bj,N5 (L D.BG+L D.Bv) ax):
 Az Aa 71 #[aS,.map (I an)] h λe i=>Ow h i/\∃ah aQ v,e=F (W ah aQ v)/\E2 h.heap.size i (W ah aQ v) (FF f c 0):=by
 obtain⟨bJ,b8,aI⟩:=AB.1 Afa;simp only[Aw0]at aI;obtain⟨b5,b6,b7⟩:=aI;obtain⟨ah,bS,rfl,bD,aF⟩:=w;have bc:∀i,Ow h i->Jo i ah c:=λi hb=>aF.bG hb;have aZ:=O0 aq;have ce:=aq.n;have be:=O0 (λi (hb:Ow h i)=>aH.bG hb);have ba:=O0 aE;have a3:∀d,d<=L c->Cg c d<=200000:=λd b9=>by
  refine Ay ?_ aL;have:=Rv f (c.take d) 0;have U:=Rv f (c.take d++c.drop d) 0;rw[Sl,Aw,Axq]at U;unfold Cg;rw[AP];omega
 clear aF aq aH aE aL bD;go_enter func71,ntmps71;go_wp2;go_loopw [5,13] (λq az wr=>∃(d:Nat) (M:Option Addr) (K:Nat),d<=L c/\q=W M (Cg c d) K/\az=V C (d:Int)/\O9 (I8 h wr (W M (Cg c d) K) (FF f (c.take d) 0))) (λ_ az _=>L c-(intOf az).toNat)
 ·exact⟨0,N,0,Ai _,rfl,rfl,Ae _ _,[],rfl,Axc _ _ _ _,λcq bE=>by cases bE⟩
 ·obtain⟨d,M,K,b9,rfl,rfl,l⟩:=hrel;rename Q=>wr
  by_cases ab:d<L c
  ·have bY:(0:Int)<=(d:Int):=O1;have bZ:(d:Int)<(L c:Int):=O1;obtain⟨u,ck,bK,bI,bs,br,rfl,c0,ao,aC,au⟩:=(bc _ (Ae _ _)).cells ab;replace c0:=Bu l.o.low c0
   replace ao:=Bu l.o.low ao
   replace aC:=Bu l.o.low aC
   obtain⟨bX,bV,e,ca,b1⟩:=au.Bv.2.open;cases e;have bx:=a3 d O1;have bz:=a3 (d+1) O1;have a4:=O0 (Ra ab);rw[Ra ab]at bz;have bk:=O0 (Ahr (f:=f) ab);have bH:=l.o.low.size;have a6:=O0 (λj (hb:Ow h j)=>Atc c[d] _ (Cg c d) an aR f j (au.bG hb) (be.o j hb) (aZ.o.g _ (Ao _)).2 O1 bx);have bj:=O0 (bt c[d] (Ao _));have bb:=O0 (ba.o c[d] (Ao _));have bg:=O0 (SX f c[d] (Cg c d));have bd:=O0 l.o.low;have am:=O0 l.o;clear au l;generalize hns:IG f c[d] (Cg c d)=ns at*;have bQ:=O0 hns;generalize hm:Cg c d=m at*;generalize hgl2:c[d].Bv=gl at*;generalize c[d].Bo=El at*;generalize c[d].BG.length=iml at*;clear hns;go_wp2_with (first
    |(go_at_call 122;refine(a6.o _ (bd.o.alloc bH _)).mono ?_;rintro e aT ⟨r,ag,af,ae,rfl,aM⟩;have bC:=Bu r (CS wr #[S El,W bK iml bI,W bs (L gl) br] 58 2 _ rfl);have aW:=O0 (bA.trans (r.mono O2):Ow wr aT);have a7:=O0 aM;clear r aM))
   have a5:Qx h aT (W M m K) (W ag af ae) ns (FF f (c.take d) 0):=by
    obtain⟨av,O,ad,z,a0⟩:=id am.o;refine⟨am.o.bG aW.o,a7.o.fr λB aN aw=>⟨⟨?_,aw,λe=>?_⟩,rfl⟩⟩
    ·simp at aN;omega
    ·have:=UY z e;simp at aN;omega
   clear a7 a6 bC;go_loopw [5,25] (λq ay g=>∃(b:Nat) (p:Option Addr) (o:Nat),b<=L gl/\q=W p (m+b) o/\ay=V C (b:Int)/\O9 (Qx h g (W p (m+b) o) (W ag af ae) ns (FF f (c.take d) 0++(gl.take b).map (Jm ns)))) (λ_ ay _=>L gl-(intOf ay).toNat)
   ·exact⟨0,M,K,Ai _,rfl,rfl,by show Qx _ _ _ _ _ _;simpa using a5⟩
   ·clear a5 am;obtain⟨b,p,o,cd,rfl,rfl,n⟩:=hrel;rename Q=>g
    by_cases aJ:b<L gl
    ·have ci:(0:Int)<=(b:Int):=O1;have cj:(b:Int)<(L gl:Int):=O1;have bP:=O0 n.o.go.low;have ch:=n.o.go.low.size;obtain⟨gb,bW,E,aD,cc,rfl,bn,bo,bp,bq,ap,cf⟩:=b1 _ n.o.go.low b aJ;obtain⟨av,O,ad,z,a0⟩:=id n.o.go;have aG:(L O)=m+b:=by
      have:=congrArg L ad;rw[An,Aw,An,Awx,Rv,Ayj O1]at this;have U:((c.take d).map λD=>L D.Bv).sum=m:=hm;omega
     have a2:∀j,Ow g j->Az Aa 123 #[W E aD cc,W ag af ae] j λe i=>Ow j i/\∃a1,e=F (.slice (I ⟨a1,0,N⟩) gl[b].Bj.length gl[b].Bj.length)/\MC j.heap.size i (.slice (I ⟨a1,0,N⟩) gl[b].Bj.length gl[b].Bj.length) (Jm ns gl[b]).Bj:=(λj (hb:Ow g j)=>Age gl[b].Bj _ ns _ j (ap.bG hb) (n.o.nu.at.bG hb) (bj.o gl[b] (Ao _)) (λax b2=>Ahn (bb.o gl[b] (Ao _) ax b2) bg.o.symm));obtain⟨bU,bT,e,-,-⟩:=ap.open;have bw:aD=gl[b].Bj.length:=by injection e
     have bl:(gl.take (b+1)).map (Jm ns)=(gl.take b).map (Jm ns)++[Jm ns gl[b]]:=by
      show _=_;rw[Av aJ,AC];rfl
     have bi:∀t aj q s v,Ow g t->FD (λu=>g.heap.size<=u/\u<t.heap.size) t q (Jm ns gl[b]).Bj->t.grownBy aj (W p (m+b) o).ownBlock->((W p (m+b) o).ownBlock=I s\/s=t.heap.size)->aj.ownsRow h.heap.size 267 2 (W (I ⟨s,0,N⟩) (m+b+1) v) (m+b+1) (O.flatMap PD++[.int C gl[b].BH,q])->Qx h aj (W (I ⟨s,0,N⟩) (m+b+1) v) (W ag af ae) ns (FF f (c.take d) 0++(gl.take (b+1)).map (Jm ns)):=by
      intro t aj q s v hb bu y G ac;refine⟨?_,n.o.nu.fr λB ⟨ai,cm,H⟩ aw=>⟨⟨ai,?_,?_⟩,?_⟩⟩
      ·rw[bl,<-AG];exact I8.next av ad z a0 hb bu y G aG.symm ac
      ·have:=hb.size;have:=y.size;omega
      ·intro U;obtain rfl:s=B:=by simpa[Awu]using U
       rcases G with w|w
       ·exact H w
       ·have:=hb.size;omega
      ·rw[y.block B (by have:=hb.size;omega) (λe=>H e.symm)];exact hb.block B aw
     have a9:=O0 z;rw[aG]at a9;have a8:=O0 (λB (e:(W p (m+b) o).ownBlock=I B)=>UY z e);clear ap e av ad z a0 n;subst bw;generalize (Jm ns gl[b]).Bj=mc at*;generalize gl[b].Bj.length=cl at*;generalize gl[b].Bo=nm at*;generalize gl[b].BH=ar at*;generalize gl[b].exp=ex at*;generalize O.flatMap PD=XS at*;go_upto_region 9 with fail
     obtain⟨k,x⟩:∃k,k=g.alloc (.cells #[S nm,V C ar,A ex,W E cl cc] 97):=⟨_,rfl⟩;have r:Ow g k:=by rw[x];exact bA
     have aP:k.heap.size=g.heap.size+1:=by rw[x];simp
     have bM:k.drew.cell? ⟨g.heap.size,1,N⟩=I (V C ar):=by
      show k.cell? _=_;rw[x];exact CS _ _ _ 1 _ rfl
     have bN:k.drew.cell? ⟨g.heap.size,3,N⟩=I (W E cl cc):=by
      show k.cell? _=_;rw[x];exact CS _ _ _ 3 _ rfl
     rw[<-x];have aX:=O0 r.drew;have aY:=O0 (a2 k.drew r.drew);have aB:k.drew.heap.size=g.heap.size+1:=aP;clear x r aP a2 bn bo bp bq;go_region_held_law (λi=>i.cell? ⟨g.heap.size,1,N⟩=I (V C ar)/\i.cell? ⟨g.heap.size,3,N⟩=I (W E cl cc)) (refine⟨?_,?_⟩<;>(first|assumption|(exact BM _ _ _ _ _ O7)))
      (first
       |(go_at_call 123;refine aY.o.mono ?_;rintro e w5 ⟨Y,ak,rfl,aK⟩;have ai:=Bu Y bM;have H:=Bu Y bN;have al:=O0 (aX.o.trans (Y.mono (by have:=aB;omega)):Ow g w5);have bf:=O0 ((aK.bG ((Ae _ _).alloc (Ac _) (.cells #[V C ar,W (I ⟨ak,0,N⟩) cl cl] 267))).x.mono (λu hb=>(⟨by have:=aB;omega,hb.2⟩:g.heap.size<=u/\u<_)));have bG:=al.o.size;clear Y aK)
       |(refine step_append_lies _ rfl (.tmp 29) (.tmp 37) 68 rfl h.heap.size 267 bJ _ 2 32 underlying68 b8 b5 b6 b7 rfl O1 (W p (m+b) o) (m+b) XS Od ((T1 a9.o al.o).alloc _) ⟨w5.heap.size,0,N⟩ 1 1 [V C ar,W (I ⟨ak,0,N⟩) cl cl] Od rfl (by have w:=A5 (AM w5 (AW #[V C ar,W (I ⟨ak,0,N⟩) cl cl] 267));simpa using w) (by intro cp aO;simp at aO;rcases aO with rfl|rfl<;>rfl) O1 O8 O1 O5 _ rfl ?_;intro bO ao aV ac aa G bB;have bh:=O0 (bi _ _ _ _ _ (al.o.alloc bG _) bf.o aa G ac);have cn:aV.cell? ⟨g.heap.size,1,N⟩=I (V C ar):=(by rw[Ak (a:=⟨g.heap.size,1,N⟩) (aa.block _ (AL (BM _ _ _ _ _ ai)) (λe=>absurd (a8.o _ e.symm) (Az1 _)))];exact BM _ _ _ _ _ ai);have co:aV.cell? ⟨g.heap.size,3,N⟩=I (W E cl cc):=(by rw[Ak (a:=⟨g.heap.size,3,N⟩) (aa.block _ (AL (BM _ _ _ _ _ H)) (λe=>absurd (a8.o _ e.symm) (Az1 _)))];exact BM _ _ _ _ _ H);clear ac aa G bB))
     all_goals(try go_wp2)
     all_goals go_roundw
     all_goals first
      |exact⟨b+1,_,_,O1,rfl,by go_num,bh.o⟩
      |(simp[intOf];omega)
    ·obtain rfl:b=L gl:=O1;have b0:¬(L gl:Int)<(L gl:Int):=O1;go_wp2;go_roundw
     case rel=>exact⟨d+1,p,o,O1,by rw[a4.o],by go_num,by show I8 _ _ _ _;have y:=n.o.go;rw[AP]at y;rw[bk.o,a4.o];exact y⟩
     case measure=>simp[intOf];omega
  ·obtain rfl:d=L c:=O1;have b0:¬(L c:Int)<(L c:Int):=O1;go_wp2;go_ret;have:=l.o.at;rw[AP]at this;exact⟨l.o.low,_,_,_,rfl,this⟩
theorem Aaj{i:List Dv}:∀{e:List Bx} {b:Oy},GU i b e=true->∀c∈e,Cy b c.Bo<0
 |g::r,b,h,c,a=>by
  simp[GU,Bh]at h;let ⟨⟨⟨⟨⟨_,d⟩,_⟩,j⟩,k⟩,f⟩:=h
  rcases AX.1 a with rfl|a
  ·exact(Og _ _).1 d
  ·exact L0 ((Og _ _).1 d) (Aaj f c a)
theorem Acp{l:List Dv}:∀{c:List Bx} {e:Oy},GU l e c=true->(∀b∈c,IZ b.Bj=true)/\c.Pairwise λf i=>f.Bo≠i.Bo
 |[],_,_=>⟨λ_ a=>absurd a nofun,List.Pairwise.nil⟩
 |g::r,e,h=>by
  simp[GU,Bh]at h;let ⟨⟨⟨⟨⟨_,_⟩,_⟩,m⟩,n⟩,d⟩:=h
  have k:=Acp d;refine⟨λb a=>?_,List.Pairwise.cons (λb a j=>?_) k.2⟩
  ·grind
  ·have:=(Aaj d) b a;rw[<-j,(KQ _ _).2 rfl]at this;omega
theorem Auh(b:ED D nf na=true):(D=1->0<=nf/\nf<1000000000000000)/\L na<=256/\∀a∈na,0<=a.tag/\a.tag<256/\0<=a.BU/\a.BU<65536:=by
 unfold ED at b;split at b
 ·have e:(L na==0)=true->L na<=256/\∀a∈na,0<=a.tag/\a.tag<256/\0<=a.BU/\a.BU<65536:=λb=>by
   grind
  have f:D=1->BP D.toNat 0=2/\BP D.toNat 1=0/\BP D.toNat 2<1000000000000000:=λc=>by
   subst c;decide
  split at b
  ·grind
  ·split at b
   ·grind
   ·split at b
    ·simp[Bh,Hl,decide_eq_true_eq,JQ,Axk]at b;refine⟨λc=>O1,b.2.1.2,λa d=>?_⟩;have:=b.2.2.1 a d;simp[I1,Bh,decide_eq_true_eq]at this;omega
    grind
 ·cases b
structure U1 (c:BD):Prop where
 ap:c.Bv.Pairwise λa b=>a.Bo≠b.Bo
 ix:∀g∈c.Bv,∀i∈g.Bj,N5 (L c.BG+L c.Bv) i
 up:∀g∈c.Bv,∀i∈g.Bj,i.op=1->0<=i.a/\i.a<1000000000000000
 ne:∀g∈c.Bv,0<L g.Bj/\L g.Bj<=65536
theorem SG{d:Type}(a:d->Bool):∀c b,(B4 (λ_=>a) c b).isSome=c.any a
 |[],_=>rfl
 |x::r,b=>by
  rw[B4,List.any_cons];cases a x with
  |true=>rfl
  |false=>rw[if_neg nofun,SG a r];rfl
theorem Amj(a:List BD)(b:BD):HM (D7 a (L a)) b=G8 a b:=by
 unfold HM G8;rw[SG (λc:Dv=>(D7 a (L a) c.Bo).isNone)];congr 1
 funext c
 rw[Re];simp
theorem Akk(a:List BD)(c:BD):HZ (D7 a (L a)) c=JG a c:=by
 unfold HZ JG;rw[SG (λb:Dv=>decide ((DA (D7 a (L a) b.Bo)).2≠b.BH))];congr 1
 funext b
 rw[Re];rcases Gj a b.Bo with _|⟨d,e,f⟩<;>rfl
theorem Air(g:0<=D/\D<((L w1.BG+L w1.Bv:Nat):Int))(d:G8 H w1=false):G2 H w1 w D=(IG (D7 H (L H)) w1 w)[D.toNat]?.getD 0:=by
 obtain⟨a,rfl⟩:∃a:Nat,D=a:=⟨D.toNat,O1⟩;unfold G2 IG;by_cases c:(a:Int)<L w1.BG
 ·have b:a<L w1.BG:=O1;rw[if_pos c,Bd,A8 (by simpa using b),Awt,Af b];simp[Option.bind_some,Azb,Ax2];have:=Ax9.1 d w1.BG[a] (Ao _);rw[Re];rcases hx:Gj H w1.BG[a].Bo with _|⟨h,e,f⟩
  ·grind
  ·rfl
 grind
theorem Afr(b:N5 (L w1.BG+L w1.Bv) wv)(c:G8 H w1=false):Es H w1 w wv=Hj (IG (D7 H (L H)) w1 w) wv:=by
 unfold Es Hj;split
 ·rename_i a
  rw[Air (b.g a) c]
 ·rfl
theorem Abf{b:List BD}:∀{c:List BD} {d:Nat},(∀a∈c,U1 a/\G8 b a=false)->JM b c d=FF (D7 b (L b)) c d
 |[],_,_=>rfl
 |a::r,d,h=>by
  rw[JM,FF,Abf λm k=>h m (Awv _ k)];congr 1
  refine Ays λe i=>?_;unfold J4 Jm;congr 1
  refine Ays λl j=>?_;let ⟨f,g⟩:=h a (Aw3 ..)
  exact Afr (f.ix e i l j) g
theorem WG(d:∀c∈H,U1 c):Cg H (L H)<=sz H:=by
 unfold Cg sz;have e:∀(b:List Bx),(∀a∈b,0<L a.Bj)->L b<=(b.map λa=>L a.Bj).sum:=by
  intro b;induction b with
  |nil=>simp
  |cons a r ih=>
   grind
 induction H with
 |nil=>simp
 |cons c r ih=>
  have:=ih λh g=>d h (Awv _ g);have:=e c.Bv λa f=>((d c (Aw3 ..)).ne a f).1;simp[A1,Axm,Ma]at*;omega
def U0(b:List BD):Prop:=∀a∈b,L a.Bv*56<=140737488351232/\L a.BG*24<=140737488351232
def vu:Nat->Nat->List UInt8
 |0,n=>[UInt8.ofNat n]
 |k+1,n=>if n<128 then [UInt8.ofNat n] else UInt8.ofNat (n % 128+128)::vu k (n / 128)
abbrev vn(a:Nat):List UInt8:=vu 9 a
theorem Zz:∀c a b,b<128 ^ (a+1)->(vu c b).length<=a+1
 |0,_,_,_=>by simp[vu]
 |c+1,a,b,h=>by
  rw[vu];split
  ·simp
  ·match a,h with
   |0,h=>omega
   |a+1,h=>
    have:=Zz c a (b / 128) O1;grind
def Tl(b:Oy)(a:Nat)(c:List UInt8):Prop:=a<=b.size/\b.data.toList.drop a=c
theorem Tl.cons(a:Tl m w (vk::o)):∃c,m[w]=vk/\Tl m (w+1) o:=by
 let ⟨d,b⟩:=a
 have c:w<L m.data.toList:=by
  rcases Aw8 w (L m.data.toList) with a|a
  ·exact a
  ·rw[Ax0 a]at b;cases b
 rw[A2 c]at b;injection b with h3 h4;exact⟨by simpa using c,by rw[<-h3];rfl,Nat.succ_le_of_lt (by simpa using c),h4⟩
theorem Tl.nil(a:Tl m w []):w=m.size:=by
 have:=List.drop_eq_nil_iff.1 a.2;simp[Ax5]at this;exact Nat.le_antisymm a.1 this
theorem Tl.b1(b:Tl m w (va++o)):w+L va<=m.size/\m.extract w (w+L va)=⟨va.toArray⟩/\Tl m (w+L va) o:=by
 let ⟨c,a⟩:=b
 have hl:m.size-w=L va+L o:=by
  have:=congrArg L a;simpa using this
 refine⟨O1,?_,O1,?_⟩
 ·apply Axv;apply Array.ext';simp_all
 ·rw[<-List.drop_drop,a,List.drop_left]
abbrev eA(c:Nat)(d:Oy)(h:List UInt8):As:=⟨[c],λi=>∃a:Nat,Tl d a h/\RS i c d a,λ⟨_,_,b⟩ _ f=>Ax.1 f▸cells_of_cell b.c0,λ⟨a,b,g⟩ _ e=>⟨a,b,g.bX (e _ O2)⟩⟩
theorem Bz.goto(a:Bz w n wg q [eA s m o])(d:Tl m b va):Bz w n wg (q.setCell ⟨s,1,N⟩ (V C b)) [eA s m va]:=
 a.set (L1:=[]) rfl rfl (by
  let ⟨f,e,c⟩:=a.mem (A:=eA s m o) O2
  exact⟨b,d,c.at b⟩)
theorem QU(a:s<128):vu w s=[UInt8.ofNat s]:=by
 cases w with
 |zero=>rfl
 |succ w=>rw[vu,if_pos a]
theorem Yn(a:¬s<128):vu (w+1) s=UInt8.ofNat (s % 128+128)::vu w (s / 128):=by rw[vu,if_neg a]
theorem Yr(a:w<256):(UInt8.ofNat w).toNat=w:=by simp_all
theorem Kf(a:CO m=true):0<m.size/\m.size<=16:=by
 simp[CO,Bh,decide_eq_true_eq]at a;omega
theorem OL{f:List UInt8}(aw:m.size<=100000)(q:Sp w n [eA s m (vn b++f)])(av:b<18446744073709551616):Az Aa 157 #[J (I ⟨s,0,N⟩)] n λh af=>h=F (R #[V .u64 b,.nilIface])/\Bz w n [eA s m (vn b++f)] af [eA s m f]:=by
 have ai:=O0 q.ca;obtain⟨ax,ae,z⟩:=q.mem (A:=eA s m (vn b++f)) O2;have c0:=z.c0;have aj:=z.c1;clear q z ae;go_enter func157,ntmps157;go_wp2;go_loopw [5,12] (λah E wr=>∃(a l:Nat),E=V C (a:Int)/\ah=V .u64 (l:Int)/\a<=9/\O9 (l=b % 128 ^ a/\(a=0\/b / 128 ^ a≠0))/\O9 (Bz w n [eA s m (vn b++f)] wr [eA s m (vu (9-a) (b / 128 ^ a)++f)])) (λ_ E _=>10-(intOf E).toNat)
 ·exact⟨0,0,rfl,rfl,O1,⟨O1,.inl rfl⟩,O6⟩
 ·obtain⟨a,l,rfl,rfl,aq,g,K⟩:=hrel;rename Q=>wr
  obtain⟨c,i,k⟩:=K.o.mem (A:=eA s m _) (Ax.2 rfl);have ar:(a:Int)<10:=O1;have H:∀D G,Tl m (c+1) G->Bz w n [eA s m (vn b++f)] ((wr.drewN D).setCell ⟨s,1,N⟩ (V C ((c:Int)+1))) [eA s m G]:=λD G ab=>(K.o.bG (below_drewN (Ae _ _) D)).goto ab;have p:∀e:Nat,e % 128=b / 128 ^ a % 128->bits .or .u64 (l:Int) (IntKind.u64.wrap ((e:Int) % 128*2 ^ (7*a)))=((b % 128 ^ (a+1):Nat):Int):=λe hb=>by
   have B:=Nat.mod_lt b (show 0<128 ^ a from Nat.pow_pos O1);have ao:b / 128 ^ a % 128*128 ^ a<=b:=Ay (Axt _ (Nat.mod_le _ _)) (Nat.div_mul_le_self _ _);have ap:=Nat.mod_le b (128 ^ a);rw[Ajx l e a (g.o.1▸B) (by rw[hb];omega) (by rw[g.o.1];omega),hb,g.o.1,Bae,Nat.mod_mul,Nat.mul_comm]
  have ak:=k.c0;have al:=k.c1;have am:=k.f1;have x:=g.o;by_cases d:b / 128 ^ a<128
  ·rw[QU d]at i;obtain⟨ad,hb,t⟩:=i.cons;have j:m[c].toNat=b / 128 ^ a:=by rw[hb,Yr O1]
   have r:a=9->b / 128 ^ a<=1:=λh=>by subst h;omega
   have u:=x.2;have O:b % 128 ^ (a+1)=b:=Nat.mod_eq_of_lt (by rw[Bae];exact(Nat.div_lt_iff_lt_mul (Nat.pow_pos O1)).1 d|>λq=>O1);have y:=p m[c].toNat (by rw[j]);rw[O]at y;have ac:((c:Int)==(m.size:Int))=false:=O6;have Y:(0:Int)<=(c:Int):=O1;have B:(c:Int)<(m.size:Int):=O1;have v:=O0 y;rw[<-j]at d r u;have U:=O0 (Aw6 d (Aw6 r u));clear hb i x k g p y j d r u;go_wp2;go_quiet (fail);go_wp2;go_quiet (fail);obtain⟨d,r,u⟩:=U.o;generalize m[c].toNat=e at*;have aa:¬(128:Int)<=(e:Int):=O1;go_wp2;all_goals first
    |(exfalso;omega)
    |(exfalso;simp only[beq_iff_eq]at*;omega)
    |(go_ret2;exact⟨congrArg (λag=>Ending.returned (R #[V .u64 ag,.nilIface])) v.o,H _ _ t⟩)
  ·have au:a<=8:=by
    grind
   rw[show 9-a=(8-a)+1 by omega,Yn d]at i;obtain⟨ad,hb,t⟩:=i.cons;have j:m[c].toNat=b / 128 ^ a % 128+128:=by rw[hb,Yr O1]
   have ac:((c:Int)==(m.size:Int))=false:=O6;have Y:(0:Int)<=(c:Int):=O1;have B:(c:Int)<(m.size:Int):=O1;have v:=O0 (p m[c].toNat O1);have M:=O0 d;have h:b / 128 ^ a / 128=b / 128 ^ (a+1):=by rw[Baj,Bae]
   rw[h,show 8-a=9-(a+1) by omega]at t;have an:128<=m[c].toNat:=O1;clear hb i x k g p d j h;go_wp2;go_quiet (fail);go_wp2;go_quiet (fail);generalize m[c].toNat=e at*;have aa:(128:Int)<=(e:Int):=O1;go_wp2;refine⟨⟨a+1,b % 128 ^ (a+1),rfl,congrArg _ v.o,O1,⟨rfl,.inr ?_⟩,H _ _ t⟩,by simp[intOf];omega⟩;have:=M.o;rw[Bae,<-Baj];omega
theorem Ks{n:Nat}{a:List UInt8}{b:Q}{lw hi:Nat}(i:m.size<=100000)(d:Sp w b [eA s m (vn n++a)])(l:lw<=n)(p:n<=hi)(q:hi<=100000):Az Aa 160 #[J (I ⟨s,0,N⟩),V C lw,V C hi] b λc j=>c=F (R #[V C n,.nilIface])/\Bz w b [eA s m (vn n++a)] j [eA s m a]:=by
 have f:=OL i d O1;let ⟨r,t,h⟩:=d.mem (A:=eA s m (vn n++a)) O2
 have k:=h.c1;go_enter func160,ntmps160;go_wp2_with (first|(go_at_call 157;apply f.mono;rintro c u ⟨rfl,e⟩;have g:=O0 e;clear e))
 all_goals first
  |(exfalso;omega)
  |(go_ret2;exact⟨rfl,g.o⟩)
theorem Wi{b:List UInt8}(t:m.size<=100000)(g:Sp w n [eA s m (vn w0.size++(w0.data.toList++b))])(j:CO w0=true):Az Aa 114 #[J (I ⟨s,0,N⟩)] n λe l=>e=F (R #[S w0,.nilIface])/\Bz w n [eA s m (vn w0.size++(w0.data.toList++b))] l [eA s m b]:=by
 have u:=Kf j;have q:=OL t g O1;obtain⟨E,x,f⟩:=g.mem (A:=eA s m _) (Ax.2 rfl);have c0:=f.c0;have r:=f.c1;have B:((w0.size:Int)==0)=false:=by rw[beq_eq_false_iff_ne];omega
 clear g f x;obtain⟨K,M⟩:=u;have p:∀a,Tl m a (w0.data.toList++b)->a+w0.size<=m.size/\m.extract a (a+w0.size)=w0/\Tl m (a+w0.size) b:=λa d=>by
  have:=d.b1;rw[Ax5]at this;exact this
 go_enter func114,ntmps114;go_wp2_with (first
  |(go_at_call 157;refine q.mono ?_;rintro e H ⟨rfl,i⟩;obtain⟨a,d,c⟩:=i.mem (A:=eA s m _) (Ax.2 rfl);obtain⟨G,k,v⟩:=p a d;have y:=c.c0;have z:=c.c1;have D:=c.f1;have h:=O0 k;clear d c k c0 r))
 all_goals first
  |(exfalso;omega)
  |skip
 go_quiet (fail);go_wp2;all_goals first
  |(exfalso;omega)
  |(exfalso;simp only[beq_iff_eq]at*;omega)
  |skip
 go_quiet (fail);go_wp2_with (first
  |(go_at_call 105;refine(K6 _ _ (by rw[h.o];unfold maxLen;omega)).mono ?_;rintro e l ⟨rfl,rfl⟩;rw[h.o,j]))
 go_ret2
 refine⟨rfl,?_⟩;exact(i.bG (below_drewN (Ae _ _) _)).goto v
theorem Abx{f:List UInt8}{iv:X}(t:m.size<=100000)(d:Sp w n [eA s m (vn w0.size++(w0.data.toList++f))])(i:CO w0=true)(h:Fc w0 v1=true)(g:∀b,AF [s] n b->Az Aa 153 #[iv,S w0] b λa j=>a=F (A false)/\Ow b j):Az Aa 159 #[J (I ⟨s,0,N⟩),S v1,iv] n λa b=>a=F (R #[S w0,.nilIface])/\Bz w n [eA s m (vn w0.size++(w0.data.toList++f))] b [eA s m f]:=by
 have q:=Wi t d i;have y:(Op.bytesLess w0.toList v1.toList||w0.toList==v1.toList)=false:=by rw[le_eq,h];rfl
 have p:=O0 g;let ⟨z,u,c⟩:=d.mem (Ax.2 rfl)
 have c0:=c.c0;have x:=c.c1;clear d c u i h g;go_enter func159,ntmps159;go_wp2_with (first
  |(go_at_call 114;apply q.mono;rintro a v ⟨rfl,e⟩;have r:=O0 e;have l:=p.o v (by have:=e.af;simpa[fp]using this);clear e)
  |(go_at_call 153;apply l.mono;rintro a j ⟨rfl,hb⟩;have k:=O0 hb;clear hb))
 go_ret2
 exact⟨rfl,r.o.bG k.o⟩
theorem Ajn(a:Nat)(c:Q)(i:a<18446744073709551616):Az Aa 295 #[V .u64 (a:Int)] c λe f=>e=F (V C (Pc a))/\f=c:=by
 have d:∀b:Int,(a % 2=0->b=a / 2)->(a % 2≠0->b=-(a / 2)-1)->b=Pc a:=by
  intro b g h;unfold Pc;omega
 go_wp2;all_goals simp[beq_iff_eq,beq_eq_false_iff_ne,ne_eq]at*
 all_goals go_ret
 all_goals refine⟨Ajr (d _ ?_ ?_),rfl⟩<;>omega
structure Seen (b:Q) (a:Nat) (d:List Co):Prop where
 lt:a<b.heap.size
 f:∀t,t<256->b.frozen? ⟨a,t,N⟩=false
 c:∀t,t<256->b.cell? ⟨a,t,N⟩=I (A (d.any λx=>x.tag==(t:Int)))
theorem Seen.zero(a:Q):Seen (a.alloc (.cells zeroCells421 421)) a.heap.size []:=⟨O2,λc _=>O2,λc b=>by rw[zeroCells];simp[b]⟩
theorem Seen.bX{w':Q}(b:Seen n w na)(a:w'.heap[w]?=n.heap[w]?):Seen w' w na:=by
 refine⟨?_,λe d=>by rw[AJ a];exact b.f e d,λe d=>by rw[Ak a];exact b.c e d⟩;have g:=b.c 0 O1;rw[<-Ak a]at g;exact AL g
theorem Seen.next(a:Seen n w na)(d g:Nat)(h:d<256):Seen (n.setCell ⟨w,d,N⟩ (A true)) w (na++[⟨d,g⟩]):=by
 refine⟨by simpa using a.lt,λk b=>by rw[Aq];exact a.f k b,λk b=>?_⟩;by_cases e:k=d
 ·subst e;rw[Au _ _ _ (a.c k b)];simp
 ·rw[Ah _ _ _ _ (Cv O1),a.c k b,List.any_append];grind
def fo(a:Int):Nat:=if 0<=a then (2*a).toNat else (-2*a-1).toNat
theorem Su(a:-9223372036854775808<=D)(b:D<=9223372036854775807):Pc (fo D)=D/\fo D<18446744073709551616:=by
 unfold Pc fo;grind
abbrev aU(a:Co):List UInt8:=vn a.tag.toNat++vn a.BU.toNat
structure Al (d:List Co):Prop where
 n:0<L d/\L d<=256
 t:d.Pairwise λa b=>a.tag≠b.tag
 c:∀b∈d,0<=b.tag/\b.tag<=255/\0<=b.BU/\b.BU<=65535
abbrev sA(b:Nat)(f:List Co):As:=⟨[b],λg=>Seen g b f,λa _ e=>Ax.1 e▸cells_of_cell (a.c 0 O1),λa _ d=>a.bX (d _ O2)⟩
theorem Al.new(c:Al na){a:Nat}(e:a<L na):((na.take a).any λb=>b.tag==na[a].tag)=false:=by
 rw[Ax9];intro b f;obtain⟨g,d,rfl⟩:=AQ f;rw[Awx]at d;simp[List.getElem_take,beq_iff_eq];refine Ayg.1 c.t g a ?_ e ?_<;>omega
theorem KH{e size:Nat}(a:Bz w n wg q ng):Bz w n wg q (pA e size (W N 0 0) 0 []::ng):=by
 have c:∀b:List As,fp (pA e size (W N 0 0) 0 []::b)=fp b:=λb=>rfl;exact⟨a.af,⟨a.s.z,λf d=>(AX.1 d).elim (λd=>d▸Axc ..) (a.s.h f),(c _).symm▸a.s.nd,(c _).symm▸a.s.rg⟩,(c _).symm▸a.nb⟩
theorem Bz.en(a:Bz w n wg q (sh::yn::ng)):Bz w n wg q (sh::ng):=by
 have c:∀b∈fp (sh::ng),b∈fp (sh::yn::ng):=λb hb=>by
  simp[fp,AD,Ag]at hb ⊢;grind
 refine⟨a.af,⟨a.s.z,λe g=>a.s.h e ((AX.1 g).elim (λf=>f▸.head _) λa=>.tail _ (.tail _ a)),?_,λd h=>a.s.rg d (c d h)⟩,λb hb=>a.nb b (c b hb)⟩;have:=a.s.nd;simp[fp,AD,AY,Ag]at this ⊢;grind
theorem Bz.perm(a:Bz w n wg q ng)(c:yk.Perm ng):Bz w n wg q yk:=by
 have b:(fp yk).Perm (fp ng):=c.flatMap_right _;exact⟨a.af,⟨a.s.z,λd f=>a.s.h d (c.mem_iff.1 f),b.nodup_iff.2 a.s.nd,λh g=>a.s.rg h (b.mem_iff.1 g)⟩,λe hb=>a.nb e (b.mem_iff.1 hb)⟩
theorem Bz.re{L2:List As}(a:Bz w n wg q ng)(b:fp L2=fp ng)(d:∀c∈L2,c.h q):Bz w n wg q L2:=⟨a.af,⟨a.s.z,d,b▸a.s.nd,b▸a.s.rg⟩,b▸a.nb⟩
theorem Afo{b:List UInt8}(j:m.size<=100000)(f:Sp w n [eA s m (vn (fo D)++b)])(g:-9223372036854775808<=D)(h:D<=9223372036854775807):Az Aa 279 #[J (I ⟨s,0,N⟩)] n λa k=>a=F (R #[V C D,.nilIface])/\Bz w n [eA s m (vn (fo D)++b)] k [eA s m b]:=by
 let ⟨l,c⟩:=Su g h
 have d:=OL j f c;have e:=O0 λn=>Ajn (fo D) n c;go_enter func279,ntmps279;go_wp2_with (first
  |(apply d.mono;rintro a p ⟨rfl,i⟩)
  |(apply (e.o _).mono;rintro a q ⟨rfl,rfl⟩))
 go_ret2
 exact⟨rfl,i⟩
theorem Awk{g:Nat}{s:Oy}{q:List UInt8}{y:Q}(K:s.size<=100000)(t:Sp w y [eA g s (vn (L na)++(na.flatMap aU++q))])(l:Al na):Az Aa 280 #[J (I ⟨g,0,N⟩)] y λe a0=>∃j,e=F (R #[j,.nilIface])/\Bz w y [eA g s (vn (L na)++(na.flatMap aU++q))] a0 [pA 184 2 j (L na) (na.flatMap Gs),eA g s q]:=by
 have Y:=Ks (lw:=1) (hi:=256) K t (by have:=l.n;omega) (by have:=l.n;omega) O1;have a8:=l.n;clear t;go_enter func280,ntmps280;go_wp2_with (first
  |(go_at_call 160;refine Y.mono ?_;rintro e b ⟨rfl,au⟩;clear Y))
 go_loopw [6,21] (λay O wr=>∃(a:Nat) (j:X),O=V C a/\ay=j/\a<=L na/\O9 (Bz w y [eA g s (vn (L na)++(na.flatMap aU++q))] wr [pA 184 2 j a ((na.take a).flatMap Gs),sA b.heap.size (na.take a),eA g s ((na.drop a).flatMap aU++q)])) (λ_ O _=>L na-(intOf O).toNat)
 ·have ar:=au.box (A:=sA b.heap.size []) (.cells zeroCells421 421) rfl (Seen.zero b);refine⟨0,_,rfl,rfl,Ai _,?_⟩;have k:=KH (e:=184) (size:=2) ar;exact k
 ·obtain⟨a,j,rfl,rfl,a5,D⟩:=hrel;rename Q=>wr
  by_cases u:a<L na
  ·have av:(a:Int)<(L na:Int):=O1;obtain⟨aj,ak,al,am⟩:=l.c _ (Ao u);have B:=O0 (l.new u);have E:O9 (na.take (a+1)=na.take a++[na[a]]):=Av u;have r:O9 ((na.drop a).flatMap aU=vn na[a].tag.toNat++(vn na[a].BU.toNat++(na.drop (a+1)).flatMap aU)):=by
    show _=_;rw[A2 u,AD,AG]
   obtain⟨d,p⟩:=A7 aj;obtain⟨U,i⟩:=A7 al;obtain⟨x,ai⟩:∃x,x=na[a]:=⟨_,rfl⟩;obtain⟨aB,aC⟩:=x;rw[<-ai]at p i ak am B E r;simp only at p i ak am B r;subst p i;rw[Bd,Bd]at r;have h:=D.o;rw[r.o,AG,AG]at h;obtain⟨a9,p,H⟩:=h.mem (.tail _ (.tail _ (.head _)));have c0:=H.c0;have aq:=H.c1;have ax:=h.mem (.tail _ (.head _));have aw:∀z,Seen z b.heap.size (na.take a)->Seen (z.setCell ⟨b.heap.size,d,N⟩ (.bool true)) b.heap.size (na.take (a+1)):=λz t=>by
    have:=t.next d U O1;rwa[E.o]
   have ac:=Ks (lw:=0) (hi:=255) K (Sp.right (M:=[_,_]) h.s) O1 O1 O1;clear p H ai aj al ax;have a7:(d:Int)<256:=O1;have a6:(0:Int)<=(d:Int):=O1;go_wp2_with (first
    |(go_at_call 160;first
     |(refine ac.mono ?_;rintro e z ⟨rfl,af⟩;have k:=h.trans (af.frame (M:=[_,_]) h.s);have v:=k.mem (.tail _ (.head _));have an:=v.c d O1;have az:=v.f d O1;rw[B.o]at an;have G:=k.set (L1:=[_]) (A:=sA b.heap.size (na.take a)) (A':=sA b.heap.size (na.take (a+1))) rfl rfl (aw _ v);have aa:=O0 G;have ad:=Ks (lw:=0) (hi:=65535) K (Sp.right (M:=[_,_]) G.s) O1 O1 O1;clear af k v c0 aq ac G)
     |(refine ad.mono ?_;rintro e a1 ⟨rfl,ag⟩;have ab:=aa.o.trans (ag.frame (M:=[_,_]) aa.o.s);have ap:=O0 (ab.mem (.head _));clear ag ad an az))
    |(at_builtin;refine ID Wd (ap.o.alloc _) (AM a1 _) (m:=1) (c:=1) (s:=.tmp 51) (x:=.tmp 55) Od Od rfl rfl rfl (by intro U i;simp at i;rcases i with rfl|rfl<;>rfl) O1 O1 ?_;intro a3 a2 w5 ah;have ao:=O0 ah;clear ah))
   refine⟨⟨a+1,_,by go_num,rfl,O1,?_⟩,by simp[intOf];omega⟩;have a4:=(ab.bG bA).cO (L1:=[]) ao.o;have e:(na.take (a+1)).flatMap Gs=(na.take a).flatMap Gs++[V C d,V C U]:=by rw[E.o,AH];simp[Gs]
   rwa[e]
  ·obtain rfl:a=L na:=O1;have ae:=D.o;rw[AP,Az8]at ae;have av:¬(L na:Int)<(L na:Int):=O1;clear D;go_wp2;go_ret2
   exact⟨_,rfl,ae.en⟩
abbrev b3(b:Nat)(f g h:X):As:=⟨[b],λe=>C4 e b f g h,λa _ d=>Ax.1 d▸cells_of_cell a.c0,λa _ c=>a.bX (c _ O2)⟩
structure Fi (c:BJ):Prop where
 o:0<=c.op/\c.op<21
 i:-9223372036854775808<=c.a/\c.a<=9223372036854775807
 w:BP c.op.toNat 0≠3->c.alts=[]
 b:BP c.op.toNat 0=2->BP c.op.toNat 1<=c.a/\c.a<=BP c.op.toNat 2
 f:BP c.op.toNat 0=3->Al c.alts
 z:BP c.op.toNat 0=3\/BP c.op.toNat 0=0->c.a=0
def sV(b:BJ):List UInt8:=if BP b.op.toNat 0=1 then vn (fo b.a) else if BP b.op.toNat 0=2 then vn b.a.toNat else if BP b.op.toNat 0=3 then vn (L b.alts)++b.alts.flatMap aU else []
abbrev sU(a:BJ):List UInt8:=vn a.op.toNat++sV a
theorem Bz.lw(c:Bz w n wg q ng)(a:Sp w n wg):Below w n q:=c.af.low (λb hb=>(a.rg b hb).1) a.z
theorem CJ.low(a:CJ n)(hb:Below w n q)(b:24<w):CJ q:=λd c=>by rw[Ak (hb.block _ b)];exact a d c
theorem Bz.cQ{L1:List As}{a:Nat}(b:Bz w n wg q (L1++b3 a p y e::ng))(d f g:X):Bz w n wg (((q.setCell ⟨a,0,N⟩ d).setCell ⟨a,1,N⟩ f).setCell ⟨a,2,N⟩ g) (L1++b3 a d f g::ng):=
 b.cD (((AF.refl.set (.inl O2) _).set (.inl O2) _).set (.inl O2) _) ((b.mem (A:=b3 a p y e) O2).put _ _ _) O2 λh c=>⟨.inl c,by have:=b.s.rg h (IM (A:=b3 a p y e) O2 c);simp_all⟩
theorem Afq{E:List UInt8}(Y:m.size<=100000)(ar:CJ n)(au:24<w)(ag:Sp w n [eA s m (sU wv++E)])(aD:Fi wv):Az Aa 259 #[J (I ⟨s,0,N⟩)] n λc aG=>∃ae,c=F (R #[T #[V C wv.op,V C wv.a,ae],.nilIface])/\Bz w n [eA s m (sU wv++E)] aG [pA 184 2 ae (L wv.alts) (wv.alts.flatMap Gs),eA s m E]:=by
 rw[AG]at ag ⊢;obtain⟨⟨a3,aF⟩,hi,x,G,H,y⟩:=aD;obtain⟨aJ,l,j⟩:=wv;obtain⟨a,rfl⟩:=A7 a3;simp only[Bd]at*;have q:a<21:=O1;obtain⟨af,a9,aq,aB,-,-,aH,aI⟩:=LZ a q;have a6:=O0 λa7 (hb:Below w n a7)=>ar.low hb au;have k:=ag.ca.box (A:=b3 n.heap.size (V C 0) (V C 0) (W N 0 0)) (.cells #[V C 0,V C 0,W N 0 0] 182) rfl (C4.new n _ _ _ _);have p:=O0 (Ks (lw:=0) (hi:=20) Y (Sp.right (M:=[_]) k.s) O1 O1 O1);have K:O9 (∀b ad,Bz w n [eA s m (vn a++(sV ⟨a,l,j⟩++E))] b (b3 n.heap.size (V C 0) (V C 0) (W N 0 0)::ad)->n.heap.size<b.heap.size/\C4 b n.heap.size (V C 0) (V C 0) (W N 0 0)/\(∀D,D<7->(b.alloc (.cells #[V C a,V C 0,W N 0 0] 182)).cell? ⟨24,a*7+D,N⟩=I (V C (BP a D)))/\Bz w n [eA s m (vn a++(sV ⟨a,l,j⟩++E))] (b.alloc (.cells #[V C a,V C 0,W N 0 0] 182)) (b3 b.heap.size (V C a) (V C 0) (W N 0 0)::b3 n.heap.size (V C 0) (V C 0) (W N 0 0)::ad)):=λb ad ah=>by
  have g:=ah.box (A:=b3 b.heap.size (V C a) (V C 0) (W N 0 0)) (.cells #[V C a,V C 0,W N 0 0] 182) rfl (C4.new b _ _ _ _);exact⟨(ah.mem (.head _)).lt,ah.mem (.head _),λD e=>(a6.o _ (g.lw ag)).row a D q e,g⟩
 generalize hsv:sV ⟨a,l,j⟩=sv at*;clear ar au a3 aF;have e:BP a 0=0\/BP a 0=1\/BP a 0=2\/BP a 0=3:=O1;rcases e with e|e|e|e
 ·have c:sv=[]:=by rw[<-hsv];simp[sV,e]
  obtain rfl:=y (.inr e);obtain rfl:=x O1;subst c;clear G H y x hsv;go_enter func259,ntmps259;go_wp2_with (first
   |(go_at_call 160;refine p.o.mono ?_;rintro c b ⟨rfl,d⟩;have ao:=O0 (k.trans (d.frame (M:=[_]) k.s));obtain⟨ai,⟨al,am,an,k0,aj,ak⟩,h,-⟩:=K.o b _ ao.o;have z:=h 0 O1;clear d h p)
   |(go_at_call 224;refine(K1 a 0 _ q (by have:=z;rw[e]at this;exact this)).mono ?_;rintro c ab ⟨rfl,rfl⟩))
  have i:=(ao.o.cQ (L1:=[]) (V C a) (V C 0) (W N 0 0)).bG ((Ae _ _).alloc (Ac _) (.cells #[V C a,V C 0,W N 0 0] 182));obtain⟨r,t,u,-,-,-⟩:=i.mem (.head _);refine AZ (v:=R #[T #[V C a,V C 0,W N 0 0],.nilIface]) (by simp[results,results259,go_sem,r,t,u]) rfl ?_;exact⟨_,rfl,KH i.tail⟩
 ·have c:sv=vn (fo l):=by rw[<-hsv];simp[sV,e]
  obtain rfl:=x O1;subst c;clear G H y x hsv;go_enter func259,ntmps259;go_wp2_with (first
   |(go_at_call 160;refine p.o.mono ?_;rintro c b ⟨rfl,d⟩;obtain⟨ai,-,h,g⟩:=K.o b _ (k.trans (d.frame (M:=[_]) k.s));have z:=h 0 O1;have B:=O0 (Afo Y (Sp.right (M:=[_,_]) g.s) hi.1 hi.2);clear d h p)
   |(go_at_call 224;refine(K1 a 1 _ q (by have:=z;rw[e]at this;exact this)).mono ?_;rintro c ab ⟨rfl,rfl⟩)
   |(go_at_call 279;refine B.o.mono ?_;rintro c a5 ⟨rfl,d⟩;have f:=g.trans (d.frame (M:=[_,_]) g.s);obtain⟨ax,ay,az,a0,a1,a2⟩:=f.mem (.head _);obtain⟨al,am,an,k0,aj,ak⟩:=f.mem (.tail _ (.head _));clear d))
  have i:=(f.set (L1:=[]) (A:=b3 b.heap.size _ _ _) (A':=b3 b.heap.size (V C a) (V C l) (W N 0 0)) rfl rfl ((f.mem (.head _)).cG (V C l))).cQ (L1:=[_]) (V C a) (V C l) (W N 0 0);obtain⟨r,t,u,-,-,-⟩:=i.mem (.tail _ (.head _));refine AZ (v:=R #[T #[V C a,V C l,W N 0 0],.nilIface]) (by simp[results,results259,go_sem,r,t,u]) rfl ?_;exact⟨_,rfl,KH i.tail.tail⟩
 ·have c:sv=vn l.toNat:=by rw[<-hsv];simp[sV,e]
  obtain rfl:=x O1;obtain⟨ap,a8⟩:=G e;obtain⟨a4,av⟩:=A7 af;obtain⟨v,aw⟩:=A7 aq;obtain⟨aa,rfl⟩:=A7 (Int.le_trans af ap);rw[av]at ap a9;rw[aw]at a8 aB;rw[Bd]at c;subst c;clear G H y x hsv af aq;go_enter func259,ntmps259;go_wp2_with (first
   |(go_at_call 160;first
    |(refine p.o.mono ?_;rintro c b ⟨rfl,d⟩;obtain⟨ai,-,h,g⟩:=K.o b _ (k.trans (d.frame (M:=[_]) k.s));clear d p)
    |(refine B.o.mono ?_;rintro c a5 ⟨rfl,d⟩;have f:=ac.o.trans (d.frame (M:=[_,_]) ac.o.s);obtain⟨ax,ay,az,a0,a1,a2⟩:=f.mem (.head _);obtain⟨al,am,an,k0,aj,ak⟩:=f.mem (.tail _ (.head _));clear d))
   |(go_at_call 224;refine(K1 a 2 _ q (by have:=h 0 O1;rw[e]at this;exact this)).mono ?_;rintro c ab ⟨rfl,rfl⟩)
   |(go_at_call 257;refine(Aa8 a a4 v _ q (by have:=h 1 O1;rw[av]at this;exact this) (by have:=h 2 O1;rw[aw]at this;exact this)).mono ?_;rintro c ab ⟨rfl,aE,rfl⟩;have ac:=O0 (g.bG (below_drewN (Ae _ _) aE));have B:=O0 (Ks (lw:=a4) (hi:=v) Y (Sp.right (M:=[_,_]) ac.o.s) O1 O1 O1)))
  have i:=(f.set (L1:=[]) (A:=b3 b.heap.size _ _ _) (A':=b3 b.heap.size (V C a) (V C aa) (W N 0 0)) rfl rfl ((f.mem (.head _)).cG (V C aa))).cQ (L1:=[_]) (V C a) (V C aa) (W N 0 0);obtain⟨r,t,u,-,-,-⟩:=i.mem (.tail _ (.head _));refine AZ (v:=R #[T #[V C a,V C aa,W N 0 0],.nilIface]) (by simp[results,results259,go_sem,r,t,u]) rfl ?_;exact⟨_,rfl,KH i.tail.tail⟩
 ·have c:sv=vn (L j)++j.flatMap aU:=by rw[<-hsv];simp[sV,e]
  obtain rfl:=y (.inl e);have aC:=H e;subst c;clear G H y x hsv;go_enter func259,ntmps259;go_wp2_with (first
   |(go_at_call 160;refine p.o.mono ?_;rintro c b ⟨rfl,d⟩;obtain⟨ai,-,h,g⟩:=K.o b _ (k.trans (d.frame (M:=[_]) k.s));have z:=h 0 O1;rw[AG]at g;have B:=O0 (Awk Y (Sp.right (M:=[_,_]) g.s) aC);clear d h p)
   |(go_at_call 224;refine(K1 a 3 _ q (by have:=z;rw[e]at this;exact this)).mono ?_;rintro c ab ⟨rfl,rfl⟩)
   |(go_at_call 280;refine B.o.mono ?_;rintro c a5 ⟨ae,rfl,d⟩;have f:=g.trans (d.frame (M:=[_,_]) g.s);obtain⟨ax,ay,az,a0,a1,a2⟩:=f.mem (.head _);obtain⟨al,am,an,k0,aj,ak⟩:=f.mem (.tail _ (.head _));obtain⟨U,O,rfl⟩:=Cf (f.mem (.tail _ (.tail _ (.head _))));clear d))
  have i:=(f.set (L1:=[]) (A:=b3 b.heap.size _ _ _) (A':=b3 b.heap.size (V C a) (V C 0) (W U (L j) O)) rfl rfl ((f.mem (.head _)).cE (W U (L j) O))).cQ (L1:=[_]) (V C a) (V C 0) (W U (L j) O);obtain⟨r,t,u,-,-,-⟩:=i.mem (.tail _ (.head _));refine AZ (v:=R #[T #[V C a,V C 0,W U (L j) O],.nilIface]) (by simp[results,results259,go_sem,r,t,u]) rfl ?_;rw[AG (vn (L j))];exact⟨_,rfl,i.tail.tail⟩
theorem At6{g:Nat}{s:Oy}{f:List UInt8}(U:s.size<=100000)(H:CJ n)(K:24<w)(G:Sp w n [eA g s (vn (L wl)++(wl.flatMap sU++f))])(av:(L wl)<=65535)(v:∀x∈wl,Fi x):Az Aa 226 #[J (I ⟨g,0,N⟩)] n λe ao=>∃(h:X) (b:Hb),e=F (R #[h,.nilIface])/\b.map (·.1)=wl/\Bz w n [eA g s (vn (L wl)++(wl.flatMap sU++f))] ao [cA h b,aA b,eA g s f]:=by
 have af:=O0 λah (hb:Below w n ah)=>H.low hb K;have B:=Ks (lw:=0) (hi:=65535) U G O1 O1 O1;clear H;go_enter func226,ntmps226;go_wp2_with (first
  |(go_at_call 160;refine B.mono ?_;rintro e ay ⟨rfl,k⟩;clear B))
 go_loopw [6,18] (λam y wr=>∃(a:Nat) (h:X) (b:Hb),y=V C a/\am=h/\a<=L wl/\L b=a/\O9 (b.map (·.1)=wl.take a/\Bz w n [eA g s (vn (L wl)++(wl.flatMap sU++f))] wr [cA h b,aA b,eA g s ((wl.drop a).flatMap sU++f)])) (λ_ y _=>L wl-(intOf y).toNat)
 ·refine⟨0,_,[],rfl,rfl,Ai _,rfl,O2,?_⟩;have q:=KH (e:=182) (size:=3) k;refine q.re (L2:=[cA _ [],aA [],eA g s (wl.flatMap sU++f)]) (by simp[fp]) λaa j=>?_;simp only[AX,Axw,or_false]at j;rcases j with rfl|rfl|rfl
  ·exact q.mem (.head _)
  ·exact λx v=>by cases v
  ·exact q.mem (.tail _ (.head _))
 ·obtain⟨a,h,b,rfl,rfl,aw,t,p⟩:=hrel;rename Q=>wr
  clear k;by_cases u:a<L wl
  ·have al:(a:Int)<(L wl:Int):=O1;have ab:(wl.drop a).flatMap sU++f=sU wl[a]++((wl.drop (a+1)).flatMap sU++f):=by
    show _=_;rw[A2 u,AD,AG]
   have ag:wl.take (a+1)=wl.take a++[wl[a]]:=Av u;have d:=p.o.2;rw[ab]at d;have D:=O0 d;have z:=O0 (Afq U (af.o _ (d.lw G)) K (Sp.right (M:=[_,_]) d.s) (v _ (Ao u)));generalize wl[a]=x at*;obtain⟨an,ai,E⟩:=x;clear d;go_wp2_with (first
    |(go_at_call 259;refine z.o.mono ?_;rintro e az ⟨aq,rfl,k⟩;have r:=D.o.trans (k.frame (M:=[_,_]) D.o.s);have ae:=r.mem (.head _);obtain⟨ak,aj,rfl⟩:=Cf (r.mem (.tail _ (.tail _ (.head _))));clear k z)
    |(at_builtin;refine ID Xu ((ae.alloc _).alloc _) (AM _ _) (m:=1) (c:=1) (s:=.tmp 28) (x:=.tmp 30) Od Od rfl rfl rfl (by intro ax Y;simp at Y;rcases Y with rfl|rfl|rfl<;>rfl) O1 O1 ?_;intro au ar w5 O;have ad:=O0 O;clear O))
   have i:=((r.bG bA).bG bA).cO (L1:=[]) ad.o;refine⟨⟨a+1,_,b++[(⟨an,ai,E⟩,W ak (L E) aj)],by go_num,rfl,O1,by simp[t],by rw[ag,AC,p.o.1];rfl,?_⟩,by simp[intOf];omega⟩;refine i.re (by simp[fp,t]) λaa j=>?_;simp only[AX,Axw,or_false]at j;rcases j with rfl|rfl|rfl
   ·have:=i.mem (.head _);simpa[Gx,t]using this
   ·intro ap l;rcases Ag.1 l with l|l
    ·exact i.mem (.tail _ (.head _)) ap l
    ·obtain rfl:=Ax.1 l;exact i.mem (.tail _ (.tail _ (.head _)))
   ·exact i.mem (.tail _ (.tail _ (.tail _ (.head _))))
  ·obtain rfl:a=L wl:=O1;have al:¬(L wl:Int)<(L wl:Int):=O1;have d:=p.o;rw[AP,Az8]at d;have ac:=O0 d;clear p d;go_wp2;go_ret2
   exact⟨_,rfl,b,ac.o⟩
abbrev iU(a:Oy×Int):List UInt8:=vn a.1.size++(a.1.data.toList++vn a.2.toNat)
def Gl(b:List Oy):Prop:=∀a (c:a<L b),CO b[a]=true/\Fc b[a] (IC b a)=true
theorem Aru{h:Nat}{s:Oy}{g:List UInt8}(r:s.size<=100000)(E:Sp w n [eA h s (vn (L O)++(O.flatMap iU++g))])(ax:(L O)<=10000)(am:Gl (O.map (·.1)))(ak:∀x∈O,0<=x.2/\x.2<=20):Az Aa 115 #[J (I ⟨h,0,N⟩)] n λd v=>∃j,d=F (R #[j,.nilIface])/\Bz w n [eA h s (vn (L O)++(O.flatMap iU++g))] v [pA 94 2 j (L O) (O.flatMap D1),eA h s g]:=by
 have z:=OL r E O1;have ad:O9 (∀(n:Q) i,Az Aa 153 #[W N 0 0,S i] n λd U=>d=F (A false)/\Ow n U):=λn i=>UW [] _ i n ⟨N,0,rfl,(show(0:Nat)<_ by omega),λan hi=>absurd hi O2⟩ λan a hi=>absurd hi O2;clear E;go_enter func115,ntmps115;go_wp2_with (first
  |(go_at_call 157;refine z.mono ?_;rintro d a0 ⟨rfl,b⟩;clear z))
 go_loopw [6,7,20] (λao ap t wr=>∃(a:Nat) (j:X),t=V .u64 a/\ao=j/\ap=S (IC (O.map (·.1)) a)/\a<=L O/\O9 (Bz w n [eA h s (vn (L O)++(O.flatMap iU++g))] wr [pA 94 2 j a ((O.take a).flatMap D1),eA h s ((O.drop a).flatMap iU++g)])) (λ_ _ t _=>L O-(intOf t).toNat)
 ·exact⟨0,_,rfl,rfl,rfl,Ai _,KH b⟩
 ·obtain⟨a,j,rfl,rfl,rfl,aw,p⟩:=hrel;rename Q=>wr
  clear b;by_cases k:a<L O
  ·have al:(a:Int)<(L O:Int):=O1;have aa:(O.drop a).flatMap iU++g=vn O[a].1.size++(O[a].1.data.toList++(vn O[a].2.toNat++((O.drop (a+1)).flatMap iU++g))):=by
    show _=_;rw[A2 k,AD];simp
   have ah:O.take (a+1)=O.take a++[O[a]]:=Av k;have ac:IC (O.map (·.1)) (a+1)=O[a].1:=(NJ (f:=Prod.fst) k).symm;obtain⟨l,u⟩:=am a (by simpa using k);obtain⟨ai,ar⟩:=ak _ (Ao k);rw[AN]at l u;have e:=p.o;rw[aa]at e;have y:=Abx r (Sp.right (M:=[_]) e.s) l u λv _=>ad.o v _;have ay:=(Kf l).2;have Y:=O0 λn=>N3 O[a].1 n O1;generalize O[a]=x at*;obtain⟨i,aq⟩:=x;obtain⟨K,rfl⟩:=A7 ai;simp only[Bd]at*;clear l u;go_wp2_with (first
    |(go_at_call 159;refine y.mono ?_;rintro d U ⟨rfl,b⟩;have q:=e.trans (b.frame (M:=[_]) e.s);have D:=Ks (lw:=0) (hi:=20) r (Sp.right (M:=[_]) q.s) O1 O1 O1;clear b y)
    |(go_at_call 160;refine D.mono ?_;rintro d a1 ⟨rfl,b⟩;have ag:=O0 (q.trans (b.frame (M:=[_]) q.s));clear b D)
    |(go_at_call 58;refine(Y.o _).mono ?_;rintro d a2 ⟨rfl,hb⟩;have B:=ag.o.bG hb;have af:=O0 (B.mem (.head _));clear hb)
    |(at_builtin;refine ID V8 (af.o.alloc _) (AM _ _) (m:=1) (c:=1) (s:=.tmp 39) (x:=.tmp 44) Od Od rfl rfl rfl (by intro az H;simp at H;rcases H with rfl|rfl<;>rfl) O1 O1 ?_;intro av au w5 G;have ae:=O0 G;clear G))
   have aj:=(B.bG bA).cO (L1:=[]) ae.o;refine⟨⟨a+1,_,by go_num,rfl,by rw[ac],O1,?_⟩,by simp[intOf];omega⟩;rw[ah,AH,show [(i,(K:Int))].flatMap D1=[S i,V C K] by simp[D1]];exact aj
  ·obtain rfl:a=L O:=O1;have al:¬(L O:Int)<(L O:Int):=O1;have e:=p.o;rw[AP,Az8]at e;have ab:=O0 e;clear p;go_wp2;go_ret2
   exact⟨_,rfl,ab.o⟩
theorem Ea.put(a:Ea n w p y e G)(b d f c:X):Ea ((((n.setCell ⟨w,0,N⟩ b).setCell ⟨w,1,N⟩ d).setCell ⟨w,2,N⟩ f).setCell ⟨w,3,N⟩ c) w b d f c:=by
 have g:Ea (n.setCell ⟨w,0,N⟩ b) w b y e G:=⟨Au _ _ _ a.c0,by rw[Ah _ _ _ _ (Cv O1)];exact a.c1,by rw[Ah _ _ _ _ (Cv O1)];exact a.c2,by rw[Ah _ _ _ _ (Cv O1)];exact a.c3,by rw[Aq];exact a.f0,by rw[Aq];exact a.f1,by rw[Aq];exact a.f2,by rw[Aq];exact a.f3⟩;exact((g.cG d).cE f).KV c
def gV(a:Bx):List UInt8:=vn a.BH.toNat++(vn (if a.exp then 1 else 0)++(vn (L a.Bj)++a.Bj.flatMap sU))
abbrev gU(a:Bx):List UInt8:=vn a.Bo.size++(a.Bo.data.toList++gV a)
structure Gi (b:Bx):Prop where
 n:CO b.Bo=true
 a:0<=b.BH/\b.BH<=20
 c:(L b.Bj)<=65535
 i:∀x∈b.Bj,Fi x
abbrev b4(b:Nat)(g h i e:X):As:=⟨[b],λf=>Ea f b g h i e,λa _ d=>Ax.1 d▸cells_of_cell a.c0,λa _ c=>a.bX (c _ O2)⟩
theorem Bz.fa{L1:List As}{a:Nat}(b:Bz w n wg q (L1++b4 a p y e G::ng))(f g h d:X):Bz w n wg ((((q.setCell ⟨a,0,N⟩ f).setCell ⟨a,1,N⟩ g).setCell ⟨a,2,N⟩ h).setCell ⟨a,3,N⟩ d) (L1++b4 a f g h d::ng):=
 b.cD ((((AF.refl.set (.inl O2) _).set (.inl O2) _).set (.inl O2) _).set (.inl O2) _) ((b.mem (A:=b4 a p y e G) O2).put _ _ _ _) O2 λi c=>⟨.inl c,by have:=b.s.rg i (IM (A:=b4 a p y e G) O2 c);simp_all⟩
theorem Aox{f:List UInt8}{b:Q}(r:m.size<=100000)(E:CJ b)(G:24<w)(p:Sp w b [eA s m (gV ve++f)])(ac:Gi ve):Az Aa 161 #[J (I ⟨s,0,N⟩),S ve.Bo] b λc ah=>∃e:GG,c=F (R #[T #[S ve.Bo,V C ve.BH,.bool ve.exp,e.cv],.nilIface])/\Cn e=ve/\Bz w b [eA s m (gV ve++f)] ah [cA e.cv e.cs,aA e.cs,eA s m f]:=by
 have O:=O0 λU (hb:Below w b U)=>E.low hb G;obtain⟨H,⟨y,aj⟩,Y,hi⟩:=ac;obtain⟨g,ai,a,j⟩:=ve;obtain⟨n,rfl⟩:=A7 y;simp only at*;have c:gV ⟨g,n,a,j⟩++f=vn n++(vn (if a then 1 else 0)++(vn (L j)++(j.flatMap sU++f))):=by simp[gV]
 rw[c]at p ⊢;have al:=(Kf H).2;have K:=O0 λb=>N3 g b O1;have i:=p.ca.box (A:=b4 b.heap.size (S ⟨#[]⟩) (V C 0) (.bool false) (W N 0 0)) (.cells #[S ⟨#[]⟩,V C 0,.bool false,W N 0 0] 97) rfl (Ea.new b _ _ _ _ _);have u:=O0 (Ks (n:=n) (lw:=0) (hi:=20) r (Sp.right (M:=[_]) i.s) O1 O1 O1);have ab:(if a then 1 else 0)<=1:=by cases a<;>simp
 have ak:(((if a then 1 else 0:Nat):Int)==1)=a:=by cases a<;>rfl
 generalize (if a then 1 else 0:Nat)=eb at*;clear E H y c;go_enter func161,ntmps161;go_wp2_with (first
  |(go_at_call 160;first
   |(refine u.o.mono ?_;rintro c av ⟨rfl,d⟩;have q:=i.trans (d.frame (M:=[_]) i.s);have x:=Ks (lw:=0) (hi:=1) r (Sp.right (M:=[_]) q.s) O1 ab O1;clear d u)
   |(refine x.mono ?_;rintro c aw ⟨rfl,d⟩;have h:=q.trans (d.frame (M:=[_]) q.s);have t:=O0 (At6 r (O.o _ (h.lw p)) G (Sp.right (M:=[_]) h.s) Y hi);clear d x))
  |(go_at_call 226;refine t.o.mono ?_;rintro c ax ⟨v,l,rfl,aa,d⟩;have z:=h.trans (d.frame (M:=[_]) h.s);obtain⟨k,cc,rfl⟩:=Cf (z.mem (.tail _ (.head _)));clear d t)
  |(go_at_call 58;refine(K.o _).mono ?_;rintro c ay ⟨rfl,hb⟩;have B:=z.bG hb;obtain⟨ap,aq,ar,au,k0,am,an,ao⟩:=B.mem (.head _);clear hb))
 have D:=B.fa (L1:=[]) (S g) (V C n) (.bool a) (W k (L l) cc);obtain⟨ad,ae,af,ag,-⟩:=D.mem (.head _);refine AZ (v:=R #[T #[S g,V C n,.bool a,W k (L l) cc],.nilIface]) (by simp[results,results161,go_sem,ad,ae,af,ag]) rfl ?_;exact⟨⟨g,n,a,k,cc,l⟩,rfl,by simp[Cn,aa],D.tail⟩
theorem Ae1{d:Nat}{s:Oy}{j:List UInt8}{iv:X}(z:s.size<=100000)(ab:CJ n)(ac:24<w)(U:Sp w n [eA d s (vn (L i)++(i.flatMap gU++j))])(a6:(L i)<=10000)(ax:Gl (i.map (·.Bo)))(ag:∀x∈i,Gi x)(aa:∀x∈i,∀k,AF [d] n k->Az Aa 153 #[iv,S x.Bo] k λl ah=>l=F (A false)/\Ow k ah):Az Aa 116 #[J (I ⟨d,0,N⟩),iv] n λl k=>∃(r:X) (b:List GG),l=F (R #[r,.nilIface])/\b.map Cn=i/\Bz w n [eA d s (vn (L i)++(i.flatMap gU++j))] k (gA r b::(gL b++[eA d s j])):=by
 have G:=OL z U O1;have aq:=O0 λav (hb:Below w n av)=>ab.low hb ac;have au:=O0 ag;have an:=O0 aa;clear ag aa ab;go_enter func116,ntmps116;go_wp2_with (first
  |(go_at_call 157;refine G.mono ?_;rintro l a8 ⟨rfl,h⟩;clear G))
 go_loopw [8,9,22] (λaz a0 iv wr=>∃(a:Nat) (r:X) (b:List GG),iv=V .u64 a/\az=r/\a0=S (IC (i.map (·.Bo)) a)/\a<=L i/\L b=a/\O9 (b.map Cn=i.take a/\Bz w n [eA d s (vn (L i)++(i.flatMap gU++j))] wr (gA r b::(gL b++[eA d s ((i.drop a).flatMap gU++j)])))) (λ_ _ iv _=>L i-(intOf iv).toNat)
 ·exact⟨0,_,[],rfl,rfl,rfl,Ai _,rfl,rfl,KH h⟩
 ·obtain⟨a,r,b,rfl,rfl,rfl,a5,y,t⟩:=hrel;rename Q=>wr
  clear h;by_cases q:a<L i
  ·have aw:(a:Int)<(L i:Int):=O1;have aj:(i.drop a).flatMap gU++j=vn i[a].Bo.size++(i[a].Bo.data.toList++(gV i[a]++((i.drop (a+1)).flatMap gU++j))):=by
    show _=_;rw[A2 q,AD];simp only[gU,AG]
   have ar:i.take (a+1)=i.take a++[i[a]]:=Av q;have am:IC (i.map (·.Bo)) (a+1)=i[a].Bo:=(NJ (f:=Bx.Bo) q).symm;obtain⟨B,D⟩:=ax a (by simpa using q);rw[AN]at B D;have e:=t.o.2;rw[aj]at e;have E:=Abx (iv:=iv) z (Sp.right (M:=gA _ b::gL b) e.s) B D λk ay=>an.o _ (Ao q) k ((show AF [d] n wr by simpa[fp]using e.af).trans ay λa2 hb=>.inl hb);have al:=au.o _ (Ao q);generalize i[a]=g at*;clear B D;go_wp2_with (first
    |(go_at_call 159;refine E.mono ?_;rintro l ah ⟨rfl,h⟩;have u:=e.trans (h.frame (M:=gA _ b::gL b) e.s);have H:=O0 u;have O:=O0 (Aox z (aq.o _ (u.lw U)) ac (Sp.right (M:=gA _ b::gL b) u.s) al);clear h u E)
    |(go_at_call 161;refine O.o.mono ?_;rintro l a9 ⟨ai,rfl,Y,h⟩;have K:=H.o.trans (h.frame (M:=gA _ b::gL b) H.o.s);have ap:=O0 (K.mem (.head _));clear h O)
    |(at_builtin;refine ID Xj ((ap.o.alloc _).alloc _) (AM _ _) (m:=1) (c:=1) (s:=.tmp 43) (x:=.tmp 45) Od Od rfl rfl rfl (by intro a7 ae;simp at ae;rcases ae with rfl|rfl|rfl|rfl<;>rfl) O1 O1 ?_;intro a4 a3 w5 ad;have ao:=O0 ad;clear ad))
   have p:=((K.bG bA).bG bA).cO (L1:=[]) ao.o;refine⟨⟨a+1,_,b++[ai],by go_num,rfl,by rw[am],O1,by simp[y],by rw[ar,AC,t.o.1,<-Y];rfl,?_⟩,by simp[intOf];omega⟩;refine p.re (by simp[fp,gL,y]) λa1 v=>?_;simp only[gL,AH,AX,Ag,AD,Axl,A6,Axw,or_false,AG]at v;rcases v with rfl|v|(rfl|rfl)|rfl
   ·have:=p.mem (.head _);simpa[Ja,y,<-Y,Cn]using this
   ·exact p.mem (.tail _ (Ag.2 (.inl v)))
   ·exact p.mem (.tail _ (Ag.2 (.inr (.head _))))
   ·exact p.mem (.tail _ (Ag.2 (.inr (.tail _ (.head _)))))
   ·exact p.mem (.tail _ (Ag.2 (.inr (.tail _ (.tail _ (.head _))))))
  ·obtain rfl:a=L i:=O1;have aw:¬(L i:Int)<(L i:Int):=O1;have e:=t.o;rw[AP,Az8]at e;have ak:=O0 e;clear t;go_wp2;go_ret2
   exact⟨_,rfl,b,ak.o⟩
def oU(c:Oy)(b:List (Oy×Int))(a:List Bx):List UInt8:=[84,65,82,78]++(vn c.size++(c.data.toList++(vn (L b)++(b.flatMap iU++(vn (L a)++(a.flatMap gU++[]))))))
structure Oi (e:Oy) (c:List (Oy×Int)) (b:List Bx):Prop where
 n:CO e=true
 z:(L c)<=10000/\L b<=10000
 i:Gl (c.map (·.1))
 a:∀x∈c,0<=x.2/\x.2<=20
 g:Gl (b.map (·.Bo))
 x:∀x∈b,Gi x
 d:∀x∈c,∀g∈b,x.1≠g.Bo
theorem Ahx(e:Gl (O.map (·.1))):IB (BZ O):=by
 intro d f j b g;have h:(BZ O).length=L O:=by simp[BZ]
 have c:=λi c=>by
  have:=(e (i+1) (by simpa using c)).2;rw[Og,<-NJ O1,AN]at this;omega
 obtain⟨a,rfl⟩:∃a,f=d+a+1:=⟨f-d-1,O1⟩;simp[BZ,AN];clear g e h;revert b;induction a with
 |zero=>grind
 |succ a ih=>intro b;simp[BZ,An]at b ih;refine L0 (ih ?_ ?_) (c (d+a+1) ?_)<;>omega
theorem Aon(b:n.ownsRow 0 94 2 p (L O) (O.flatMap D1))(o:(L O)<=10000)(k:∀a∈O,a.1.size<=16):GX n p (BZ O):=by
 rcases Bac (L O) with g|g
 ·obtain⟨l,c,rfl⟩:=Cf b;exact⟨l,c,by simp[BZ],by unfold short;simp[BZ];omega,λe d=>absurd d (by simp[BZ];omega)⟩
 ·obtain⟨f,c,rfl,-,-⟩:=World.ownsRow.form b g;refine⟨I ⟨f,0,N⟩,c,by simp[BZ],by unfold short;simp[BZ];omega,λe d=>?_⟩;have h:e<L O:=by simpa[BZ]using d
  have m:=k _ (Ao h);refine⟨f,0,rfl,?_⟩;let ⟨i,j⟩:=K2 (λa:Oy×Int=>Value.string a.1) (λa=>Value.int C a.2) O e h
  rw[Bg,b.cellAt _ O1,b.cellAt _ O1];simp[BZ,AN];exact⟨i,j,by unfold maxLen;omega⟩
theorem Tl.pos(a:Tl m w o):w+L o=m.size:=by
 have:=congrArg L a.2;simp only[List.length_drop,Ax5]at this;show w+L o=m.data.size;have b:w<=m.data.size:=a.1;omega
theorem Als{r:List UInt8}(Y:4+L r=m.size)(e:Sp w n [eA s m ([84,65,82,78]++r)]):Az Aa 113 #[J (I ⟨s,0,N⟩)] n λz d=>z=F .nilIface/\Bz w n [eA s m ([84,65,82,78]++r)] d [eA s m r]:=by
 have v:=O0 e.ca;clear e;have i:∀d a t,Tl m a t->RS d s m a->4-(intOf ((d.cell? ⟨s,1,N⟩).getD (V C 0))).toNat=4-a:=λd a t _ e=>by rw[e.c1];rfl
 go_enter func113,ntmps113;go_wp2;go_loopw [] (λwr=>∃c:Nat,c<=4/\O9 (Bz w n [eA s m ([84,65,82,78]++r)] wr [eA s m (([84,65,82,78]:List UInt8).drop c++r)])) (λwr=>4-(intOf ((wr.cell? ⟨s,1,N⟩).getD (V C 0))).toNat)
 ·exact⟨0,O1,v.o⟩
 ·obtain⟨c,O,f⟩:=hrel;rename Q=>wr
  obtain⟨a,g,b⟩:=f.o.mem (.head _);have p:=g.pos;have j:(([84,65,82,78]:List UInt8).drop c++r).length=4-c+L r:=O2;obtain rfl:a=c:=O1;have c0:=b.c0;have E:=b.c1;have G:=b.f1;by_cases M:a<4
  ·have U:a<m.size:=O1;obtain⟨h,q⟩:m[a].toNat=(⟨#[84,65,82,78]⟩:Oy)[a].toNat/\Tl m (a+1) (([84,65,82,78]:List UInt8).drop (a+1)++r):=by
    rcases(show a=0\/a=1\/a=2\/a=3 by omega) with rfl|rfl|rfl|rfl;all_goals
     obtain⟨_,hb,B⟩:=g.cons;exact⟨by rw[hb];rfl,B⟩
   have H:(0:Int)<=(a:Int):=O1;have K:(a:Int)<(m.size:Int):=O1;have D:(a:Int)<4:=O1;clear p j;go_wp2;go_quiet (fail);have h:=h;generalize m[a].toNat=u at*;generalize (⟨#[84,65,82,78]⟩:Oy)[a].toNat=y at*;subst h;have hb:((u:Int) !=(u:Int))=false:=O2;go_wp2;have k:=(f.o.bG (below_drewN (Ae _ _) nq)).goto q;have l:=(b.bG (below_drewN (Ae _ _) nq)).at (a+1);rw[show(((a+1:Nat)):Int)=(a:Int)+1 by omega]at k l;refine⟨⟨a+1,O1,k⟩,?_⟩;have aa:=i _ _ _ q l;have ab:=i _ _ _ g b;omega
  ·obtain rfl:a=4:=O1;have D:¬(4:Int)<4:=nofun;have x:=O0 f.o;clear b p j;go_wp2;go_ret;exact⟨rfl,x.o⟩
theorem Au9(d:Sp w n [b3 b p y e,pA 94 2 G (L O) (O.flatMap D1),eA s m o])(g:Gl (O.map (·.1)))(t:(L O)<=10000)(k:∀p∈O,∀a∈i,p.1≠a.Bo):∀p∈i,∀c,AF [s] n c->Az Aa 153 #[G,S p.Bo] c λh z=>h=F (.bool false)/\Ow c z:=λa q c u=>by
 have j:=G5 (d.mem (A:=pA 94 2 G (L O) (O.flatMap D1)) O2) λb hb=>u.block b (d.rg b (by simp[fp,hb])).2 λl=>by
  obtain rfl:=Ax.1 l;have:=d.nd;simp[fp,AD,Axl,A6,AY]at this;grind
 have B:=UW (BZ O) G a.Bo c (Aon j t λp f=>by
  obtain⟨x,r,rfl⟩:=AQ f;have:=(g x (by simpa using r)).1;rw[AN]at this;exact(Kf this).2) (Ahx g)
 have D:Gv (BZ O) a.Bo=false:=by
  unfold Gv BZ;rw[Ax9];intro y v;obtain⟨p,f,rfl⟩:=AE.1 v;simpa[KQ]using k p f a q
 grind
theorem Amr{lo E:Nat}{s:Oy}{w:Q}{nm:Oy}{l:List (Oy×Int)}{gl:List Bx}(q:s.size<=100000)(ab:(oU nm l gl).length=s.size)(U:CJ w)(Y:24<lo)(H:Sp lo w [eA E s (oU nm l gl)])(al:Oi nm l gl):Az Aa 65 #[J (I ⟨E,0,N⟩)] w λe ar=>∃(x n:X) (c:List GG),e=F (R #[T #[S nm,x,n],.nilIface])/\c.map Cn=gl/\Bz lo w [eA E s (oU nm l gl)] ar (gA n c::(gL c++[pA 94 2 x (L l) (l.flatMap D1),eA E s []])):=by
 have aj:=O0 λak (hb:Below lo w ak)=>U.low hb Y;obtain⟨y,⟨ac,an⟩,ad,ae,af,ag,ah⟩:=al;have j:=(H.ca.box (A:=b3 w.heap.size (S ⟨#[]⟩) (W N 0 0) (W N 0 0)) (.cells #[S ⟨#[]⟩,W N 0 0,W N 0 0] 58) rfl (C4.new w _ _ _ _)).bG ((Ae _ _).alloc (Ac _) (.cells #[S ⟨#[]⟩,W N 0 0,W N 0 0] 58));have D:=O0 (Als (r:=vn nm.size++(nm.data.toList++(vn (L l)++(l.flatMap iU++(vn (L gl)++(gl.flatMap gU++[])))))) (by rw[<-ab];simp[oU];omega) (Sp.right (M:=[_]) j.s));have aw:=(Kf y).2;have ai:=O0 λw=>N3 nm w O1;have d:=Aw6 y (Aw6 ad (Aw6 ae (Aw6 af (Aw6 ag ah))));clear U ab y ad ae af ag ah;go_enter func65,ntmps65;go_upto_region 14 with(first
  |(go_at_call 113;refine D.o.mono ?_;rintro e a3 ⟨rfl,b⟩;have g:=j.trans (b.frame (M:=[_]) j.s);have G:=O0 (Wi q (Sp.right (M:=[_]) g.s) d.1);clear b D)
  |(go_at_call 114;refine G.o.mono ?_;rintro e a4 ⟨rfl,b⟩;have h:=g.trans (b.frame (M:=[_]) g.s);have B:=O0 (Aru q (Sp.right (M:=[_]) h.s) ac d.2.1 d.2.2.1);clear b G g)
  |(go_at_call 115;refine B.o.mono ?_;rintro e a5 ⟨x,rfl,b⟩;have f:=h.trans (b.frame (M:=[_]) h.s);have z:=O0 (Ae1 q (aj.o _ (f.lw H)) Y (Sp.right (M:=[_,_]) f.s) an d.2.2.2.1 d.2.2.2.2.1 (Au9 f.s d.2.1 ac d.2.2.2.2.2));clear b B h)
  |(go_at_call 116;refine z.o.mono ?_;rintro e a6 ⟨n,c,rfl,am,b⟩;have i:=f.trans (b.frame (M:=[_,_]) f.s);clear b z f))
 obtain⟨az,aa,p⟩:=i.mem (.tail _ (.tail _ (.tail _ (Ag.2 (.inr (.head _))))));obtain rfl:=aa.nil;have c0:=p.c0;have au:=p.c1;obtain⟨u,t,rfl⟩:=Cf (i.mem (.tail _ (.head _)));obtain⟨m,k,rfl⟩:=Cf (i.mem (.tail _ (.tail _ (.head _))));have av:¬(s.size:Int)<(s.size:Int):=O1;clear aa p;go_quiet (fail);go_wp2_with (first
  |(go_at_call 58;refine(ai.o _).mono ?_;rintro e w5 ⟨rfl,hb⟩;have K:=(i.bG (below_drewN (Ae _ _) nq)).bG hb;obtain⟨a0,a1,a2,k0,ax,ay⟩:=K.mem (.head _);clear hb))
 have O:=K.cQ (L1:=[]) (S nm) (W u (L l) t) (W m (L c) k);obtain⟨ao,ap,aq,-⟩:=O.mem (.head _);refine AZ (v:=R #[T #[S nm,W u (L l) t,W m (L c) k],.nilIface]) (by simp[results,results65,go_sem,ao,ap,aq]) rfl ?_;refine⟨_,_,c,rfl,am,O.tail.perm ?_⟩;have:=(List.perm_middle (a:=pA 94 2 (W u (L l) t) (L l) (l.flatMap D1)) (l₁:=gA (W m (L c) k) c::gL c) (l₂:=[eA E s []]));exact this
theorem Asj:ET 263 3 1 8:=.of underlying263 rfl rfl .refl O1
abbrev dA(c:Nat)(Bn:List Int):As:=⟨[c],λf=>0<L Bn/\∀b (d:b<L Bn),f.cell? ⟨c,b,N⟩=I (.int C Bn[b])/\f.frozen? ⟨c,b,N⟩=false,λd _ h=>Ax.1 h▸cells_of_cell (d.2 0 d.1).1,fun {_ _} d _ hf=>⟨d.1,λb g=>by
 have e:=hf c O2;rw[Ak (a:=⟨c,b,N⟩) e,AJ (a:=⟨c,b,N⟩) e];exact d.2 b g⟩⟩
abbrev tI(a:List Nat):List X:=a.map λb:Nat=>Value.int C b
abbrev wL(e:Nat)(f:X)(a c:Nat)(d:X)(Bn:List Int)(b:List Nat):List As:=[b3 e f (W (I ⟨a,0,N⟩) c c) d,dA a Bn,pA 3 1 d (L b) (tI b)]
structure DI (b:Nat->Int) (c:Nat) (Bn:List Int) (a:List Nat):Prop where
 l:(L Bn)=c
 v:∀i (h:i<L Bn),Bn[i]=-1\/Bn[i]=b i
 t:∀t∈a,∃h:t<L Bn,Bn[t]=b t
 z:(L a)+Bn.count (-1)<=c
def mw(Bn:List Int)(a:List Nat):Nat:=L a+2*Bn.count (-1)
def WR(i:Nat)(l:Q)(d:List As)(e:Nat)(f:X)(c b:Nat)(h:Nat->Int)(j:Nat)(g:Ending)(m:Q):Prop:=g=F (R #[])/\∃k Bn a,DI h b Bn a/\mw Bn a<=j/\Bz i l d m (wL e f c b k Bn a)
theorem Aay{Bn:List Int}(b:w<L Bn)(a:Bn[w]=-1){v:Int}(c:v≠-1):(Bn.set w v).count (-1)+1=Bn.count (-1):=by
 grind
theorem DI.put{Bn:List Int}(a:DI vp w Bn t)(e:s<L Bn)(c:Bn[s]=-1)(k:0<=vp s):DI vp w (Bn.set s (vp s)) (t++[s])/\mw (Bn.set s (vp s)) (t++[s])<=mw Bn t:=by
 refine⟨⟨by rw[Ayc];exact a.l,λf d=>?_,λh b=>?_,?_⟩,?_⟩
 ·rw[Ayc]at d;by_cases g:s=f
  ·grind
  ·rw[Az9 g];exact a.v f d
 ·rcases Ag.1 b with b|b
  ·let ⟨i,j⟩:=a.t h b
   grind
  grind
 ·have:=Aay e c (v:=vp s) O1;have:=a.z;simp;omega
 ·have:=Aay e c (v:=vp s) O1;unfold mw;simp;omega
theorem VR{f a e:Nat}{Bn:List Int}(h:Sp w n (wL f p a e y Bn t))(i:DI vp e Bn t)(ap:wf<e)(au:e<=65535)(ak:0<=vp wf):Az Aa 164 #[J (I ⟨f,0,N⟩),V C wf,V C (vp wf)] n (WR w n (wL f p a e y Bn t) f p a e vp (mw Bn t)):=by
 obtain⟨ag,ah,ai,k0,am,an⟩:=h.mem (.head _);have D:wf<L Bn:=by rwa[i.l]
 obtain⟨ad,ax⟩:=(h.mem (.tail _ (.head _))).2 wf D;have al:=i.v wf D;have E:=h.nd;simp only[fp,AD,Axl,A6,AY,Ag,Ax]at E;have ao:f≠a:=λd=>E.2.2 f rfl a (.inl rfl) d;have k:=O0 h.ca;have ar:(wf:Int)<(e:Int):=O1;have aq:(0:Int)<=(wf:Int):=O1;have M:=Eq.refl Bn[wf];clear E h;generalize hG:vp wf=G at*;have K:=O0 hG;clear hG;rcases al with d|d
 ·have H:=O0 d;rw[d]at ad;have av:((-1:Int)==G)=false:=O6;clear d M;have B:=k.o.set (L1:=[_]) (A:=dA a Bn) (A':=dA a (Bn.set wf G)) (b:=a) (j:=wf) (u:=V C G) rfl rfl ⟨O6,λab Y=>by
   rw[Ayc]at Y;obtain⟨ac,aw⟩:=(k.o.mem (.tail _ (.head _))).2 ab Y;refine⟨?_,by simp_all⟩;by_cases q:wf=ab
   ·subst q;rw[Au _ _ _ ac];simp
   ·rw[Ah _ _ _ _ (Cv q),ac,Az9 q]⟩
  have af:=O0 B;have ae:=B.mem (.tail _ (.tail _ (.head _)));clear B;go_enter func164,ntmps164;go_wp2_with (first
   |(at_builtin;refine ID Asj (ae.alloc _) (AM _ _) (m:=1) (c:=1) (s:=.tmp 34) (x:=.tmp 36) Od Od rfl rfl rfl (by intro u aa;simp at aa;subst aa;rfl) O1 (by have:=i.z;omega) ?_;intro U O w5 g;have r:=(af.o.bG bA).cO (L1:=[_,_]) g;obtain⟨ag,ah,ai,k0,am,an⟩:=r.mem (.head _);clear g))
  have aj:=r.set (L1:=[]) (A:=b3 f _ _ _) (A':=b3 f p (W (I ⟨a,0,N⟩) e e) (W (I ⟨U,0,N⟩) (L t+1) O)) rfl rfl ((r.mem (.head _)).cE _);have g:=i.put D H.o (K.o▸ak);rw[K.o]at g;refine bF ⟨rfl,W (I ⟨U,0,N⟩) (L t+1) O,_,_,g.1,g.2,?_⟩ O2 rfl rfl;simpa[wL]using aj
 ·have H:=O0 d;rw[d]at ad;clear d M;go_enter func164,ntmps164;go_wp2;exact bF ⟨rfl,_,_,_,i,Ac _,k.o⟩ O2 rfl rfl
structure Lv (b:List BJ) (c:Nat->Int):Prop where
 m:(L b)<=65535
 f:∀x∈b,Fi x
 d:∀k (hk:k<L b),0<=c k/\Lf b[k].op.toNat b[k].a (c k)=true/\Fp b[k].op.toNat b[k].a (c k)=c k+C8 b[k].op.toNat b[k].a
 s:∀k (hk:k<L b),∀s∈FH b[k].op b[k].a b[k].alts k,∃t:Nat,s=t/\t<L b/\c t=c k+C8 b[k].op.toNat b[k].a
theorem Asz{Bn:List Int}{a:Q}(aB:CJ q)(a9:Fy q p wl)(ad:Ow q a)(am:Sp q.heap.size a (wL w p s (L wl) y Bn t))(ac:DI vp (L wl) Bn t)(U:Lv wl vp)(an:b<L wl)(aE:Bn.getD b 0=vp b):Az Aa 165 #[J (I ⟨w,0,N⟩),V C b] a (WR q.heap.size a (wL w p s (L wl) y Bn t) w p s (L wl) vp (mw Bn t)):=by
 obtain⟨aW,bp,bq,k0,aJ,aK⟩:=am.mem (.head _);have aF:b<L Bn:=by rwa[ac.l]
 obtain⟨aL,bD⟩:=(am.mem (.tail _ (.head _))).2 b aF;rw[Azj,Af aF,Ax2]at aE;rw[aE]at aL;have G:=O0 λw (hb:Below q.heap.size a w)=>CJ.bG (ad.trans hb) aB;have ak:=O0 am.ca;obtain⟨b9,O,rfl,bh,aC⟩:=a9.open;obtain⟨v,aa,a1,a0,az,rfl,ay,aN,aO,a8⟩:=aC q (Ae _ _) b an;have ah:=O0 λw (hb:Below q.heap.size a w)=>a8.bG (ad.trans hb);replace ay:=Bu ad ay
 replace aN:=Bu ad aN
 replace aO:=Bu ad aO
 have bg:=U.m;have aj:O9 (∀av∈FH wl[b].op wl[b].a wl[b].alts b,∀u af r o,DI vp (L wl) r o->mw r o<=mw Bn t->Bz q.heap.size a (wL w (W (I ⟨v,aa,N⟩) (L wl) O) s (L wl) y Bn t) u (wL w (W (I ⟨v,aa,N⟩) (L wl) O) s (L wl) af r o)->Az Aa 164 #[J (I ⟨w,0,N⟩),V C av,V C (vp b+C8 wl[b].op.toNat wl[b].a)] u (WR q.heap.size a (wL w (W (I ⟨v,aa,N⟩) (L wl) O) s (L wl) y Bn t) w (W (I ⟨v,aa,N⟩) (L wl) O) s (L wl) vp (mw Bn t))):=λav ao u af r o bb bc a7=>by
  obtain⟨bl,rfl,aG,bd⟩:=U.s b an av ao;rw[<-bd];refine(VR a7.s bb aG bg (U.d bl aG).1).mono λm ax ⟨aX,aw,ar,aq,aJ,aK,bj⟩=>⟨aX,aw,ar,aq,aJ,Ay aK bc,a7.trans bj⟩
 obtain⟨bs,a5,al⟩:=U.d b an;obtain⟨⟨bk,b6⟩,-,ba,-,a6,-⟩:=U.f _ (Ao an);have bt:wl[b].alts.length<=256:=by
  by_cases m:BP wl[b].op.toNat 0=3
  ·exact(a6 m).n.2
  grind
 clear ba a6;have aT:=O0 ak.o.s;have b1:w<a.heap.size:=AL aW;have b0:s<a.heap.size:=AL aL;have b2:v<a.heap.size:=AL ay;have nW:w≠a.heap.size:=O1;have b5:s≠a.heap.size:=O1;have nb:v≠a.heap.size:=O1;have bw:(0:Int)<=(b:Int):=O1;have bx:(b:Int)<(L wl:Int):=O1;have bz:Bf ((b:Int)+1)=(b:Int)+1:=by unfold Bf;omega
 generalize wl[b]=x at*;obtain⟨b8,h,k⟩:=x;obtain⟨c,rfl⟩:=A7 bk;simp only[Bd]at*;have Y:c<21:=O1;have ai:=O0 a5;generalize hd':vp b+C8 c h=d' at*;clear a9 aB aC a8 U am a5 hd' bh;generalize vp b=d at*;have B:O9 (Below q.heap.size a (a.alloc (.cells #[V C c,V C h,W a1 a0 az] 182)).drew):=((Ae _ _).alloc ak.o.s.z _).drew;have E:=O0 ((ak.o.bG ((Ae _ _).alloc (Ac _) (.cells #[V C c,V C h,W a1 a0 az] 182))).drew);by_cases a2:c=19\/c=20
 ·have ae:(((c:Int)==19)=true\/((c:Int)==19)=false/\((c:Int)==20)=true):=O6;clear aj ah;rcases ae with ae|⟨ae,aM⟩;all_goals as_aux_lemma=>
   go_enter func165,ntmps165;go_wp2;go_region
   go_wp2_with (first
    |(go_at_call 166;refine(QY c h d _ _ _ _ Y (G.o _ B.o)).mono ?_;rintro m u ⟨e,g⟩;rw[ai.o]at e;subst e;obtain⟨aR,aS⟩:=E3 g;have aH:a.heap.size<u.heap.size:=(by have:=g.size;simp[World.drew]at this;omega);have K:=O0 (E.o.bG g);have H:=O0 (B.o.trans (g.mono E.o.s.z)))
    |(go_at_call 202;refine(MS c h d _ _ Y (G.o _ H.o)).mono ?_;rintro m ax ⟨e,j⟩;rw[al]at e;subst e;obtain⟨aP,aQ⟩:=E3 j;have aI:=j.size;have M:=O0 (K.o.bG j)))
   exact bF ⟨rfl,_,_,_,ac,Ac _,M.o⟩ O2 rfl rfl
 ·have ae:((c:Int)==19)=false:=O6;have aM:((c:Int)==20)=false:=O6;by_cases a3:c=17
  ·subst a3;clear ae aM a2;obtain⟨bB,a4,aY,-⟩:=ah.o a (Ae _ _);cases aY;go_enter func165,ntmps165;go_wp2;go_region
   go_wp2_with (first
    |(go_at_call 166;refine(QY _ h d _ _ _ _ Y (G.o _ B.o)).mono ?_;rintro m u ⟨e,g⟩;rw[ai.o]at e;subst e;obtain⟨aR,aS⟩:=E3 g;have aH:a.heap.size<u.heap.size:=(by have:=g.size;simp[World.drew]at this;omega);have K:=O0 (E.o.bG g);have H:=O0 (B.o.trans (g.mono E.o.s.z)))
    |(go_at_call 202;refine(MS _ h d _ _ Y (G.o _ H.o)).mono ?_;rintro m ax ⟨e,j⟩;rw[al]at e;subst e;obtain⟨aP,aQ⟩:=E3 j;have aI:=j.size;have M:=O0 (K.o.bG j)))
   go_loopw [53] (λau wr=>∃(i:Nat) (af:X) (r:List Int) (o:List Nat),au=V C i/\i<=L k/\O9 (DI vp (L wl) r o/\mw r o<=mw Bn t/\Bz q.heap.size a (wL w (W (I ⟨v,aa,N⟩) (L wl) O) s (L wl) y Bn t) wr (wL w (W (I ⟨v,aa,N⟩) (L wl) O) s (L wl) af r o))) (λau _=>L k-(intOf au).toNat)
   ·exact⟨0,_,_,_,rfl,Ai _,ac,Ac _,M.o⟩
   ·obtain⟨i,af,r,o,rfl,bu,D⟩:=hrel;rename Q=>wr
    clear M K E H B ak ac G ai al;by_cases bf:i<L k
    ·have be:(i:Int)<(L k:Int):=O1;obtain⟨bC,br,aZ,-,aD⟩:=(ah.o wr (D.o.2.2.lw aT.o)).open;cases aZ;obtain⟨b4,b7,rfl,bn,bo⟩:=aD wr (Ae _ _) i bf;have ap:=O0 (aj.o k[i].BU (by simp only[FH];grind) _ _ _ _ D.o.1 D.o.2.1 (D.o.2.2.bG ((Ae _ _).alloc (Ac _) (.cells #[.int C k[i].tag,.int C k[i].BU] 184))));generalize k[i]=x at*;obtain⟨bH,bI⟩:=x;clear aD;go_wp2_with (first
      |(go_at_call 164;refine ap.o.mono ?_;rintro m bm ⟨rfl,aw,ar,aq,ab⟩;have aV:=O0 ab;clear ab))
     exact⟨⟨i+1,aw,ar,aq,rfl,O1,aV.o⟩,by simp[intOf];omega⟩
    ·have be:¬(i:Int)<(L k:Int):=O1;go_wp2;exact bF ⟨rfl,_,_,_,D.o⟩ O2 rfl rfl
  ·obtain⟨ag,bi,ao⟩:∃ag:Int,(c=18/\h=ag\/((c:Int)==18)=false/\ag=(b:Int)+1)/\ag∈FH c h k b:=by
    by_cases a4:c=18
    ·subst a4;exact⟨h,.inl ⟨rfl,rfl⟩,by simp[FH]⟩
    ·exact⟨_,.inr ⟨O6,rfl⟩,by unfold FH;grind⟩
   have bG:((c:Int)==17)=false:=O6;have ap:=O0 (aj.o ag ao);clear ao aj ah a2 a3;rcases bi with⟨rfl,rfl⟩|⟨bE,rfl⟩;all_goals as_aux_lemma=>
    go_enter func165,ntmps165;go_wp2;go_region
    go_wp2_with (first
    |(go_at_call 166;refine(QY _ h d _ _ _ _ Y (G.o _ B.o)).mono ?_;rintro m u ⟨e,g⟩;rw[ai.o]at e;subst e;obtain⟨aR,aS⟩:=E3 g;have aH:a.heap.size<u.heap.size:=(by have:=g.size;simp[World.drew]at this;omega);have K:=O0 (E.o.bG g);have H:=O0 (B.o.trans (g.mono E.o.s.z)))
    |(go_at_call 202;refine(MS _ h d _ _ Y (G.o _ H.o)).mono ?_;rintro m ax ⟨e,j⟩;rw[al]at e;subst e;obtain⟨aP,aQ⟩:=E3 j;have aI:=j.size;have M:=O0 (K.o.bG j))
    |(go_at_call 164;refine(ap.o _ _ _ _ ac (Ac _) M.o).mono ?_;rintro m bm ⟨rfl,ab⟩;have D:=O0 ab;clear ab))
    exact bF ⟨rfl,D.o⟩ O2 rfl rfl
theorem Bz.e3{k:Nat}{Bn:List Int}(c:Bz w n wg q (wL s p b j y Bn t))(h:k<L Bn)(g:Int):Bz w n wg (q.setCell ⟨b,k,N⟩ (V C g)) (wL s p b j y (Bn.set k g) t):=
 c.set (L1:=[_]) rfl rfl ⟨O6,λe d=>by
  rw[Ayc]at d;let ⟨f,i⟩:=(c.mem (.tail _ (.head _))).2 e d
  refine⟨?_,by simp_all⟩;by_cases a:k=e
  ·subst a;rw[Au _ _ _ f];simp
  ·rw[Ah _ _ _ _ (Cv a),f,Az9 a]⟩
theorem Aso(a:Q)(b:X)(g:0<w):Bz a.heap.size a [] ((a.alloc (.cells (Lj w) 3)).alloc (.cells #[b,W (I ⟨a.heap.size,0,N⟩) w w,W N 0 0] 314)) (wL (a.heap.size+1) b a.heap.size w (W N 0 0) (List.replicate w 0) []):=by
 have e:Bz a.heap.size a [] a []:=Sp.ca ⟨Ac _,λ_ c=>(by cases c),by simp[fp],λ_ c=>by cases c⟩;have f:=e.box (.cells (Lj w) 3) (A:=dA a.heap.size (List.replicate w 0)) rfl ⟨by simpa using g,λh d=>by
  rw[List.length_replicate]at d;exact⟨by rw[List.getElem_replicate];exact CS _ _ _ _ _ (Atz w h d),O2⟩⟩
 exact((KH f).box (.cells #[b,W (I ⟨a.heap.size,0,N⟩) w w,W N 0 0] 314) O2 (by have:=C4.new (a.alloc (.cells (Lj w) 3)) b (W (I ⟨a.heap.size,0,N⟩) w w) (W N 0 0) 314;simpa using this)).perm ((List.Perm.swap _ _ _).cons _)
theorem Ap3(av:CJ n)(ab:Fy n p wl)(B:Lv wl vp)(ai:0<L wl):Az Aa 120 #[p,V C (vp 0)] n λe aY=>e=F (R #[V C 0,.bool false])/\Ow n aY:=by
 have a7:=O0 ab;have a0:=B.m;obtain⟨w,m,rfl,bq,aJ⟩:=ab.open;have bn:=Akn (L wl) a0;have am:=O0 (Aso n (W w (L wl) m) ai);have H:O9 (Sp n.heap.size n []):=⟨Ac _,λ_ j=>(by cases j),by simp[fp],λ_ j=>by cases j⟩;have a9:=O0 (B.d 0 ai).1;have au:O9 (∀U Bn,L Bn=L wl->(∀g (j:g<L Bn),Bn[g]=-1)->Bz n.heap.size n [] U (wL (n.heap.size+1) (W w (L wl) m) n.heap.size (L wl) (W N 0 0) Bn [])->Az Aa 164 #[J (I ⟨n.heap.size+1,0,N⟩),V C 0,V C (vp 0)] U (WR n.heap.size n [] (n.heap.size+1) (W w (L wl) m) n.heap.size (L wl) vp (mw Bn []))):=λU Bn ag aK j=>by
  have i:DI vp (L wl) Bn []:=⟨ag,λg ac=>.inl (aK g ac),λa4 aj=>(by cases aj),by have:=List.count_le_length (a:=(-1:Int)) (l:=Bn);simp;omega⟩;exact(VR j.s i ai a0 a9.o).mono λe b1 ⟨aH,aW,aG,aF,t,u,aP⟩=>⟨aH,aW,aG,aF,t,u,j.trans aP⟩
 have bd:O9 (Ow n n):=Ae _ _;generalize hg0:vp 0=d0 at*;clear ab;go_enter func120,ntmps120;go_wp2;go_loopw [19] (λg wr=>∃(k:Nat) (Bn:List Int),k<=L wl/\g=V C k/\L Bn=L wl/\O9 ((∀o (j:o<L Bn),o<k->Bn[o]=-1)/\Bz n.heap.size n [] wr (wL (n.heap.size+1) (W w (L wl) m) n.heap.size (L wl) (W N 0 0) Bn []))) (λg _=>L wl-(intOf g).toNat)
 ·exact⟨0,List.replicate (L wl) 0,Ai _,rfl,O2,λo ad ae=>absurd ae O1,am.o⟩
 ·obtain⟨k,Bn,ae,rfl,D,c⟩:=hrel;rename Q=>wr
  obtain⟨K,aa,M,k0,t,u⟩:=c.o.2.mem (.head _);clear am;by_cases O:k<L wl
  ·obtain⟨aS,aT⟩:=(c.o.2.mem (.tail _ (.head _))).2 k O1;have r:=c.o.2.e3 (k:=k) O1 (-1);have G:=O0 r;have af:(k:Int)<(L wl:Int):=O1;clear r k0 t u K M;go_wp2;refine⟨⟨k+1,Bn.set k (-1),O1,by go_num,by simp[D],λo ad bm=>?_,G.o⟩,by simp[intOf];omega⟩;rw[Ayc]at ad;by_cases e:k=o
   ·subst e;simp
   ·rw[Az9 e];exact c.o.1 o ad O1
  ·have an:=O0 (au.o wr Bn D (λg ac=>c.o.1 g ac O1) c.o.2);have af:¬(k:Int)<(L wl:Int):=O1;clear K aa M k0 t u D;go_wp2_with (first|(go_at_call 164;refine an.o.mono ?_;rintro e U ⟨rfl,aV,aq,ao,al⟩;have Y:=O0 al;clear al))
   clear an c au;go_loopg [8] (mw aq ao) (λgk bx wr=>∃(Bn:List Int) (q:List Nat) (a5:X),gk=mw Bn q/\O9 (DI vp (L wl) Bn q/\Bz n.heap.size n [] wr (wL (n.heap.size+1) (W w (L wl) m) n.heap.size (L wl) a5 Bn q)))
   ·exact⟨aq,ao,aV,rfl,Y.o.1,Y.o.2.2⟩
   ·obtain⟨Bn,q,a5,rfl,c⟩:=hrel;clear Y;obtain⟨K,aa,M,k0,t,u⟩:=c.o.2.mem (.head _);obtain⟨a3,E,rfl⟩:=Cf (c.o.2.mem (.tail _ (.tail _ (.head _))));rcases Ax6 q with e|⟨b,k,e⟩
    ·subst e;have G:=O0 c.o.2;have aB:=O0 c.o.1;have D:=c.o.1.l;clear c k0 t u;go_wp2;go_loopw [54] (λg ak=>∃k:Nat,k<=L wl/\g=V C k/\O9 (Ow wr ak)) (λg _=>L wl-(intOf g).toNat)
     ·exact⟨0,Ai _,rfl,Ae _ _⟩
     ·obtain⟨k,ae,rfl,y⟩:=hrel;rename Q=>ak
      clear K aa M;by_cases O:k<L wl
      ·have h:=G.o.bG y.o;obtain⟨aS,aT⟩:=(h.mem (.tail _ (.head _))).2 k O1;have aO:=aB.o.v k O1;obtain⟨bi,bt,bh,bg,be,rfl,ba,bb,bc,-⟩:=aJ ak (h.lw H.o) k O;have af:(k:Int)<(L wl:Int):=O1;obtain⟨bk,aI,-⟩:=B.d k O;obtain⟨⟨aR,bu⟩,-⟩:=B.f _ (Ao O);have aD:=O0 (av.bG (h.lw H.o));generalize wl[k]=x at*;generalize Bn[k]=dk at*;obtain⟨bw,a,bf⟩:=x;obtain⟨aQ,rfl⟩:=A7 aR;simp only[Bd]at*;clear h D;rcases aO with rfl|rfl
       ·clear ba bb bc;go_wp2;exact⟨⟨k+1,O1,by go_num,y.o⟩,by simp[intOf];omega⟩
       ·generalize vp k=d at*;have b0:(d==-2)=false:=by rw[beq_eq_false_iff_ne];omega
        have bz:(d !=-1)=true:=by rw[bne_iff_ne];omega
        go_wp2_with (first|(go_at_call 166;refine(QY aQ a d _ _ _ _ O1 aD.o).mono ?_;rintro e aZ ⟨ay,aw⟩;rw[aI]at ay;subst ay;have a6:=O0 aw;clear aw))
        exact⟨⟨k+1,O1,by go_num,y.o.trans (a6.o.mono y.o.size)⟩,by simp[intOf];omega⟩
      ·have af:¬(k:Int)<(L wl:Int):=O1;have a8:=O0 ((G.o.bG y.o).lw H.o);go_wp2;go_ret2
       exact⟨rfl,a8.o⟩
    ·obtain rfl:q=b++[k]:=by rw[e,Az3]
     clear e;have i:=c.o.1;obtain⟨aL,az⟩:=i.t k O2;have aM:k<L wl:=by rwa[<-i.l]
     have ag:(b++[k]).length=L b+1:=O2;have ah:wr.ownsRow 0 3 1 (W a3 (b++[k]).length E) (b++[k]).length (tI (b++[k])):=c.o.2.mem (.tail _ (.tail _ (.head _)));obtain⟨tb,rfl,bp⟩:∃tb,a3=I ⟨tb,0,N⟩/\L b+1<=E:=by
      rcases ah.2 with⟨e,bl⟩|⟨vp,m,bj,e,-,-,h,-⟩
      ·omega
      ·cases e;exact⟨vp,rfl,O1⟩
     have aN:=World.ownsRow.cellAt ah (L b) O1;rw[show(tI (b++[k]))[L b]?=I (V C k) by simp[tI]]at aN;have br:=i.z;have r:=(c.o.2.set (L1:=[]) (A:=b3 (n.heap.size+1) _ _ _) (A':=b3 (n.heap.size+1) (W w (L wl) m) (W (I ⟨n.heap.size,0,N⟩) (L wl) (L wl)) (W (I ⟨tb,0,N⟩) (L b) E)) rfl rfl ((c.o.2.mem (.head _)).cE (W (I ⟨tb,0,N⟩) (L b) E)));have h:=r.same (L1:=[_,_]) (A':=pA 3 1 (W (I ⟨tb,0,N⟩) (L b) E) (L b) (tI b)) rfl (by
      have:=WE (r.mem (.tail _ (.tail _ (.head _)))) (show L b<=(b++[k]).length by omega);simpa using this)
     have ax:DI vp (L wl) Bn b:=⟨i.l,i.v,λa4 aj=>i.t a4 (by simp[aj]),O1⟩;have aC:=O0 (Asz av a7.o (h.lw H.o) h.s ax B aM (by rw[Azj,Af aL,Ax2,az]));have bo:mw Bn (b++[k])=mw Bn b+1:=by unfold mw;omega
     clear r ah ax i az c;rw[ag]at*;go_wp2_with (first
      |(go_at_call 165;refine aC.o.mono ?_;rintro e aZ ⟨rfl,aX,ar,ap,a1,bs,a2⟩;have aE:=O0 (Aw6 a1 (h.trans a2));clear a1 a2))
     go_roundg (mw ar ap)
     case measure=>omega
     case rel=>exact⟨ar,ap,aX,rfl,aE.o⟩
structure So (c:Int) (b:Bx):Prop where
 d:∃g,Lv b.Bj g/\g 0=b.BH+1
 p:0<L b.Bj
 a:0<=b.BH/\b.BH<=20
 i:Kn (PL c) b.Bj=N
 j:Mx b.Bj=R #[V C ((L b.Bj:Int)-1),A false]
theorem T0(d:Fi wv):ED wv.op wv.a wv.alts=true:=by
 obtain⟨⟨k,l⟩,-,n,o,f,g⟩:=d;have p:=LZ wv.op.toNat O1;unfold ED;rw[if_pos ⟨k,l⟩];split
 ·grind
 ·split
  ·grind
  ·split
   ·next e=>
    let ⟨⟨i,j⟩,m,c⟩:=f e
    rw[g (.inl e)];have h:JQ wv.alts=true:=by
     unfold JQ;rw[Bh,YL,Axk];exact⟨λb hb=>by have:=c b hb;simp[I1];omega,m⟩
    unfold Hl;simp[i,j,h]
   grind
theorem Aig(d:Sg ve.Bj ve.BH wi)(n:∀k∈ve.Bj,Fi k)(E:∀k∈ve.Bj,k.op=1->k.a<D):So D ve:=by
 have j:∀b c,∀s∈FH ve.Bj[b].op ve.Bj[b].a ve.Bj[b].alts b,∃e:Nat,s=e/\e<L ve.Bj/\wi.getD e 0=wi.getD b 0+C8 ve.Bj[b].op.toNat ve.Bj[b].a:=λb c s j=>by
  obtain⟨r,g,-,-,-,-,-,-,-,B⟩:=d.i b c;grind
 refine⟨⟨λb=>wi.getD b 0,⟨d.m,n,λb c=>?_,j⟩,d.s⟩,d.p,d.a,?_,?_⟩
 ·obtain⟨r,g,v,-,-,t,z,M,-⟩:=d.i b c;have f:=T0 (n _ (Ao c));rw[g]at f;let ⟨l,m⟩:=Aur r v ve.Bj[b].a (wi.getD b 0) _ f t O1
  grind
 ·exact Qy _ _ λb c=>by
   unfold PL;grind
 ·have H:=d.p;have u:Kn (KM (L ve.Bj)) ve.Bj=none:=Qy _ _ λb c=>by
   have q:=j b c;unfold KM;split
   ·next g=>
    obtain⟨e,l,m,-⟩:=q ve.Bj[b].a (by unfold FH;grind);simp;omega
   ·next g=>
    refine Ad0 _ _ λx G=>?_;have f:=n _ (Ao c);have K:=LZ ve.Bj[b].op.toNat (by have:=f.o;omega);by_cases y:ve.Bj[b].op=17
    ·obtain⟨e,l,m,-⟩:=q ve.Bj[b].alts[x].BU (by unfold FH;grind);omega
    ·have:=f.w O1;grind
  unfold Mx;rw[if_neg O1,u];have c:(L ve.Bj)-1<L ve.Bj:=O1;simp only[Af c];have h:Ms ve.Bj[L ve.Bj-1].op=true:=by
   cases h:Ms ve.Bj[L ve.Bj-1].op with
   |true=>rfl
   |false=>
    unfold Ms at h;simp[Bool.or_eq_false_iff,beq_eq_false_iff_ne]at h;obtain⟨e,l,m,-⟩:=j _ c ((L ve.Bj-1:Nat)+1) (by unfold FH;grind);omega
  rw[h];rfl
theorem Adm{nm:Oy}(ac:CJ n)(z:GX n p vs)(x:JA n y i)(ab:∀s∈i,So ((L vs:Int)+(L i:Int)) s)(ag:(L vs)<=10000/\L i<=10000):Az Aa 66 #[T #[S nm,p,y]] n λc ai=>c=F .nilIface/\Ow n ai:=by
 obtain⟨a0,az,rfl,-,-⟩:=z.open;obtain⟨a2,aq,rfl,-,ae⟩:=x.open;obtain⟨ak,a7⟩:=ag;have al:∀a:Q,Ow n a->∀k,Ow a k->Ow n k:=λa w k aa=>w.trans (aa.mono w.size);clear z x;go_enter func66,ntmps66;go_wp2;go_loopw [22] (λr wr=>∃b:Nat,b<=L i/\r=V C b/\O9 (Ow n wr)) (λr _=>L i-(intOf r).toNat)
 ·exact⟨0,Ai _,rfl,bA⟩
 ·obtain⟨b,aw,rfl,d⟩:=hrel;rename Q=>wr
  by_cases H:b<L i
  ·have af:(b:Int)<(L i:Int):=O1;obtain⟨am,a1,m,l,cc,rfl,c0,an,ao,ap,f,-⟩:=ae wr d.o b H;obtain⟨⟨ar,B,v⟩,K,⟨au,av⟩,E,G⟩:=ab _ (Ao H);have D:=(ac.bG d.o);generalize i[b]=s at*;obtain⟨ah,t,Y,u⟩:=s;simp only at*;have O:∀a,Ow wr a->Az Aa 117 #[W m l cc,V C ((L vs:Int)+(L i:Int))] a λc e=>c=F (R #[V C 0,A false])/\Ow a e:=λa hb=>by
    have:=Alg _ u ((L vs:Int)+(L i:Int)) a (f.bG hb);rw[E]at this;exact this
   have U:=λa hb=>by
    have:=Am4 _ u a (f.bG hb);rw[G]at this;exact this
   have M:∀a,Ow wr a->Az Aa 120 #[W m l cc,V C (t+1)] a λc e=>c=F (R #[V C 0,A false])/\Ow a e:=λa hb=>by
    rw[<-v];exact Ap3 (D.bG hb) (f.bG hb) B K
   have g:Ow wr (wr.alloc (.cells #[S ah,V C t,A Y,W m l cc] 97)):=bA;clear f B v K E G D;go_wp2_with (first
    |(go_at_call 117;refine(O _ g).mono ?_;rintro c aj ⟨rfl,o⟩;obtain⟨a6,ak⟩:=E3 o;have ax:wr.heap.size<aj.heap.size:=(by have:=o.size;simp at this;omega);have h:=O0 (g.trans (o.mono g.size)))
    |(go_at_call 119;refine(U _ h.o).mono ?_;rintro c e ⟨rfl,q⟩;obtain⟨a4,a5⟩:=E3 q;have ay:wr.heap.size<e.heap.size:=(by have:=q.size;omega);have j:=h.o.trans (q.mono h.o.size))
    |(go_at_call 120;refine(M _ j).mono ?_;rintro c a3 ⟨rfl,ad⟩))
   exact⟨⟨b+1,O1,by go_num,d.o.trans ((O0 (j.trans (ad.mono j.size))).o.mono d.o.size)⟩,by simp[intOf];omega⟩
  ·have af:¬(b:Int)<(L i:Int):=O1;go_wp2;go_ret;exact⟨rfl,d.o⟩
def K4(a:Nat):List UInt8:=[UInt8.ofNat (a % 256),UInt8.ofNat (a / 256 % 256),UInt8.ofNat (a / 65536 % 256),UInt8.ofNat (a / 16777216)]
def KL(a:Oy):Oy:=⟨(K4 (Lp a.data.toList)).toArray⟩
theorem Yz(c:Oy)(b:Q)(s:c.size<=100020):
 Az Aa 64 #[S c] b λf n=>f=F (S (KL c))/\Ow b n:=by
 have h:=λb=>Ars c b O1;have q:=Agv c.data.toList;have i:O9 (KL c=⟨(K4 (Lp c.data.toList)).toArray⟩):=rfl;generalize Lp c.data.toList=a at*;have r:∀b:Q,(convert 116 9 (W (I ⟨b.heap.size,0,N⟩) 4 4)).run Aa (b.alloc (.cells #[V .u8 ((a:Int) % 256),V .u8 ((a:Int) / 256 % 256),V .u8 ((a:Int) / 65536 % 256),V .u8 ((a:Int) / 16777216)] 5))=.ok (S (KL c)) (b.alloc (.cells #[V .u8 ((a:Int) % 256),V .u8 ((a:Int) / 256 % 256),V .u8 ((a:Int) / 65536 % 256),V .u8 ((a:Int) / 16777216)] 5)):=by
  intro b;have p:=run_convert_bytes_back (P:=Aa) (b.alloc (.cells #[V .u8 ((a:Int) % 256),V .u8 ((a:Int) / 256 % 256),V .u8 ((a:Int) / 65536 % 256),V .u8 ((a:Int) / 16777216)] 5)) 116 9 5 ⟨b.heap.size,0,N⟩ 4 (K4 a) underlying116 underlying5 Awz (λd m=>by
   have j:a % 256 % 256=a % 256:=O1;have k:a / 256 % 256 % 256=a / 256 % 256:=O1;have l:a / 16777216 % 256=a / 16777216:=O1;simp only[K4,AO,Bc]at m;rcases(show d=0\/d=1\/d=2\/d=3 by omega) with rfl|rfl|rfl|rfl;all_goals simp[K4,Addr.add,j,k,O1,l])
  rwa[i.o]
 go_enter func64,ntmps64;go_wp2_with (first
  |(go_at_call 112;refine(h _).mono ?_;rintro f t ⟨rfl,g⟩;have e:=O0 g;clear g))
 go_ret;exact⟨rfl,e.o.trans (bA|>.mono e.o.size)⟩
def IV(e:Q)(a b:Nat)(f g h c d:X):Q:=((((e.setCell ⟨a,0,N⟩ f).setCell ⟨a,1,N⟩ g).setCell ⟨a,2,N⟩ h).setCell ⟨b,0,N⟩ c).setCell ⟨b,1,N⟩ d
theorem Atk(q:C4 n w p y e)(o:Gq n s G wz)(k:w≠s)(a b c d f:X):(IV n w s a b c d f).cell? ⟨w,0,N⟩=I a/\(IV n w s a b c d f).cell? ⟨w,1,N⟩=I b/\(IV n w s a b c d f).cell? ⟨w,2,N⟩=I c/\(IV n w s a b c d f).cell? ⟨s,0,N⟩=I d/\(IV n w s a b c d f).cell? ⟨s,1,N⟩=I f:=by
 have l:Jp [w] n (((n.setCell ⟨w,0,N⟩ a).setCell ⟨w,1,N⟩ b).setCell ⟨w,2,N⟩ c):=(((Jp.refl _ _).set (Be O2) _).set (Be O2) _).set (Be O2) _;have g:=o.off l O6;have m:Jp [s] (((n.setCell ⟨w,0,N⟩ a).setCell ⟨w,1,N⟩ b).setCell ⟨w,2,N⟩ c) (IV n w s a b c d f):=((Jp.refl _ _).set (Be O2) _).set (Be O2) _;have h:=(q.put a b c).off m (by simpa using k);have j:Gq ((((n.setCell ⟨w,0,N⟩ a).setCell ⟨w,1,N⟩ b).setCell ⟨w,2,N⟩ c).setCell ⟨s,0,N⟩ d) s d wz:=⟨Au _ _ _ g.c0,by rw[Ah _ _ _ _ (Cv O1)];exact g.c1,by rw[Aq];exact g.f0,by rw[Aq];exact g.f1⟩;have i:=j.cG f;exact⟨h.c0,h.c1,h.c2,i.c0,i.c1⟩
theorem Af6(e:Ow n q)(a:n.heap.size<=w)(b:n.heap.size<=s)(f g h c d:X):Ow n (IV q w s f g h c d):=((((e.setCell a _).setCell a _).setCell a _).setCell b _).setCell b _
def ib(a:Dv):List Nat:=nb a.Bo++vb a.BH.toNat
def gb(a:Bx):List Nat:=nb a.Bo++vb a.BH.toNat++[if a.exp then 1 else 0]++vb (L a.Bj)++a.Bj.flatMap wb
def hdB(a:BD):List Nat:=[84,65,82,78]++nb a.Bo++vb (L a.BG)
def hb(a:BD):List Nat:=hdB a++a.BG.flatMap ib++vb (L a.Bv)++a.Bv.flatMap gb
def Uw(b:BJ):Prop:=(0<=b.op/\b.op<21)/\ED b.op b.a b.alts=true
theorem Agi(b:ED wv.op wv.a wv.alts=true):Uw wv:=by
 refine⟨?_,b⟩;unfold ED at b;grind
def OS(b:BJ):Prop:=(0<=b.op/\b.op<21)/\ED b.op (if b.op=1 then 0 else b.a) b.alts=true
theorem Uw.l(a:Uw wv):OS wv:=by
 refine⟨a.1,?_⟩;by_cases c:wv.op=1
 ·have b:=a.2;rw[c]at b ⊢;simp[ED,BP,FO]at b ⊢;exact b.1.1
 ·rw[if_neg c];exact a.2
theorem U8(c:OS wv){m:Nat}(d:wv.op=(m:Int))(e:m<21):(m≠0/\m≠1->0<=wv.a/\wv.a<=65535)/\((m=2\/m=4\/m=5\/m=6\/m=7)->wv.a<=1000)/\(m=7->1<=wv.a)/\(m=16->wv.a<=255)/\(m≠17->wv.alts=[])/\(m=17->Hl wv.alts=true):=by
 have b:=c.2;rw[d]at b;let ⟨f,g,h,i,j,k⟩:=Ab4 m e _ wv.alts b
 grind
theorem YQ(b:OS wv):(L wv.alts)<=256/\∀a∈wv.alts,0<=a.tag/\a.tag<256/\0<=a.BU/\a.BU<65536:=(Auh b.2).2
structure Nz (b:List BJ) (d:Int) (c:Nat->Int):Prop where
 pos:0<L b
 len:(L b)<=65535
 start:c 0=d+1
 ins:∀x∈b,OS x
 go:∀k (hk:k<L b),0<=c k->c k<=1000/\GJ b[k].op.toNat b[k].a (c k)=false/\∀s∈JY b[k] k,s<L b/\c s=c k+C8 b[k].op.toNat b[k].a/\0<=c s
theorem Ah8(c:List BJ)(y vb:X)(g:Q)(o:Fy g y c)(q:Fy g vb c):
 Az Aa 34 #[y,vb] g λad d=>ad=F (A true)/\Ow g d:=by
 obtain⟨ag,au,rfl,a2,u⟩:=o.open;obtain⟨ah,av,rfl,-,v⟩:=q.open;have D:∀d,Ow g d->MZ d ag c:=u;have G:∀d,Ow g d->MZ d ah c:=v;clear o q u v;go_enter func34,ntmps34;go_wp2;go_loopw [5] (λf wr=>∃b:Nat,b<=L c/\f=V C b/\Ow g wr) (λf _=>L c-(intOf f).toNat)
 ·exact⟨0,Ai _,rfl,Ae _ _⟩
 ·obtain⟨b,az,rfl,hb⟩:=hrel;by_cases x:b<L c
  ·obtain⟨Y,ae,i,M,k,rfl,ak,al,z,p⟩:=D _ hb b x;obtain⟨aa,af,j,O,l,rfl,am,an,B,r⟩:=G _ hb b x;obtain⟨U,K,m,a3,s⟩:=p.open;obtain⟨rfl,rfl,rfl⟩:i=U/\M=c[b].alts.length/\k=K:=by simpa using m
   obtain⟨ac,ab,n,-,t⟩:=r.open;obtain⟨rfl,rfl,rfl⟩:j=ac/\O=c[b].alts.length/\l=ab:=by simpa using n
   have E:∀d,Ow wr d->Nc d i c[b].alts:=s;have H:∀d,Ow wr d->Nc d j c[b].alts:=t;have a0:(0:Int)<=(b:Int):=O1;have a1:(b:Int)<(L c:Int):=O1;clear p r s t m n;generalize c[b].op=op at*;generalize c[b].a=a at*;generalize c[b].alts=alts at*;rename Q=>W0
   go_wp2;go_quiet (fail);go_wp2;go_loopw [6] (λf wr=>∃e:Nat,e<=L alts/\f=V C e/\O9 (Ow W0 wr)/\wr.cell? ⟨Y,ae+b*3+2,N⟩=I (W i (L alts) k)/\wr.cell? ⟨aa,af+b*3+2,N⟩=I (W j (L alts) l)) (λf _=>L alts-(intOf f).toNat)
   ·exact⟨0,Ai _,rfl,below_drewN (Ae _ _) _,z,B⟩
   ·obtain⟨e,aw,rfl,h,ai,aj⟩:=hrel;clear ak al z am an B;by_cases w:e<L alts
    ·obtain⟨ao,aq,rfl,a6,a7⟩:=E _ h.o e w;obtain⟨ap,ar,rfl,a4,a5⟩:=H _ h.o e w;have ax:(0:Int)<=(e:Int):=O1;have ay:(e:Int)<(L alts:Int):=O1;generalize alts[e].tag=tg at*;generalize alts[e].BU=tto at*;go_wp2;go_quiet (fail);go_wp2;exact⟨⟨e+1,O1,rfl,below_drewN h.o _,ai,aj⟩,by simp[intOf];omega⟩
    ·go_wp2;exact⟨⟨b+1,O1,rfl,hb.trans (h.o.mono hb.size)⟩,by simp[intOf];omega⟩
  ·go_wp2;go_ret;simp_all
theorem Aja(e:BD)(Y vb:X)(a:Q)(an:Fv a Y e)(ao:Fv a vb e):
 Az Aa 21 #[Y,vb] a λp c=>p=F (A true)/\Ow a c:=by
 obtain⟨ia,a1,rfl,aB,w,u⟩:=an;obtain⟨ib,gb,rfl,-,x,v⟩:=ao;obtain⟨K,aq,rfl,a8,D⟩:=w.open;obtain⟨i,q,rfl,a9,z⟩:=u.open;obtain⟨M,ar,rfl,-,E⟩:=x.open;obtain⟨j,r,rfl,-,B⟩:=v.open;have ag:∀c,Ow a c->On c K e.BG:=D;have ah:∀c,Ow a c->On c M e.BG:=E;have ae:∀c,Ow a c->QR c i e.Bv:=z;have af:∀c,Ow a c->QR c j e.Bv:=B;clear w u x v D z E B;generalize e.Bo=nm at*;generalize e.BG=BG at*;generalize e.Bv=Bv at*;go_enter func21,ntmps21;go_wp2;go_loopw [5] (λf wr=>∃b:Nat,b<=L BG/\f=V C b/\O9 (Ow a wr)/\wr.cell? ⟨a.heap.size,1,N⟩=I (W K (L BG) aq)/\wr.cell? ⟨a.heap.size,2,N⟩=I (W i (L Bv) q)/\wr.cell? ⟨a.heap.size+1,1,N⟩=I (W M (L BG) ar)/\wr.cell? ⟨a.heap.size+1,2,N⟩=I (W j (L Bv) r)/\a.heap.size+1<wr.heap.size) (λf _=>L BG-(intOf f).toNat)
 ·exact⟨0,Ai _,rfl,bA.alloc O2 _,O2,O2,O2,O2,O2⟩
 ·obtain⟨b,a5,rfl,hb,O,l,U,m,k⟩:=hrel;by_cases H:b<L BG
  ·obtain⟨n,au,rfl,aa,ay,-⟩:=ag _ hb.o b H;obtain⟨o,av,rfl,ab,az,-⟩:=ah _ hb.o b H;have a6:(0:Int)<=(b:Int):=O1;have a7:(b:Int)<(L BG:Int):=O1;generalize BG[b].Bo=n0 at*;generalize BG[b].BH=a0 at*;go_wp2;go_quiet (fail);go_wp2;exact⟨⟨b+1,O1,rfl,below_drewN hb.o _,O,l,U,m,k⟩,by simp[intOf];omega⟩
  ·go_wp2;go_loopw [6] (λf wr=>∃b:Nat,b<=L Bv/\f=V C b/\O9 (Ow a wr)/\wr.cell? ⟨a.heap.size,2,N⟩=I (W i (L Bv) q)/\wr.cell? ⟨a.heap.size+1,2,N⟩=I (W j (L Bv) r)/\a.heap.size+1<wr.heap.size) (λf _=>L Bv-(intOf f).toNat)
   ·exact⟨0,Ai _,rfl,hb,l,m,k⟩
   ·obtain⟨d,a2,rfl,g,aw,ax,aC⟩:=hrel;clear O l U m k hb;by_cases G:d<L Bv
    ·obtain⟨n,au,al,aj,cc,rfl,aa,ay,aG,aH,s,-⟩:=ae _ g.o d G;obtain⟨o,av,am,ak,ai,rfl,ab,az,aI,aJ,t,-⟩:=af _ g.o d G;have ac:Fy wr (W al aj cc) Bv[d].Bj:=s;have ad:Fy wr (W am ak ai) Bv[d].Bj:=t;have a3:(0:Int)<=(d:Int):=O1;have a4:(d:Int)<(L Bv:Int):=O1;have ap:=g.o.size;have aD:n<wr.heap.size:=AL aa;have aE:o<wr.heap.size:=AL ab;clear s t;generalize Bv[d].Bo=n0 at*;generalize Bv[d].BH=a0 at*;generalize Bv[d].exp=e0 at*;generalize Bv[d].Bj=Bj at*;go_wp2_with (first|(go_at_call 34;refine(Ah8 Bj _ _ _ ?_ ?_).mono ?_;exact ac.bG (bA.alloc O2 _);exact ad.bG (bA.alloc O2 _);rintro p aF ⟨rfl,y⟩;obtain⟨aK,aL⟩:=E3 y))
     have h:=(bA.alloc O2 _).trans (y.mono O5);exact⟨⟨d+1,O1,rfl,g.o.trans (h.mono ap),Bu h aw,Bu h ax,by have:=h.size;omega⟩,by simp[intOf];omega⟩
    ·go_wp2;go_ret;exact⟨rfl,g.o⟩
end Go.Proofs.YtpkbnogifdlcmaaGreatDoor
