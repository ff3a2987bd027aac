import Derived.Deep.RegionHeld3
import Derived.StillTail
import Derived.Test.YtcacpmkdfnmhaaaGreatDoorNextJ
import Derived.Deep.LoopGhost
import Derived.Test.YtcacpmkdfnmhaaaGreatDoorPz4J
set_option linter.unusedSimpArgs false
set_option maxRecDepth 100000
set_option maxHeartbeats 8000000
open Except renaming error->P
open Go renaming Calls->Av,TypeId->AX,Value->X,World->Q,getD_set_ne->AY,undef->Aq1
open Go.Ending renaming returned->F
open Go.IntKind renaming i64->C
open Go.Obj renaming cells->AO
open Go.Proofs.Tryz renaming prog->Aa
open Go.Region renaming ready->A6
open Go.Value renaming agg->T,bool->A,iface->Z,int->V,pointer->J,slice->W,string->S,tuple->R
open Go.World renaming news_of_block->A1
open List renaming length->L,range->AU
open Option renaming none->N,some->I
open Or renaming inl->Ba,inr->Aq5
namespace Go.Proofs.YtcacpmkdfnmhaaaGreatDoor
variable{wg:Array Oper}{w2:Region.Mode}{wx:Program}{w4:Exit->Act->World->Prop}{w s m:Nat}{vk:Act->World->Prop}{wn sw:Act}{n p:World}{nu:Array Bool}{vr:World->Prop}{y:List Nat}{w6:Oper}{b:Value}{sm:Operand->Value}
def IJ(d:Region.Mode)(c:Array Oper):Bool:=(AU c.size).all λb=>match c[b]? with|some o=>o.after.all λa=>!Region.binds d a||decide (a.on<b)|none=>false
theorem Adn(f:IJ w2 wg=true){b:Nat}{e:Oper}(d:wg[b]?=I e):∀a∈e.after,Region.binds w2 a=true->a.on<b:=by
 intro a g hb;have c:=Ark.1 f b (As3.2 (A5.1 d).1);rw[d]at c;have h:=Array.all_eq_true'.1 c a g;grind
theorem MF(f:IJ w2 wg=true){c:Array Bool}(m:c.size=wg.size):∀b,b<wg.size->c.getD b true=false->A6 w2 wg c≠[]:=by
 intro b;induction b using Nat.strongRecOn with
 |_ b ih=>
  intro h j;have d:=Asv h;by_cases e:∀a∈wg[b].after,Region.binds w2 a=true->c.getD a.on false=true
  ·have l:=mem_ready.2 ⟨j,_,d,e⟩;grind
  ·have i:∃a,a∈wg[b].after/\Region.binds w2 a=true/\c.getD a.on false=false:=by
    grind
   let ⟨a,g,hb,n⟩:=i
   have k:=Adn f d a g hb;grind
theorem Ae5(d:IJ w2 wg=true){b:Array Bool}(f:b.size=wg.size)(c:A6 w2 wg b=[]):∀a,a<wg.size->b.getD a false=true:=by
 intro a e;cases hx:b.getD a false with
 |true=>rfl
 |false=>exact absurd c (MF d f a e (getD_in O1 hx))
def JL(c:Program)(g:Array Oper)(b:Exit->Act->Q->Prop)(f d:Nat):Exit->Act->Q->Prop
 |.normal,a,w=>wpOps c g b (List.range' f d) a w
 |e,a,w=>b e a w
theorem Ud(a:wpOp wx wg (JL wx wg w4 w s) m vk wn n):wpOp wx wg w4 m vk wn n:=by
 unfold wpOp at*;split
 ·grind
 ·rename_i f c
  simp[c]at a;split
  ·rename_i e
   simp only[e,if_true]at a;rcases a with a|a
   ·refine .inl ?_;unfold Oper.wp at*;generalize (execOp wn.eval f).run wx n=r at*;cases r with
    |ok nx w'=>
     cases nx<;>simp[Oper.upon]at a ⊢<;>first|exact a|exact Calls.mono a (λb g d=>by cases b<;>exact d)
    |halt x w'=>cases x<;>simp[Oper.upon]at a ⊢<;>exact a
   ·exact .inr a
  grind
def D6:Array Bool->Nat->Nat->Array Bool
 |l,_,0=>l
 |l,n,k+1=>(D6 l (n+1) k).setIfInBounds n true
theorem OL:∀a c b,(D6 b c a).size=b.size
 |0,_,_=>rfl
 |a+1,c,b=>by rw[D6,Atm,OL a]
theorem LH:∀e d c b a,b<d->(D6 c d e).getD b a=c.getD b a
 |0,_,_,_,_,_=>rfl
 |e+1,d,c,b,a,h=>by rw[D6,AY a O1,LH e (d+1) c b a O1]
theorem SM:∀d b e a c,b<=a->a<b+d->a<e.size->(D6 e b d).getD a c=true
 |0,_,_,_,_,h1,h2,_=>O1
 |d+1,b,e,a,c,h1,h2,h3=>by
  rw[D6];by_cases f:b=a
  ·subst f;rw[Aq3,Ar7 (by rw[OL];exact h3)];rfl
  ·rw[AY c f,SM d (b+1) e a c O1 O1 h3]
theorem Ajj(a:nu.getD m false=true):(D6 nu s w).getD m false=true:=by
 induction w generalizing s with
 |zero=>exact a
 |succ w ih=>exact getD_set_true ih
theorem SU:∀c b d a,a<b->(D6 d b c).setIfInBounds a true=D6 (d.setIfInBounds a true) b c
 |0,_,_,_,_=>rfl
 |c+1,b,d,a,h=>by rw[D6,D6,Array.setIfInBounds_comm _ _ O1,SU c (b+1) d a O1]
theorem U5(f:m<w)(b:m∈A6 w2 wg nu):m∈A6 w2 wg (D6 nu w s):=by
 let ⟨c,h,g,d⟩:=mem_ready.1 b
 exact mem_ready.2 ⟨by rw[LH _ _ _ _ _ f];exact c,h,g,λa e hb=>Ajj (d a e hb)⟩
theorem Wc(x:IJ w2 wg=true):∀e a c h j,a+e=wg.size->Region.chainB w2 wg a=true->c.size=wg.size->(∀b,b<a->c.getD b true=true)->(∀g,a<=g->g<wg.size->c.getD g true=false)->
 wpOps wx wg w4 (List.range' a e) h j->∀d,e<=d->wpAny wx w2 wg w4 d c h j:=by
 intro e;induction e with
 |zero=>
  intro a c h j D _ m w _ i d _;refine wpAny_done ?_ i d;cases hr:A6 w2 wg c with
  |nil=>rfl
  |cons n l=>
   have p:n∈A6 w2 wg c:=by rw[hr];simp
   obtain⟨G,H,q,-⟩:=mem_ready.1 p;grind
 |succ e ih=>
  intro a c h j D o m w r i d U;obtain⟨k,rfl⟩:∃k,d=k+1:=⟨d-1,O1⟩;rw[List.range'_succ,wpOps_cons]at i;refine⟨λu=>absurd u (MF x m a O1 (r a .refl O1)),λb y=>?_⟩;let ⟨G,H,q,ad⟩:=mem_ready.1 y
  have B:=(A5.1 q).1;have Y:a<=b:=by
   grind
  obtain rfl:b=a:=by
   rcases Asb a b with v|v
   ·exfalso;have f:=Ark.1 o b (As3.2 B);simp[Bool.or_eq_true,decide_eq_true_eq]at f;rcases f with f|f
    ·omega
    ·let ⟨ae,aa,M,O,hb,ab⟩:=Region.waitsFor_spec f
     grind
   ·omega
  refine wpOp_mono (λs K t=>ih (b+1) _ s K O1 ?_ (by simpa using m) (λn p=>?_) (λg ac E=>?_) t k O1) i
  ·unfold Region.chainB at o ⊢;grind
  ·by_cases z:b=n
   ·simp_all
   ·rw[AY true z];grind
  ·rw[AY true O1];exact r g O1 E
theorem Ake(B:w+(s+1)=wg.size)(n:IJ w2 wg=true)(H:Region.sinkB w2 wg w=true)(p:Region.chainB w2 wg w=true):∀(e:Nat) (a:Array Bool) (d:Act) (f:Q),HeadInv w2 wg w a->
 wpAnyH wx w2 wg (JL wx wg w4 w (s+1)) vr e (D6 a w (s+1)) d f->wpAny wx w2 wg w4 (e+(s+1)) a d f:=by
 have r:∀e a d f,HeadInv w2 wg w a->(∀b,b<w->a.getD b true=true)->JL wx wg w4 w (s+1) .normal d f->wpAny wx w2 wg w4 (e+(s+1)) a d f:=
  λe a d f c g u=>Wc n (s+1) w a d f B p c.size g c.tail u _ O1
 have E:∀a,HeadInv w2 wg w a->(∀b,b<w->a.getD b true=true)->A6 w2 wg (D6 a w (s+1))=[]:=by
  intro a c g;cases hr:A6 w2 wg (D6 a w (s+1)) with
  |nil=>rfl
  |cons j l=>
   have z:j∈A6 w2 wg (D6 a w (s+1)):=by rw[hr];simp
   obtain⟨k,aa,G,-⟩:=mem_ready.1 z;have Y:=(A5.1 G).1;by_cases q:j<w
   ·rw[LH _ _ _ _ _ q,g j q]at k;cases k
   ·rw[SM _ _ _ _ _ O1 O1 (by rw[c.size];omega)]at k;cases k
 have K:∀a,HeadInv w2 wg w a->A6 w2 wg a≠[]:=λa c=>MF n c.size w O1 (c.tail w .refl O1);intro e;induction e with
 |zero=>
  intro a d f c h;refine r 0 a d f c (λb i=>?_) h.2;cases hx:a.getD b true with
  |true=>rfl
  |false=>exact absurd h.1 (MF n (by rw[OL];exact c.size) b O1 (by rw[LH _ _ _ _ _ i];exact hx))
 |succ e ih=>
  intro a d f c h;by_cases g:∀b,b<w->a.getD b true=true
  ·exact r (e+1) a d f c g (h.1 (E a c g))
  ·have D:∃b,b<w/\a.getD b true=false:=by
    grind
   let ⟨O,y,M⟩:=D
   rw[show e+1+(s+1)=(e+(s+1))+1 by omega];refine⟨λx=>absurd x (K a c),λb i=>?_⟩;have o:b<w:=by
    rcases Asb b w with m|m
    ·exact m
    ·exact absurd i (tail_waits H p O1 c _ O rfl y M b m)
   refine Ud (wpOp_mono (λt U v=>?_) (h.2 b (U5 o i)));refine ih _ t U (c.set i o) ?_;rw[<-SU _ _ _ _ o];exact v.2
theorem UG(c:Nat):HeadInv w2 wg c (Array.replicate wg.size false):=by
 refine⟨O2,λf g d a=>?_,λh e b=>by simp[b]⟩;rw[getD_replicate_false]at a;cases a
theorem Apf{S:Q->Prop}(a b:Nat)(g:wx.follows .mixedOrders=true)(h:a+(b+1)=wg.size)(f:IJ .any wg=true)(i:Region.sinkB .any wg a=true)(e:Region.chainB .any wg a=true)(d:S n.drew)(c:S n.drew->wpAnyH wx .any wg (JL wx wg w4 a (b+1)) S a (D6 (Array.replicate wg.size false) a (b+1)) wn n.drew):(Code.region w wg true).wp wx w4 wn n:=by
 refine wp_region_any g ?_;have j:=Ake h f i e a (Array.replicate wg.size false) wn n.drew (UG a) (c d);simp_all
theorem count_set:∀(a:List Bool) i,a[i]?=I false->(a.set i true).count false+1=a.count false
 |[],i,h=>by simp at h
 |b::a,0,h=>by grind
 |b::a,i+1,h=>by
  grind
theorem Aos(x:IJ w2 wg=true)(g:Array Bool->Act->Q->Prop)(z:∀a c d b f,g a c d->wg[b]?=I f->a.getD b true=false->(∀r∈f.after,Region.binds w2 r=true->a.getD r.on false=true)->wpOp wx wg w4 b (λk i=>vr i/\g (a.setIfInBounds b true) k i) c d)(t:∀a c d,g a c d->(∀b,b<wg.size->a.getD b false=true)->w4 .normal c d):
 ∀e a c d,a.size=wg.size->a.toList.count false<=e->g a c d->wpAnyH wx w2 wg w4 vr e a c d:=by
 intro e;induction e with
 |zero=>
  intro a c d p w h;have m:∀b,b<wg.size->a.getD b false=true:=by
   intro b u;cases hx:a.getD b false with
   |true=>rfl
   |false=>
    have D:false∈a.toList:=by
     have n:b<a.size:=O1;have:a[b]=false:=by simp_all
     grind
    grind
  refine⟨?_,t _ _ _ h m⟩;cases hr:A6 w2 wg a with
  |nil=>rfl
  |cons j l=>
   have y:j∈A6 w2 wg a:=by rw[hr];simp
   obtain⟨q,f,o,-⟩:=mem_ready.1 y;grind
 |succ e ih=>
  intro a c d p w h;refine⟨λv=>t _ _ _ h (Ae5 x p v),λb u=>?_⟩;let ⟨q,f,o,m⟩:=mem_ready.1 u
  refine wpOp_mono (λk i s=>⟨s.1,ih _ k i (by simpa using p) ?_ s.2⟩) (z a c d b f h o q m);have n:b<a.size:=by have:=(A5.1 o).1;omega
  have B:=count_set a.toList b (by
   rw[Atw,Asv n];simpa[n]using q)
  rw[Array.toList_setIfInBounds];omega
structure Dm (c:List Nat) (b a:Act):Prop where
 defers:a.defers=b.defers
 size:a.tmps.size=b.tmps.size
 it:∀k,k∉c->a.tmps[k]?=b.tmps[k]?
theorem Dm.refl(b:List Nat)(a:Act):Dm b a a:=⟨rfl,rfl,λ_ _=>rfl⟩
theorem Dm.put{a:Act}(b:Dm y wn a){c:Nat}(h:c∈y)(f:X):Dm y wn (a.put (I c) f):=
 ⟨b.defers,by rw[<-b.size];exact Atm,λe d=>by
  rw[<-b.it e d];exact Array.getElem?_setIfInBounds_ne (λg=>d O6)⟩
theorem Dm.eval(b:Dm y wn sw){a:Nat}(c:a∉y):sw.eval (.tmp a)=wn.eval (.tmp a):=by
 show sw.tmps.getD a Aq1=wn.tmps.getD a Aq1;rw[Aq3,Aq3,b.it a c]
theorem HJ(b:w<wn.tmps.size)(a:X):(wn.put (I w) a).eval (.tmp w)=a:=by
 show(wn.tmps.setIfInBounds w a).getD w Aq1=a;simp_all
theorem E8(b:w≠s)(a:X):(wn.put (I w) a).eval (.tmp s)=wn.eval (.tmp s):=by
 show(wn.tmps.setIfInBounds w a).getD s Aq1=wn.tmps.getD s Aq1;simp_all
theorem Dm.first(a:Dm (w::y) wn sw):Dm y (wn.put (I w) (sw.eval (.tmp w))) sw:=by
 refine⟨a.defers,by rw[a.size];exact Atm.symm,λb f=>?_⟩;show _=(wn.tmps.setIfInBounds w (sw.eval (.tmp w)))[b]?;by_cases c:w=b
 ·subst c;by_cases d:w<wn.tmps.size
  ·rw[Ar7 d];show _=I (sw.tmps.getD w Aq1);have e:w<sw.tmps.size:=by rw[a.size];omega
   simp_all
  ·rw[Aub (by rw[a.size];omega),Aub O6]
 ·rw[Array.getElem?_setIfInBounds_ne c];exact a.it b (λg=>by grind)
theorem QN:∀{D:List Nat} {b a:Act},Dm D b a->a=D.foldl (λd c=>d.put (I c) (a.eval (.tmp c))) b
 |[],b,a,h=>by
  let ⟨i,e⟩:=b
  let ⟨g,c⟩:=a
  obtain rfl:c=e:=h.defers;obtain rfl:g=i:=Array.ext_getElem? λf=>h.it f nofun;rfl
 |c::D,b,a,h=>QN (D:=D) h.first
theorem VS{e i:Type}{d:e->i}:∀{c:List e},(c.map d).Nodup->∀{a b:e},a∈c->b∈c->d a=d b->a=b
 |[],_,_,_,h,_,_=>by cases h
 |x::c,hn,a,b,ha,hb,he=>by
  rw[Aqv,Arf]at hn;rcases AW.1 ha with j|f
  ·grind
  ·rcases AW.1 hb with k|g
   ·grind
   ·exact VS hn.2 f g he
theorem Aph(h:wg[w]?=I w6)(f:w6.dst=I s)(j:Region.noSelect wg=true)(g:Region.free w2 wg nu w=true)(i:(A6 w2 wg nu).contains w=true)(d:∀a wn n,w4 (.panic a) (wn.put (I s) b) n->w4 (.panic a) wn n)(k:YieldsIf wx wg vr w6 b wn)(e:vr n)(c:wpAnyH wx w2 wg w4 vr m (nu.setIfInBounds w true) (wn.put (I s) b) n):wpAnyH wx w2 wg w4 vr (m+1) nu wn n:=by
 rw[<-f]at d c;exact wpAnyH_take h j g i d k e c
theorem ZT(c f:Operand)(a:AX)(h:w6.op=.call {callee:=.builtin .append,args:=#[c,f],argTypes:=#[a,a]}){d e b:X}(i:sm c=d)(j:sm f=e)(g:(Builtin.append_ #[a,a] w6.type #[d,e]).run wx n=.ok b p):(execOp sm w6).run wx n=.ok (.value b) p:=by
 unfold execOp;simp only[h,resolve,invoke,builtin,Sem.run_bind,Sem.run_pure,Result.andThen_ok,Ato,Aqv,Ars,i,j,g]
theorem KN(i:List Nat){c e:Nat}{f:Oper}{v:X}{h:Nat}{d:Array Bool}{a:Act}{b:Q}(_:i.find? (λs=>!(d.getD s true))=I c)(o:wg[c]?=I f)(m:f.dst=I e)(q:Region.noSelect wg=true)(n:Region.free w2 wg d c=true)(p:(A6 w2 wg d).contains c=true)(k:∀g a b,w4 (.panic g) (a.put (I e) v) b->w4 (.panic g) a b)(r:YieldsIf wx wg vr f v a)(l:vr b)(j:wpAnyH wx w2 wg w4 vr h (d.setIfInBounds c true) (a.put (I e) v) b):wpAnyH wx w2 wg w4 vr (h+1) d a b:=Aph o m q n p k r l j
end Go.Proofs.YtcacpmkdfnmhaaaGreatDoor
namespace Go.Proofs.YtcacpmkdfnmhaaaGreatDoor
open Go.RowKit Go.Sort
variable{b i r M wu:Value}{w s m j D nd na vl sk:Nat}{f:Nat->Addr}{v:ByteArray}{wg:Array Oper}{w2:Region.Mode}{y:List Nat}{nu:Array Bool}{wx:Program}{w4:Exit->Act->World->Prop}{vr:World->Prop}{wn:Act}{w6 xy xz x0:Oper}{vk:Act->World->Prop}{n p H ni vw:World}{nn:ByteArray×Nat}{w3:Bool}{g:Bm}{wy:List PT}{sm:Operand->Value}{wj:TypeId}{wk:Ex}{n8:PT}{h:List ByteArray}
def Js(c:Bx->Nat->Bool)(b:List Bx):Option Nat:=(AU (L b)).find? λa=>match b[a]? with|some x=>c x a|none=>false
theorem UC(d:Bx->Nat->Bool)(b:List Bx)(a:Nat)(f:a<L b)(g:d b[a] a=true)(hb:∀c e,c<a->d b[c] c=false):Js d b=I a:=by
 unfold Js;rw[List.find?_range_eq_some];grind
theorem OU(c:Bx->Nat->Bool)(b:List Bx)(hb:∀a d,c b[a] a=false):Js c b=none:=by
 unfold Js;grind
theorem Y3(d:Bx->Nat->Bool)(c:List Bx)(b:Nat)(g:b<L c)(f:∀a e,a<b->d c[a] a=false)(h:d c[b] b=false):∀a e,a<b+1->d c[a] a=false:=by
 grind
def Aja:Option Nat->X
 |some a=>R #[V C (a:Int),A true]
 |none=>R #[V C 0,A false]
def M6(c:Int)(b:Bx)(_:Nat):Bool:=(b.op==1) && decide (c<=b.a)
theorem Ph(a:b=i):Ending.returned b=F i:=by rw[a]
theorem Aeo(o:X)(c:List Bx)(f:Int)(d:Q)(m:D9 d o c):
 Av Aa 91 #[o,V C f] d λq h=>q=F (Aja (Js (M6 f) c))/\Below d.heap.size d h:=by
 obtain⟨r,z,rfl,D,n⟩:=m.open;have p:O9 (∀h,Below d.heap.size d h->LZ h r c):=n;clear n m;go_enter Tryz.func91,Tryz.ntmps91;go_wp2;go_loopw [10] (λk wr=>∃b,b<=L c/\k=V C b/\O9 (∀e g,e<b->M6 f c[e] e=false)/\Below d.heap.size d wr) (λk _=>L c-(intOf k).toNat)
 case atStart=>exact⟨0,Ak _,rfl,λ_ _ g=>absurd g nofun,Ae _ _⟩
 case round=>
  obtain⟨b,B,rfl,i,hb⟩:=hrel;by_cases j:b<L c
  ·obtain⟨v,E,u,t,s,rfl,w,x,y,_⟩:=p.o _ hb b j;have l:O9 (M6 f c[b] b=((c[b].op==1) && decide (f<=c[b].a))):=rfl;generalize c[b].op=op at*;generalize c[b].a=a at*;go_wp2;any_goals
    go_ret2
    exact⟨by rw[UC _ _ b j (by rw[l.o];simp_all) i.o];rfl,hb.alloc hb.size _⟩
   all_goals exact⟨⟨b+1,O1,by go_num,Y3 _ _ b j i.o (by rw[l.o];simp_all),hb.alloc hb.size _⟩,by simp[intOf];omega⟩
  ·go_wp2;go_ret2
   exact⟨by rw[OU _ _ (λe g=>i.o e g O1)];rfl,hb⟩
def Kc(a:Nat):Array X:=madeCells #[V C 0] a
theorem Amz(b a:Nat)(c:a<b):(Kc b)[a]?=I (V C 0):=by
 have:(Kc b).toList[a]?=I (V C 0):=by rw[Kc,toList_madeCells_one];simp[c]
 simpa using this
theorem Agk(a:Nat)(i:a<=65535)(b:Q):(Instr.makeSlice 225 (V C (a:Int)) (V C (a:Int))).run Aa b=.ok (W (I ⟨b.heap.size,0,N⟩) a a) (b.alloc (.cells (Kc a) 3)):=by
 let ⟨h,d,c⟩:=AB.1 Tryz.el
 simp[Aq2]at c;let ⟨e,f,g⟩:=c
 rw[run_make b 225 3 h (V C 0) Tryz.underlying225 d e C C a a O1 O1 (by rw[g];omega) O1,f];simp[Kc,Value.cells]
def KK(c:Int)(b:List B0):Bool:=b.any λa=>decide (c<=a.tgt)
def JH(c:Int)(b:Bx)(_:Nat):Bool:=if b.op=18 then decide (c<=b.a) else KK c b.alts
theorem Air(c:Int)(a:List B0)(b:Nat)(d:b<L a)(e:c<=a[b].tgt):KK c a=true:=by
 simp[KK,List.any_eq_true];grind
theorem Yf(c:Int)(a:List B0)(f:∀b (e:b<L a),a[b].tgt<c):KK c a=false:=by
 simp[KK,Asq];intro i d;obtain⟨h,g,rfl⟩:=Aty.1 d;grind
theorem Akk(b:Bx)(j:Option Addr)(n m:Nat)(d:Int)(f:Q)(p:Ez f (W j n m) b.alts)(c:Nat):
 Av Aa 140 #[T #[V C b.op,V C b.a,W j n m],V C d] f λh l=>h=F (A (JH d b c))/\Below f.heap.size f l:=by
 obtain⟨y,w,h,K,r⟩:=p.open;obtain⟨rfl,rfl,rfl⟩:j=y/\n=L b.alts/\m=w:=by simpa using h
 have t:O9 (∀l,Below f.heap.size f l->Mn l j b.alts):=r;clear r p h;have z:O9 (JH d b c=if b.op=18 then decide (d<=b.a) else KK d b.alts):=rfl;by_cases k:b.op=18
 ·have hb:(b.op==18)=true:=by simp[k]
  have i:O9 (JH d b c=decide (d<=b.a)):=by simp_all
  clear k;go_enter Tryz.func140,Tryz.ntmps140;go_wp2;go_ret;exact⟨DM i.o.symm,bA⟩
 ·have hb:(b.op==18)=false:=by simp[k]
  have i:O9 (JH d b c=KK d b.alts):=by grind
  clear k;go_enter Tryz.func140,Tryz.ntmps140;go_wp2;go_loopw [17] (λo wr=>∃e:Nat,e<=L b.alts/\o=V C e/\O9 (∀c (g:c<L b.alts),c<e->b.alts[c].tgt<d)/\Below f.heap.size f wr) (λo _=>L b.alts-(intOf o).toNat)
  case atStart=>exact⟨0,Ak _,rfl,λ_ _ g=>absurd g nofun,bA⟩
  case round=>
   obtain⟨e,H,rfl,q,hb⟩:=hrel;by_cases s:e<L b.alts
   ·obtain⟨B,M,rfl,D,E⟩:=t.o _ hb e s;have v:O9 (d<=b.alts[e].tgt->KK d b.alts=true):=Air d b.alts e s;have u:O9 (b.alts[e].tgt<d->∀c (g:c<L b.alts),c<e+1->b.alts[c].tgt<d):=by
     intro x c g G;by_cases h:c=e
     ·subst h;exact x
     ·exact q.o c g O1
    generalize b.alts[e].tag=tg at*;generalize b.alts[e].tgt=tto at*;go_wp2;any_goals
     go_ret;exact⟨DM (by rw[i.o,v.o O1]),hb.alloc hb.size _⟩
    all_goals exact⟨⟨e+1,O1,rfl,u.o O1,hb.alloc hb.size _⟩,by simp[intOf];omega⟩
   ·go_wp2;go_ret;exact⟨DM (by rw[i.o,Yf _ _ (λc g=>q.o c g O1)]),hb⟩
def Lu(a:List Bx):X:=
 if L a=0 then R #[V C 0,A true] else
 match Js (JH (L a)) a with
 |some b=>R #[V C (b:Int),A true]
 |none=>R #[V C ((L a:Int)-1),A (!(match a[L a-1]? with|some x=>K6 x.op|none=>false))]
theorem Aqb(v:X)(a:List Bx)(c:Q)(s:D9 c v a):
 Av Aa 93 #[v] c λl e=>l=F (Lu a)/\Below c.heap.size c e:=by
 obtain⟨H,K,rfl,Y,t⟩:=s.open;have p:O9 (∀e,Below c.heap.size c e->LZ e H a):=t;clear t s;by_cases f:(L a)=0
 ·have hb:((L a:Int)==0)=true:=by simp[f]
  have g:O9 (Lu a=R #[V C 0,A true]):=by show _=_;simp[Lu,f]
  clear f;go_enter Tryz.func93,Tryz.ntmps93;go_wp2;go_ret2
  exact⟨by rw[g.o];rfl,Ae _ _⟩
 ·have U:0<L a:=O1;have hb:((L a:Int)==0)=false:=by grind
  have g:O9 (Lu a=match Js (JH (L a)) a with
   |some b=>R #[V C (b:Int),A true]
   |none=>R #[V C ((L a:Int)-1),A (!(match a[L a-1]? with|some x=>K6 x.op|none=>false))]):=by show _=_;simp[Lu,f]
  clear f;go_enter Tryz.func93,Tryz.ntmps93;go_wp2;go_loopw [12] (λo wr=>∃b:Nat,b<=L a/\o=V C b/\O9 (∀d (h:d<L a),d<b->JH (L a) a[d] d=false)/\Below c.heap.size c wr) (λo _=>L a-(intOf o).toNat)
  case atStart=>exact⟨0,Ak _,rfl,λ_ _ h=>absurd h O1,Ae _ _⟩
  case round=>
   obtain⟨b,O,rfl,m,hb⟩:=hrel;by_cases n:b<L a
   ·obtain⟨z,G,k,j,i,rfl,B,D,E,q⟩:=p.o _ hb b n;have w:O9 (Ez wr (W k j i) a[b].alts):=q;clear q;go_wp2_with (first|(go_at_call 140;refine(Akk a[b] k j i _ _ ?_ b).mono ?_;exact(w.o).bE bA;rintro l e ⟨rfl,r⟩))
    any_goals
     go_ret2
     exact⟨by rw[g.o,UC _ _ b n O1 m.o];rfl,(hb.alloc hb.size _).trans (r.mono (by have:=hb.size;simp;omega))⟩
    all_goals exact⟨⟨b+1,O1,by go_num,Y3 _ _ b n m.o O1,(hb.alloc hb.size _).trans (r.mono (by have:=hb.size;simp;omega))⟩,by simp[intOf];omega⟩
   ·obtain⟨z,G,k,j,i,rfl,B,D,E,_⟩:=p.o _ hb (L a-1) O1;have u:a[L a-1]?=I (a[L a-1]'(by omega)):=AA O1;have y:O9 (a[L a-1]?=I (a[L a-1]'(by omega))):=u;clear u;have M:((L a:Int)-1).toNat=L a-1:=O1;go_wp2_with (first|(go_at_call 141;refine(Am0 _ _).mono ?_;rintro l e ⟨rfl,rfl⟩))
    go_ret2
    exact⟨by rw[g.o,OU _ _ (λd h=>m.o d h O1),y.o];rfl,hb⟩
theorem Y1{ad:Q}(e:Bool)(aS:GW ad w s f v b m j)(aR:P7 ad w s f v b m j):Lp 271 ad w s f v b m j (Fy v (pE v m) e) #[A e]:=by
 intro p D ai o aX;have aj:=o.lt;have aT:=o.dK;have ar:=O0 ai;have bn:=O0 o;have bm:=HM;obtain⟨aG,ak⟩:∃bh,bh=AO #[A e,W N 0 0,W N 0 0,.nilIface] 262:=⟨_,rfl⟩;have y:O9 (Below p.heap.size p (p.alloc aG)):=bA;have ag:O9 (V4 (p.alloc aG) p.heap.size (A e) (W N 0 0) (W N 0 0) .nilIface):=by
  subst ak;exact⟨O2,O2,O2,O2,λbx=>O2⟩
 have ah:=O0 (Qq Ct (p.heap.size+1) O2 (ai.ef (EF.bG y.o)) (o.below y.o) aX O4);rw[ak]at ah y ag;clear ai o ak;show Av _ _ #[J (I ⟨w,0,N⟩),A e] _ _;go_enter Tryz.func271,Tryz.ntmps271;go_wp2_with (first
  |(go_at_call 55;refine ah.o.mono ?_;intro l bk h;clear ah;rcases h1:BS v Ct D with⟨a2,aD⟩|⟨⟨⟩,ao⟩;(·obtain⟨rfl,M⟩:=h.bZ h1;have H:=O0 M;have aH:=O0 h1;clear h M h1;go_wp2;go_ret2;exact B9.bad (by rw[UU,aH.o,Dj]) ((EF.bG y.o).trans H.o) rfl (Ba rfl));have K:O9 (Fy v (pE v m) e D=pb (IW v (pE v m) [] [] ao) λa u=>pb (BS v BJ u) λ_ x=>pb (pE v m x) λk g=>.ok (.lets e a.1 a.2 k,g)):=(by show _=_;rw[UU,h1,BB]);obtain⟨rfl,M,aY,a7⟩:=h.isOk h1;have H:=O0 M;have a0:=O0 a7;clear h M a7 h1))
 obtain⟨r,ab⟩:∃r,p.heap.size=r:=⟨_,rfl⟩;have ay:O9 (CT w s v b j m p bk r e [] [] ao (W N 0 0) (W N 0 0)):=by
  subst ab;exact⟨aY,a0.o,ag.o.ef H.o (Bh aj),BU.nil _ _,BU.nil _ _,(λk hb=>by simp[Jw]at hb),(EF.bG y.o).trans H.o,Ac _,Ak _,rfl⟩
 rw[ab];clear a0 ag;go_loopw [] (λwr=>∃(d:Bm) (t:List PT) (i:Nat) (aF a4:X),O9 (Fy v (pE v m) e D=pb (IW v (pE v m) d (t.map (λa:PT=>a.2.1)) i) λa u=>pb (BS v BJ u) λ_ x=>pb (pE v m x) λk g=>.ok (.lets e a.1 a.2 k,g))/\O9 (CT w s v b j m p wr r e d t i aF a4)) (λwr=>v.size+1-Ht wr ⟨r,1,N⟩)
 case atStart=>exact⟨[],[],ao,_,_,K.o,ay.o⟩
 case round=>
  clear ay K H y;obtain⟨d,t,i,aF,a4,K,c⟩:=hrel;rename Q=>wr
  have al:=c.o.hq;have bw:=c.o.len;have aV:(L d)<=v.size:=by rw[c.o.same];omega
  obtain⟨b1,bz,rfl⟩:=c.o.n.slice;obtain⟨bv,bu,rfl⟩:=c.o.e.slice;obtain⟨bo,bp,bq,br,a3⟩:=id c.o.v;have bs:=a3 1;clear a3;have az:=O0 (Ga c.o.ps al);have af:O9 (r≠w):=by show r≠w;omega
  have aJ:=O0 (ar.o.ef c.o.ef);clear ab;by_cases q:d≠[]/\Bp v i=BJ
  ·have aO:=Hw IH q.2;have aE:((L d:Int)==0)=false:=by
    rw[beq_eq_false_iff_ne];have:=Aq8.2 q.1;omega
   have aK:O9 (Bp v i≠⟨#[]⟩):=by show _≠_;rw[q.2];decide
   have a1:O9 (Fy v (pE v m) e D=pb (pE v m (BG v i)) λk g=>.ok (.lets e d (t.map (λa:PT=>a.2.1)) k,g)):=by
    show _=_;rw[K.o,Acm q,BB,SE (by rw[VR];exact q.2),BB,Q7]
   have aW:=Dq al;clear q;go_wp2_with (first
    |(go_at_call 57;refine az.o.mono ?_;rintro l ac ⟨rfl,Y⟩;have au:=O0 Y;clear Y)
    |(go_at_call 58;refine(I8 (c.o.ps.below au.o) al).mono ?_;rintro l bl ⟨rfl,O,a6⟩;have z:=O0 ((EF.bG (E:=w) au.o).trans O);have aL:=O0 (a6 aK.o);clear O a6)
    |(go_at_call 168;refine(aS _ _ (aJ.o.ef z.o) aL.o aW).mono ?_;intro l b5 h;rcases hb:pE v m (BG v i) with⟨a2,aD⟩|⟨aq,g⟩;(·obtain⟨ap,rfl,U,ba⟩:=h.bZ hb;have B:=O0 (z.o.trans U);have G:=O0 hb;obtain⟨k0,bb,bc,be,aa⟩:=c.o.v.ef B.o af.o;have bf:=aa 3;clear h U aa hb;(rcases ba with rfl|⟨bi,bj,rfl⟩<;>(go_wp2;go_ret2;exact B9.bad (by rw[a1.o,G.o,Dj]) (Jg (c.o.ef.trans B.o) c.o.hL) rfl (Aq5 ⟨_,_,rfl⟩))));have G:=O0 hb;obtain⟨ap,rfl,U,aZ,a8,bt,an,aB⟩:=h.isOk hb;obtain⟨bi,bj,rfl⟩:=an.cB;have B:=O0 (z.o.trans U);obtain⟨k0,bb,bc,be,aa⟩:=c.o.v.ef B.o af.o;have bf:=aa 3;have aM:=O0 a8;have aw:=O0 (c.o.fin aj B.o an (aB.low z.o.size));clear h U aa an aB a8 hb))
   go_ret2
   have ab:=c.o.hL;exact B9.ok (by rw[a1.o,G.o,BB]) (Jg (c.o.ef.trans B.o) c.o.hL) ⟨aZ,aM.o.cN af.o O1,_,aw.o.1,aw.o.2⟩
  ·have ax:O9 (Fy v (pE v m) e D=pb (HC v (pE v m) d i) λa g=>pb (IW v (pE v m) (d++[a.1]) (t.map (λa:PT=>a.2.1)++[a.2]) g) λa u=>pb (BS v BJ u) λ_ x=>pb (pE v m x) λk g=>.ok (.lets e a.1 a.2 k,g)):=by
    show _=_;rw[K.o,Ack aV q];match HC v (pE v m) d i with
    |P l=>rfl
    |.ok (a,g)=>rfl
   have aI:=O0 (λac (hb:Below wr.heap.size wr ac)=>aR p ac r e d t i _ _ ar.o aj aT (c.o.below hb));have a9:((L d:Int)==0)=true\/(((L d:Int)==0)=false/\((Bp v i).toList==[41])=false):=by
    by_cases am:d=[]
    ·exact Ba (by rw[am];rfl)
    ·refine Aq5 ⟨?_,HP IH λo=>q ⟨am,o⟩⟩;rw[beq_eq_false_iff_ne];have:=Aq8.2 am;omega
   clear q;have av:=O0 (Ae wr.heap.size wr);have aC:((L d:Int)==0)=false->((Bp v i).toList==[41])=false:=λo=>a9.elim (λl=>by rw[l]at o;cases o) λl=>l.2;clear a9;cases aE:((L d:Int)==0);all_goals
    try have aO:=aC aE
    clear aC;go_wp2_with (first
     |(go_at_call 57;refine az.o.mono ?_;rintro l ac ⟨rfl,Y⟩;replace av:=O0 Y;clear Y)
     |(go_at_call 285;refine(aI.o _ av.o).mono ?_;intro l bl h;rcases hbd:HC v (pE v m) d i with⟨a2,aD⟩|⟨⟨a,aq⟩,g⟩;(·obtain⟨rfl,O⟩:=h.bZ hbd;have z:=O0 O;have G:=O0 hbd;clear h O hbd;go_wp2;go_ret2;exact B9.bad (by rw[ax.o,G.o,Dj]) z.o rfl (Ba rfl));have aN:O9 (Fy v (pE v m) e D=pb (IW v (pE v m) (d++[a]) (t.map (λa:PT=>a.2.1)++[aq]) g) λa u=>pb (BS v BJ u) λ_ x=>pb (pE v m x) λk g=>.ok (.lets e a.1 a.2 k,g)):=(by show _=_;rw[ax.o,hbd,BB]);obtain⟨rfl,ap,aP,bg,aQ,a5⟩:=h.isOk hbd;have ae:=O0 a5;clear h a5 hbd))
    refine⟨⟨d++[a],t++[(ap,aq,aP)],g,bg,aQ,by show _=_;rw[aN.o,AJ];rfl,ae⟩,?_⟩;obtain⟨b2,b0,rfl⟩:=ae.o.n.slice;rw[Uq ae.o.v,Uq c.o.v];simp[J0];omega
def R9(e:Region.Mode)(f:Array Oper)(d:List Nat)(c:Nat):Bool:=(AU c).all λa=>d.contains a||(AU (c+1)).any λb=>decide (a<b) && Region.waitsFor e f b a
theorem Aat(v:R9 w2 wg y w=true)(r:Region.chainB w2 wg w=true)(O:w<wg.size)(k:HeadInv w2 wg w nu)(K:∀c∈y,nu.getD c true=true):
 ∀f c,w<=c+f->c<w->nu.getD c true=false->∀a,w<=a->a∉A6 w2 wg nu:=by
 have M:∀a,w<a->a∉A6 w2 wg nu:=by
  intro a x e;obtain⟨-,p,j,m⟩:=mem_ready.1 e;have z:=(A5.1 j).1;have b:=Ark.1 r a (As3.2 z);simp[Bool.or_eq_true,decide_eq_true_eq]at b;rcases b with b|b
  ·omega
  ·let ⟨B,t,g,i,hb,o⟩:=Region.waitsFor_spec b
   obtain rfl:B=p:=Ar0 (t.symm.trans j);have h:=m g i hb;rw[o,getD_both (k.tail (a-1) O1 O1)]at h;cases h
 intro f;induction f with
 |zero=>omega
 |succ f ih=>
  intro c H s U a x e;rcases Asb w a with q|q
  ·grind
  obtain rfl:a=w:=O1;obtain⟨-,p,j,m⟩:=mem_ready.1 e;have b:=Ark.1 v c (As3.2 s);rw[Bool.or_eq_true]at b;rcases b with b|b
  ·grind
  let ⟨d,E,n⟩:=List.any_eq_true.1 b
  simp[decide_eq_true_eq]at n;let ⟨D,u,g,i,hb,o⟩:=Region.waitsFor_spec n.2
  have G:d<=a:=by grind
  rcases Asb d a with l|l
  ·cases hx:nu.getD d false with
   |true=>
    have h:=k.closed d D u hx g i hb;grind
   |false=>exact ih d O1 l (getD_in (by rw[k.size];omega) hx) a .refl e
  grind
theorem Ais(G:w+(s+1)=wg.size)(m:IJ w2 wg=true)(O:R9 w2 wg y w=true)(p:Region.chainB w2 wg w=true):∀e a d f,HeadInv w2 wg w a->(∀b∈y,a.getD b true=true)->
 wpAnyH wx w2 wg (JL wx wg w4 w (s+1)) vr e (D6 a w (s+1)) d f->wpAny wx w2 wg w4 (e+(s+1)) a d f:=by
 have u:∀e a d f,HeadInv w2 wg w a->(∀b,b<w->a.getD b true=true)->JL wx wg w4 w (s+1) .normal d f->wpAny wx w2 wg w4 (e+(s+1)) a d f:=
  λe a d f c g x=>Wc m (s+1) w a d f G p c.size g c.tail x _ O1
 have K:∀a,HeadInv w2 wg w a->(∀b,b<w->a.getD b true=true)->A6 w2 wg (D6 a w (s+1))=[]:=by
  intro a c g;cases hr:A6 w2 wg (D6 a w (s+1)) with
  |nil=>rfl
  |cons i y=>
   have o:i∈A6 w2 wg (D6 a w (s+1)):=by rw[hr];simp
   obtain⟨k,ad,M,-⟩:=mem_ready.1 o;have ac:=(A5.1 M).1;by_cases r:i<w
   ·rw[LH _ _ _ _ _ r,g i r]at k;cases k
   ·rw[SM _ _ _ _ _ O1 O1 (by rw[c.size];omega)]at k;cases k
 have U:∀a,HeadInv w2 wg w a->A6 w2 wg a≠[]:=λa c=>MF m c.size w O1 (c.tail w .refl O1);intro e;induction e with
 |zero=>
  intro a d f c _ j;refine u 0 a d f c (λb h=>?_) j.2;cases hx:a.getD b true with
  |true=>rfl
  |false=>exact absurd j.1 (MF m (by rw[OL];exact c.size) b O1 (by rw[LH _ _ _ _ _ h];exact hx))
 |succ e ih=>
  intro a d f c t j;by_cases g:∀b,b<w->a.getD b true=true
  ·exact u (e+1) a d f c g (j.1 (K a c g))
  ·have H:∃b,b<w/\a.getD b true=false:=by
    apply Classical.byContradiction;intro D;apply g;intro b h;cases hx:a.getD b true with
    |true=>rfl
    |false=>exact absurd ⟨b,h,hx⟩ D
   let ⟨aa,E,Y⟩:=H
   rw[show e+1+(s+1)=(e+(s+1))+1 by omega];refine⟨λB=>absurd B (U a c),λb h=>?_⟩;have n:b<w:=by
    rcases Asb b w with l|l
    ·exact l
    ·exact absurd h (Aat O p O1 c t w aa O1 E Y b l)
   refine Ud (wpOp_mono (λv ab z=>?_) (j.2 b (U5 n h)));refine ih _ v ab (c.set h n) (λi o=>?_) ?_
   ·by_cases q:b=i
    ·subst q;rw[Aq3,Ar7 (by rw[c.size];omega)];rfl
    ·rw[AY true q];exact t i o
   ·rw[<-SU _ _ _ _ n];exact z.2
theorem Aei{Q:Exit->Act->World->Prop}{S:World->Prop}{t:Nat}{w:World}(a c b d:Nat){e:Oper}{v:X}(o:wx.follows .mixedOrders=true)(p:a+(c+1)=wg.size)(n:b<a)(k:IJ .any wg=true)(r:R9 .any wg [b] a=true)(j:Region.chainB .any wg a=true)(m:wg[b]?=I e)(B:e.dst=I d)(q:Region.noSelect wg=true)(l:Region.free .any wg (Array.replicate wg.size false) b=true)(g:(A6 .any wg (Array.replicate wg.size false)).contains b=true)(z:∀f wn w,Q (.panic f) (wn.put (I d) v) w->Q (.panic f) wn w)(s:Yields wx wg e v wn)(i:S w.drew)(h:S w.drew->wpAnyH wx .any wg (JL wx wg Q a (c+1)) S (a-1) (D6 ((Array.replicate wg.size false).setIfInBounds b true) a (c+1)) (wn.put (I d) v) w.drew):(Code.region t wg true).wp wx Q wn w:=by
 refine wp_region_any o ?_;have x:=Ais p k r j (a-1) ((Array.replicate wg.size false).setIfInBounds b true) (wn.put (I d) v) w.drew ((UG a).set (by simpa using g) n) (λE D=>by
  simp_all) (h i)
 have u:wg.size=(a-1+(c+1))+1:=O1;have y:=wpAny_take (Q:=Q) (fuel:=a-1+(c+1)) (w:=w.drew) m q l g O6 s O6;simp_all
theorem Ki(e:wg[w]?=I w6)(d:w6.guard=N)(c:w6.dst=I s)(f:(execOp wn.eval w6).run wx n=.ok (.value b) p)(a:vk (wn.put (I s) b) p):wpOp wx wg w4 w vk wn n:=by
 unfold wpOp;simp[e];rw[if_pos (by simp[Region.wanted,d])];refine .inl ?_;unfold Oper.wp;rw[f];show vk (wn.put w6.dst b) p;rw[c];exact a
def FZ(a:Nat):X:=W (I ⟨a,0,N⟩) 1 1
theorem Ady{i1 j1 i2 j2 x1 y1 x2 y2:Nat}(ah:wg[i1]?=I w6)(ao:wg[j1]?=I xy)(D:wg[i2]?=I xz)(aD:wg[j2]?=I x0)(af:w6.guard=N)(ag:xy.guard=N)(B:xz.guard=N)(az:x0.guard=N)(ad:w6.dst=I x1)(ae:xy.dst=I y1)(z:xz.dst=I x2)(av:x0.dst=I y2){j:Array Bool}(aF:A6 w2 wg j=[i1,i2])(aG:A6 w2 wg (j.setIfInBounds i1 true)=[j1,i2])(aL:A6 w2 wg (j.setIfInBounds i2 true)=[i1])(aH:A6 w2 wg ((j.setIfInBounds i1 true).setIfInBounds j1 true)=[i2])(aJ:A6 w2 wg ((j.setIfInBounds i1 true).setIfInBounds i2 true)=[j1])(aM:A6 w2 wg ((j.setIfInBounds i2 true).setIfInBounds i1 true)=[j1])(aI:A6 w2 wg (((j.setIfInBounds i1 true).setIfInBounds j1 true).setIfInBounds i2 true)=[j2])(aK:A6 w2 wg (((j.setIfInBounds i1 true).setIfInBounds i2 true).setIfInBounds j1 true)=[j2])(aN:A6 w2 wg (((j.setIfInBounds i2 true).setIfInBounds i1 true).setIfInBounds j1 true)=[j2])(aw:A6 w2 wg ((((j.setIfInBounds i1 true).setIfInBounds j1 true).setIfInBounds i2 true).setIfInBounds j2 true)=[])(ax:A6 w2 wg ((((j.setIfInBounds i1 true).setIfInBounds i2 true).setIfInBounds j1 true).setIfInBounds j2 true)=[])(ay:A6 w2 wg ((((j.setIfInBounds i2 true).setIfInBounds i1 true).setIfInBounds j1 true).setIfInBounds j2 true)=[]){c:Act}{w0:Q}(aa:x1<c.tmps.size)(an:y1<c.tmps.size)(ab:x2<c.tmps.size)(aC:y2<c.tmps.size)(am:[x1,y1,x2,y2].Nodup){c1 c2:Obj}{M:X->Q->Prop}{F:X->X->Q->Prop}(aj:∀b a,Dm [x1,y1,x2,y2] c b->(execOp b.eval w6).run wx a=.ok (.value (FZ a.heap.size)) (a.alloc c1))(E:∀b a,Dm [x1,y1,x2,y2] c b->(execOp b.eval xz).run wx a=.ok (.value (FZ a.heap.size)) (a.alloc c2))(ai:∀b a h,Dm [x1,y1,x2,y2] c b->b.eval (.tmp x1)=FZ h->Below w0.heap.size w0 a->a.heap[h]?=I c1->∃f g,(execOp b.eval xy).run wx a=.ok (.value f) g/\M f g/\a.heap.size<=g.heap.size/\∀x,w0.heap.size<=x->x<a.heap.size->g.heap[x]?=a.heap[x]?)(a0:∀b k a i h,Dm [x1,y1,x2,y2] c b->M i k->Below k.heap.size k a->b.eval (.tmp x2)=FZ h->a.heap[h]?=I c2->∃f g,(execOp b.eval x0).run wx a=.ok (.value f) g/\F i f g)(w:∀a,Below w0.heap.size w0 a->vr a)(G:∀i k a,M i k->Below k.heap.size k a->vr a)(a1:∀i y a,F i y a->vr a)(a4:∀b a i y,Dm [x1,y1,x2,y2] c b->b.eval (.tmp y1)=i->b.eval (.tmp y2)=y->F i y a->w4 .normal b a)(fuel:Nat):wpAnyH wx w2 wg w4 vr (fuel+4) j c w0:=by
 have l:∀{a:Q} (au:Obj),Below w0.heap.size w0 a->Below w0.heap.size w0 (a.alloc au):=λau v=>v.alloc v.size _;simp only[Arf,AW,Asc,or_false,not_or]at am;obtain⟨⟨aO,aq,aP⟩,⟨ar,aE⟩,aQ,-,-⟩:=am;have n:∀{b:Act} {d:Nat} (f:X),d∈[x1,y1,x2,y2]->Dm [x1,y1,x2,y2] c b->Dm [x1,y1,x2,y2] c (b.put (I d) f):=λf a3 v=>v.put a3 f;have ap:∀(r:Nat) o (b:Act) k a (i:X) (h:Nat),A6 w2 wg o=[j2]->A6 w2 wg (o.setIfInBounds j2 true)=[]->Dm [x1,y1,x2,y2] c b->b.eval (.tmp y1)=i->M i k->Below k.heap.size k a->b.eval (.tmp x2)=FZ h->a.heap[h]?=I c2->wpAnyH wx w2 wg w4 vr (r+1) o b a:=by
  intro r o b k a i h U K e a9 p hb Y H;refine wpAnyH_all U O2 λs m=>?_;obtain rfl:s=j2:=by simpa using m
  let ⟨f,g,u,ak⟩:=a0 b k a i h e p hb Y H
  refine Ki aD az av u ⟨a1 _ _ _ ak,wpAnyH_done K ?_ r⟩;refine a4 _ _ i f (n _ O2 e) ?_ ?_ ak
  ·rw[E8 (Asg aE)];exact a9
  ·exact HJ (by rw[e.size];exact aC) f
 have ac:∀(r:Nat) o (b:Act) (a:Q) (h q:Nat),A6 w2 wg o=[j1]->A6 w2 wg (o.setIfInBounds j1 true)=[j2]->A6 w2 wg ((o.setIfInBounds j1 true).setIfInBounds j2 true)=[]->Dm [x1,y1,x2,y2] c b->Below w0.heap.size w0 a->b.eval (.tmp x1)=FZ h->a.heap[h]?=I c1->b.eval (.tmp x2)=FZ q->a.heap[q]?=I c2->w0.heap.size<=q->q<a.heap.size->wpAnyH wx w2 wg w4 vr (r+2) o b a:=by
  intro r o b a h q U a7 K e hb Y H aB a2 a5 a6;refine wpAnyH_all U O2 λs m=>?_;obtain rfl:s=j1:=by simpa using m
  let ⟨f,g,u,p,a8,al⟩:=ai b a h e Y hb H
  refine Ki ao ag ae u ⟨G _ _ _ p (Ae _ _),?_⟩;refine ap r _ _ g g f q a7 K (n _ O2 e) (HJ (by rw[e.size];exact an) f) p (Ae _ _) ?_ ?_
  ·rw[E8 ar];exact aB
  ·rw[al q a5 a6];exact a2
 refine wpAnyH_all aF O2 λs m=>?_;have O:s=i1\/s=i2:=by simpa using m
 rcases O with rfl|rfl
 ·refine Ki ah af ad (aj _ _ (Dm.refl _ _)) ⟨w _ (l _ (Ae _ _)),?_⟩;refine wpAnyH_all aG O2 λt m=>?_;have O:t=j1\/t=i2:=by simpa using m
  rcases O with rfl|rfl
  ·let ⟨f,g,u,p,a8,al⟩:=ai (c.put (I x1) (FZ w0.heap.size)) (w0.alloc c1) w0.heap.size (n _ O2 (Dm.refl _ _)) (HJ aa _) (l _ (Ae _ _)) (AL w0 c1)
   refine Ki ao ag ae u ⟨G _ _ _ p (Ae _ _),?_⟩;refine wpAnyH_all aH O2 λt m=>?_;obtain rfl:t=i2:=by simpa using m
   have e:=n f (d:=y1) O2 (n (FZ w0.heap.size) (d:=x1) O2 (Dm.refl [x1,y1,x2,y2] c));refine Ki D B z (E _ _ e) ⟨G _ _ _ p bA,?_⟩;refine ap fuel _ _ g (g.alloc c2) f g.heap.size aI aw (n _ O2 e) ?_ p bA (HJ (by rw[e.size];exact ab) _) (AL g c2);rw[E8 (Asg ar)];exact HJ (by show y1<(c.tmps.setIfInBounds _ _).size;rw[Atm];exact an) f
  ·have e:=n (FZ w0.heap.size) (d:=x1) O2 (Dm.refl [x1,y1,x2,y2] c);refine Ki D B z (E _ _ e) ⟨w _ (l _ (l _ (Ae _ _))),?_⟩;refine ac (fuel) _ _ ((w0.alloc c1).alloc c2) w0.heap.size (w0.alloc c1).heap.size aJ aK ax (n _ O2 e) (l _ (l _ (Ae _ _))) ?_ ?_ (HJ (by rw[e.size];exact ab) _) (AL _ c2) O2 O2
   ·rw[E8 (Asg aq)];exact HJ aa _
   ·rw[Ara _ _ O2];exact AL w0 c1
 ·refine Ki D B z (E _ _ (Dm.refl _ _)) ⟨w _ (l _ (Ae _ _)),?_⟩;refine wpAnyH_all aL O2 λt m=>?_;obtain rfl:t=i1:=by simpa using m
  have e:=n (FZ w0.heap.size) (d:=x2) O2 (Dm.refl [x1,y1,x2,y2] c);refine Ki ah af ad (aj _ _ e) ⟨w _ (l _ (l _ (Ae _ _))),?_⟩;refine ac (fuel) _ _ ((w0.alloc c2).alloc c1) (w0.alloc c2).heap.size w0.heap.size aM aN ay (n _ O2 e) (l _ (l _ (Ae _ _))) (HJ (by rw[e.size];exact aa) _) (AL _ c1) ?_ ?_ .refl O5
  ·rw[E8 aq];exact HJ ab _
  ·rw[Ara _ _ O2];exact AL w0 c2
theorem Ao7(a:wpOp wx wg w4 w (wpOp wx wg w4 (w+1) (wpOp wx wg w4 (w+2) (wpOp wx wg w4 (w+3) (wpOp wx wg w4 (w+4) (wpOp wx wg w4 (w+5) (w4 .normal)))))) wn n):JL wx wg w4 w (5+1) .normal wn n:=by
 show wpOps wx wg w4 [w,w+1,w+1+1,w+1+1+1,w+1+1+1+1,w+1+1+1+1+1] wn n;refine wpOp_mono (λwn n a=>?_) a;refine wpOp_mono (λwn n a=>?_) a;refine wpOp_mono (λwn n a=>?_) a;refine wpOp_mono (λwn n a=>?_) a;refine wpOp_mono (λwn n a=>?_) a;exact wpOp_mono (λwn n a=>a) a
def P3(e f:Nat)(j:Q)(d:Nat)(g:X)(c:Bm)(k:ByteArray×Nat)(h:X)(i:Q):Prop:=∃b a,h=W (I ⟨b,0,N⟩) (L c+1) a/\Mx e f j i d g c k b a
def Jt(a:Nat)(c:ByteArray×Nat)(b:Q):Prop:=b.cell? ⟨a,0,N⟩=I (S c.1)/\b.cell? ⟨a,1,N⟩=I (V C (c.2:Int))
theorem Jt.bX{w':Q}(b:Jt w nn n)(a:w'.heap[w]?=n.heap[w]?):Jt w nn w':=
 ⟨by rw[Ai a];exact b.1,by rw[Ai a];exact b.2⟩
def OE(b c:Nat)(e d:X)(f:ByteArray×Nat)(a:Q):Prop:=a.cell? ⟨b,1,N⟩=I e/\a.cell? ⟨b,2,N⟩=I d/\Jt c f a
def Ql(h i:Nat)(q:ByteArray)(l:X)(m j:Nat)(s:Q)(a:Nat)(c:Bool)(n:Bm)(t:List PT)(p g:Nat)(o k:X)(f:ByteArray×Nat)(r:PT)(d e:X)(b:Q):Prop:=
 CT h i q l m j s ((b.setCell ⟨a,1,N⟩ d).setCell ⟨a,2,N⟩ e) a c (n++[f]) (t++[r]) p d e/\V4 b a (A c) o k .nilIface/\Jt g f b
theorem CT.s1{f:ByteArray}(a:CT w s f b m j n p D w3 g wy nd i r)(h:w<n.heap.size)(e:EF w p H)(c:Jt na nn H)(hb:Below H.heap.size H ni):OE D na i r nn ni:=by
 have d:=(a.v.ef e (by have:=a.hL;omega)).bE hb;exact⟨d.c1,d.c2,c.bX (hb.block na (AG c.1))⟩
theorem CT.s2{h:Q}(c:CT w s v b m j h p D w3 g wy nd i r)(o:w<h.heap.size)(l:EF w p H)(d:Jt na nn H)(u:p.heap.size<=na)(a:P3 w s H D i g nn M ni)(hb:Below ni.heap.size ni vw):OE D na i r nn vw:=by
 obtain⟨t,q,rfl,a⟩:=a;have f:=(c.v4 o l a).bE hb;refine⟨f.c1,f.c2,d.bX ?_⟩;have e:=AG d.1;rw[hb.block na (Aj e a.size)];exact a.block na e λk=>by have:=(c.n.rg na (Ad _ (BM.2 k))).2;omega
theorem CT.a1{o:Q}{i1 i2:Operand}(a:CT w s v b m j o p D w3 g wy nd i r)(ah:v.size<=2000)(B:w<o.heap.size)(e:EF w p H)(aa:w6.op=.call {callee:=.builtin .append,args:=#[i1,i2],argTypes:=#[102,102]})(u:sm i1=i)(x:sm i2=FZ na)(hb:Below H.heap.size H ni)(G:ni.heap[na]?=I (.cells #[S nn.1,V C (nn.2:Int)] 117)):
 ∃l d,(execOp sm w6).run Aa ni=.ok (.value l) d/\P3 w s H D i g nn l d/\ni.heap.size<=d.heap.size/\∀c,H.heap.size<=c->c<ni.heap.size->d.heap[c]?=ni.heap[c]?:=by
 let ⟨ad,Y,h⟩:=AB.1 Tryz.c9
 simp at h;let ⟨M,O,U⟩:=h
 have ag:(L g)<=2000:=by have:=a.len;have:=a.hq;rw[a.same];omega
 obtain⟨y,q,d,ac,ab,f,E,K⟩:=run_append_lies ni 102 w6.type 0 117 ad _ 2 24 Tryz.underlying102 Y M O U rfl O1 i (L g) (g.flatMap wC) (((a.n.ef D1 e (by have:=a.hL;omega)).bE D1 hb).own) ⟨na,0,N⟩ 1 1 [S nn.1,V C nn.2] rfl (by
  have:=A1 G;grind) (by intro ai k;simp at k;rcases k with rfl|rfl<;>rfl) .refl O8 O1 (Ak _) _ rfl
 refine⟨_,d,ZT _ _ _ aa u x ac,⟨y,q,rfl,a.first B e hb f E K ab⟩,f.size,λc ae z=>f.block c z λt=>?_⟩;have af:=(a.n.rg c (Ad _ (BM.2 t.symm))).2;have:=e.size;omega
theorem CT.a2{r:Bool}{d:X}{i1 i2:Operand}(a:CT w s v b m j n p D r g wy nd i d)(ap:v.size<=2000)(f:w<n.heap.size)(G:s<n.heap.size)(e:EF w p H)(z:Jt sk nn H)(B:p.heap.size<=sk)(E:PS H w s v vl b m)(ac:nd+1<=vl/\vl<=v.size)(ae:PX (j+1) H (Z wj M,wk,y))(Y:Da p.heap.size H y)(aa:w6.op=.call {callee:=.builtin .append,args:=#[i1,i2],argTypes:=#[260,260]})(u:sm i1=d)(x:sm i2=FZ na)(c:P3 w s H D i g nn wu ni)(hb:Below ni.heap.size ni vw)(O:vw.heap[na]?=I (.cells #[Z wj M] 119)):
 ∃q w5,(execOp sm w6).run Aa vw=.ok (.value q) w5/\Ql w s v b m j n D r g wy vl sk i d nn (Z wj M,wk,y) wu q w5:=by
 let ⟨aj,ai,o⟩:=AB.1 Tryz.dD
 simp at o;let ⟨af,ag,ah⟩:=o
 have k:=a.s2 f e z B c hb;obtain⟨an,ak,rfl,c⟩:=c;have ao:(L wy)<=2000:=by have:=a.len;omega
 obtain⟨am,al,w5,ad,ab,h,K,U⟩:=run_append_lies vw 260 w6.type 0 119 aj _ 1 16 Tryz.underlying260 ai af ag ah rfl .refl d (L wy) (wy.flatMap Hz) (((a.fh f e c).bE (CW _) hb).own) ⟨na,0,N⟩ 1 1 [Z wj M] rfl (by
  have:=A1 O;grind) (by intro aq l;simp at l;subst l;rfl) .refl O8 O1 (Ak _) _ rfl
 refine⟨_,w5,ZT _ _ _ aa u x ad,a.eS f G e c hb E ac ae Y h K U ab,a.v5 f e c hb h,?_⟩;refine k.2.2.bX (h.block sk (AG k.2.2.1) λt=>?_);have:=(a.e.rg sk (Ad _ (BM.2 t.symm))).2;omega
theorem Ql.s3(a:Ql w s v b m j n D w3 g wy nd na i r nn n8 M wu p):OE D na i r nn p:=⟨a.2.1.c1,a.2.1.c2,a.2.2⟩
theorem Aa8:DR v (C9 v h) 1:=by
 intro d b j i c;let ⟨f,e,a,g⟩:=Bk c
 have:=Ha d b f e a;grind
theorem Aj9(f:s<=v.size)(c:BS v Ct s=.ok ((),m))(d:C9 v h m=.ok (nn,j))(e:pE v w j=.ok (wk,D)):s+1<=D/\D<=v.size:=by
 have a:=B2 O4 s f () m c;have b:=Aa8 m a.2 nn j d;have g:=IC v w j b.2 wk D e;omega
theorem QJ(a:Below w n p):Below w n p.drew:=⟨a.os,a.tape,a.output,a.size,a.block⟩
theorem CT.next{d:ByteArray}{l wr:Q}{k:Nat}(a:CT w s d b m j l wr D w3 g wy k i r)(f:w<D+1)(c:EF w wr H)(o:PS H w s d na b m)(h:k<=na/\na<=d.size)(p:D≠w:=by omega):CT w s d b m j l H D w3 g wy na i r:=
 ⟨h.2,o,a.v.ef c p,a.n.ef D1 c f,a.e.ef (CW _) c f,a.nd,a.ef.trans c,a.hL,Aw a.len h.1,a.same⟩
theorem Aa6{a9:Q}{i:Nat}{k:ByteArray}{af:X}(ar:k.size<=2000)(bj:GW a9 i s f k af m j){w0 w:Q}{h:Nat}{a4:Bool}{g:Bm}{O:List PT}{a0:Nat}{b5 bi:X}(al:PB a9 w0 i f)(B:i<w0.heap.size)(br:s<w0.heap.size)(d:CT i s k af j m w0 w h a4 g O a0 b5 bi):
 Av Aa 285 #[J (I ⟨i,0,N⟩),J (I ⟨h,0,N⟩)] w λU K=>L9 i s k af j m f w0 h a4 g O (HC k (pE k m) g a0) U K:=by
 have aS:=d.hq;have bO:=d.len;have bs:(L g)<=2000:=by rw[d.same];omega
 have ao:i<h:=Aj B d.hL;have aI:h≠i:=Bh ao;have ah:=O0 al;have c:=O0 d;have aC:=O0 (Jp Ct (al.ef d.ef) d.ps aS O4);obtain⟨az,ay,rfl⟩:=d.n.slice;obtain⟨aH,aG,rfl⟩:=d.e.slice;obtain⟨cq,bS,aR⟩:=AB.1 Tryz.c9;simp only[Aq2]at aR;obtain⟨bP,bQ,bR⟩:=aR;obtain⟨ct,cd,aT⟩:=AB.1 Tryz.dD;simp only[Aq2]at aT;obtain⟨bY,bZ,ca⟩:=aT;clear al d;go_enter Tryz.func285,Tryz.ntmps285;go_upto_region 10 with(first
  |(go_at_call 55;refine aC.o.mono ?_;intro U cr a;clear aC;rcases h1:BS k Ct a0 with⟨aj,av⟩|⟨⟨⟩,b6⟩;(·obtain⟨rfl,r⟩:=a.bZ h1;have ae:=O0 r;have t:=O0 h1;clear a r h1;go_wp2;go_ret;exact⟨c.o.ef.trans ae.o,by rw[HC,t.o];rfl⟩);have t:=O0 h1;obtain⟨rfl,r,bt,aL⟩:=a.isOk h1;have ae:=O0 r;obtain⟨k0,ce,cf,ch,aw⟩:=c.o.v.ef r aI;have ci:=aw 1;have cj:=aw 2;have u:=O0 (Tj g ar (Aw bs O1) (ah.o.ef (c.o.ef.trans r)) aL bt (C4.nm (c.o.n.ef D1 r (Atk ao))));clear a r aL h1 aw)
  |(go_at_call 56;refine u.o.mono ?_;intro U a8 a;clear u;rcases h2:C9 k (g.map (·.1)) b6 with⟨aj,av⟩|⟨x,aX⟩;(·obtain⟨rfl,Y⟩:=a.bZ h2;have q:=O0 (ae.o.trans Y);have D:=O0 h2;clear a Y h2;go_wp2;go_ret;exact⟨(c.o.ef.trans q.o).trans (EF.bG bA),by rw[HC,t.o,BB,D.o];rfl⟩);have D:=O0 h2;obtain⟨v,rfl,Y,rfl,bv,aM⟩:=a.isOk h2;have q:=O0 (ae.o.trans Y);have ba:=O0 aM;clear a Y aM h2)
  |(go_at_call 168;refine(bj _ aX (ah.o.ef ((c.o.ef.trans q.o).trans (EF.bG bA))) (ba.o.below bA) bv).mono ?_;intro U ac a;rcases h3:pE k m aX with⟨aj,av⟩|⟨y,a3⟩;(·obtain⟨v,rfl,z,-⟩:=a.bZ h3;have aB:=O0 ((q.o.trans (EF.bG bA)).trans z);have ad:=O0 h3;clear a z h3;go_wp2;go_ret;exact⟨c.o.ef.trans aB.o,by rw[HC,t.o,BB,D.o,BB,ad.o];rfl⟩);have bu:=Aj9 aS t.o D.o h3;have ad:=O0 h3;obtain⟨v,rfl,z,bw,aN,aD,au,aQ⟩:=a.isOk h3;obtain⟨a5,a6,rfl⟩:=au.cB;have E:O9 (EF i w ac):=(q.o.trans (EF.bG bA)).trans z;obtain⟨aV,aW,bz,b0⟩:=V2.ef (w:=a8.alloc (.cells #[.string x.1,V C (x.2:Int)] 117)) (b:=a8.heap.size) (x:=Value.string x.1) (y:=Value.int C (x.2:Int)) ⟨O2,O2,O2,O2⟩ z (Bh (Aj (Aj B c.o.ef.size) q.o.size));obtain⟨ck,cl,cm,cn,ax⟩:=c.o.v.ef E.o aI;have co:=ax 1;have cp:=ax 2;have be:=O0 au;have aY:=O0 aQ;have bb:=O0 aN;have aB:=O0 z;clear a z au aQ aN h3 ax))
 have aZ:O9 (Da w.heap.size ac aD):=aY.o.low (Aw q.o.size O2);obtain⟨G,aJ⟩:∃G,a8.heap.size=G:=⟨_,rfl⟩;have aK:w.heap.size<=G:=by rw[<-aJ];exact q.o.size
 rw[aJ]at aV aW bz b0 ⊢;have u:O9 (Jt G x ac):=⟨aV,aW⟩;refine Aei (S:=OE h G (W az (L g) ay) (W aH (L O) aG) x) 16 5 1 36 (v:=J (I ⟨h,0,N⟩)) O3 (by rfl) O4 O3 O3 O3 rfl rfl O3 O3 O3 (λ_ _ _ d=>d) (Ba ⟨by rfl,λw=>by go_simp<;>with_reducible rfl⟩) (c.o.s1 B E.o u.o (QJ (Ae _ _))) (λam=>?_);iterate 11
  refine KN (v:=?_) [0,2,3,4,5,6,9,10,11,12,13] rfl rfl rfl O3 O3 O3 (λ_ _ _ d=>d) (Ba ⟨by rfl,?_⟩) O7 ?_;rotate_left
  ·intro w bq;obtain⟨bU,bV,bW,bX⟩:=bq;(go_simp<;>with_reducible rfl)
  simp only[Act.put,Ard,Arp,Arl]
 refine Ady (i1:=7) (j1:=8) (i2:=14) (j2:=15) (x1:=42) (y1:=43) (x2:=49) (y2:=50) (w0:=ac.drew) (fuel:=0) (c1:=AO #[.string x.1,V C (x.2:Int)] 117) (c2:=AO #[Z a5 a6] 119) (M:=P3 i s ac h (W az (L g) ay) g x) (F:=Ql i s k af j m w0 h a4 g O a3 G (W az (L g) ay) (W aH (L O) aG) x (Z a5 a6,y,aD)) rfl rfl rfl rfl rfl rfl rfl rfl rfl rfl rfl rfl O3 O3 O3 O3 O3 O3 O3 O3 O3 O3 O3 O3 O2 O2 O2 O2 O4 ?_ ?_ ?_ ?_ ?_ ?_ ?_ ?_
 ·intro l w e;have bM:l.tmps[41]?.getD Aq1=T #[.string x.1,V C (x.2:Int)]:=by rw[e.it 41 O4];rfl
  show Sem.run Aa (execOp l.eval ⟨I 42,.buildSlice 102 1 #[(0,.tmp 41)],102,_,_,N⟩) w=_;clear e am;go_simp;rfl
 ·intro l w e;have bN:l.tmps[48]?.getD Aq1=Z a5 a6:=by rw[e.it 48 O4];rfl
  show Sem.run Aa (execOp l.eval ⟨I 49,.buildSlice 260 1 #[(0,.tmp 48)],260,_,_,N⟩) w=_;clear e am;go_simp;rfl
 ·intro l K b e aq hb ap;exact c.o.a1 (i1:=.tmp 40) (i2:=.tmp 42) ar B E.o rfl (by rw[e.eval O4];rfl) aq ((QJ (Ae _ _)).trans hb) ap
 ·intro l b9 K a7 b e an hb aq ap;exact c.o.a2 (i1:=.tmp 47) (i2:=.tmp 49) ar B br E.o u.o aK bb.o bu be.o aZ.o rfl (by rw[e.eval O4];rfl) aq an hb ap
 ·intro K hb;exact c.o.s1 B E.o u.o ((QJ (Ae _ _)).trans hb)
 ·intro a7 b9 K an hb;exact c.o.s2 B E.o u.o aK an hb
 ·intro a7 b8 K ab;exact ab.s3
 ·intro l w5 a7 b8 e aE aF ab;have H:=QN e;simp only[List.foldl_cons,List.foldl_nil]at H;rw[aE,aF]at H;generalize l.eval (.tmp 42)=z42 at H;generalize l.eval (.tmp 49)=z49 at H;simp only[Act.put,Ard,Arp,Arl]at H;clear e aE aF;subst H;clear am;obtain⟨bI,c1,c2,bJ,ak⟩:=id ab.2.1;have bK:=ak 1;have bL:=ak 2;have p:=O0 ab.1;clear ab ak;obtain⟨b2,b1,rfl⟩:=p.o.n.slice;obtain⟨bh,bg,rfl⟩:=p.o.e.slice;refine Ao7 ?_;refine wpOp_step (o:=⟨I 51,.nilCheck (.tmp 35),0,_,_,N⟩) rfl (λbB bk=>?_);go_simp;refine bk _ _ ?_;refine wpOp_step (o:=⟨I 52,.fieldAddr _ (.tmp 51) 1,0,_,_,N⟩) rfl (λbC bl=>?_);go_simp;refine bl _ _ ?_;refine wpOp_step (o:=⟨N,.store _ (.tmp 52) (.tmp 43),0,_,_,N⟩) rfl (λbD bm=>?_);go_simp;refine bm _ _ ?_;refine wpOp_step (o:=⟨I 53,.nilCheck (.tmp 36),0,_,_,N⟩) rfl (λbE bn=>?_);go_simp;refine bn _ _ ?_;refine wpOp_step (o:=⟨I 54,.fieldAddr _ (.tmp 53) 2,0,_,_,N⟩) rfl (λbG bo=>?_);go_simp;refine bo _ _ ?_;refine wpOp_step (o:=⟨N,.store _ (.tmp 54) (.tmp 50),0,_,_,N⟩) rfl (λbH bp=>?_);go_simp;refine bp _ _ ?_;simp only[Ay,AM,Bb]at p;generalize (w5.setCell ⟨h,1,N⟩ (W b2 (L g+1) b1)).setCell ⟨h,2,N⟩ (W bh (L O+1) bg)=w6 at p ⊢;have bf:=O0 (Jp BJ (ah.o.ef p.o.ef) p.o.ps p.o.hq O4);go_wp2_with (first
   |(go_at_call 55;refine bf.o.mono ?_;intro U cs a;rcases h4:BS k BJ a3 with⟨aj,av⟩|⟨⟨⟩,b7⟩;(·obtain⟨rfl,aa⟩:=a.bZ h4;have ai:=O0 aa;have ag:=O0 h4;clear a aa h4;go_wp2;go_ret;exact⟨p.o.ef.trans ai.o,by rw[HC,t.o,BB,D.o,BB,ad.o,BB,ag.o];rfl⟩);have bx:=B2 O4 a3 bw () b7 h4;have ag:=O0 h4;obtain⟨rfl,aa,bT,aO⟩:=a.isOk h4;have ai:=O0 aa;have bc:=O0 aO;clear a aa aO h4))
  go_ret;have aP:=p.o.next (Atk ao) ai.o bc.o ⟨O1,bx.2⟩;exact⟨aP.ef,by rw[HC,t.o,BB,D.o,BB,ad.o,BB,ag.o];exact⟨rfl,_,_,_,_,aP⟩⟩
end Go.Proofs.YtcacpmkdfnmhaaaGreatDoor
